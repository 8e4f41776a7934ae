import PyProof.Rows.All
import Wide.All
import OpenK.AllK
import Wide.FinOn
import Lean
import PyProof.EqAt
import PyProof.EqKinds
import PyProof.TupleCall
import PyProof.RaisesMany
import KE.KSortTup
import PyProof.NeKinds
import PyProof.SetKind
import PyProof.SetRoads
import PyProof.SetNew
import PyProof.WalksS
import PyProof.CollectWalk
import PyProof.TupleKey
import PyProof.IsRules
import PyProof.InstEq
import KE.KRevIter
import PyProof.FitsBits
import PyProof.P3Eq
import PyProof.ListRange
import PyProof.RulesAs
import PyProof.NsDelKeeps
import PyProof.PassesOwn
import PyProof.FString
import PyProof.MinMaxWalk
import PyProof.MeetsSeq
import PySem.Challenge.RW_mapdye_k64_whole_more_and_fewer
set_option Elab.async false
set_option linter.all false
set_option maxRecDepth 100000
abbrev cS:= @List.getElem?_eq_getElem
abbrev dW:= @List.getD_eq_getElem?_getD
abbrev bV:= @List.length_map
abbrev cp:= @List.size_toArray
abbrev gF:= @List.getElem?_eq_some_iff
abbrev bL:= @Nat.le_refl
abbrev dX:= @List.getElem?_map
abbrev dm:= @List.length_set
abbrev fF:= @Bool.false_ne_true
abbrev gK:= @List.mem_cons_of_mem
abbrev dF:= @List.getElem?_set_ne
abbrev dR:= @List.getElem?_eq_none
abbrev cJ:= @List.length_cons
abbrev di:= @List.mem_cons_self
abbrev bR:= @Nat.ne_of_lt
abbrev dS:= @Nat.lt_of_lt_of_le
abbrev fv:= @List.length_replicate
abbrev fK:= @List.mem_append_right
abbrev gB:= @List.getElem?_set_self
abbrev dU:= @Nat.le_of_not_lt
abbrev fw:= @List.length_append
abbrev gD:= @List.getElem?_set
abbrev jz:= @List.mem_of_getElem?
abbrev eS:= @List.mem_cons
abbrev kQ:= @List.getElem?_replicate
abbrev kc:= @List.mem_append_left
abbrev fz:= @Nat.le_trans
abbrev gE:= @Nat.lt_irrefl
abbrev iV:= @List.append_nil
abbrev jA:= @Bool.and_eq_true
abbrev qN:= @List.getElem?_append_left
abbrev qP:= @List.set_eq_of_length_le
abbrev ke:= @List.length_nil
abbrev nq:= @Int.toNat_natCast
abbrev jB:= @List.map_map
abbrev nr:= @List.lookup_cons
abbrev nu:= @List.getElem_mem
abbrev iW:= @Nat.zero_le
abbrev nv:= @List.nil_append
abbrev ny:= @List.map_append
abbrev nz:= @List.nodup_cons
abbrev qQ:= @List.replicate_succ
abbrev wb:= @List.getElem?_append_right
abbrev wc:= @List.getElem?_cons_succ
abbrev oM:= @List.nodup_nil
abbrev zc:= @Array.getElem?_eq_some_iff
abbrev sY:= @List.flatten_cons
abbrev we:= @List.getElem?_of_mem
abbrev sZ:= @List.mem_append
abbrev wg:= @Bool.false_eq_true
abbrev zd:= @List.drop_eq_nil_of_le
abbrev wj:= @List.ext_getElem?
abbrev tj:= @List.mem_range
abbrev wm:= @Nat.lt_succ_self
abbrev wo:= @List.length_take
abbrev tm:= @Bool.true_and
abbrev wq:= @List.mem_filter
abbrev Ed:= @List.getElem?_zip_eq_some
abbrev tq:= @Nat.ne_of_gt
abbrev ze:= @Nat.lt_of_lt_of_eq
namespace L2
open PySem PySem.Spec PyProof.Rows
abbrev Key:=Sum Int Str
def CN:Key→Value→Bool
 | .inl k,v=>Value.isInt k v
 | .inr x,v=>Value.isStrOf x v
def NB(w:World):Key→Int
 | .inl k=>hashInt k
 | .inr x=>hashStr w x
theorem bM:∀{k:Key}{v:Value},CN k v=true→(∃i t,k=Sum.inl i∧v=Value.int i t)∨(∃x t,k=Sum.inr x∧v=Value.str x t)
 | .inl i,v,h=>by
  obtain ⟨t,e⟩:=Value.isInt_shape (k:=i) (v:=v) h;exact .inl ⟨i,t,rfl,e⟩
 | .inr x,v,h=>by
  obtain ⟨t,e⟩:=Value.isStrOf_shape (x:=x) (v:=v) h;exact .inr ⟨x,t,rfl,e⟩
theorem EV(a b:Int):decide ((Sum.inl a:Key)=Sum.inl b)=(a==b):=by
 by_cases e:a=b
 ·subst e;simp
 ·have h:¬(Sum.inl a:Key)=Sum.inl b:=λq=>e (Sum.inl.inj q)
  rw [decide_eq_false h];exact (beq_eq_false_iff_ne.mpr e).symm
theorem EY(a b:Str):decide ((Sum.inr a:Key)=Sum.inr b)=decide (a=b):=by
 by_cases e:a=b
 ·subst e;simp
 ·have h:¬(Sum.inr a:Key)=Sum.inr b:=λq=>e (Sum.inr.inj q)
  rw [decide_eq_false h,decide_eq_false e]
theorem EW(a:Int)(b:Str):decide ((Sum.inl a:Key)=Sum.inr b)=false:=decide_eq_false (λq=>nomatch q)
theorem EX(a:Str)(b:Int):decide ((Sum.inr a:Key)=Sum.inl b)=false:=decide_eq_false (λq=>nomatch q)
def qc(prog:Program)(w:World):PySem.KeyKind prog w Key where
 is:=CN
 hash:=NB w
 inj:=λv a b ha hb=>by
  rcases bM ha with ⟨i,t,rfl,rfl⟩ | ⟨x,t,rfl,rfl⟩
  ·rcases bM hb with ⟨j,u,rfl,e⟩ | ⟨y,u,rfl,e⟩
   ·injection e with e1 _;rw [e1]
   ·exact nomatch e
  ·rcases bM hb with ⟨j,u,rfl,e⟩ | ⟨y,u,rfl,e⟩
   ·exact nomatch e
   ·injection e with e1 _;rw [e1]
 byValue:=λk v h=>by
  rcases bM h with ⟨i,t,rfl,rfl⟩ | ⟨x,t,rfl,rfl⟩<;>rfl
 pyHash:=λhv h=>by
  rcases bM hv with ⟨i,t,rfl,rfl⟩ | ⟨x,t,rfl,rfl⟩
  ·exact wpAny_pyHash_int h
  ·exact wpAny_pyHash_str h
 eqBool:=λhu hv h=>by
  rcases bM hu with ⟨i,t,rfl,rfl⟩ | ⟨x,t,rfl,rfl⟩
  ·rcases bM hv with ⟨j,u,rfl,rfl⟩ | ⟨y,u,rfl,rfl⟩
   ·rw [EV] at h;exact wpAny_eqBool_int h
   ·rw [EW] at h;exact SeqAt.EqAt.int_str i t y u _ _ _ _ h
  ·rcases bM hv with ⟨j,u,rfl,rfl⟩ | ⟨y,u,rfl,rfl⟩
   ·rw [EX] at h;exact SeqAt.EqAt.str_int x t j u _ _ _ _ h
   ·rw [EY] at h;exact wpAny_eqBool_str h
 «strs»:=λk x t v h=>by
  rcases bM h with ⟨i,u,rfl,e⟩ | ⟨y,u,rfl,e⟩
  ·exact nomatch e
  ·injection e with e1 _
   subst e1;cases v<;>rfl
inductive V where
 |aN|bl (b:Bool) |int (i:Int) |str (x:Str) |zr (b:Array UInt8) |va (b:UInt64) |ref (a:Addr) |ty (n:String)
 deriving DecidableEq
def RelV:V→Value→Prop
 | .aN,u=>u=Value.none
 | .bl b,u=>u=Value.bool b
 | .int i,u=>∃t,u=Value.int i t
 | .str x,u=>∃t,u=Value.str x t
 | .zr b,u=>∃t,u=Value.bytes b t
 | .va b,u=>∃t,u=Value.float b t
 | .ref a,u=>u=Value.ref a
 | .ty n,u=>u=Value.type n
abbrev Vals:List V→List Value→Prop:=Paired RelV
theorem Vals.length{xs:List V}{us:List Value}(r:Vals xs us):xs.length=us.length:=Paired.length r
theorem Vals.get:∀{xs:List V}{us:List Value}{i:Nat}{x:V},Vals xs us→xs[i]? =some x→∃u,us[i]? =some u∧RelV x u
 |_,_,_,_, .nil,e=>by simp at e
 |_,_,0,_, .cons r _,e=>by simp at e;subst e;exact ⟨_,rfl,r⟩
 |_,_,i+1,x, .cons _ t,e=>by
  obtain ⟨u,h1,h2⟩:=Vals.get (i:=i) (x:=x) t (by simpa using e)
  exact ⟨u,by simpa using h1,h2⟩
theorem Vals.set{x:V}{u:Value}(r:RelV x u):∀{xs:List V}{us:List Value}(i:Nat),Vals xs us→Vals (xs.set i x) (us.set i u)
 |_,_,_, .nil=> .nil
 |_,_,0, .cons _ t=> .cons r t
 |_,_,i+1, .cons q t=> .cons q (Vals.set r i t)
theorem Vals.append:∀{xs ys:List V}{us ws:List Value},Vals xs us→Vals ys ws→Vals (xs++ys) (us++ws)
 |_,_,_,_, .nil,s=>s
 |_,_,_,_, .cons r t,s=> .cons r (Vals.append t s)
theorem Vals.take:∀{xs:List V}{us:List Value}(n:Nat),Vals xs us→Vals (xs.take n) (us.take n)
 |_,_,0,_=> .nil
 |_,_,_+1, .nil=> .nil
 |_,_,n+1, .cons r t=> .cons r (Vals.take n t)
theorem Vals.drop:∀{xs:List V}{us:List Value}(n:Nat),Vals xs us→Vals (xs.drop n) (us.drop n)
 |_,_,0,r=>r
 |_,_,_+1, .nil=> .nil
 |_,_,n+1, .cons _ t=>Vals.drop n t
def iB:Option V→Option Value→Prop
 |some v,some u=>RelV v u
 |none,none=>True
 |_,_=>False
def KV{κ:Type}:List (κ×V)→List (κ×Value)→Prop:=Paired λ(p:κ×V)(q:κ×Value)=>p.1=q.1∧RelV p.2 q.2
def kV:Key→V
 | .inl i=> .int i
 | .inr x=> .str x
inductive HO where
 |lst (xs:List V)
 |tup (xs:List V)
 |dK (b9:List (Key×V)) |dT (b9:List (List Key×V))
 |set (S:Int→Bool) (n:Nat)
 |ins (C dx:Addr) (fs:List (Str×V))
 |own (x:Addr)
 |xd (fs:List (Str×V))
 |met (f x:Addr)
 |rng (lo hi:Int)
 |jS (o:Obj) (u:HO)
 |vU (ps:Array Value)
 |ext (φ:Heap→Prop)
abbrev Hp:=Addr→Option HO
def upd(H:Hp)(a:Addr)(o:HO):Hp:=λb=>if b=a then some o else H b
theorem ak{H:Hp}{a:Addr}{o:HO}:upd H a o a=some o:=by unfold upd;rw [if_pos rfl]
theorem ah{H:Hp}{a b:Addr}{o:HO}(h:b≠a):upd H a o b=H b:=by unfold upd;rw [if_neg h]
theorem ar{H:Hp}{a b:Addr}{o:HO}(h:H a=some o)(h':H b=none):a≠b:=by
 intro e;subst e;rw [h] at h';cases h'
section
variable (P:Program) (w:World)
def bo(H:Hp)(h:Heap)(a:Addr):HO→Prop
 | .lst xs=>xs.length≤sizeLine∧∃(its:List Value)(n:Nat),Vals xs its∧h.get? a=some {cls:= .type "list",data:= .seq its.toArray n}
 | .tup xs=>xs.length≤sizeLine∧∃its:List Value,Vals xs its∧IsTup h a its.toArray
 | .dK b9=>b9.length≤sizeLine∧(a==sysModules)=false∧∃vs,KV b9 vs∧h.DictOf (qc P w) a vs
 | .dT b9=>b9.length≤sizeLine∧(a==sysModules)=false∧∃xs:List (List Key×Addr×Value),
   Paired (λ(p:List Key×V)(q:List Key×Addr×Value)=>p.1=q.1∧H q.2.1=some (.tup (p.1.map kV))∧RelV p.2 q.2.2) b9 xs∧
   ∃o es ep,h.get? a=some o∧o.ExactDict∧o.data= .dict es ep∧es.toList=xs.map (entryOfKey (tupleKind (qc P w)))∧(xs.map (·.1)).Nodup
 | .set S n=>h.SetOf (intKind P w) a S n
 | .ins C dx fs=>H dx=some (.own a)∧fs.length≤1000∧dx≠a∧h.get? a=some (PySem.W.instObj C dx)∧
   ∃mA,h.Ns1 dx mA∧(∀f,iB (fs.lookup f) (mA f))∧PySem.Within mA (fs.map (·.1))
 | .own _=>∃o,h.get? a=some o
 | .xd fs=>∃mA,h.Ns1 a mA∧∀f,iB (fs.lookup f) (mA f)
 | .rng lo hi=>∃t u v,h.get? a=some {cls:= .type "range",data:= .fields #[.int lo t, .int hi u, .int 1 v]}
 | .jS o u=>h.get? a=some o∧bo H h a u
 | .vU ps=>h.get? a=some {cls:= .none,data:= .fields ps}
 | .met f x=>h.get? a=some (PySem.W.methodObj (.ref f) (.ref x))
 | .ext φ=>φ h∧(∃o,h.get? a=some o)∧∀h1 h2:Heap,φ h1→(∀o,h1.get? a=some o→h2.get? a=some o)→φ h2
def eM(H:Hp)(h:Heap):Prop:=∀a o,H a=some o→bo P w H h a o
end
section
variable {P:Program} {w:World} {H H':Hp} {h h':Heap} {a:Addr} {o:HO}
theorem bo.lt(x:bo P w H h a o):a<h.objs.size:=by
 cases o with
 |lst xs=>obtain ⟨_,_,_,_,e⟩:=x;exact Heap.lt_size e
 |tup xs=>obtain ⟨_,_,_,p⟩:=x;exact p.lt
 |dK b9=>obtain ⟨_,_,_,_,o,_,_,e,_⟩:=x;exact Heap.lt_size e
 |dT b9=>obtain ⟨_,_,_,_,o,_,_,e,_⟩:=x;exact Heap.lt_size e
 |set S n=>obtain ⟨o,_,_,_,e,_⟩:=x;exact Heap.lt_size e
 |ins C dx fs=>obtain ⟨_,_,_,e,_⟩:=x;exact Heap.lt_size e
 |own y=>obtain ⟨_,e⟩:=x;exact Heap.lt_size e
 |xd fs=>obtain ⟨_,⟨_,_,_,e,_⟩,_⟩:=x;exact Heap.lt_size e
 |rng lo hi=>obtain ⟨_,_,_,e⟩:=x;exact Heap.lt_size e
 |jS ob u=>obtain ⟨e,_⟩:=x;exact Heap.lt_size e
 |vU ps=>exact Heap.lt_size (show h.get? a=some _ from x)
 |met f y=>exact Heap.lt_size (show h.get? a=some _ from x)
 |ext φ=>obtain ⟨_,⟨_,e⟩,_⟩:=x;exact Heap.lt_size e
theorem Paired.Ha{α β:Type}{F G:α→β→Prop}:∀{G8:List α}{G9:List β},Paired F G8 G9→(∀a b,F a b→G a b)→Paired G G8 G9
 |_,_, .nil,_=> .nil
 |_,_, .cons r t,f=> .cons (f _ _ r) (Paired.Ha t f)
theorem bo.kN(x:bo P w H h a o)(k:∀b u,(b=a∨H b=some (.own a))→h.get? b=some u→h'.get? b=some u)
  (ho:∀b,H b=some (.own a)→H' b=some (.own a)) (ht:∀b xs,H b=some (.tup xs)→H' b=some (.tup xs)):bo P w H' h' a o:=by
 induction o with
 |lst xs=>obtain ⟨z,its,n,r,e⟩:=x;exact ⟨z,its,n,r,k _ _ (.inl rfl) e⟩
 |tup xs=>obtain ⟨z,its,r,ob,e,c⟩:=x;exact ⟨z,its,r,ob,k _ _ (.inl rfl) e,c⟩
 |dK b9=>obtain ⟨z,y,vs,r,ob,es,ep,e,c⟩:=x;exact ⟨z,y,vs,r,ob,es,ep,k _ _ (.inl rfl) e,c⟩
 |dT b9=>
  obtain ⟨z,y,xs,r,ob,es,ep,e,c⟩:=x;exact ⟨z,y,xs,Paired.Ha r λp q z=>⟨z.1,ht _ _ z.2.1,z.2.2⟩,ob,es,ep,k _ _ (.inl rfl) e,c⟩
 |set S n=>obtain ⟨ob,es,ep,t,e,c⟩:=x;exact ⟨ob,es,ep,t,k _ _ (.inl rfl) e,c⟩
 |ins C dx fs=>
  obtain ⟨d,z,ne,e,mA,⟨od,es,ep,e2,c⟩,r⟩:=x;exact ⟨ho _ d,z,ne,k _ _ (.inl rfl) e,mA,⟨od,es,ep,k _ _ (.inr d) e2,c⟩,r⟩
 |own y=>obtain ⟨ob,e⟩:=x;exact ⟨ob,k _ _ (.inl rfl) e⟩
 |xd fs=>obtain ⟨mA,⟨od,es,ep,e,c⟩,r⟩:=x;exact ⟨mA,⟨od,es,ep,k _ _ (.inl rfl) e,c⟩,r⟩
 |rng lo hi=>obtain ⟨t,u,v,e⟩:=x;exact ⟨t,u,v,k _ _ (.inl rfl) e⟩
 |jS ob u ih=>obtain ⟨e,q⟩:=x;exact ⟨k _ _ (.inl rfl) e,ih q⟩
 |vU ps=>
  have e:h.get? a=some {cls:= .none,data:= .fields ps}:=x;show h'.get? a=some {cls:= .none,data:= .fields ps};exact k a _ (.inl rfl) e
 |met f y=>
  have e:h.get? a=some (PySem.W.methodObj (.ref f) (.ref y)):=x;show h'.get? a=some (PySem.W.methodObj (.ref f) (.ref y));exact k a _ (.inl rfl) e
 |ext φ=>obtain ⟨p,⟨o,e⟩,st⟩:=x;exact ⟨st _ _ p λo q=>k _ _ (.inl rfl) q,⟨o,k _ _ (.inl rfl) e⟩,st⟩
theorem eM.lt(x:eM P w H h)(e:H a=some o):a<h.objs.size:=(x a o e).lt
theorem eM.fresh(x:eM P w H h)(e:h.objs.size≤a):H a=none:=by
 cases q:H a with
 |none=>rfl
 |some u=>exact absurd (dS (x.lt q) e) (gE _)
theorem eM.kept(x:eM P w H h)(k:∀b u,h.get? b=some u→h'.get? b=some u):eM P w H h':=λa o e=>
 (x a o e).kN (λb u _ q=>k b u q) (λ_ q=>q) λ_ _ q=>q
theorem eM.laid(x:eM P w H h)(k:∀b u,h.get? b=some u→h'.get? b=some u)(hp:h.objs.size≤a)(new:bo P w (upd H a o) h' a o):eM P w (upd H a o) h':=λb u e=>by
 have hn:=x.fresh hp
 by_cases hb:b=a
 ·subst hb;rw [ak] at e;cases e;exact new
 ·rw [ah hb] at e
  exact (x b u e).kN (λc v _ q=>k c v q) (λc q=>by rw [ah (ar q hn)];exact q) λc xs q=>by rw [ah (ar q hn)];exact q
end
def Rd(H:Hp)(a:Addr)(u:HO):Prop:=H a=some u∨∃o,H a=some (.jS o u)
theorem Rd.ok{P:Program}{w:World}{H:Hp}{h:Heap}{a:Addr}{u:HO}(r:Rd H a u)(x:eM P w H h):bo P w H h a u:=by
 rcases r with r| ⟨o,r⟩
 ·exact x a u r
 ·obtain ⟨_,q⟩:=x a _ r
  exact q
def Be:Option HO→Prop
 |some (.lst _)=>True
 |some (.dK _)=>True
 |some (.dT _)=>True
 |some (.set _ _)=>True
 |some (.ins _ _ _)=>True
 |some (.ext _)=>True
 |_=>False
section
variable {P:Program} {w:World} {H:Hp} {h h':Heap} {x e:Addr} {o':HO}
theorem eM.write(ok:eM P w H h)(mu:Be (H x))(he:e=x∨H e=some (.own x))(k:∀b u,b≠e→h.get? b=some u→h'.get? b=some u)(vj:∃u,h'.get? e=some u)
  (new:bo P w (upd H x o') h' x o'):eM P w (upd H x o') h':=λb u q=>by
 have vG:∀c y,H c=some (.own y)→c≠x:=λc y r z=>by subst z;rw [r] at mu;exact mu
 have yM:∀c xs,H c=some (.tup xs)→c≠x:=λc xs r z=>by subst z;rw [r] at mu;exact mu
 by_cases hb:b=x
 ·subst hb;rw [ak] at q;cases q;exact new
 ·rw [ah hb] at q
  by_cases lg:b=e
  ·have q':H b=some (.own x):=by
    rcases he with z|z
    ·exact absurd (lg.trans z) hb
    ·rw [lg];exact z
   rw [q] at q';cases q';obtain ⟨v,hv⟩:=vj;exact ⟨v,by rw [lg];exact hv⟩
  ·refine (ok b u q).kN (λc v hc r=>k c v ?_ r) (λc r=>by rw [ah (vG c b r)];exact r) λc xs r=>by rw [ah (yM c xs r)];exact r
   rcases hc with rfl|hc
   ·exact lg
   ·rintro rfl
    rcases he with z|z
    ·exact vG c b hc z
    ·rw [hc] at z;cases z;exact hb rfl
end
structure Un (fs ex:List Addr) (H H':Hp) (h h':Heap):Prop where
 keep:∀b o,h.get? b=some o→H b=none→b∉fs→b∉ex→h'.get? b=some o
 slot:∀b o,h.get? b=some o→H b=none→b∈fs→b∉ex→∃sl,h'.get? b=some {o with slots:=sl}
 free:∀b o,h.get? b=some o→H b=none→b∉ex→H' b=none
 there:∀b o,h.get? b=some o→b∉ex→∃o',h'.get? b=some o'
 tups:∀b xs,H b=some (.tup xs)→H' b=some (.tup xs)
 frzs:∀b o u,H b=some (.jS o u)→H' b=some (.jS o u)
 tbls:∀b ps,H b=some (.vU ps)→∃more,H' b=some (.vU (ps++more))
section
variable {fs So ex Xt:List Addr} {H H1 H2:Hp} {h h1 h2 h':Heap} {a x e:Addr} {o:HO}
theorem Un.any(u:Un fs ex H H1 h h1){b:Addr}{ob:Obj}(q:h.get? b=some ob)(n:H b=none)(hx:b∉ex):∃sl,h1.get? b=some {ob with slots:=sl}:=by
 by_cases hb:b∈fs
 ·exact u.slot b ob q n hb hx
 ·exact ⟨ob.slots,u.keep b ob q n hb hx⟩
theorem Un.kept(k:∀b u,h.get? b=some u→h'.get? b=some u):Un fs ex H H h h':=
 ⟨λb ob q _ _ _=>k b ob q,λb ob q _ _ _=>⟨ob.slots,k b ob q⟩,λ_ _ _ n _=>n,λb ob q _=>⟨ob,k b ob q⟩,λ_ _ q=>q,λ_ _ _ q=>q,λ_ ps q=>⟨#[],by rw [q];simp⟩⟩
theorem Un.refl:Un fs ex H H h h:=Un.kept λ_ _ q=>q
theorem Un.laid(k:∀b u,h.get? b=some u→h'.get? b=some u)(hp:h.objs.size≤a)(hn:H a=none):Un fs ex H (upd H a o) h h' where
 keep:=λb u q _ _ _=>k b u q
 slot:=λb u q _ _ _=>⟨u.slots,k b u q⟩
 free:=λb u q n _=>by rw [ah (bR (dS (Heap.lt_size q) hp))];exact n
 there:=λb u q _=>⟨u,k b u q⟩
 tups:=λb xs q=>by rw [ah (ar q hn)];exact q
 frzs:=λb u xs q=>by rw [ah (ar q hn)];exact q
 tbls:=λb ps q=>⟨#[],by rw [ah (ar q hn),q];simp⟩
theorem Un.write(mu:Be (H x))(he:e=x∨H e=some (.own x))(k:∀b u,b≠e→h.get? b=some u→h'.get? b=some u)(vj:∃u,h'.get? e=some u):Un fs ex H (upd H x o) h h':=by
 have hx:∀b,H b=none→b≠x:=λb n z=>by subst z;rw [n] at mu;exact mu
 have hb:∀b,H b=none→b≠e:=λb n z=>by
  subst z
  rcases he with r|r
  ·exact hx b n r
  ·rw [n] at r;cases r
 have hm:∀b u,H b=some u→¬Be (some u)→b≠x:=λb u q nm z=>by subst z;rw [q] at mu;exact nm mu
 refine ⟨λb u q n _ _=>k b u (hb b n) q,λb u q n _ _=>⟨u.slots,k b u (hb b n) q⟩,λb u q n _=>by rw [ah (hx b n)];exact n,λb u q _=>?_,
  λb xs q=>by rw [ah (hm b _ q λz=>z)];exact q,λb u xs q=>by rw [ah (hm b _ q λz=>z)];exact q,λb ps q=>⟨#[],by rw [ah (hm b _ q λz=>z),q];simp⟩⟩
 by_cases lg:b=e
 ·subst lg;exact vj
 ·exact ⟨u,k b u lg q⟩
end
def F3(h:Heap)(H:Hp):List Addr:=(List.range h.objs.size).filter λa=>(H a).isSome
def ml(h:Heap)(H:Hp):Heap:=PySem.W.hideAll h (F3 h H)
theorem xl(h:Heap)(H:Hp):(ml h H).objs.size=h.objs.size:=PySem.W.hideAll_size _ _
theorem zV{h:Heap}{H:Hp}{b:Addr}{o:Obj}(e:h.get? b=some o)(n:H b=none):(ml h H).get? b=some o:=
 PySem.W.hideAll_get _ e λhm=>by
  have q:(H b).isSome=true:=(wq.mp hm).2;rw [n] at q;simp at q
theorem C5{h:Heap}{H:Hp}{b:Addr}{o:Obj}(e:(ml h H).get? b=some o):h.get? b=some o∧H b=none:=by
 have e':h.get? b=some o:=PySem.W.of_hideAll (F3 h H) e;refine ⟨e',?_⟩;cases q:H b with
 |none=>rfl
 |some x=>
  have hm:b∈F3 h H:=wq.mpr ⟨tj.mpr (Heap.lt_size e'),by simp [q]⟩
  have z:(ml h H).get? b=none:=PySem.W.hideAll_none (F3 h H) hm;rw [z] at e;cases e
structure Mod (K:PySem.W.Frag) (mg:Str→Option Value) (base:Heap):Prop where
 kin:K.In base
 glob:base.Ns mainGlobals mg
 blt:∃mb,base.Ns builtinsNs mb∧∀x:Str,x≠"__name__"→mb x=bootBuiltins x
 nolimit:base.NoLimit
structure Cx where
 prog:Program
 w:World
 K:PySem.W.Frag
 mg:Str→Option Value
 base:Heap
 A:Around
 N:List Str
 s₀:Shared
 H₀:Hp
 env:Env
 outer:List Env
 stack:List Env
 ex:List Addr
 fn:Str→Bool
 calm:Bool
 pn:List (Addr×Obj)
 xe:Value→Shared→Prop
def mh(l:List Env):List Addr:=l.filterMap (·.frame)
abbrev Cx.fs(X:Cx):List Addr:=mh X.outer
def jJ(sc:Scope)(x:Str):Prop:=sc.names.lookup x=some .local∨sc.names.lookup x=some .cell∨sc.names.lookup x=some .free
def Loc(sc:Scope)(x:Str):Prop:=sc.names.lookup x=some .local∨sc.names.lookup x=some .cell
def Look(env:Env)(h:Heap)(m:Str→Option Value)(x:Str)(u:Value):Prop:=
 (env.kindOf x=some .local∧m x=some u)∨((env.kindOf x=some .cell∨env.kindOf x=some .free)∧∃c,env.cells.lookup x=some c∧h.IsCell c (some u))
structure Cx.Ok (X:Cx):Prop where
 mod:Mod X.K X.mg X.base
 kind:X.env.scope.kind= .function
 glob:X.env.globals=mainGlobals
 blt:X.env.builtins=builtinsNs
 above:X.s₀.heap.objs.size≤X.env.locals
 inj:∀x y c,X.env.cells.lookup x=some c→X.env.cells.lookup y=some c→x=y
 has:∀x,(X.env.kindOf x=some .cell∨X.env.kindOf x=some .free)→∃c,X.env.cells.lookup x=some c
 cab:∀x c,X.fn x=true→X.env.cells.lookup x=some c→X.s₀.heap.objs.size≤c
 hd:X.calm=true→X.A.handled=none
 frames:X.A.frames=some X.stack
 stk:X.stack=X.outer∨(X.stack=X.env::X.outer∧X.env.frame=some X.env.locals)
 exf:∀b∈X.ex,b≠X.env.locals∧∀x c,X.env.cells.lookup x=some c→c≠b
 bs:∀b o,X.base.get? b=some o→X.s₀.heap.get? b=some o∧X.H₀ b=none
 bsz:X.base.objs.size≤X.s₀.heap.objs.size
 noex:∀b o,X.base.get? b=some o→b∉X.ex
 exfs:∀b∈X.ex,b∉X.fs
 funs:X.s₀.heap.FunFrames X.base X.outer
 frf:∀b∈X.fs,X.H₀ b=none
structure Inv (X:Cx) (pins:List (Addr×Obj)) (σ:List (Option V)) (H:Hp) (s:Shared):Prop where
 ok:X.Ok
 os:s.os=X.s₀.os
 bare:AllBare s.gens
 base:Un X.fs X.ex X.H₀ H X.s₀.heap s.heap
 loc:∃m,s.heap.Ns X.env.locals m∧∀(i:Nat)(x:Str)(v:V),X.N[i]? =some x→σ[i]? =some (some v)→jJ X.env.scope x→∃u,RelV v u∧Look X.env s.heap m x u
 cell:∀x c,X.env.cells.lookup x=some c→∃v,s.heap.IsCell c v
 free:H X.env.locals=none
 freeC:∀x c,X.env.cells.lookup x=some c→H c=none
 pin:∀p∈X.pn++pins,s.heap.get? p.1=some p.2∧H p.1=none∧p.1≠X.env.locals∧p.1∉X.fs∧∀v,p.2.data≠ .cell v
 hok:eM X.prog X.w H s.heap
 len:σ.length=X.N.length
section
variable {X:Cx} {pins:List (Addr×Obj)} {σ:List (Option V)} {H H':Hp} {s:Shared} {h':Heap}
theorem Cx.Ok.NW(ok:X.Ok){b:Addr}{o:Obj}(e:X.base.get? b=some o):b∉X.fs:=λhb=>by
 have:=(ok.funs.mem hb).1
 rw [e] at this;cases this
theorem Inv.bs(I:Inv X pins σ H s):∀b o,X.base.get? b=some o→s.heap.get? b=some o∧H b=none:=λb o e=>
 ⟨I.base.keep b o (I.ok.bs b o e).1 (I.ok.bs b o e).2 (I.ok.NW e) (I.ok.noex b o e),I.base.free b o (I.ok.bs b o e).1 (I.ok.bs b o e).2 (I.ok.noex b o e)⟩
theorem Inv.bk(I:Inv X pins σ H s):∀b o,X.base.get? b=some o→s.heap.get? b=some o:=λb o e=>(I.bs b o e).1
theorem Inv.mod(I:Inv X pins σ H s):Mod X.K X.mg X.base:=I.ok.mod
theorem Inv.bI(I:Inv X pins σ H s):X.K.In s.heap:=I.ok.mod.kin.keeps I.bk
theorem Inv.lt(I:Inv X pins σ H s):X.env.locals<s.heap.objs.size:=let ⟨_,hn,_⟩:=I.loc;hn.lt
theorem Inv.sz(I:Inv X pins σ H s):X.s₀.heap.objs.size≤s.heap.objs.size:=fz I.ok.above (Nat.le_of_lt I.lt)
theorem Inv.Hb(I:Inv X pins σ H s){a:Addr}(h:s.heap.objs.size≤a):a∉X.fs:=λhb=>by
 obtain ⟨_,o,ho,_⟩:=I.ok.funs.mem hb;exact absurd (dS (Heap.lt_size ho) (fz I.sz h)) (gE _)
theorem Inv.wH(I:Inv X pins σ H s):∀x c,X.env.cells.lookup x=some c→c≠X.env.locals:=λx c e z=>by
 obtain ⟨v,o,ho,hd⟩:=I.cell x c e;obtain ⟨m,⟨o',es,ep,lh,gJ,_⟩,_⟩:=I.loc;rw [z,lh] at ho;cases ho;rw [gJ] at hd;cases hd
theorem Inv.funs(I:Inv X pins σ H s):s.heap.FunFrames X.base X.outer:=by
 have all:∀(l:List Env),(∀b∈mh l,b∈X.fs)→X.s₀.heap.FunFrames X.base l→s.heap.FunFrames X.base l:=by
  intro l
  induction l with
  |nil=>intro _ _;trivial
  |cons env r ih=>
   intro hs hl;obtain ⟨hk,⟨L,o,hf,hn,ho,hd⟩,hr⟩:=hl;have hL:L∈X.fs:=hs L (by unfold mh;rw [List.filterMap_cons,hf];exact di)
   obtain ⟨sl,e⟩:=I.base.slot L o ho (I.ok.frf L hL) hL λz=>I.ok.exfs L z hL;exact ⟨hk,⟨L,_,hf,hn,e,hd⟩,ih (λb hb=>hs b (by unfold mh;rw [List.filterMap_cons,hf];exact gK _ hb)) hr⟩
 exact all X.outer (λ_ hb=>hb) I.ok.funs
theorem Inv.stack(I:Inv X pins σ H s):s.heap.FunFrames X.base X.stack:=by
 rcases I.ok.stk with e| ⟨e,hf⟩
 ·rw [e];exact I.funs
 ·rw [e]
  obtain ⟨m,hn,_⟩:=I.loc;refine .cons (by rw [I.ok.kind];decide) hf hn ?_ I.funs
  exact Heap.get?_none_of_le (fz I.ok.bsz I.ok.above)
theorem Inv.uv(I:Inv X pins σ H s):∀b∈mh X.stack,b∈X.env.locals::X.fs:=λb hb=>by
 rcases I.ok.stk with e| ⟨e,hf⟩
 ·rw [e] at hb;exact gK _ hb
 ·rw [e] at hb
  unfold mh at hb;rw [List.filterMap_cons,hf] at hb;exact hb
theorem Inv.qG(I:Inv X pins σ H s):∀b∈mh X.stack,H b=none:=λb hb=>by
 rcases eS.mp (I.uv b hb) with e|hb
 ·rw [e];exact I.free
 ·obtain ⟨_,o,ho,_⟩:=I.ok.funs.mem hb
  exact I.base.free b o ho (I.ok.frf b hb) λz=>I.ok.exfs b z hb
theorem Inv.step{g':Array GenState}{t':Nat}{d':Drawn}{ch:List Addr}(I:Inv X pins σ H s)
  (rh:∀b∈ch,(b∈X.ex∨X.s₀.heap.objs.size≤b)∧b≠X.env.locals∧(∀x c,X.env.cells.lookup x=some c→c≠b)∧∀p∈X.pn++pins,p.1≠b)
  (keep:∀b o,b≠X.env.locals→b∉X.fs→b∉ch→s.heap.get? b=some o→H b=none→h'.get? b=some o)
  (slot:∀b o,b≠X.env.locals→b∈X.fs→b∉ch→s.heap.get? b=some o→H b=none→∃sl,h'.get? b=some {o with slots:=sl}) (free:∀b o,b∉ch→s.heap.get? b=some o→H b=none→H' b=none)
  (there:∀b o,b∉ch→s.heap.get? b=some o→∃o',h'.get? b=some o')
  (tups:∀b xs,H b=some (.tup xs)→H' b=some (.tup xs)) (frzs:∀b o u,H b=some (.jS o u)→H' b=some (.jS o u)) (tbls:∀b ps,H b=some (.vU ps)→∃more,H' b=some (.vU (ps++more)))
  (ns:∀m,s.heap.Ns X.env.locals m→h'.Ns X.env.locals m) (hok:eM X.prog X.w H' h') (hg:AllBare g'):
  Inv X pins σ H' {s with heap:=h',gens:=g',drawn:=d',toks:=t'}:=by
 have NQ:∀b o,X.s₀.heap.get? b=some o→b≠X.env.locals:=λb o e=>bR (dS (Heap.lt_size e) I.ok.above)
 have Fb:∀b o,X.s₀.heap.get? b=some o→b∉X.ex→b∉ch:=λb o e hx hb=>by
  rcases (rh b hb).1 with z|z
  ·exact hx z
  ·exact absurd (dS (Heap.lt_size e) z) (gE _)
 have cellK:∀x c,X.env.cells.lookup x=some c→∀v,s.heap.IsCell c v→h'.IsCell c v:=λx c e v ⟨o,ho,hd⟩=>by
  have CV:c∉ch:=λz=>(rh c z).2.2.1 x c e rfl
  by_cases hc:c∈X.fs
  ·obtain ⟨sl,q⟩:=slot c o (I.wH x c e) hc CV ho (I.freeC x c e)
   exact ⟨_,q,hd⟩
  ·exact ⟨o,keep c o (I.wH x c e) hc CV ho (I.freeC x c e),hd⟩
 refine ⟨I.ok,I.os,hg,⟨λb o e n hb hx=>?_,λb o e n hb hx=>?_,λb o e n hx=>?_,λb o e hx=>?_,λb xs e=>tups b xs (I.base.tups b xs e),λb o xs e=>frzs b o xs (I.base.frzs b o xs e),λb ps e=>?_⟩,?_,λx c e=>?_,?_,λx c e=>?_,λp hp=>?_,hok,I.len⟩
 ·exact keep b o (NQ b o e) hb (Fb b o e hx) (I.base.keep b o e n hb hx) (I.base.free b o e n hx)
 ·obtain ⟨sl,e1⟩:=I.base.slot b o e n hb hx
  obtain ⟨WO,e2⟩:=slot b _ (NQ b o e) hb (Fb b o e hx) e1 (I.base.free b o e n hx);exact ⟨WO,e2⟩
 ·obtain ⟨o',e1⟩:=I.base.there b o e hx
  exact free b o' (Fb b o e hx) e1 (I.base.free b o e n hx)
 ·obtain ⟨o',e1⟩:=I.base.there b o e hx
  exact there b o' (Fb b o e hx) e1
 ·obtain ⟨m1,e1⟩:=I.base.tbls b ps e
  obtain ⟨m2,e2⟩:=tbls b _ e1;exact ⟨m1++m2,by rw [e2,Array.append_assoc]⟩
 ·obtain ⟨m,hn,hl⟩:=I.loc
  refine ⟨m,ns m hn,λi x v e1 e2 e3=>?_⟩;obtain ⟨u,r,l⟩:=hl i x v e1 e2 e3;refine ⟨u,r,?_⟩
  rcases l with l| ⟨k,c,e,z⟩
  ·exact .inl l
  ·exact .inr ⟨k,c,e,cellK x c e _ z⟩
 ·obtain ⟨v,z⟩:=I.cell x c e
  exact ⟨v,cellK x c e v z⟩
 ·obtain ⟨m,⟨o,_,_,ho,_⟩,_⟩:=I.loc
  exact free _ o (λz=>(rh _ z).2.1 rfl) ho I.free
 ·obtain ⟨v,o,ho,hd⟩:=I.cell x c e
  exact free c o (λz=>(rh c z).2.2.1 x c e rfl) ho (I.freeC x c e)
 ·obtain ⟨e,n,ne,nf,d⟩:=I.pin p hp
  have CV:p.1∉ch:=λz=>(rh p.1 z).2.2.2 p hp rfl;exact ⟨keep p.1 p.2 ne nf CV e n,free p.1 p.2 CV e n,ne,nf,d⟩
theorem Inv.un{t':Nat}(I:Inv X pins σ H s)(u:Un X.fs [] H H' s.heap h')(hok:eM X.prog X.w H' h'):Inv X pins σ H' {s with heap:=h',toks:=t'}:=by
 obtain ⟨m,⟨o,es,ep,ho,r⟩,_⟩:=id I.loc;obtain ⟨sl,hL⟩:=u.any ho I.free (by simp)
 exact I.step (g':=s.gens) (d':=s.drawn) (ch:= []) (λ_ z=>nomatch z) (λb o _ hb _ e n=>u.keep b o e n hb (by simp)) (λb o _ hb _ e n=>u.slot b o e n hb (by simp)) (λb o _ e n=>u.free b o e n (by simp)) (λb o _ e=>u.there b o e (by simp)) u.tups u.frzs u.tbls (λm' hm=>by
  obtain ⟨o',Iz,Iy,lh,r'⟩:=hm;rw [ho] at lh;cases lh;exact ⟨_,Iz,Iy,hL,r'⟩) hok I.bare
theorem Inv.call{g':Array GenState}{t':Nat}{d':Drawn}{ch:List Addr}(I:Inv X pins σ H s)(u:Un (mh X.stack) ch H H' s.heap h')(hok:eM X.prog X.w H' h')(hg:AllBare g')
  (rh:∀b∈ch,(b∈X.ex∨X.s₀.heap.objs.size≤b)∧b≠X.env.locals∧(∀x c,X.env.cells.lookup x=some c→c≠b)∧∀p∈X.pn++pins,p.1≠b):
  Inv X pins σ H' {s with heap:=h',gens:=g',drawn:=d',toks:=t'}:=by
 obtain ⟨m,⟨o,es,ep,ho,r⟩,_⟩:=id I.loc;obtain ⟨sl,hL⟩:=u.any ho I.free λz=>(rh _ z).2.1 rfl
 exact I.step (ch:=ch) rh (λb o hL hb hc e n=>u.keep b o e n (λz=>(eS.mp (I.uv b z)).elim hL hb) hc) (λb o _ _ hc e n=>u.any e n hc) (λb o hc e n=>u.free b o e n hc) (λb o hc e=>u.there b o e hc) u.tups u.frzs u.tbls (λm' hm=>by
  obtain ⟨o',Iz,Iy,lh,r'⟩:=hm;rw [ho] at lh;cases lh;exact ⟨_,Iz,Iy,hL,r'⟩) hok hg
theorem Inv.turned{t':Nat}{it:Addr}(I:Inv X pins σ H s)(k:∀b o,b≠it→s.heap.get? b=some o→h'.get? b=some o)(hn:H it=none)(hL:it≠X.env.locals)
  (h1:it∈X.ex∨X.s₀.heap.objs.size≤it) (h2:∀x c,X.env.cells.lookup x=some c→c≠it) (h3:∀p∈X.pn++pins,p.1≠it):Inv X pins σ H {s with heap:=h',toks:=t'}:=by
 have NV:∀b u,H b=some u→b≠it:=λb u e z=>by rw [z,hn] at e;cases e
 refine I.step (g':=s.gens) (d':=s.drawn) (ch:= [it]) (λb hb=>?_) (λb o _ _ hc e _=>k b o (λz=>hc (by simp [z])) e) (λb o _ _ hc e _=>⟨o.slots,k b o (λz=>hc (by simp [z])) e⟩) (λ_ _ _ _ n=>n)
  (λb o hc e=>⟨o,k b o (λz=>hc (by simp [z])) e⟩) (λ_ _ e=>e) (λ_ _ _ e=>e) (λb ps e=>⟨#[],by rw [e];simp⟩) (λm hm=>?_) (λb u e=>?_) I.bare
 ·have e:b=it:=by simpa using hb
  subst e;exact ⟨h1,hL,h2,h3⟩
 ·obtain ⟨o,es,ep,ho,r⟩:=hm
  exact ⟨o,es,ep,k _ o (Ne.symm hL) ho,r⟩
 ·refine (I.hok b u e).kN (λc v hc q=>k c v ?_ q) (λ_ q=>q) λ_ _ q=>q
  rcases hc with z|z
  ·rw [z];exact NV b u e
  ·exact NV c _ z
theorem Inv.tok(I:Inv X pins σ H s)(t:Nat):Inv X pins σ H {s with toks:=t}:=I.un (h':=s.heap) (t':=t) Un.refl I.hok
theorem Inv.kept{t':Nat}(I:Inv X pins σ H s)(k:∀b u,s.heap.get? b=some u→h'.get? b=some u):Inv X pins σ H {s with heap:=h',toks:=t'}:=I.un (Un.kept k) (I.hok.kept k)
theorem Inv.laid{a:Addr}{o:HO}{t':Nat}(I:Inv X pins σ H s)(k:∀b u,s.heap.get? b=some u→h'.get? b=some u)(hp:s.heap.objs.size≤a)(new:bo X.prog X.w (upd H a o) h' a o):
  Inv X pins σ (upd H a o) {s with heap:=h',toks:=t'}:=I.un (Un.laid k hp (I.hok.fresh hp)) (I.hok.laid k hp new)
theorem Inv.write{x e:Addr}{o:HO}{t':Nat}(I:Inv X pins σ H s)(mu:Be (H x))(he:e=x∨H e=some (.own x))(k:∀b u,b≠e→s.heap.get? b=some u→h'.get? b=some u)(vj:∃u,h'.get? e=some u)
  (new:bo X.prog X.w (upd H x o) h' x o):Inv X pins σ (upd H x o) {s with heap:=h',toks:=t'}:=I.un (Un.write mu he k vj) (I.hok.write mu he k vj new)
theorem Inv.mR{uk:List (Addr×Obj)}(I:Inv X pins σ H s)(h:∀p∈uk,s.heap.get? p.1=some p.2∧H p.1=none∧p.1≠X.env.locals∧p.1∉X.fs∧∀v,p.2.data≠ .cell v):Inv X uk σ H s:=
 ⟨I.ok,I.os,I.bare,I.base,I.loc,I.cell,I.free,I.freeC,λp hp=>(sZ.mp hp).elim (λz=>I.pin p (kc _ z)) (h p),I.hok,I.len⟩
theorem sL{N:List Str}(hN:N.Nodup){i j:Nat}{x:Str}(a:N[i]? =some x)(b:N[j]? =some x):i=j:=by
 obtain ⟨h1,e1⟩:=gF.mp a;obtain ⟨h2,e2⟩:=gF.mp b;exact (List.getElem_inj hN).mp (e1.trans e2.symm)
theorem store_ok2{M:Model}{A:Around}{E:Value→Shared→Prop}{i:Nat}{x:Str}{v:V}{u:Value}{Q:Unit→Shared→Prop}(I:Inv X pins σ H s)(hN:X.N.Nodup)(hi:X.N[i]? =some x)(hx:Loc X.env.scope x)(r:RelV v u)
  (h:∀s',Inv X pins (σ.set i (some v)) H s'→(∃a,Heap.SameBut a s.heap s'.heap∧(a=X.env.locals∨X.env.cells.lookup x=some a))→Q () s') (hf:X.fn x=true∨X.env.scope.names.lookup x=some .local:=by first|exact .inl rfl|exact .inr rfl|assumption):wpAny M A (storeName X.env x u) Q E s:=by
 obtain ⟨m,hn,hl⟩:=id I.loc;have Cj:(X.env.scope.kind== .class|| (X.env.scope.kind== .module&&X.env.locals !=X.env.globals))=false:=by rw [I.ok.kind];rfl
 have GY:i<σ.length:=by rw [I.len];exact (gF.mp hi).1
 have wH:=I.wH
 have tracked:∀{a:Addr}{h':Heap},(∃o,s.heap.get? a=some o∧H a=none)→Heap.SameBut a s.heap h'→eM X.prog X.w H h':=λ {a h'} ha hs b ob e=>by
  obtain ⟨_,_,Cu⟩:=ha;refine (I.hok b ob e).kN (λc w' hc q=>(hs.2 c ?_).trans q) (λ_ q=>q) λ_ _ q=>q;rintro rfl
  rcases hc with rfl|hc
  ·rw [Cu] at e;cases e
  ·rw [Cu] at hc;cases hc
 rcases hx with hk|hk
 ·refine wpAny_storeName_local hk hn (λh' xr hs=>?_) Cj
  obtain ⟨oL,_,_,Td,_⟩:=id hn;refine h _ ⟨I.ok,I.os,I.bare,⟨λb o e n hb hx=>?_,λb o e n hb hx=>?_,I.base.free,λb o e hx=>?_,I.base.tups,I.base.frzs,I.base.tbls⟩,⟨_,xr,λj y v' e1 e2 e3=>?_⟩,λy c e=>?_,I.free,I.freeC,λp hp=>?_,tracked ⟨oL,Td,I.free⟩ hs,by simpa using I.len⟩ ⟨_,hs, .inl rfl⟩
  ·exact (hs.2 b (bR (dS (Heap.lt_size e) I.ok.above))).trans (I.base.keep b o e n hb hx)
  ·obtain ⟨sl,e1⟩:=I.base.slot b o e n hb hx
   exact ⟨sl,(hs.2 b (bR (dS (Heap.lt_size e) I.ok.above))).trans e1⟩
  ·obtain ⟨o',e1⟩:=I.base.there b o e hx
   exact ⟨o',(hs.2 b (bR (dS (Heap.lt_size e) I.ok.above))).trans e1⟩
  ·by_cases hj:j=i
   ·subst hj
    rw [hi] at e1;cases e1;rw [gB GY] at e2;cases e2;exact ⟨u,r, .inl ⟨hk,by simp⟩⟩
   ·rw [dF (Ne.symm hj)] at e2
    obtain ⟨u',r',q⟩:=hl j y v' e1 e2 e3;refine ⟨u',r',?_⟩
    rcases q with ⟨k,e⟩ | ⟨k,c,e,z⟩
    ·refine .inl ⟨k,?_⟩
     have:y≠x:=λe=>hj (sL hN e1 (e▸hi))
     simp [this,e]
    ·exact .inr ⟨k,c,e,z.sameBut hs (wH y c e)⟩
  ·obtain ⟨w',z⟩:=I.cell y c e
   exact ⟨w',z.sameBut hs (wH y c e)⟩
  ·obtain ⟨e,n,ne,nf,d⟩:=I.pin p hp
   exact ⟨(hs.2 p.1 ne).trans e,n,ne,nf,d⟩
 ·have IT:X.fn x=true:=by
   rcases hf with z|z
   ·exact z
   ·rw [z] at hk;cases hk
  obtain ⟨c,hc⟩:=I.ok.has x (.inl hk);obtain ⟨w',z⟩:=I.cell x c hc;refine wpAny_storeName_cell I.ok.kind hk hc z (λh' Ce hs=>?_);obtain ⟨oc,MN,MO⟩:=id z;refine h {s with heap:=h'} ⟨I.ok,I.os,I.bare,⟨λb o e n hb hx=>?_,λb o e n hb hx=>?_,I.base.free,λb o e hx=>?_,I.base.tups,I.base.frzs,I.base.tbls⟩,⟨m,hn.sameBut hs (Ne.symm (wH x c hc)),λj y v' e1 e2 e3=>?_⟩,λy c' e=>?_,I.free,I.freeC,λp hp=>?_,tracked ⟨oc,MN,I.freeC x c hc⟩ hs,by simpa using I.len⟩ ⟨c,hs, .inr hc⟩
  ·exact (hs.2 b (bR (dS (Heap.lt_size e) (I.ok.cab x c IT hc)))).trans (I.base.keep b o e n hb hx)
  ·obtain ⟨sl,e1⟩:=I.base.slot b o e n hb hx
   exact ⟨sl,(hs.2 b (bR (dS (Heap.lt_size e) (I.ok.cab x c IT hc)))).trans e1⟩
  ·obtain ⟨o',e1⟩:=I.base.there b o e hx
   exact ⟨o',(hs.2 b (bR (dS (Heap.lt_size e) (I.ok.cab x c IT hc)))).trans e1⟩
  ·by_cases hj:j=i
   ·subst hj
    rw [hi] at e1;cases e1;rw [gB GY] at e2;cases e2;exact ⟨u,r, .inr ⟨.inl hk,c,hc,Ce⟩⟩
   ·rw [dF (Ne.symm hj)] at e2
    obtain ⟨u',r',q⟩:=hl j y v' e1 e2 e3;refine ⟨u',r',?_⟩
    rcases q with q| ⟨k,c',e,z'⟩
    ·exact .inl q
    ·refine .inr ⟨k,c',e,z'.sameBut hs ?_⟩
     rintro rfl;exact hj (sL hN e1 (I.ok.inj _ _ _ e hc▸hi))
  ·by_cases MC:c'=c
   ·subst MC;exact ⟨_,Ce⟩
   ·obtain ⟨w2,z2⟩:=I.cell y c' e
    exact ⟨w2,z2.sameBut hs MC⟩
  ·obtain ⟨e,n,ne,nf,d⟩:=I.pin p hp
   refine ⟨(hs.2 p.1 ?_).trans e,n,ne,nf,d⟩;intro q;rw [q,MN] at e;have q':oc=p.2:=Option.some.inj e;exact d w' (by rw [←q'];exact MO)
theorem ku{M:Model}{A:Around}{E:Value→Shared→Prop}{i:Nat}{x:Str}{v:V}{u:Value}{Q:Unit→Shared→Prop}(I:Inv X pins σ H s)(hN:X.N.Nodup)(hi:X.N[i]? =some x)(hx:Loc X.env.scope x)(r:RelV v u)
  (h:∀s',Inv X pins (σ.set i (some v)) H s'→Q () s') (hf:X.fn x=true∨X.env.scope.names.lookup x=some .local:=by first|exact .inl rfl|exact .inr rfl|assumption):wpAny M A (storeName X.env x u) Q E s:=
 store_ok2 I hN hi hx r (λs' I' _=>h s' I') hf
theorem Inv.wC{s':Shared}{ch:List Addr}(I:Inv X pins σ H s)(ho:s'.os=s.os)(u:Un (mh X.stack) ch H H' s.heap s'.heap)(hok:eM X.prog X.w H' s'.heap)(hg:AllBare s'.gens)
  (rh:∀b∈ch,(b∈X.ex∨X.s₀.heap.objs.size≤b)∧b≠X.env.locals∧(∀x c,X.env.cells.lookup x=some c→c≠b)∧∀p∈X.pn++pins,p.1≠b):Inv X pins σ H' s':=by
 obtain ⟨h',g',d',t',o'⟩:=s';have e:o'=s.os:=ho;subst e;exact I.call (g':=g') (t':=t') (d':=d') u hok hg rh
end
abbrev XK:=Value→Option Addr→Hp→Prop
abbrev St:=List (Option V)
abbrev VK:=V→Hp→Prop
abbrev TE:=St→Hp→VK→Prop
abbrev TT:=St→Hp→(Bool→Hp→Prop)→Prop
abbrev TA:=St→Hp→(List V→Hp→Prop)→Prop
structure Ends where
 nx:St→Hp→Prop
 rt:VK
 bk:St→Hp→Prop:=λ_ _=>False
 ct:St→Hp→Prop:=λ_ _=>False
abbrev TS:=Ends→St→Hp→Prop
def EP(X:Cx)(pins:List (Addr×Obj))(σ:St)(Q:VK)(u:Value)(s':Shared):Prop:=∃v H',Inv X pins σ H' s'∧RelV v u∧Q v H'
def TP(X:Cx)(pins:List (Addr×Obj))(σ:St)(Q:Bool→Hp→Prop)(b:Bool)(s':Shared):Prop:=∃H',Inv X pins σ H' s'∧Q b H'
def AP(X:Cx)(pins:List (Addr×Obj))(σ:St)(Q:List V→Hp→Prop)(us:List Value)(s':Shared):Prop:=∃vs H',Inv X pins σ H' s'∧Vals vs us∧Q vs H'
def SP(X:Cx)(pins:List (Addr×Obj))(D:Ends)(f:Flow)(s':Shared):Prop:=
 match f with
 | .next=>∃ax H',Inv X pins ax H' s'∧D.nx ax H'
 | .brk=>∃ax H',Inv X pins ax H' s'∧D.bk ax H'
 | .cont=>∃ax H',Inv X pins ax H' s'∧D.ct ax H'
 | .ret u=>∃v ax H',Inv X pins ax H' s'∧RelV v u∧D.rt v H'
def PE(X:Cx)(e:Expr)(t:TE):Prop:=
 ∀(pins:List (Addr×Obj))(s:Shared)(σ:St)(H:Hp)(Q:VK),Inv X pins σ H s→t σ H Q→wpAny (model X.prog X.w) X.A (eval e X.env) (EP X pins σ Q) X.xe s
def PT(X:Cx)(e:Expr)(t:TT):Prop:=
 ∀(pins:List (Addr×Obj))(s:Shared)(σ:St)(H:Hp)(Q:Bool→Hp→Prop),Inv X pins σ H s→t σ H Q→wpAny (model X.prog X.w) X.A (isTrue e X.env (eval e X.env)) (TP X pins σ Q) X.xe s
def PW(X:Cx)(e:Expr)(t:TT):Prop:=
 ∀(whole:Sem Value)(pins:List (Addr×Obj))(s:Shared)(σ:St)(H:Hp)(Q:Bool→Hp→Prop),Inv X pins σ H s→t σ H Q→wpAny (model X.prog X.w) X.A (isTrue e X.env whole) (TP X pins σ Q) X.xe s
theorem PW.pt{X:Cx}{e:Expr}{t:TT}(h:PW X e t):PT X e t:=h _
def PA(X:Cx)(es:List Expr)(t:TA):Prop:=
 ∀(pos:Pos)(pins:List (Addr×Obj))(s:Shared)(σ:St)(H:Hp)(Q:List V→Hp→Prop),Inv X pins σ H s→t σ H Q→wpAny (model X.prog X.w) X.A (spliced (backTo pos (starEach es X.env))) (AP X pins σ Q) X.xe s
def PS(X:Cx)(st:Stmt)(t:TS):Prop:=
 ∀(pins:List (Addr×Obj))(s:Shared)(σ:St)(H:Hp)(D:Ends),Inv X pins σ H s→t D σ H→wpAny (model X.prog X.w) X.A (exec st X.env) (SP X pins D) X.xe s
def fS(X:Cx)(st:List Stmt)(t:TS):Prop:=
 ∀(pins:List (Addr×Obj))(s:Shared)(σ:St)(H:Hp)(D:Ends),Inv X pins σ H s→t D σ H→wpAny (model X.prog X.w) X.A (execs st X.env) (SP X pins D) X.xe s
theorem thn{α:Type}{t:Sem α}{Q Q':α→Shared→Prop}{M:Model}{A:Around}{E:Value→Shared→Prop}{s:Shared}(h:wpAny M A t Q E s)(hQ:∀a s,Q a s→Q' a s):wpAny M A t Q' E s:=wpAny_mono h hQ λ_ _ x=>x
section
variable {X:Cx}
def Hl(i:Nat):TE:=λσ H Q=>∃v,σ[i]? =some (some v)∧Q v H
def tC(v:V):TE:=λ_ H Q=>Q v H
theorem yR{i:Nat}{x:Str}{pos:Pos}(hN:X.N[i]? =some x)(hv:jJ X.env.scope x)(hd:(x==("__debug__":Str))=false:=by decide)(eB:(x==("__classdict__":Str))=false:=by decide):PE X (.Name x pos) (Hl i):=by
 intro pins s σ H Q I h;obtain ⟨v,e,h⟩:=h;obtain ⟨m,hn,hl⟩:=I.loc;obtain ⟨u,r,l⟩:=hl i x v hN e hv;have fin:EP X pins σ Q u s:=⟨v,H,I,r,h⟩
 rcases l with ⟨hk,hm⟩ | ⟨hk,c,hc,tS⟩
 ·exact wpAny_Name (wpAny_loadName_local I.ok.kind hk hn hm fin) hd
 ·rcases hk with hk|hk
  ·exact wpAny_Name (wpAny_loadName_cell I.ok.kind hk hc tS fin) hd
  ·exact wpAny_Name (wpAny_loadName_free I.ok.kind hk hc tS fin eB) hd
theorem mO{i j pos}:PE X (.Constant (.int i) j pos) (tC (.int i)):=λ_ _ _ H _ I h=>wpAny_Constant_int ⟨.int i,H,I.tok _,⟨_,rfl⟩,h⟩
theorem JF{b j pos}:PE X (.Constant (.bool b) j pos) (tC (.bl b)):=λ_ _ _ H _ I h=>Constant_bool ⟨.bl b,H,I,rfl,h⟩
theorem Fu{j pos}:PE X (.Constant .none j pos) (tC .aN):=λ_ _ _ H _ I h=>Constant_none ⟨.aN,H,I,rfl,h⟩
theorem yQ{x j pos}:PE X (.Constant (.str x) j pos) (tC (.str x)):=λ_ _ _ H _ I h=>Calls.Constant_str ⟨.str x,H,I.tok _,⟨_,rfl⟩,h⟩
def Gl(X:Cx)(x:Str):Prop:=X.env.kindOf x=some .globalImplicit
theorem gf{E:Value→Shared→Prop}{pins:List (Addr×Obj)}{s:Shared}{σ:St}{H:Hp}{x:Str}{u:Value}{pos:Pos}{Q:Value→Shared→Prop}(I:Inv X pins σ H s)(hg:Gl X x)(hm:X.mg x=some u)(h:Q u s)
  (hd:(x==("__debug__":Str))=false:=by decide):wpAny (model X.prog X.w) X.A (eval (.Name x pos) X.env) Q E s:=
 Calls.Name_function_global I.ok.kind hg (Calls.loadGlobal_global (by rw [I.ok.glob];exact I.mod.glob.keeps I.bk) hm h) hd
theorem gT{E:Value→Shared→Prop}{pins:List (Addr×Obj)}{s:Shared}{σ:St}{H:Hp}{x:Str}{u:Value}{pos:Pos}{Q:Value→Shared→Prop}(I:Inv X pins σ H s)(hg:Gl X x)(hm:X.mg x=none)(hv:bootBuiltins x=some u)(h:Q u s)
  (hn:x≠"__name__":=by decide) (hd:(x==("__debug__":Str))=false:=by decide):wpAny (model X.prog X.w) X.A (eval (.Name x pos) X.env) Q E s:=by
 obtain ⟨mb,h1,h2⟩:=I.mod.blt;exact Calls.Name_function_global I.ok.kind hg (Calls.loadGlobal_builtin (by rw [I.ok.glob];exact I.mod.glob.keeps I.bk) hm (by rw [I.ok.blt];exact h1.keeps I.bk) ((h2 x hn).trans hv) h) hd
theorem vJ{x:Str}{v:V}{u:Value}{pos:Pos}(hg:Gl X x)(hm:X.mg x=some u)(r:RelV v u)(hd:(x==("__debug__":Str))=false:=by decide):PE X (.Name x pos) (tC v):=
 λ_ _ _ H _ I h=>gf I hg hm ⟨v,H,I,r,h⟩ hd
theorem iN{x:Str}{v:V}{u:Value}{pos:Pos}(hg:Gl X x)(hm:X.mg x=none)(hv:bootBuiltins x=some u)(r:RelV v u)(hn:x≠"__name__":=by decide)(hd:(x==("__debug__":Str))=false:=by decide):PE X (.Name x pos) (tC v):=
 λ_ _ _ H _ I h=>gT I hg hm hv ⟨v,H,I,r,h⟩ hn hd
variable {a b:Expr} {ta tb:TE} {pos:Pos}
def tB(t:TE):TT:=λσ H Q=>t σ H λx H1=>∃c,x= .bl c∧Q c H1
theorem FD{e:Expr}{t:TE}(h:PE X e t)(he:∀whole,isTrue e X.env whole=(do let v ←whole;standAt e.pos;holding [v] (truthy v)):=by intro _;rfl):PT X e (tB t):=by
 intro pins s σ H Q I hw;refine isTrue_plain (thn (h pins s σ H _ I hw) λv s1 ⟨x,H1,I1,r1,q1⟩=>?_) (he _);obtain ⟨d,rfl,q⟩:=q1;cases r1;exact wpAny_truthy_bool ⟨H1,I1,q⟩
variable {tA uw:TT} {rest:List Expr}
def P5(t u:TT):TT:=λσ H Q=>t σ H λc H1=>if c=true then u σ H1 Q else Q false H1
def W4(t u:TT):TT:=λσ H Q=>t σ H λc H1=>if c=true then Q true H1 else u σ H1 Q
def Qd(t:TT):TT:=λσ H Q=>t σ H λc H1=>Q (!c) H1
theorem Du(ha:PT X a tA):PW X (.BoolOp .And [a] pos) tA:=by
 intro wh pins s σ H Q I h;refine isTrue_and (thn (ha pins s σ H Q I h) λc s1 e=>?_);cases c with
 |true=>exact isTrue_and_nil e
 |false=>exact e
theorem FF(ha:PT X a tA):PW X (.BoolOp .Or [a] pos) tA:=by
 intro wh pins s σ H Q I h;refine isTrue_or (thn (ha pins s σ H Q I h) λc s1 e=>?_);cases c with
 |false=>exact isTrue_or_nil e
 |true=>exact e
theorem FE(ha:PT X a tA)(hb:PW X (.BoolOp .And (b::rest) pos) uw):PW X (.BoolOp .And (a::b::rest) pos) (P5 tA uw):=by
 intro wh pins s σ H Q I h;refine isTrue_and (thn (ha pins s σ H _ I h) λc s1 ⟨H1,I1,q1⟩=>?_);cases c with
 |true=>exact hb wh pins s1 σ H1 Q I1 q1
 |false=>exact ⟨H1,I1,q1⟩
theorem JI(ha:PT X a tA)(hb:PW X (.BoolOp .Or (b::rest) pos) uw):PW X (.BoolOp .Or (a::b::rest) pos) (W4 tA uw):=by
 intro wh pins s σ H Q I h;refine isTrue_or (thn (ha pins s σ H _ I h) λc s1 ⟨H1,I1,q1⟩=>?_);cases c with
 |true=>exact ⟨H1,I1,q1⟩
 |false=>exact hb wh pins s1 σ H1 Q I1 q1
theorem FC(ha:PT X a tA):PT X (.UnaryOp .Not a pos) (Qd tA):=by
 intro pins s σ H Q I h;exact isTrue_not (ha pins s σ H (λc H1=>Q (!c) H1) I h)
def JS(ta tb:TE):TE:=λσ H Q=>ta σ H λx H1=>∃c,x= .bl c∧if c=true then tb σ H1 Q else Q (.bl false) H1
def Qe(ta tb:TE):TE:=λσ H Q=>ta σ H λx H1=>∃c,x= .bl c∧if c=true then Q (.bl true) H1 else tb σ H1 Q
def JY(ta:TE):TE:=λσ H Q=>ta σ H λx H1=>∃c,x= .bl c∧Q (.bl (!c)) H1
theorem Fw{op}{t:TE}(h:PE X a t):PE X (.BoolOp op [a] pos) t:=λpins s σ H Q I hw=>BoolOp_one (h pins s σ H Q I hw)
theorem Fq(ha:PE X a ta)(hb:PE X (.BoolOp .And (b::rest) pos) tb):PE X (.BoolOp .And (a::b::rest) pos) (JS ta tb):=by
 intro pins s σ H Q I h;refine BoolOp_and (thn (ha pins s σ H _ I h) λv s1 ⟨x,H1,I1,r1,q1⟩=>?_);obtain ⟨c,rfl,q1⟩:=q1;cases r1;refine wpAny_truthy_bool ?_;cases c with
 |true=>exact hb pins s1 σ H1 Q I1 q1
 |false=>exact ⟨.bl false,H1,I1,rfl,q1⟩
theorem JH(ha:PE X a ta)(hb:PE X (.BoolOp .Or (b::rest) pos) tb):PE X (.BoolOp .Or (a::b::rest) pos) (Qe ta tb):=by
 intro pins s σ H Q I h;refine BoolOp_or (thn (ha pins s σ H _ I h) λv s1 ⟨x,H1,I1,r1,q1⟩=>?_);obtain ⟨c,rfl,q1⟩:=q1;cases r1;refine wpAny_truthy_bool ?_;cases c with
 |false=>exact hb pins s1 σ H1 Q I1 q1
 |true=>exact ⟨.bl true,H1,I1,rfl,q1⟩
theorem Fv(ha:PE X a ta):PE X (.UnaryOp .Not a pos) (JY ta):=by
 intro pins s σ H Q I h;refine UnaryOp_ (thn (ha pins s σ H _ I h) λv s1 ⟨x,H1,I1,r1,q1⟩=>?_);obtain ⟨c,rfl,q1⟩:=q1;cases r1;exact not_of (wpAny_truthy_bool ⟨.bl (!c),H1,I1,rfl,q1⟩)
def W3(t:TT)(ta tb:TE):TE:=λσ H Q=>t σ H λc H1=>if c=true then ta σ H1 Q else tb σ H1 Q
theorem AI{c:Expr}(hc:PT X c tA)(ha:PE X a ta)(hb:PE X b tb):PE X (.IfExp c a b pos) (W3 tA ta tb):=by
 intro pins s σ H Q I h;refine wpAny_IfExp (thn (hc pins s σ H _ I h) λd s1 ⟨H1,I1,q1⟩=>?_);cases d with
 |true=>exact ha pins s1 σ H1 Q I1 q1
 |false=>exact hb pins s1 σ H1 Q I1 q1
end
def bb(K:PySem.W.Frag)(H:Hp)(a:Addr)(xs:List V):Prop:=
 Rd H a (.lst xs)∨
  ∃(o:Obj)(its:Array Value)(n:Nat),K.lookup a=some o∧o.cls= .type "list"∧o.dict=none∧o.data= .seq its n∧its.size≤sizeLine∧Vals xs its.toList
def cj(K:PySem.W.Frag)(H:Hp)(a:Addr)(xs:List V):Prop:=
 Rd H a (.tup xs)∨
  ∃(o:Obj)(its:Array Value)(n:Nat),K.lookup a=some o∧o.cls= .type "tuple"∧o.data= .seq its n∧its.size≤sizeLine∧Vals xs its.toList
def Kp:Value→Option V
 | .none=>some .aN
 | .bool b=>some (.bl b)
 | .int i _=>some (.int i)
 | .str x _=>some (.str x)
 | .bytes b _=>some (.zr b)
 | .float b _=>some (.va b)
 | .ref a=>some (.ref a)
 | .type n=>some (.ty n)
 |_=>none
theorem RelV.abs{x:V}{u:Value}(r:RelV x u):Kp u=some x:=by
 cases x with
 |aN=>cases r;rfl
 |bl _=>cases r;rfl
 |int _=>obtain ⟨t,rfl⟩:=r;rfl
 |str _=>obtain ⟨t,rfl⟩:=r;rfl
 |zr _=>obtain ⟨t,rfl⟩:=r;rfl
 |va _=>obtain ⟨t,rfl⟩:=r;rfl
 |ref _=>cases r;rfl
 |ty _=>cases r;rfl
theorem RelV.inj{x y:V}{u:Value}(r:RelV x u)(q:RelV y u):x=y:=Option.some.inj (r.abs.symm.trans q.abs)
theorem Vals.inj:∀{xs ys:List V}{us:List Value},Vals xs us→Vals ys us→xs=ys
 |_,_,_, .nil, .nil=>rfl
 |_,_,_, .cons r t, .cons r' t'=>by rw [r.inj r',Vals.inj t t']
section
variable {X:Cx} {pins:List (Addr×Obj)} {σ:St} {H:Hp} {s:Shared} {a:Addr} {xs ys:List V}
theorem bb.of{K:PySem.W.Frag}(h:H a=some (.lst xs)):bb K H a xs:= .inl (.inl h)
theorem cj.of{K:PySem.W.Frag}(h:H a=some (.tup xs)):cj K H a xs:= .inl (.inl h)
theorem Inv.list(I:Inv X pins σ H s)(h:bb X.K H a xs):∃its:List Value,Vals xs its∧PlainL s.heap a its.toArray∧xs.length≤sizeLine:=by
 rcases h with h| ⟨o,its,n,hk,hc,hd,hs,hz,r⟩
 ·obtain ⟨z,its,n,r,e⟩:=h.ok I.hok
  exact ⟨its,r,⟨_,n,e,rfl,rfl,rfl⟩,z⟩
 ·refine ⟨its.toList,r,⟨o,n,I.bI a o hk,hc,hd,by simpa using hs⟩,?_⟩
  have e:=r.length;simp only [Array.length_toList] at e;omega
theorem Inv.tuple(I:Inv X pins σ H s)(h:cj X.K H a xs):∃its:List Value,Vals xs its∧IsTup s.heap a its.toArray∧xs.length≤sizeLine:=by
 rcases h with h| ⟨o,its,n,hk,hc,hs,hz,r⟩
 ·obtain ⟨z,its,r,p⟩:=h.ok I.hok
  exact ⟨its,r,p,z⟩
 ·refine ⟨its.toList,r,⟨o,I.bI a o hk,hc,n,by simpa using hs⟩,?_⟩
  have e:=r.length;simp only [Array.length_toList] at e;omega
theorem Inv.nQ(I:Inv X pins σ H s)(h:bb X.K H a xs)(h':bb X.K H a ys):xs=ys:=by
 obtain ⟨its,r,⟨o,n,e,_,_,d⟩,_⟩:=I.list h;obtain ⟨its',r',⟨o',n',e',_,_,d'⟩,_⟩:=I.list h';rw [e] at e';cases e';rw [d] at d'
 injection d' with d1 _
 have:its=its':=by simpa using congrArg Array.toList d1
 subst this;exact r.inj r'
end
abbrev Cx.kP(X:Cx)(E:Value→Shared→Prop):Cx:={X with xe:=E}
abbrev Cx.qh(X:Cx):Cx:=X.kP λ_ _=>False
theorem Cx.Ok.kP{X:Cx}(ok:X.Ok)(E:Value→Shared→Prop):(X.kP E).Ok:=
 ⟨ok.mod,ok.kind,ok.glob,ok.blt,ok.above,ok.inj,ok.has,ok.cab,ok.hd,ok.frames,ok.stk,ok.exf,ok.bs,ok.bsz,ok.noex,ok.exfs,ok.funs,ok.frf⟩
theorem Cx.Ok.ia{X:Cx}{E:Value→Shared→Prop}(ok:(X.kP E).Ok):X.Ok:=
 ⟨ok.mod,ok.kind,ok.glob,ok.blt,ok.above,ok.inj,ok.has,ok.cab,ok.hd,ok.frames,ok.stk,ok.exf,ok.bs,ok.bsz,ok.noex,ok.exfs,ok.funs,ok.frf⟩
section
variable {X:Cx} {pins:List (Addr×Obj)} {σ:St} {H:Hp} {s:Shared} {E:Value→Shared→Prop}
theorem Inv.kP(I:Inv X pins σ H s)(E:Value→Shared→Prop):Inv (X.kP E) pins σ H s:=⟨I.ok.kP E,I.os,I.bare,I.base,I.loc,I.cell,I.free,I.freeC,I.pin,I.hok,I.len⟩
theorem Inv.ia(I:Inv (X.kP E) pins σ H s):Inv X pins σ H s:=⟨I.ok.ia,I.os,I.bare,I.base,I.loc,I.cell,I.free,I.freeC,I.pin,I.hok,I.len⟩
theorem SP.ia{D:Ends}{f:Flow}{s':Shared}(h:SP (X.kP E) pins D f s'):SP X pins D f s':=by
 cases f with
 |next=>obtain ⟨ax,H',I,q⟩:=h;exact ⟨ax,H',I.ia,q⟩
 |brk=>obtain ⟨ax,H',I,q⟩:=h;exact ⟨ax,H',I.ia,q⟩
 |cont=>obtain ⟨ax,H',I,q⟩:=h;exact ⟨ax,H',I.ia,q⟩
 |ret u=>obtain ⟨v,ax,H',I,r,q⟩:=h;exact ⟨v,ax,H',I.ia,r,q⟩
theorem fS.qh{st:List Stmt}{t:TS}(h:fS X.qh st t):fS X st t:=λpins s σ H D I hw=>
 wpAny_mono (h pins s σ H D (I.kP _) hw) (λ_ _ q=>q.ia) λ_ _ z=>False.elim z
end
section
variable {X:Cx} {st:Stmt} {rest:List Stmt} {t u:TS} {e:Expr} {te:TE} {pos:Pos}
def JX:TS:=λD σ H=>D.nx σ H
def Hk(t u:TS):TS:=λD σ H=>t {D with nx:=u D} σ H
theorem mS:fS X [] JX:=λ_ _ σ H _ I h=>wpAny_execs_nil ⟨σ,H,I,h⟩
theorem aP(h1:PS X st t)(h2:fS X rest u):fS X (st::rest) (Hk t u):=by
 intro pins s σ H D I h;refine wpAny_execs_cons (thn (h1 pins s σ H {D with nx:=u D} I h) λf s1 q=>?_)
 cases f with
 |next=>
  obtain ⟨ax,H',I',q⟩:=q;exact h2 pins s1 ax H' D I' q
 |ret v=>exact q
 |brk=>exact q
 |cont=>exact q
theorem dD(h1:PS X st t):fS X [st] t:=by
 intro pins s σ H D I h;refine wpAny_execs_cons (thn (h1 pins s σ H D I h) λf s1 q=>?_);cases f with
 |next=>exact wpAny_execs_nil q
 |ret v=>exact q
 |brk=>exact q
 |cont=>exact q
theorem Inv.quiet{pins:List (Addr×Obj)}{σ:St}{H:Hp}{s:Shared}(I:Inv X pins σ H s):interactive X.env=false:=by simp [interactive,I.ok.kind]
def JV(te:TE):TS:=λD σ H=>te σ H λ_ H1=>D.nx σ H1
theorem cQ(he:PE X e te)(hs:swapsWith e none pos.line X.env=pure false:=by rfl):PS X (.Expr e pos) (JV te):=by
 intro pins s σ H D I h;exact wpAny_Expr_any (thn (he pins s σ H _ I h) λv s1 ⟨x,H1,I1,r1,q1⟩=>⟨σ,H1,I1,q1⟩) I.quiet hs
def Qf(te:TE):TS:=λD σ H=>te σ H D.rt
theorem yT(he:PE X e te):PS X (.Return (some e) pos) (Qf te):=by
 intro pins s σ H D I h;exact wpAny_Return_some (thn (he pins s σ H _ I h) λv s1 ⟨x,H1,I1,r1,q1⟩=>⟨x,σ,H1,I1,r1,q1⟩)
def Qb(c:TT)(t u:TS):TS:=λD σ H=>c σ H λb H1=>if b=true then t D σ H1 else u D σ H1
theorem um{c:Expr}{a b:List Stmt}{tc:TT}(hc:PT X c tc)(ha:fS X a t)(hb:fS X b u):PS X (.If c a b pos) (Qb tc t u):=by
 intro pins s σ H D I h;refine wpAny_If (thn (hc pins s σ H _ I h) λd s1 ⟨H1,I1,q1⟩=>?_);cases d with
 |true=>exact ha pins s1 σ H1 D I1 q1
 |false=>exact hb pins s1 σ H1 D I1 q1
def y8:TS:=λ_ _ _=>False
theorem AO:PS X st y8:=λ_ _ _ _ _ _ h=>h.elim
theorem xW{qH:List Stmt}:fS X qH y8:=λ_ _ _ _ _ _ h=>h.elim
end
abbrev TG:=V→St→Hp→(St→Hp→Prop)→Prop
abbrev qX:=List V→St→Hp→(St→Hp→Prop)→Prop
def PG(X:Cx)(target:Expr)(t:TG):Prop:=
 ∀(pins:List (Addr×Obj))(s:Shared)(σ:St)(H:Hp)(v:V)(u:Value)(Q:St→Hp→Prop),Inv X pins σ H s→RelV v u→t v σ H Q→
  wpAny (model X.prog X.w) X.A (assign target X.env u) (λ_ s'=>∃ax H',Inv X pins ax H' s'∧Q ax H') X.xe s
def tw(X:Cx)(ts:List Expr)(t:qX):Prop:=
 ∀(pins:List (Addr×Obj))(s:Shared)(σ:St)(H:Hp)(vs:List V)(us:List Value)(Q:St→Hp→Prop),Inv X pins σ H s→Vals vs us→t vs σ H Q→
  wpAny (model X.prog X.w) X.A (assignInOrder ((assignEach ts X.env).map (·.2)) us) (λ_ s'=>∃ax H',Inv X pins ax H' s'∧Q ax H') X.xe s
abbrev Bh:=V→V→V→Hp→(Hp→Prop)→Prop
def Gg(X:Cx)(t:Bh):Prop:=
 ∀(pins:List (Addr×Obj))(s:Shared)(σ:St)(H:Hp)(o i v:V)(ov iv u:Value)(Q:Hp→Prop),Inv X pins σ H s→RelV o ov→RelV i iv→RelV v u→t o i v H Q→
  wpAny (model X.prog X.w) X.A (setItem ov iv u) (λ_ s'=>∃H',Inv X pins σ H' s'∧Q H') X.xe s
abbrev Ej:=V→V→Hp→VK→Prop
def Hr(X:Cx)(op:Operator)(t:Ej):Prop:=
 ∀(pins:List (Addr×Obj))(s:Shared)(σ:St)(H:Hp)(x y:V)(v u:Value)(Q:VK),Inv X pins σ H s→RelV x v→RelV y u→t x y H Q→
  wpAny (model X.prog X.w) X.A (inplaceOp op v u) (EP X pins σ Q) X.xe s
section
variable {X:Cx} {pos:Pos}
def B8(i:Nat):TG:=λv σ H Q=>Q (σ.set i (some v)) H
theorem j0{i:Nat}{x:Str}(hN:X.N.Nodup)(hi:X.N[i]? =some x)(hx:Loc X.env.scope x)(hf:X.fn x=true∨X.env.scope.names.lookup x=some .local:=by first|exact .inl rfl|exact .inr rfl|assumption):PG X (.Name x pos) (B8 i):=by
 intro pins s σ H v u Q I r h;exact wpAny_assign_Name (ku I hN hi hx r (λs' I'=>⟨_,H,I',h⟩) hf)
def Mp:qX:=λvs σ H Q=>vs= []∧Q σ H
def IB(t:TG)(u:qX):qX:=λvs σ H Q=>∃v r,vs=v::r∧t v σ H λax H'=>u r ax H' Q
theorem qr:tw X [] Mp:=by
 intro pins s σ H vs us Q I r h;obtain ⟨e,h⟩:=h;subst e;cases r;exact assignInOrder_nil ⟨σ,H,I,h⟩
theorem ko{e:Expr}{es:List Expr}{t:TG}{u:qX}(h1:PG X e t)(h2:tw X es u)
  (hs:(assignEach (e::es) X.env).map (·.2)=assign e X.env::(assignEach es X.env).map (·.2):=by rfl):tw X (e::es) (IB t u):=by
 intro pins s σ H vs us Q I r h;obtain ⟨v,vr,e1,h⟩:=h;subst e1;cases r with
 |cons r rr=>
  rw [hs];refine assignInOrder_cons (thn (h1 pins s σ H _ _ _ I r h) λ_ s1 ⟨yn,H1,I1,q1⟩=>?_);exact h2 pins s1 yn H1 _ _ Q I1 rr q1
def Mr(K:PySem.W.Frag)(n:Nat)(t:qX):TG:=λv σ H Q=>∃a xs,v= .ref a∧cj K H a xs∧xs.length=n∧t xs σ H Q
theorem uj{es:List Expr}{k:Nat}{t:qX}{n:Nat}(hc:X.calm=true)(h:tw X es t)
  (hn:(assignEach es X.env).length=n:=by rfl) (iH:(assignEach es X.env).findIdx? (·.1)=none:=by rfl):PG X (.Tuple es k pos) (Mr X.K n t):=by
 intro pins s σ H v u Q I r hw;obtain ⟨a,xs,e1,hq,hl,hw⟩:=hw;subst e1;cases r;obtain ⟨its,rv,ht,hz⟩:=I.tuple hq;refine assign_Tuple_tuple (I.ok.hd hc) ht (by simp [hn,←hl,rv.length]) iH λh' hx=>?_
 have I1:Inv X pins σ H {s with heap:=h'}:=I.kept (t':=s.toks) λb o e=>hx b o (bR (Heap.lt_size e)) e
 exact h pins _ σ H xs _ Q I1 (by simpa using rv) hw
def Mq(to ti:TE)(t:Bh):TG:=λv σ H Q=>to σ H λo H1=>ti σ H1 λi H2=>t o i v H2 λH3=>Q σ H3
theorem ui{o i:Expr}{to ti:TE}{t:Bh}(ho:PE X o to)(hi:PE X i ti)(hs:Gg X t)
  (ha:∀v,assign (.Subscript o i pos) X.env v=(do
   let ov ←holding [v] (eval o X.env)
   let iv ←holding [v,ov] (eval i X.env)
   standAt pos
   holding [v,ov,iv] (setItem ov iv v)
   release [v,ov,iv] []):=by intro _;rfl):PG X (.Subscript o i pos) (Mq to ti t):=by
 intro pins s σ H v u Q I r h;rw [ha];refine wpAny_bind (wpAny_holding (thn (ho pins s σ H _ I h) λov s1 ⟨x,H1,I1,r1,q1⟩=>?_));refine wpAny_bind (wpAny_holding (thn (hi pins s1 σ H1 _ I1 q1) λiv s2 ⟨y,H2,I2,r2,q2⟩=>?_));refine wpAny_bind (wpAny_standAt (wpAny_bind (wpAny_holding (thn (hs pins s2 σ H2 x y v ov iv u _ I2 r1 r2 r q2) λ_ s3 ⟨H3,I3,q3⟩=>?_))));exact wpAny_release ⟨σ,H3,I3,q3⟩
def Hi(te:TE)(g:TG):TS:=λD σ H=>te σ H λx H1=>g x σ H1 D.nx
theorem pA{tg e:Expr}{te:TE}{g:TG}(he:PE X e te)(hg:PG X tg g)(hs:swapsWithSole [tg] e pos.line X.env=pure false:=by rfl)(hw:swappedStores [tg] e X.env=pure none:=by rfl)
  (h1:(assignEach [tg] X.env).map (·.2)= [assign tg X.env]:=by rfl):PS X (.Assign [tg] e pos) (Hi te g):=by
 intro pins s σ H D I h;refine wpAny_Assign_stores (thn (he pins s σ H _ I h) λv s1 ⟨x,H1,I1,r1,q1⟩=>?_) hs hw;rw [h1];exact thn (hg pins s1 σ H1 x v _ I1 r1 q1) λ_ s2 q=>q
theorem cy{i:Nat}{x:Str}{e:Expr}{te:TE}{pos':Pos}(hN:X.N.Nodup)(hi:X.N[i]? =some x)(hx:Loc X.env.scope x)(he:PE X e te)(hs:swapsWith e (some (.Name x pos')) pos.line X.env=pure false:=by rfl)(hf:X.fn x=true∨X.env.scope.names.lookup x=some .local:=by first|exact .inl rfl|exact .inr rfl|assumption):
  PS X (.Assign [.Name x pos'] e pos) (Hi te (B8 i)):=by
 intro pins s σ H D I h;refine wpAny_Assign_Name (thn (he pins s σ H _ I h) λv s1 ⟨y,H1,I1,r1,q1⟩=>?_) hs;exact ku I1 hN hi hx r1 (λs2 I2=>⟨_,H1,I2,q1⟩) hf
def P6(i:Nat)(te:TE)(ti:Ej):TS:=λD σ H=>∃x,σ[i]? =some (some x)∧te σ H λy H1=>ti x y H1 λz H2=>D.nx (σ.set i (some z)) H2
theorem yS{i:Nat}{x:Str}{e:Expr}{te:TE}{op:Operator}{ti:Ej}{pos':Pos}(hN:X.N.Nodup)(hi:X.N[i]? =some x)(hx:Loc X.env.scope x)(he:PE X e te)(ho:Hr X op ti)(hf:X.fn x=true∨X.env.scope.names.lookup x=some .local:=by first|exact .inl rfl|exact .inr rfl|assumption):
  PS X (.AugAssign (.Name x pos') op e pos) (P6 i te ti):=by
 intro pins s σ H D I h;obtain ⟨v,e1,h⟩:=h;obtain ⟨m,hn,hl⟩:=I.loc;have uA:jJ X.env.scope x:=by rcases hx with k|k;exact .inl k;exact .inr (.inl k)
 obtain ⟨u,r,l⟩:=hl i x v hi e1 uA;refine wpAny_AugAssign_Name ?_
 have go:wpAny (model X.prog X.w) X.A (eval e X.env) (λw vS=>wpAny (model X.prog X.w) X.A (inplaceOp op u w) (λr vT=>wpAny (model X.prog X.w) X.A (storeName X.env x r) (λ_=>SP X pins D .next) X.xe vT) X.xe vS) X.xe s:=by
  refine thn (he pins s σ H _ I h) λw s1 ⟨y,H1,I1,r1,q1⟩=>?_;refine thn (ho pins s1 σ H1 v y u w _ I1 r r1 q1) λz s2 ⟨zv,H2,I2,r2,q2⟩=>?_;exact ku I2 hN hi hx r2 (λs3 I3=>⟨_,H2,I3,q2⟩) hf
 rcases l with ⟨hk,hm⟩ | ⟨hk,c,hc,tS⟩
 ·exact wpAny_loadName_local I.ok.kind hk hn hm go
 ·rcases hk with hk|hk
  ·exact wpAny_loadName_cell I.ok.kind hk hc tS go
  ·rcases hx with k|k
   ·have:X.env.scope.names.lookup x=some .free:=hk
    rw [k] at this;cases this
   ·have:X.env.scope.names.lookup x=some .free:=hk
    rw [k] at this;cases this
def M1(f:Int→Int→Int):Ej:=λx y H Q=>∃i j,x= .int i∧y= .int j∧Q (.int (f i j)) H
theorem ES:Hr X .Add (M1 λi j=>i+j):=by
 intro pins s σ H x y v u Q I r1 r2 h;obtain ⟨i,j,e1,e2,q⟩:=h;subst e1;subst e2;obtain ⟨t,rfl⟩:=r1;obtain ⟨t',rfl⟩:=r2;exact iadd_int ⟨.int _,H,I.tok _,⟨_,rfl⟩,q⟩
theorem ET:Hr X .Sub (M1 λi j=>i-j):=by
 intro pins s σ H x y v u Q I r1 r2 h;obtain ⟨i,j,e1,e2,q⟩:=h;subst e1;subst e2;obtain ⟨t,rfl⟩:=r1;obtain ⟨t',rfl⟩:=r2;exact isub_int ⟨.int _,H,I.tok _,⟨_,rfl⟩,q⟩
end
section
variable {X:Cx} {pos:Pos}
def y9(c:TT)(tb:TS):TS:=λD σ H=>∃W:Nat→St→Hp→Prop,(∃m,W m σ H)∧∀m σ H,W m σ H→
 c σ H λb H1=>if b=true then ∃N:St→Hp→Prop,(∀ax H',N ax H'→∃m',m'<m∧W m' ax H')∧tb {D with nx:=N,ct:=N,bk:=D.nx} σ H1 else D.nx σ H1
theorem sO{c:Expr}{body:List Stmt}{tc:TT}{tb:TS}(hp:PassesOwn (model X.prog X.w) X.A X.env X.xe)(hc:PT X c tc)(hb:fS X body tb):PS X (.While c body [] pos) (y9 tc tb):=by
 intro pins s σ H D I h;obtain ⟨W,⟨m0,w0⟩,turn⟩:=h;refine wpAny_While (codeAny_whileLoop (λn s'=>∃ax H',Inv X pins ax H' s'∧W n ax H') ?_ m0 ⟨σ,H,I,w0⟩);rintro n s1 ⟨yn,H1,I1,w1⟩;refine wpAny_passesOwn hp (thn (hc pins s1 yn H1 _ I1 (turn n yn H1 w1)) λb s2 ⟨H2,I2,q2⟩=>?_);cases b with
 |true=>
  obtain ⟨N,hN,q2⟩:=q2;rw [if_pos rfl];refine wpAny_passesOwn hp (thn (hb pins s2 yn H2 _ I2 q2) λf s3 q3=>?_);cases f with
  |next=>
   obtain ⟨oY,H3,I3,n3⟩:=q3;obtain ⟨m',hm,w3⟩:=hN oY H3 n3;exact ⟨m',hm,oY,H3,I3,w3⟩
  |cont=>
   obtain ⟨oY,H3,I3,n3⟩:=q3;obtain ⟨m',hm,w3⟩:=hN oY H3 n3;exact ⟨m',hm,oY,H3,I3,w3⟩
  |brk=>exact q3
  |ret v=>exact q3
 |false=>
  rw [if_neg fF];exact wpAny_execs_nil ⟨yn,H2,I2,q2⟩
end
structure It where
 go:Nat→Hp→Prop
 yld:Nat→Hp→V→Hp→Prop
 stop:Nat→Hp→Prop
def fm(X:Cx)(pins:List (Addr×Obj))(H:Hp)(b:Addr):Prop:=
 H b=none∧b≠X.env.locals∧b∉X.fs∧(b∈X.ex∨X.s₀.heap.objs.size≤b)∧(∀x c,X.env.cells.lookup x=some c→c≠b)∧∀p∈X.pn++pins,p.1≠b
theorem Inv.vc{X:Cx}{pins:List (Addr×Obj)}{σ:St}{H H':Hp}{s:Shared}{b:Addr}(I:Inv X pins σ H s)(hb:s.heap.objs.size≤b)(hn:H' b=none):fm X pins H' b:=by
 refine ⟨hn,tq (dS I.lt hb),I.Hb hb, .inr (fz I.sz hb),λx c e z=>?_,λp hp z=>?_⟩
 ·obtain ⟨v,q⟩:=I.cell x c e
  exact absurd (dS q.lt (by rw [z];exact hb)) (gE _)
 ·exact absurd (dS (Heap.lt_size (I.pin p hp).1) (by rw [z];exact hb)) (gE _)
structure Turn (P:Program) (w:World) (K:PySem.W.Frag) (tg:Expr) (J:It) (fp:List Addr) (it:Addr) (tn:Nat→Heap→Prop):Prop where
 mem:it∈fp
 obj:∀i h,tn i h→∀b∈fp,∃o,h.get? b=some o∧∀v,o.data≠ .cell v
 keep:∀i h h',tn i h→(∀b∈fp,∀o,h.get? b=some o→h'.get? b=some o)→tn i h'
 item:∀(X:Cx),X.prog=P→X.w=w→X.K=K→X.calm=true→∀(i:Nat)(pins:List (Addr×Obj))(s:Shared)(σ:St)(H:Hp)(E:Value→Shared→Prop),Inv X pins σ H s→(∀b∈fp,fm X pins H b)→tn i s.heap→J.go i H→
  wpAny (model P w) X.A (pyNext (.ref it)) (λr s1=>∃u,r=some u∧
   wpAny (model P w) X.A (letOwnedTupleGo tg (.ref it) u) (λ_ s2=>∃x H',Inv X pins σ H' s2∧RelV x u∧J.yld i H x H'∧tn (i+1) s2.heap∧∀b∈fp,H' b=none) E s1) E s
 done:∀(X:Cx),X.prog=P→X.w=w→X.K=K→X.calm=true→∀(i:Nat)(pins:List (Addr×Obj))(s:Shared)(σ:St)(H:Hp)(E:Value→Shared→Prop),Inv X pins σ H s→(∀b∈fp,fm X pins H b)→tn i s.heap→J.stop i H→
  wpAny (model P w) X.A (pyNext (.ref it)) (λr s1=>r=none∧Inv X pins σ H s1) E s
 self:∀(A:Around)(i:Nat)(s:Shared)(Q:Value→Shared→Prop)(E:Value→Shared→Prop),tn i s.heap→Q (.ref it) s→wpAny (model P w) A (pyIter (.ref it)) Q E s
abbrev TI:=St→Hp→(It→Hp→Prop)→Prop
def Ki(X:Cx)(pins:List (Addr×Obj))(σ:St)(tg:Expr)(R:It→Hp→Prop)(jX:Value)(s2:Shared):Prop:=
 ∃(it:Addr)(fp:List Addr)(tn:Nat→Heap→Prop)(J:It)(H':Hp),jX= .ref it∧Inv X pins σ H' s2∧Turn X.prog X.w X.K tg J fp it tn∧tn 0 s2.heap∧(∀b∈fp,fm X pins H' b)∧R J H'
def PI(X:Cx)(tg iter:Expr)(wi:TI):Prop:=
 ∀(pins:List (Addr×Obj))(s:Shared)(σ:St)(H:Hp)(R:It→Hp→Prop),Inv X pins σ H s→wi σ H R→
  wpAny (model X.prog X.w) X.A (eval iter X.env) (λv s1=>wpAny (model X.prog X.w) X.A (pyIter v) (Ki X pins σ tg R) X.xe s1) X.xe s
theorem xf{M:Model}{A:Around}{E:Value→Shared→Prop}{s:Shared}{tg:Expr}{it:Addr}{u:Value}{o:Obj}{n:String}{vs:Array Value}{Q:Unit→Shared→Prop}(ho:s.heap.get? it=some o)(hc:o.cls= .type n)(hd:o.data= .fields vs)
  (hn: ["enumerate","zip","dict_itemiterator","dict_reverseitemiterator","odict_iterator","itertools.zip_longest","itertools.pairwise"].contains n=false) (hQ:Q () s):wpAny M A (letOwnedTupleGo tg (.ref it) u) Q E s:=by
 unfold letOwnedTupleGo
 cases tg<;>first
  |exact wpAny_pure hQ
  | (cases u<;>first
    |exact wpAny_pure hQ
    | (refine wpAny_bind (wpAny_load ho ?_)
       rw [hc,hd];show wpAny M A (if (["enumerate","zip","dict_itemiterator","dict_reverseitemiterator","odict_iterator","itertools.zip_longest","itertools.pairwise"].contains n&&vs[0]? ==some (rawInt _))=true then _ else _) Q E s;rw [if_neg (by intro h;rw [hn,Bool.false_and] at h;cases h)]
       exact wpAny_pure hQ))
def zi(K:PySem.W.Frag)(a:Addr):It:=
 ⟨λi H=>∃xs x,bb K H a xs∧xs[i]? =some x,λi H x H'=>H'=H∧∀xs,bb K H a xs→xs[i]? =some x,λi H=>∃xs,bb K H a xs∧xs.length≤i⟩
def Bb(lo:Int)(n:Nat):It:=⟨λi _=>i<n,λi H x H'=>H'=H∧x= .int (lo+i),λi _=>n≤i⟩
theorem yi{P:Program}{w:World}{K:PySem.W.Frag}{tg:Expr}(a it:Addr):Turn P w K tg (zi K a) [it] it (λi h=>h.IsListIter it a i) where
 mem:=by simp
 obj:=λi h st b hb=>by
  have e:b=it:=by simpa using hb
  subst e;obtain ⟨o,e,c,d⟩:=st;exact ⟨o,e,λv z=>by rw [d] at z;cases z⟩
 keep:=λi h h' st k=>st.at λo e=>k it (by simp) o e
 item:=by
  intro X hP hw hK hc i pins s σ H E I hf st hg;subst hP hw hK;obtain ⟨xs,x,hq,hx⟩:=hg;obtain ⟨its,rv,p,hz⟩:=I.list hq;obtain ⟨u,hu,ru⟩:=rv.get hx;obtain ⟨f0,f1,f2,f3,f4,f5⟩:=hf it (by simp)
  refine wpAny_pyNext_list_item st p.isList (x:=u) (by simpa using hu) λh' uu sb=>?_
  have I1:Inv X pins σ H {s with heap:=h'}:=I.turned (t':=s.toks) (λb o hb e=>(sb.2 b hb).trans e) f0 f1 f3 f4 f5
  obtain ⟨o,e,c,d⟩:=id uu;exact ⟨u,rfl,xf (s:={s with heap:=h'}) e c d (by decide) ⟨x,H,I1,ru,⟨rfl,λys hy=>by rw [I.nQ hy hq];exact hx⟩,uu,λb hb=>(hf b hb).1⟩⟩
 done:=by
  intro X hP hw hK hc i pins s σ H E I hf st hg;subst hP hw hK;obtain ⟨xs,hq,hx⟩:=hg;obtain ⟨its,rv,p,hz⟩:=I.list hq;obtain ⟨f0,f1,f2,f3,f4,f5⟩:=hf it (by simp)
  have hl:=rv.length;exact wpAny_pyNext_list_end (I.ok.hd hc) st p.isList (by simp;omega) λh' eb=>⟨rfl,I.turned (t':=s.toks) (λb o hb e=>eb b o hb e) f0 f1 f3 f4 f5⟩
 self:=λ_ _ _ _ _ st h=>wpAny_pyIter_listiter st h
theorem vX{P:Program}{w:World}{K:PySem.W.Frag}{tg:Expr}(it:Addr)(lo:Int)(n:Nat):Turn P w K tg (Bb lo n) [it] it (λi h=>IsRangeIter h it (lo+(i:Nat)*1) ((n:Int)-(i:Nat)) 1) where
 mem:=by simp
 obj:=λi h st b hb=>by
  have e:b=it:=by simpa using hb
  subst e
  exact ⟨_,st,λv z=>by
   have z':Data.fields _=Data.cell v:=z;cases z'⟩
 keep:=λi h h' st k=>k it (by simp) _ st
 item:=by
  intro X hP hw hK hc i pins s σ H E I hf st hg;subst hP hw hK;obtain ⟨f0,f1,f2,f3,f4,f5⟩:=hf it (by simp)
  have W:=Walks.range (prog:=X.prog) (w:=X.w) (I.ok.hd hc) it lo 1 n;refine W.item i s _ _ hg st λv h' tk hv uu kk=>?_;obtain ⟨t,rfl⟩:=hv;have I1:Inv X pins σ H {s with heap:=h',toks:=tk}:=I.turned (λb o hb e=>kk b o (by simpa using hb) e) f0 f1 f3 f4 f5
  refine ⟨_,rfl,xf (s:={s with heap:=h',toks:=tk}) (n:="range_iterator") uu rfl rfl (by decide) ⟨.int (lo+i),H,I1,⟨t,?_⟩,⟨rfl,rfl⟩,uu,λb hb=>(hf b hb).1⟩⟩
  rw [Int.mul_one]
 done:=by
  intro X hP hw hK hc i pins s σ H E I hf st hg;subst hP hw hK;obtain ⟨f0,f1,f2,f3,f4,f5⟩:=hf it (by simp)
  exact wpAny_pyNext_range_end (I.ok.hd hc) st (by have:n≤i:=hg;omega) λh' eb=>⟨rfl,I.turned (t':=s.toks) (λb o hb e=>eb b o hb e) f0 f1 f3 f4 f5⟩
 self:=λ_ _ _ _ _ st h=>wpAny_pyIter_rangeiter st h
section
variable {X:Cx} {tg:Expr}
def Jq(K:PySem.W.Frag)(tl:TE):TI:=λσ H R=>tl σ H λx H1=>∃a,x= .ref a∧(∃xs,bb K H1 a xs)∧R (zi K a) H1
theorem vK{l:Expr}{tl:TE}(hl:PE X l tl):PI X tg l (Jq X.K tl):=by
 intro pins s σ H R I h;refine thn (hl pins s σ H _ I h) λv s1 ⟨x,H1,I1,r1,q1⟩=>?_;obtain ⟨a,e,⟨xs,hq⟩,q⟩:=q1;subst e;cases r1;obtain ⟨its,rv,p,hz⟩:=I1.list hq;refine wpAny_pyIter_list p.isList ?_;refine ⟨s1.heap.objs.size,[s1.heap.objs.size],_,_,H1,rfl,I1.kept (t':=s1.toks) λb o e=>Heap.get?_push_of_some _ e,yi a _,⟨_,Heap.get?_push_size _ rfl,rfl,rfl⟩,λb hb=>?_,q⟩;have e:b=s1.heap.objs.size:=by simpa using hb
 subst e;exact I1.vc (bL _) (I1.hok.fresh (bL _))
theorem sQ{pins:List (Addr×Obj)}{σ:St}{H:Hp}{s:Shared}{R:It→Hp→Prop}{E:Value→Shared→Prop}{lo hi:Int}{t u v:Tok}{tk:Nat}(I:Inv X pins σ H s)(h1: -(2^62)≤lo)(h2:lo<2^62)(h3: -(2^62)≤hi)(h4:hi<2^62)
  (q:R (Bb lo (hi-lo).toNat) H):wpAny (model X.prog X.w) X.A (pyIter (.ref s.heap.objs.size)) (Ki X pins σ tg R) E {s with heap:=s.heap.push {cls:= .type "range",data:= .fields #[.int lo t, .int hi u, .int 1 v]},toks:=tk}:=by
 refine wpAny_pyIter_range (IsRange.new ..) (small_one h1 h2 h3 h4) ?_;have I1:Inv X pins σ H {s with heap:=s.heap.push {cls:= .type "range",data:= .fields #[.int lo t, .int hi u, .int 1 v]},toks:=tk}:=I.kept λb o e=>Heap.get?_push_of_some _ e
 refine ⟨(s.heap.push {cls:= .type "range",data:= .fields #[.int lo t, .int hi u, .int 1 v]}).objs.size,[(s.heap.push {cls:= .type "range",data:= .fields #[.int lo t, .int hi u, .int 1 v]}).objs.size],_,_,H,rfl,
  I1.kept (t':=tk) λb o e=>Heap.get?_push_of_some _ e,vX _ lo (hi-lo).toNat,?_,λb hb=>?_,q⟩
 ·have e1:lo+((0:Nat):Int)*1=lo:=by simp
  have e2:(((hi-lo).toNat:Nat):Int)-((0:Nat):Int)=Builtin.Range.rangeSize lo hi 1:=by rw [rangeSize_one];split<;>omega
  show IsRangeIter _ _ (lo+((0:Nat):Int)*1) ((((hi-lo).toNat:Nat):Int)-((0:Nat):Int)) 1;rw [e1,e2];exact Heap.get?_push_size _ rfl
 ·have e:b=(s.heap.push {cls:= .type "range",data:= .fields #[.int lo t, .int hi u, .int 1 v]}).objs.size:=by simpa using hb
  subst e;exact I1.vc (bL _) (I1.hok.fresh (bL _))
def Jr(ta:TA):TI:=λσ H R=>ta σ H λvs H1=>∃j:Int,vs= [.int j]∧-(2^62)≤j∧j<2^62∧R (Bb 0 j.toNat) H1
def Js(ta:TA):TI:=λσ H R=>ta σ H λvs H1=>∃i j:Int,vs= [.int i, .int j]∧(-(2^62)≤i∧i<2^62∧-(2^62)≤j∧j<2^62)∧R (Bb i (j-i).toNat) H1
theorem qs{a:Expr}{ta:TA}{p pos:Pos}(hg:Gl X "range")(hm:X.mg "range"=none)(ha:PA X [a] ta)(hs:starEach [a] X.env= [(false,eval a X.env)]:=by rfl):PI X tg (.Call (.Name "range" p) [a] [] pos) (Jr ta):=by
 intro pins s σ H R I h;refine Call_ (gT I hg hm boot_range (PyProof.Rows.callWith_type1 (thn (ha pos pins s σ H _ I h) λus s1 ⟨vs,H1,I1,r1,q1⟩=>?_) hs rfl));obtain ⟨j,e,q1,q2,q⟩:=q1;subst e;cases r1 with
 |cons r rr=>
  cases rr;obtain ⟨t,rfl⟩:=r;exact call_range_1 (sQ I1 (by omega) (by omega) q1 q2 (by simpa using q))
theorem xU{a b:Expr}{ta:TA}{p pos:Pos}(hg:Gl X "range")(hm:X.mg "range"=none)(ha:PA X [a,b] ta)(hs:starEach [a,b] X.env= [(false,eval a X.env),(false,eval b X.env)]:=by rfl)(fL:starEach [b] X.env= [(false,eval b X.env)]:=by rfl):
  PI X tg (.Call (.Name "range" p) [a,b] [] pos) (Js ta):=by
 intro pins s σ H R I h;refine Call_ (gT I hg hm boot_range (PyProof.Rows.callWith_type1 (thn (ha pos pins s σ H _ I h) λus s1 ⟨vs,H1,I1,r1,q1⟩=>?_) (by rw [hs,fL]) (by rw [fL];rfl)))
 obtain ⟨i,j,e,⟨q1,q2,q3,q4⟩,q⟩:=q1;subst e;cases r1 with
 |cons r rr=>
  cases rr with
  |cons r' rr=>
   cases rr;obtain ⟨t,rfl⟩:=r;obtain ⟨t',rfl⟩:=r';exact call_range_2 (sQ I1 q1 q2 q3 q4 q)
def Qa(wi:TI)(g:TG)(tb:TS):TS:=λD σ H=>wi σ H λJ H1=>∃W:Nat→Nat→St→Hp→Prop,(∃m,W 0 m σ H1)∧∀i m σ H,W i m σ H→
 (J.stop i H∧D.nx σ H)∨(J.go i H∧∃N:St→Hp→Prop,(∀ax H',N ax H'→∃m',m'<m∧W (i+1) m' ax H')∧∀x H',J.yld i H x H'→g x σ H' λfe H2=>tb {D with nx:=N,ct:=N,bk:=D.nx} fe H2)
def mQ(fp:List Addr)(h:Heap):List (Addr×Obj):=fp.filterMap λb=>(h.get? b).map λo=>(b,o)
theorem gW{fp:List Addr}{h:Heap}{b:Addr}{o:Obj}(hb:b∈fp)(e:h.get? b=some o):(b,o)∈mQ fp h:=List.mem_filterMap.mpr ⟨b,hb,by rw [e];rfl⟩
theorem xO{fp:List Addr}{h:Heap}{p:Addr×Obj}(hp:p∈mQ fp h):p.1∈fp∧h.get? p.1=some p.2:=by
 obtain ⟨b,hb,e⟩:=List.mem_filterMap.mp hp;cases q:h.get? b with
 |none=>rw [q] at e;cases e
 |some o=>
  rw [q] at e;have e':(b,o)=p:=Option.some.inj e;subst e';exact ⟨hb,q⟩
theorem Inv.pinned{pins:List (Addr×Obj)}{σ:St}{H:Hp}{s:Shared}{fp:List Addr}(I:Inv X pins σ H s)(hf:∀b∈fp,fm X pins H b)(ho:∀b∈fp,∃o,s.heap.get? b=some o∧∀v,o.data≠ .cell v):Inv X (pins++mQ fp s.heap) σ H s:=
 I.mR λp hp=>(sZ.mp hp).elim (λz=>I.pin p (fK _ z)) λz=>by
  obtain ⟨hb,e⟩:=xO z;obtain ⟨f0,f1,f2,_⟩:=hf p.1 hb;obtain ⟨o,e',d⟩:=ho p.1 hb;rw [e] at e';cases e';exact ⟨e,f0,f1,f2,d⟩
theorem Inv.kv{pins pl:List (Addr×Obj)}{σ:St}{H:Hp}{s:Shared}(I:Inv X (pins++pl) σ H s):Inv X pins σ H s:=I.mR λp hp=>I.pin p (fK _ (kc _ hp))
theorem pB{iter:Expr}{body:List Stmt}{wi:TI}{g:TG}{tb:TS}{pos:Pos}(hp:PassesOwn (model X.prog X.w) X.A X.env X.xe)(hc:X.calm=true)(hi:PI X tg iter wi)(hg:PG X tg g)(hb:fS X body tb)
  (hs:∀x,foldedSetIterable iter X.env x=pure x:=by intro _;rfl):PS X (.For tg iter body [] pos) (Qa wi g tb):=by
 intro pins s σ H D I h;refine wpAny_For (thn (hi pins s σ H _ I h) λv s1 h1=>thn h1 λjX s2 h2=>?_) hs;obtain ⟨it,fp,tn,J,H2,e,I2,T,iT,f2,W,⟨m0,w0⟩,turn⟩:=h2;subst e;have stat:∀{H':Hp},(∀b∈fp,H' b=none)→∀b∈fp,fm X pins H' b:=λhn b hb=>⟨hn b hb,(f2 b hb).2⟩;refine codeAny_forLoop_any (λn s'=>∃i ax H',Inv X pins ax H' s'∧tn i s'.heap∧(∀b∈fp,H' b=none)∧W i n ax H') ?_ m0 ⟨0,σ,H2,I2,iT,λb hb=>(f2 b hb).1,w0⟩;rintro n s3 ⟨i,oY,H3,I3,DZ,Mo,w3⟩
 rcases turn i n oY H3 w3 with ⟨stop,qn⟩ | ⟨go,N,hN,step⟩
 ·refine wpAny_passesOwn hp (thn (T.done X rfl rfl rfl hc i pins s3 oY H3 X.xe I3 (stat Mo) DZ stop) λr s4 ⟨hr,I4⟩=>?_)
  subst hr;exact wpAny_execs_nil ⟨oY,H3,I4,qn⟩
 ·refine wpAny_passesOwn hp (thn (T.item X rfl rfl rfl hc i pins s3 oY H3 X.xe I3 (stat Mo) DZ go) λr s4 ⟨u,hr,h4⟩=>?_)
  subst hr;refine wpAny_passesOwn hp (thn h4 λ_ s5 ⟨x,H5,I5,r5,y5,A3,EE⟩=>?_);have Hn:=I5.pinned (stat EE) (T.obj _ _ A3);refine wpAny_passesOwn hp (thn (hg _ s5 oY H5 x u _ Hn r5 (step x H5 y5)) λ_ s6 ⟨Xd,H6,I6,q6⟩=>?_);refine wpAny_passesOwn hp (thn (hb _ s6 Xd H6 _ I6 q6) λf s7 q7=>?_)
  have again:∀{qS:St}{H7:Hp},Inv X (pins++mQ fp s5.heap) qS H7 s7→N qS H7→∃m,m<n∧∃i ax H',Inv X pins ax H' s7∧tn i s7.heap∧(∀b∈fp,H' b=none)∧W i m ax H':=λ {qS H7} I7 n7=>by
   obtain ⟨m',hm,w7⟩:=hN qS H7 n7;refine ⟨m',hm,i+1,qS,H7,I7.kv,T.keep _ _ _ A3 λb hb o e=>(I7.pin (b,o) (fK _ (fK _ (gW hb e)))).1,λb hb=>?_,w7⟩;obtain ⟨o,e,d⟩:=T.obj _ _ A3 b hb;exact (I7.pin (b,o) (fK _ (fK _ (gW hb e)))).2.1
  cases f with
  |next=>obtain ⟨qS,H7,I7,n7⟩:=q7;exact again I7 n7
  |cont=>obtain ⟨qS,H7,I7,n7⟩:=q7;exact again I7 n7
  |brk=>obtain ⟨qS,H7,I7,q7⟩:=q7;exact ⟨qS,H7,I7.kv,q7⟩
  |ret v=>obtain ⟨x7,qS,H7,I7,r7,q7⟩:=q7;exact ⟨x7,qS,H7,I7.kv,r7,q7⟩
end
theorem sf{K:PySem.W.Frag}{a:Addr}{xs:List V}{g:TG}{tb:TS}{D:Ends}{σ:St}{H:Hp}(Pv:Nat→St→Hp→Prop)(h0:Pv 0 σ H)(hl:∀i σ H,i≤xs.length→Pv i σ H→bb K H a xs)
  (hs:∀i x σ H,xs[i]? =some x→Pv i σ H→g x σ H λfe H2=>tb {D with nx:=Pv (i+1),ct:=Pv (i+1),bk:=D.nx} fe H2) (hd:∀σ H,Pv xs.length σ H→D.nx σ H):
  ∃W:Nat→Nat→St→Hp→Prop,(∃m,W 0 m σ H)∧∀i m σ H,W i m σ H→
   ((zi K a).stop i H∧D.nx σ H)∨((zi K a).go i H∧∃N:St→Hp→Prop,(∀ax H',N ax H'→∃m',m'<m∧W (i+1) m' ax H')∧∀x H',(zi K a).yld i H x H'→g x σ H' λfe H2=>tb {D with nx:=N,ct:=N,bk:=D.nx} fe H2):=by
 refine ⟨λi m σ H=>m=xs.length-i∧i≤xs.length∧Pv i σ H,⟨xs.length,by simp,iW _,h0⟩,?_⟩
 rintro i m σ H ⟨rfl,hi,p⟩;have q:=hl i σ H hi p
 by_cases eU:i<xs.length
 ·refine .inr ⟨⟨xs,xs[i],q,by simp [eU]⟩,Pv (i+1),λax H' p'=>⟨xs.length-(i+1),by omega,rfl,eU,p'⟩,λx H' y=>?_⟩
  obtain ⟨e,y⟩:=y;subst e;exact hs i x σ _ (y xs q) p
 ·have e:i=xs.length:=by omega
  subst e;exact .inl ⟨⟨xs,q,bL _⟩,hd σ H p⟩
abbrev R2:=V→V→Hp→VK→Prop
def OpR(X:Cx)(f:Value→Value→Sem Value)(r:R2):Prop:=
 ∀(pins:List (Addr×Obj))(s:Shared)(σ:St)(H:Hp)(x y:V)(v u:Value)(Q:VK),Inv X pins σ H s→RelV x v→RelV y u→r x y H Q→
  wpAny (model X.prog X.w) X.A (f v u) (EP X pins σ Q) X.xe s
def bP(X:Cx)(f:Value)(r:List V→Hp→VK→Prop):Prop:=
 ∀(pins:List (Addr×Obj))(s:Shared)(σ:St)(H:Hp)(xs:List V)(us:List Value)(Q:VK),Inv X pins σ H s→Vals xs us→r xs H Q→
  wpAny (model X.prog X.w) X.A (call f us) (EP X pins σ Q) X.xe s
def Km(X:Cx)(r:V→Hp→(Bool→Hp→Prop)→Prop):Prop:=
 ∀(pins:List (Addr×Obj))(s:Shared)(σ:St)(H:Hp)(x:V)(v:Value)(Q:Bool→Hp→Prop),Inv X pins σ H s→RelV x v→r x H Q→
  wpAny (model X.prog X.w) X.A (truthy v) (TP X pins σ Q) X.xe s
def D5(r:R2)(ta tb:TE):TE:=λσ H Q=>ta σ H λx H1=>tb σ H1 λy H2=>r x y H2 Q
def rI(C:Int→Int→Prop)(g:Int→Int→V):R2:=λx y H Q=>∃i j,x= .int i∧y= .int j∧C i j∧Q (g i j) H
def uq(g:Int→Int→V):R2:=λx y H Q=>∃i j,x= .int i∧y= .int j∧Q (g i j) H
section
variable {X:Cx} {a b c:Expr} {ta tb tc:TE} {pos:Pos}
theorem Bp(ha:PE X a ta)(hb:PE X b tb){pins:List (Addr×Obj)}{s:Shared}{σ:St}{H:Hp}{R:V→V→Hp→Prop}(I:Inv X pins σ H s)
  (h:ta σ H λx H1=>tb σ H1 λy H2=>R x y H2) {Q:Value→Shared→Prop} {f:Value→Value→Sem Value}
  (hf:∀v u s2 x y H2,Inv X pins σ H2 s2→RelV x v→RelV y u→R x y H2→wpAny (model X.prog X.w) X.A (f v u) Q X.xe s2):
  wpAny (model X.prog X.w) X.A (eval a X.env) (λv s₁=>wpAny (model X.prog X.w) X.A (eval b X.env) (λu vS=>wpAny (model X.prog X.w) X.A (f v u) Q X.xe vS) X.xe s₁) X.xe s:=by
 refine thn (ha pins s σ H _ I h) λv s1 ⟨x,H1,I1,r1,q1⟩=>?_;refine thn (hb pins s1 σ H1 _ I1 q1) λu s2 ⟨y,H2,I2,r2,q2⟩=>?_;exact hf v u s2 x y H2 I2 r1 r2 q2
theorem Dj{op:Operator}{r:R2}(ho:OpR X (binaryOp op) r)(ha:PE X a ta)(hb:PE X b tb):PE X (.BinOp a op b pos) (D5 r ta tb):=by
 intro pins s σ H Q I h;exact wpAny_BinOp (Bp ha hb I h λv u s2 x y H2 I2 rx ry q=>ho pins s2 σ H2 x y v u Q I2 rx ry q)
theorem Ff{f:Value→Value→Sem Value}{C:Int→Int→Prop}{g:Int→Int→Int}
  (rule:∀(i j:Int)(t u:Tok)(s:Shared)(Q:Value→Shared→Prop)(E:Value→Shared→Prop),C i j→Q (.int (g i j) s.toks) {s with toks:=s.toks+1}→wpAny (model X.prog X.w) X.A (f (.int i t) (.int j u)) Q E s):
  OpR X f (rI C λi j=> .int (g i j)):=by
 intro pins s σ H x y v u Q I rx ry h;obtain ⟨i,j,rfl,rfl,hc,q⟩:=h;obtain ⟨t,rfl⟩:=rx;obtain ⟨t',rfl⟩:=ry;exact rule i j t t' s _ _ hc ⟨.int (g i j),H,I.tok _,⟨_,rfl⟩,q⟩
theorem He{f:Value→Value→Sem Value}{g:Int→Int→Int}
  (rule:∀(i j:Int)(t u:Tok)(s:Shared)(Q:Value→Shared→Prop)(E:Value→Shared→Prop),Q (.int (g i j) s.toks) {s with toks:=s.toks+1}→wpAny (model X.prog X.w) X.A (f (.int i t) (.int j u)) Q E s):
  OpR X f (uq λi j=> .int (g i j)):=by
 intro pins s σ H x y v u Q I rx ry h;obtain ⟨i,j,rfl,rfl,q⟩:=h;obtain ⟨t,rfl⟩:=rx;obtain ⟨t',rfl⟩:=ry;exact rule i j t t' s _ _ ⟨.int (g i j),H,I.tok _,⟨_,rfl⟩,q⟩
theorem C8{f:Value→Value→Sem Value}{g:Int→Int→Bool}
  (rule:∀(i j:Int)(t u:Tok)(s:Shared)(Q:Value→Shared→Prop)(E:Value→Shared→Prop),Q (.bool (g i j)) s→wpAny (model X.prog X.w) X.A (f (.int i t) (.int j u)) Q E s):
  OpR X f (uq λi j=> .bl (g i j)):=by
 intro pins s σ H x y v u Q I rx ry h;obtain ⟨i,j,rfl,rfl,q⟩:=h;obtain ⟨t,rfl⟩:=rx;obtain ⟨t',rfl⟩:=ry;exact rule i j t t' s _ _ ⟨.bl (g i j),H,I,rfl,q⟩
def Gb(i j:Int):Prop:=0<j∧j<1073741824
def Gd(i j:Int):Prop:=0≤j∧j≤1000000∧i.natAbs<2^64
def yo(i j:Int):Prop:=(-(2^64)<i∧i<2^64)∨(-(2^64)<j∧j<2^64)
theorem yo.ok{i j:Int}(h:yo i j):IntMulOk i j:=by
 rcases h with ⟨h1,h2⟩ | ⟨h1,h2⟩
 ·exact .of_left (intBits_le_64 h1 h2)
 ·exact .of_right (intBits_le_64 h1 h2)
theorem yP:OpR X (binaryOp .Add) (uq λi j=> .int (i+j)):=He λ_ _ _ _ _ _ _ q=>add_int q
theorem Fp:OpR X (binaryOp .Sub) (uq λi j=> .int (i-j)):=He λ_ _ _ _ _ _ _ q=>sub_int q
theorem Fl:OpR X (binaryOp .Mult) (rI yo λi j=> .int (i*j)):=Ff λ_ _ _ _ _ _ _ hc q=>mul_int q hc.ok
theorem Dc:OpR X (binaryOp .FloorDiv) (rI Gb λi j=> .int (i / j)):=Ff λi j _ _ _ _ _ hc q=>by
 have h1:(0:Int)<j:=hc.1;have h2:j<1073741824:=hc.2;exact floordiv_int (by omega) (by rw [Int.fdiv_eq_ediv_of_nonneg i (by omega)];exact q) (.inl (PyProof.noPylong_small (by omega)))
theorem Fj:OpR X (binaryOp .Mod) (rI (λ_ j=>0<j) λi j=> .int (i%j)):=Ff λi j _ _ _ _ _ hc q=>by
 have h1:(0:Int)<j:=hc;exact mod_int' (by omega) (by rw [Int.fmod_eq_emod_of_nonneg i (by omega)];exact q)
theorem Fn:OpR X (binaryOp .Pow) (rI Gd λi j=> .int (i^j.toNat)):=Ff λ_ _ _ _ _ _ _ hc q=>pow_int_small hc.1 hc.2.1 hc.2.2 q
end
section
variable {X:Cx} {a b c:Expr} {ta tb tc:TE} {pos:Pos}
theorem tQ{pins:List (Addr×Obj)}{σ:St}{H:Hp}{s:Shared}{Q:VK}{k k':Bool}(I:Inv X pins σ H s)(q:Q (.bl k) H)(e:k=k'):EP X pins σ Q (.bool k') s:=by
 subst e;exact ⟨.bl k,H,I,rfl,q⟩
theorem De:OpR X (compareOp .Lt) (uq λi j=> .bl (decide (i<j))):=C8 λ_ _ _ _ _ _ _ q=>lt_int q
theorem JE:OpR X (compareOp .LtE) (uq λi j=> .bl (decide (i≤j))):=C8 λ_ _ _ _ _ _ _ q=>le_int q
theorem JD:OpR X (compareOp .Gt) (uq λi j=> .bl (decide (j<i))):=C8 λ_ _ _ _ _ _ _ q=>gt_int q
theorem Fi:OpR X (compareOp .Is) (λx y H Q=>y= .aN∧Q (.bl (decide (x= .aN))) H):=by
 intro pins s σ H x y v u Q I rx ry h;obtain ⟨rfl,q⟩:=h;cases ry;refine is_none_gen (tQ I q ?_)
 cases x<;>first
  | (cases rx;rfl)
  | (obtain ⟨t,rfl⟩:=rx;rfl)
theorem Df:OpR X (compareOp .IsNot) (λx y H Q=>y= .aN∧Q (.bl (!decide (x= .aN))) H):=by
 intro pins s σ H x y v u Q I rx ry h;obtain ⟨rfl,q⟩:=h;cases ry;refine isnot_none_gen (tQ I q ?_)
 cases x<;>first
  | (cases rx;rfl)
  | (obtain ⟨t,rfl⟩:=rx;rfl)
theorem OpR.or{f:Value→Value→Sem Value}{r r':R2}(h:OpR X f r)(h':OpR X f r'):OpR X f (λx y H Q=>r x y H Q∨r' x y H Q):=by
 intro pins s σ H x y v u Q I rx ry q
 rcases q with q|q
 ·exact h pins s σ H x y v u Q I rx ry q
 ·exact h' pins s σ H x y v u Q I rx ry q
theorem aM(b:Expr){op:CmpOp}(h:op≠ .In:=by decide)(h2:op≠ .NotIn:=by decide):behindInMarks op b=false:=by
 have e1:(op==CmpOp.In)=false:=by cases op<;>first|rfl|exact absurd rfl h
 have e2:(op==CmpOp.NotIn)=false:=by cases op<;>first|rfl|exact absurd rfl h2
 cases b<;>simp [behindInMarks,e1,e2]
theorem Dg{op:CmpOp}{r:R2}(ho:OpR X (compareOp op) r)(ha:PE X a ta)(hb:PE X b tb)(hm:behindInMarks op b=false):PE X (.Compare a [op] [b] pos) (D5 r ta tb):=by
 intro pins s σ H Q I h;exact wpAny_Compare1 (Bp ha hb I h λv u s2 x y H2 I2 rx ry q=>ho pins s2 σ H2 x y v u Q I2 rx ry q) hm
def yf(t:TE):TT:=λσ H Q=>t σ H λx H'=>∃k,x= .bl k∧Q k H'
theorem vM{op:CmpOp}{r:R2}(ho:OpR X (compareOp op) r)(ha:PE X a ta)(hb:PE X b tb)(hm:behindInMarks op b=false):PT X (.Compare a [op] [b] pos) (yf (D5 r ta tb)):=by
 intro pins s σ H Q I h
 refine wpAny_isTrue_Compare1 (thn (ha pins s σ H _ I h) λv s1 ⟨x,H1,I1,r1,q1⟩=>thn (hb pins s1 σ H1 _ I1 q1) λu s2 ⟨y,H2,I2,r2,q2⟩=>
  thn (ho pins s2 σ H2 x y v u _ I2 r1 r2 q2) λc s3 ⟨z,H3,I3,r3,k,e,q3⟩=>?_) hm
 subst e;cases r3;exact wpAny_truthy_bool ⟨H3,I3,q3⟩
def ux(r r':R2)(ta tb tc:TE):TE:=λσ H Q=>ta σ H λx H1=>tb σ H1 λy H2=>r x y H2 λz H3=>∃k,z= .bl k∧
 (if k=true then tc σ H3 λw' H4=>r' y w' H4 Q else Q (.bl false) H3)
theorem AH{op lH:CmpOp}{r r':R2}(ho:OpR X (compareOp op) r)(lh:OpR X (compareOp lH) r')(ha:PE X a ta)(hb:PE X b tb)(hc:PE X c tc)
  (hm:lastMarks [op,lH] [b,c]=false:=by with_unfolding_all rfl):PE X (.Compare a [op,lH] [b,c] pos) (ux r r' ta tb tc):=by
 intro pins s σ H Q I h
 refine Compare_chain (thn (ha pins s σ H _ I h) λv s1 ⟨x,H1,I1,r1,q1⟩=>chain_link (thn (hb pins s1 σ H1 _ I1 q1) λu s2 ⟨y,H2,I2,r2,q2⟩=>
  thn (ho pins s2 σ H2 x y v u _ I2 r1 r2 q2) λd s3 ⟨z,H3,I3,r3,k,e,q3⟩=>?_)) hm
 subst e;cases r3;refine wpAny_truthy_bool ?_;cases k with
 |false=>exact ite_ff ⟨.bl false,H3,I3,rfl,q3⟩
 |true=>exact ite_tt (chain_last (thn (hc pins s3 σ H3 _ I3 q3) λw' s4 ⟨z',H4,I4,r4,q4⟩=>lh pins s4 σ H4 y z' u w' Q I4 r2 r4 q4))
theorem AR{op lH:CmpOp}{r r':R2}(ho:OpR X (compareOp op) r)(lh:OpR X (compareOp lH) r')(ha:PE X a ta)(hb:PE X b tb)(hc:PE X c tc)
  (hm:lastMarks [op,lH] [b,c]=false:=by with_unfolding_all rfl):PT X (.Compare a [op,lH] [b,c] pos) (yf (ux r r' ta tb tc)):=by
 intro pins s σ H Q I h
 refine isTrue_chain (thn (ha pins s σ H _ I h) λv s1 ⟨x,H1,I1,r1,q1⟩=>test_link (thn (hb pins s1 σ H1 _ I1 q1) λu s2 ⟨y,H2,I2,r2,q2⟩=>
  thn (ho pins s2 σ H2 x y v u _ I2 r1 r2 q2) λd s3 ⟨z,H3,I3,r3,k,e,q3⟩=>?_)) hm
 subst e;cases r3;refine wpAny_truthy_bool ?_;cases k with
 |false=>
  obtain ⟨k',e',q'⟩:=q3;cases e';exact ite_ff ⟨H3,I3,q'⟩
 |true=>
  refine ite_tt (test_last (thn (hc pins s3 σ H3 _ I3 q3) λw' s4 ⟨z',H4,I4,r4,q4⟩=>thn (lh pins s4 σ H4 y z' u w' _ I4 r2 r4 q4) λd' s5 ⟨z2,H5,I5,r5,k2,e2,q5⟩=>?_));subst e2;cases r5;exact wpAny_truthy_bool ⟨H5,I5,q5⟩
def Bi(K:PySem.W.Frag)(x:V)(H:Hp)(k:Bool):Prop:=
 match x with
 | .aN=>k=false
 | .bl b=>k=b
 | .int i=>k=(i !=0)
 | .str y=>y.length≤sizeLine∧k=((y.length:Int) !=0)
 | .zr y=>y.size≤sizeLine∧k=((y.size:Int) !=0)
 | .ref p=>(∃xs,bb K H p xs∧k= !xs.isEmpty)∨(∃xs,cj K H p xs∧k= !xs.isEmpty)∨∃b9,H p=some (.dK b9)∧k= !b9.isEmpty
 |_=>False
theorem vo{κ:Type}{b9:List (κ×V)}{vs:List (κ×Value)}(r:KV b9 vs):(!vs.isEmpty)= !b9.isEmpty:=by
 cases r<;>rfl
theorem oA{xs:List V}{its:List Value}(r:Vals xs its):(!its.toArray.isEmpty)= !xs.isEmpty:=by
 cases r<;>simp
theorem kj:(sizeLine:Nat)<2^63:=by rw [sizeLine_eq];decide
theorem za:Km X (λx H Q=>∃k,Bi X.K x H k∧Q k H):=by
 intro pins s σ H x v Q I rx h;obtain ⟨k,e,q⟩:=h;have hl:=kj;have hs:sizeLine=16777216:=sizeLine_eq;cases x with
 |aN=>
  cases rx;have e':k=false:=e;subst e';exact truthy_none ⟨H,I,q⟩
 |bl b=>
  cases rx;have e':k=b:=e;subst e';exact wpAny_truthy_bool ⟨H,I,q⟩
 |int i=>
  obtain ⟨t,rfl⟩:=rx;have e':k=(i !=0):=e;subst e';exact PySem.P.truthy_int ⟨H,I,q⟩
 |str y=>
  obtain ⟨t,rfl⟩:=rx;obtain ⟨hy,e'⟩:y.length≤sizeLine∧k=((y.length:Int) !=0):=e;subst e';exact PySem.P.truthy_str (by omega) ⟨H,I.tok _,q⟩
 |zr y=>
  obtain ⟨t,rfl⟩:=rx;obtain ⟨hy,e'⟩:y.size≤sizeLine∧k=((y.size:Int) !=0):=e;subst e';exact PySem.W.truthy_bytes (by omega) ⟨H,I.tok _,q⟩
 |ref p=>
  cases rx;have e':(∃xs,bb X.K H p xs∧k= !xs.isEmpty)∨(∃xs,cj X.K H p xs∧k= !xs.isEmpty)∨∃b9,H p=some (.dK b9)∧k= !b9.isEmpty:=e
  rcases e' with ⟨xs,hx,e'⟩ | ⟨xs,hx,e'⟩ | ⟨b9,hx,e'⟩
  ·subst e'
   obtain ⟨its,r,pl,hz⟩:=I.list hx;have hlen:=r.length;exact wpAny_truthy_list pl.isList (by simp only [cp];omega) ⟨H,I.tok _,by rw [oA r];exact q⟩
  ·subst e'
   obtain ⟨its,r,pl,hz⟩:=I.tuple hx;have hlen:=r.length;exact truthy_tuple pl (by simp only [cp];omega) ⟨H,I.tok _,by rw [oA r];exact q⟩
  ·subst e'
   obtain ⟨hz,hS,vs,r,m⟩:b9.length≤sizeLine∧(p==sysModules)=false∧∃vs,KV b9 vs∧s.heap.DictOf (qc X.prog X.w) p vs:=I.hok p _ hx;have hlen:b9.length=vs.length:=Paired.length r;exact wpAny_truthy_dict hS m (by omega) ⟨H,I.tok _,by rw [vo r];exact q⟩
 |_=>exact (show False from e).elim
theorem AS(ha:PE X a ta)(he:∀whole,isTrue a X.env whole=(do let v ←whole;standAt a.pos;holding [v] (truthy v))):
  PT X a (λσ H Q=>ta σ H λx H'=>∃k,Bi X.K x H' k∧Q k H'):=by
 intro pins s σ H Q I h;exact isTrue_plain (thn (ha pins s σ H _ I h) λv s1 ⟨x,H1,I1,r1,q1⟩=>za pins s1 σ H1 x v Q I1 r1 q1) (he _)
theorem vals1{x:V}{us:List Value}(r:Vals [x] us):∃u,us= [u]∧RelV x u:=by
 cases r with
 |cons r1 r2=>cases r2;exact ⟨_,rfl,r1⟩
end
structure pF (h:Heap) (x dx C:Addr) (mA:Str→Option Value):Prop where
 obj:h.get? x=some (PySem.W.instObj C dx)
 ns:h.Ns1 dx mA
 ne:dx≠x
theorem qa{h:Heap}{dx:Addr}{mA:Str→Option Value}(n:h.Ns1 dx mA):∃od,h.get? dx=some od∧∀name,PySem.W.lookIn name od=some (mA name):=by
 obtain ⟨o,es,ep,ho,hd,hk,_,hm⟩:=n;refine ⟨o,ho,λname=>?_⟩;have e:=hm name;unfold nsFind findBy at e;rw [←Array.find?_toList] at e;unfold PySem.W.lookIn;rw [hd];dsimp only
 split
 ·rename_i y q
  rw [q] at e;exact congrArg some e
 ·rename_i q
  rw [q] at e
  have a:es.toList.any (·.refKey)=false:=by
   rw [List.any_eq_false];intro y hy;obtain ⟨z,t,MI⟩:=hk y (Array.mem_toList_iff.mp hy);simp [DictEntry.refKey,MI]
  have a':¬es.toList.any (·.refKey)=true:=by rw [a];exact fF
  rw [if_neg a'];exact congrArg some e
theorem pF.look{h:Heap}{x dx C:Addr}{mA:Str→Option Value}(I:pF h x dx C mA):∃od,PySem.W.InstAt h x (PySem.W.instObj C dx) C (some od)∧∀name,PySem.W.lookIn name od=some (mA name):=
 let ⟨od,ho,hl⟩:=qa I.ns
 ⟨od,⟨I.obj,rfl,rfl,ho⟩,hl⟩
section
variable {prog:Program} {w:World} {A:Around} {E:Value→Shared→Prop} {s:Shared} {K:PySem.W.Frag} {x dx C f:Addr} {mA:Str→Option Value} {name:Str} {v:Value}
theorem get_map{expr:Bool}{Q:Value→Shared→Prop}(X:K.In s.heap)(I:pF s.heap x dx C mA)(hg:PySem.W.plainGet K C name=true)(hh:PySem.W.hasDictIn K C=true)
  (ha:PySem.W.findIn K (.ref C) name=some none) (hv:mA name=some v) (tX:PySem.W.handedIn v=true) (h:Q v {s with toks:=s.toks+1}):
  wpAny (model prog w) A (getAttr (.ref x) name expr) Q E s:=by
 obtain ⟨od,J,hl⟩:=I.look;exact PySem.W.get_value X J (PySem.W.plainGet_of hg).1 (PySem.W.findObj_own hh ha rfl (by rw [hl,hv])) tX h
theorem zR{pl:Sem Bool}{Q:Value×List Value→Shared→Prop}(X:K.In s.heap)(I:pF s.heap x dx C mA)(hg:PySem.W.plainGet K C name=true)
  (hf:PySem.W.findIn K (.ref C) name=some (some (.ref f))) (ht:PySem.W.isFn K (.ref f)=true) (hv:mA name=none) (h:Q (.ref f,[.ref x]) s):
  wpAny (model prog w) A (getMethod (.ref x) name pl) Q E s:=by
 obtain ⟨od,J,hl⟩:=I.look;exact PySem.W.method_fn X J (PySem.W.plainGet_of hg).1 (PySem.W.plainGet_of hg).2 hf (beq_iff_eq.mp ht) (by show (PySem.W.lookIn name od).map (·.isSome)=some false;rw [hl,hv];rfl) h
theorem DL{ns:List Str}{Q:Unit→Shared→Prop}(X:K.In s.heap)(I:pF s.heap x dx C mA)
  (hs:PySem.W.findIn K (.ref C) "__setattr__"=some (some (.builtin "object.__setattr__"))) (hp:PySem.W.plainOver K C=true) (ht:PySem.W.takerIn K C name=some none) (hh:PySem.W.hasDictIn K C=true)
  (hw:PySem.Within mA ns) (rq:ns.length≤sizeLine)
  (h:∀h',pF h' x dx C (λy=>if y=name then some v else mA y)→Heap.SameBut dx s.heap h'→Q () {s with heap:=h',toks:=s.toks+2}):
  wpAny (model prog w) A (setAttr (.ref x) name v) Q E s:=by
 obtain ⟨od,J,hl⟩:=I.look;refine PySem.W.set_plain X J hs (PySem.W.osa_open (s:={s with toks:=s.toks+1}) (r:=none) X J hp ht λb=>?_)
 obtain ⟨cd,hc,gJ⟩:=PySem.W.any_some hh;have hx:s.heap.get? x=some ⟨.ref C,some dx, .plain, #[]⟩:=I.obj;refine wpAny_bind (wpAny_pure (wpAny_bind (wpAny_bind (wpAny_loadPart hx (wpAny_bind (PySem.W.Looks.here (s:={s with toks:=s.toks+1}) (PySem.W.looks_clsIn X hc) ?_))))))
 rw [gJ];refine wpAny_pure (a:=some dx) (wpAny_bind (wpAny_pure (wpAny_bind ?_)));refine wpAny_nsSet1 (s:={s with toks:=s.toks+1}) I.ns λh' xu fL=>?_
 obtain ⟨oD,Mh,Mg,CF,Ck,Cg⟩:=xu.count (PySem.Within.cons name v hw);refine wpAny_bind (wpAny_lookBehind CF (by rw [Ck];exact pastItsLine_dict (fz Cg (by rw [cJ];omega))) ?_)
 exact wpAny_pure (h _ ⟨(fL.2 _ (Ne.symm I.ne)).trans I.obj,xu,I.ne⟩ fL)
theorem sI{R:Result→Shared→Prop}{vs:List Value}{kw:List (Str×Value)}(X:K.In s.heap)(hm:PySem.W.makesIn K C=true)
  (hi:PySem.W.findIn K (.ref C) "__init__"=some (some (.ref f))) (hf:PySem.W.typeIn K (.ref f)=some (.type "function"))
  (h:codeAny (model prog w) (A.under (.builtin "type.__call__" ⟨.ref C::vs,kw⟩)) (.call (.ref f) ⟨.ref (s.heap.objs.size+1)::vs,kw⟩) (PySem.W.InitBack (s.heap.objs.size+1) R)
   {s with heap:=(s.heap.push PySem.W.emptyDict).push (PySem.W.instObj C s.heap.objs.size)}):
  codeAny (model prog w) A (.call (.ref C) ⟨vs,kw⟩) R s:=by
 obtain ⟨hh,g,d,t,os⟩:=s;exact PySem.W.make_core (PySem.W.makes_of X hm) (PySem.W.looks_findIn X hi) (λself=>PySem.W.bind_fn X self hf) (.inl rfl) h
end
def ft(f:Str)(v:V):List (Str×V)→List (Str×V)
 | []=> [(f,v)]
 | (g,x)::r=>if g=f then (g,v)::r else (g,x)::ft f v r
theorem jh(f g:Str)(v:V):∀fs:List (Str×V),(ft f v fs).lookup g=if g=f then some v else fs.lookup g
 | []=>by
  show List.lookup g [(f,v)]=_
  by_cases h:g=f
  ·have hb:(g==f)=true:=beq_iff_eq.mpr h
   simp only [List.lookup,hb,if_pos h]
  ·have hb:(g==f)=false:=beq_eq_false_iff_ne.mpr h
   simp only [List.lookup,hb,if_neg h]
 | (k,x)::r=>by
  have ih:=jh f g v r;rw [show ft f v ((k,x)::r)=(if k=f then (k,v)::r else (k,x)::ft f v r) from rfl]
  by_cases hk:k=f
  ·rw [if_pos hk]
   by_cases h:g=k
   ·have hb:(g==k)=true:=beq_iff_eq.mpr h
    simp only [List.lookup,hb,if_pos (h.trans hk)]
   ·have hb:(g==k)=false:=beq_eq_false_iff_ne.mpr h
    simp only [List.lookup,hb,if_neg (λe:g=f=>h (e.trans hk.symm))]
  ·rw [if_neg hk]
   by_cases h:g=k
   ·have hb:(g==k)=true:=beq_iff_eq.mpr h
    simp only [List.lookup,hb,if_neg (λe:g=f=>hk (h.symm.trans e))]
   ·have hb:(g==k)=false:=beq_eq_false_iff_ne.mpr h
    simp only [List.lookup,hb];exact ih
theorem gd(f:Str)(v:V):∀fs:List (Str×V),f∈(ft f v fs).map (·.1)∧∀g,g∈fs.map (·.1)→g∈(ft f v fs).map (·.1)
 | []=>⟨by simp [ft],λg h=>by simp at h⟩
 | (k,x)::r=>by
  obtain ⟨i1,i2⟩:=gd f v r;rw [show ft f v ((k,x)::r)=(if k=f then (k,v)::r else (k,x)::ft f v r) from rfl]
  by_cases hk:k=f
  ·rw [if_pos hk]
   subst hk;exact ⟨by simp,λg h=>by simpa using h⟩
  ·rw [if_neg hk]
   refine ⟨?_,λg h=>?_⟩
   ·rw [List.map_cons]
    exact gK _ i1
   ·rw [List.map_cons] at h ⊢
    rcases eS.mp h with e|e
    ·exact eS.mpr (.inl e)
    ·exact gK _ (i2 g e)
theorem jf(f:Str)(v:V):∀fs:List (Str×V),(ft f v fs).length≤fs.length+1
 | []=>by simp [ft]
 | (k,x)::r=>by
  have ih:=jf f v r;rw [show ft f v ((k,x)::r)=(if k=f then (k,v)::r else (k,x)::ft f v r) from rfl]
  by_cases hk:k=f
  ·rw [if_pos hk,cJ,cJ];omega
  ·rw [if_neg hk,cJ,cJ];omega
theorem iB.some_of{v:V}{o:Option Value}(r:iB (some v) o):∃u,o=some u∧RelV v u:=by
 cases o with
 |none=>exact (show False from r).elim
 |some u=>exact ⟨u,rfl,r⟩
theorem iB.none_of{o:Option Value}(r:iB none o):o=none:=by
 cases o with
 |none=>rfl
 |some u=>exact (show False from r).elim
theorem xh{v:V}{u:Value}(r:RelV v u):PySem.W.handedIn u=true:=by
 cases v with
 |aN=>cases (show u=Value.none from r);rfl
 |bl b=>cases (show u=Value.bool b from r);rfl
 |int i=>obtain ⟨t,e⟩:=(show ∃t,u=Value.int i t from r);cases e;rfl
 |str x=>obtain ⟨t,e⟩:=(show ∃t,u=Value.str x t from r);cases e;rfl
 |zr b=>obtain ⟨t,e⟩:=(show ∃t,u=Value.bytes b t from r);cases e;rfl
 |va b=>obtain ⟨t,e⟩:=(show ∃t,u=Value.float b t from r);cases e;rfl
 |ref a=>cases (show u=Value.ref a from r);rfl
 |ty n=>cases (show u=Value.type n from r);rfl
section
variable {P:Program} {w:World} {H H':Hp} {h h':Heap} {a C dx:Addr} {fs So:List (Str×V)}
theorem jV(hok:eM P w H h)(e:H a=some (.ins C dx fs)):∃mA,pF h a dx C mA∧(∀f,iB (fs.lookup f) (mA f))∧PySem.Within mA (fs.map (·.1))∧fs.length≤1000∧H dx=some (.own a):=by
 obtain ⟨d,z,ne,ob,mA,n,r,q⟩:=(show bo P w H h a (.ins C dx fs) from hok a _ e);exact ⟨mA,⟨ob,n,ne⟩,r,q,z,d⟩
end
structure qU (K:PySem.W.Frag) (C:Addr):Prop where
 pg:PySem.W.plainGet K C Str.empty=true
 hd:PySem.W.hasDictIn K C=true
 po:PySem.W.plainOver K C=true
 sa:PySem.W.findIn K (.ref C) "__setattr__"=some (some (.builtin "object.__setattr__"))
theorem qU.get{K:PySem.W.Frag}{C:Addr}(c:qU K C)(f:Str):PySem.W.plainGet K C f=true:=c.pg
def ff(K:PySem.W.Frag)(C:Addr)(f:Str):Prop:=PySem.W.findIn K (.ref C) f=some none
theorem ff.yg{K:PySem.W.Frag}{C:Addr}{f:Str}(n:ff K C f):PySem.W.takerIn K C f=some none:=by
 unfold PySem.W.takerIn;rw [show PySem.W.findIn K (.ref C) f=some none from n];rfl
structure Meth (K:PySem.W.Frag) (C:Addr) (m:Str) (f:Addr):Prop where
 at_:PySem.W.findIn K (.ref C) m=some (some (.ref f))
 fn:PySem.W.isFn K (.ref f)=true
 kp:PySem.W.keepIn K (.ref f)=true
section
variable {X:Cx} {pins:List (Addr×Obj)} {σ:St} {H:Hp} {s:Shared} {a C dx:Addr} {fs:List (Str×V)} {f:Str} {v:V} {A:Around} {E:Value→Shared→Prop}
theorem ve{b:Bool}{Q:Value→Shared→Prop}(I:Inv X pins σ H s)(e:H a=some (.ins C dx fs))(c:qU X.K C)(n:ff X.K C f)(l:fs.lookup f=some v)
  (h:∀u s',Inv X pins σ H s'→RelV v u→Q u s'):wpAny (model X.prog X.w) A (getAttr (.ref a) f b) Q E s:=by
 obtain ⟨mA,O,r,_,_,_⟩:=jV I.hok e;obtain ⟨u,hu,ru⟩:=iB.some_of (v:=v) (o:=mA f) (by rw [←l];exact r f)
 exact get_map I.bI O (c.get f) c.hd n hu (xh ru) (h u _ (I.tok _) ru)
theorem vf{m:Str}{g:Addr}{pl:Sem Bool}{Q:Value×List Value→Shared→Prop}(I:Inv X pins σ H s)(e:H a=some (.ins C dx fs))(c:qU X.K C)(k:Meth X.K C m g)(l:fs.lookup m=none)
  (h:Q (.ref g,[.ref a]) s):wpAny (model X.prog X.w) A (getMethod (.ref a) m pl) Q E s:=by
 obtain ⟨mA,O,r,_,_,_⟩:=jV I.hok e;have hn:mA m=none:=iB.none_of (by rw [←l];exact r m)
 exact zR I.bI O (c.get m) k.at_ k.fn hn h
theorem vO{y:V}{u:Value}{Q:Unit→Shared→Prop}(I:Inv X pins σ H s)(e:H a=some (.ins C dx fs))(c:qU X.K C)(n:ff X.K C f)(hl:fs.length<1000)(ry:RelV y u)
  (h:∀s',Inv X pins σ (upd H a (.ins C dx (ft f y fs))) s'→Q () s'):wpAny (model X.prog X.w) A (setAttr (.ref a) f u) Q E s:=by
 obtain ⟨mA,O,r,wi,_,ho⟩:=jV I.hok e;have hz:(fs.map (·.1)).length≤sizeLine:=by rw [bV,sizeLine_eq];omega
 refine DL I.bI O c.sa c.po n.yg c.hd wi hz λh' O' sb=>h _ ?_;have hd:∃o,h'.get? dx=some o:=let ⟨o,_,_,e',_⟩:=O'.ns;⟨o,e'⟩;refine I.write (x:=a) (e:=dx) (by rw [e];exact True.intro) (.inr ho) (λb q hb z=>(sb.2 b hb).trans z) hd ?_
 refine ⟨by rw [ah O.ne];exact ho,?_,O.ne,O'.obj,_,O'.ns,λg=>?_,λg hg=>?_⟩
 ·have:=jf f y fs;omega
 ·show iB ((ft f y fs).lookup g) (if g=f then some u else mA g)
  rw [jh]
  by_cases q:g=f
  ·rw [if_pos q,if_pos q];exact ry
  ·rw [if_neg q,if_neg q];exact r g
 ·by_cases q:g=f
  ·rw [q];exact (gd f y fs).1
  ·refine (gd f y fs).2 g (wi g λz=>hg ?_)
   show (if g=f then some u else mA g)=none;rw [if_neg q];exact z
theorem Inv.made(I:Inv X pins σ H s):Inv X pins σ (upd (upd H s.heap.objs.size (.own (s.heap.objs.size+1))) (s.heap.objs.size+1) (.ins C s.heap.objs.size []))
  {s with heap:=(s.heap.push PySem.W.emptyDict).push (PySem.W.instObj C s.heap.objs.size)}:=by
 have e1:(s.heap.push PySem.W.emptyDict).get? s.heap.objs.size=some PySem.W.emptyDict:=Heap.get?_push_size s.heap rfl
 have e2:((s.heap.push PySem.W.emptyDict).push (PySem.W.instObj C s.heap.objs.size)).get? (s.heap.objs.size+1)=some (PySem.W.instObj C s.heap.objs.size):=by
  have:=Heap.get?_push_size (s.heap.push PySem.W.emptyDict) (o:=PySem.W.instObj C s.heap.objs.size) rfl
  rwa [Heap.size_push] at this
 have e3:(s.heap.push PySem.W.emptyDict).Ns s.heap.objs.size (λ_=>none):=⟨PySem.W.emptyDict, #[],_,e1,rfl,(λe he=>absurd he (by simp)),λ_=>rfl⟩
 have I1:=I.laid (a:=s.heap.objs.size) (o:= .own (s.heap.objs.size+1)) (h':=s.heap.push PySem.W.emptyDict) (t':=s.toks) (λb u q=>Heap.get?_push_of_some _ q) (bL _) ⟨_,e1⟩;refine I1.laid (a:=s.heap.objs.size+1) (o:= .ins C s.heap.objs.size []) (t':=s.toks) (λb u q=>Heap.get?_push_of_some _ q) (Nat.le_of_eq (Heap.size_push _ _)) ?_;have ne:s.heap.objs.size≠s.heap.objs.size+1:=bR (wm _);refine ⟨by rw [ah ne,ak],iW _,ne,e2,λ_=>none,(Heap.Ns1.of_empty e3).at λo q=>Heap.get?_push_of_some _ q,λ_=>True.intro,λy hy=>absurd rfl hy⟩
theorem Bn{prog:Program}{w:World}{env:Env}{e:Expr}{f:Str}{pos:Pos}{s:Shared}{Q:Value→Shared→Prop}(hb:attributeBase e f env (eval e env)=eval e env)
  (h:wpAny (model prog w) A (eval e env) (λo s₁=>wpAny (model prog w) A (getAttr o f true) Q E s₁) E s):wpAny (model prog w) A (eval (.Attribute e f pos) env) Q E s:=
 Attribute_any_ h (by rw [arm_eval_Attribute,hb])
end
def P9(K:PySem.W.Frag)(ta:TE)(f:Str):TE:=λσ H Q=>ta σ H λx H1=>∃a C dx fs v,x= .ref a∧H1 a=some (.ins C dx fs)∧qU K C∧ff K C f∧fs.lookup f=some v∧Q v H1
def Pm(K:PySem.W.Frag)(ta tv:TE)(f:Str):TS:=λD σ H=>tv σ H λy H1=>ta σ H1 λx H2=>∃a C dx fs,x= .ref a∧H2 a=some (.ins C dx fs)∧qU K C∧ff K C f∧fs.length<1000∧
 D.nx σ (upd H2 a (.ins C dx (ft f y fs)))
section
variable {X:Cx} {o e value:Expr} {f:Str} {pos pos' Qj:Pos} {ta tv:TE}
theorem Ft(he:PE X e ta)(hb:attributeBase e f X.env (eval e X.env)=eval e X.env):PE X (.Attribute e f pos) (P9 X.K ta f):=by
 intro pins s σ H Q I h;refine Bn hb (thn (he pins s σ H _ I h) λu s1 ⟨x,H1,I1,rx,a,C,dx,fs,v,ex,ea,c,n,l,q⟩=>?_);subst ex;obtain rfl:u=Value.ref a:=rx;exact ve I1 ea c n l λu' s2 I2 ru=>⟨v,H1,I2,ru,q⟩
theorem Fz(ha:PE X o ta)(hv:PE X value tv)(hs:swapsWith value (some (.Attribute o f pos')) pos.line X.env=pure false):PS X (.Assign [.Attribute o f pos'] value pos) (Pm X.K ta tv f):=by
 intro pins s σ H D I h;refine plainObj_wpAny_Assign_Attribute (thn (hv pins s σ H _ I h) λu s1 ⟨y,H1,I1,ry,q⟩=>thn (ha pins s1 σ H1 _ I1 q) λov s2 ⟨x,H2,I2,rx,a,C,dx,fs,ex,ea,c,n,l,q2⟩=>?_) hs;subst ex;obtain rfl:ov=Value.ref a:=rx;exact vO I2 ea c n l ry λs3 I3=>⟨σ,_,I3,q2⟩
end
section
variable {X:Cx} {pins:List (Addr×Obj)} {σ:St} {H:Hp} {s:Shared} {A:Around} {E:Value→Shared→Prop} {Q:Value→Shared→Prop} {c:Value} {b:Bool}
inductive eN (K:PySem.W.Frag) (H:Hp):V→Value→Prop where
 |aN:eN K H .aN (.type "NoneType")
 |bl (x:Bool):eN K H (.bl x) (.type "bool")
 |int (i:Int):eN K H (.int i) (.type "int")
 |str (x:Str):eN K H (.str x) (.type "str")
 |va (x:UInt64):eN K H (.va x) (.type "float")
 |lst {a:Addr} {xs:List V} (e:H a=some (.lst xs)):eN K H (.ref a) (.type "list")
 |jS {a:Addr} {o:Obj} {xs:List V} (e:H a=some (.jS o (.lst xs))):eN K H (.ref a) (.type "list")
 |tup {a:Addr} {xs:List V} (e:H a=some (.tup xs)):eN K H (.ref a) (.type "tuple")
 |dK {a:Addr} {b9:List (Key×V)} (e:H a=some (.dK b9)):eN K H (.ref a) (.type "dict")
 |dT {a:Addr} {b9:List (List Key×V)} (e:H a=some (.dT b9)):eN K H (.ref a) (.type "dict")
 |ins {a C dx:Addr} {fs:List (Str×V)} (e:H a=some (.ins C dx fs)) (cl:qU K C) (ha:PySem.W.findIn K (.ref C) "__class__"=some (some (.builtin "object.__class__")))
   (hn:PySem.W.specialIn K (.builtin "object.__class__") "__get__"=some (some (.builtin "getset_descriptor.__get__"))) (htk:PySem.W.takesIn K (.builtin "object.__class__")=some true)
   (hm:PySem.W.mroIn K C (.type "object")=some true):eN K H (.ref a) (.ref C)
theorem xE{x:V}{u t:Value}(I:Inv X pins σ H s)(rx:RelV x u)(ty:eN X.K H x t)(e:PySem.W.kitOne X.K t c=some b)(h:∀tk,Q (.bool b) {s with toks:=tk}):
  wpAny (model X.prog X.w) A (call (.builtin "isinstance") [u,c]) Q E s:=by
 cases ty with
 |aN=>cases (show u=Value.none from rx);exact PySem.W.kia_one PySem.W.kitx_none I.bI True.intro e (λz=>nomatch z) h
 |bl y=>cases (show u=Value.bool y from rx);exact PySem.W.kia_one PySem.W.kitx_bool I.bI True.intro e (λz=>nomatch z) h
 |int i=>obtain ⟨t,q⟩:=(show ∃t,u=Value.int i t from rx);cases q;exact PySem.W.kia_one PySem.W.kitx_int I.bI True.intro e (λz=>nomatch z) h
 |str y=>obtain ⟨t,q⟩:=(show ∃t,u=Value.str y t from rx);cases q;exact PySem.W.kia_one PySem.W.kitx_str I.bI True.intro e (λz=>nomatch z) h
 |va y=>obtain ⟨t,q⟩:=(show ∃t,u=Value.float y t from rx);cases q;exact PySem.W.kia_one PySem.W.kitx_float I.bI True.intro e (λz=>nomatch z) h
 | @lst a xs ea=>
  cases (show u=Value.ref a from rx);obtain ⟨_,_,n,_,h1⟩:=(show bo X.prog X.w H s.heap a (.lst xs) from I.hok a _ ea);exact PySem.W.kia_one PySem.W.kitx_list I.bI ⟨_,h1,rfl⟩ e (λz=>nomatch z) h
 | @jS a ob xs ea=>
  cases (show u=Value.ref a from rx);obtain ⟨_,_,_,n,_,h1⟩:=(show bo X.prog X.w H s.heap a (.jS ob (.lst xs)) from I.hok a _ ea);exact PySem.W.kia_one PySem.W.kitx_list I.bI ⟨_,h1,rfl⟩ e (λz=>nomatch z) h
 | @tup a xs ea=>
  cases (show u=Value.ref a from rx);obtain ⟨_,_,_,p⟩:=(show bo X.prog X.w H s.heap a (.tup xs) from I.hok a _ ea);obtain ⟨o,h1,h2,_⟩:=p;exact PySem.W.kia_one PySem.W.kitx_tuple I.bI ⟨o,h1,h2⟩ e (λz=>nomatch z) h
 | @dK a b9 ea=>
  cases (show u=Value.ref a from rx);obtain ⟨_,_,vs,_,p⟩:=(show bo X.prog X.w H s.heap a (.dK b9) from I.hok a _ ea);obtain ⟨o,es,ep,h1,h2,_⟩:=p;exact PySem.W.kia_one PySem.W.kitx_dict I.bI ⟨o,h1,h2.1⟩ e (λz=>nomatch z) h
 | @dT a b9 ea=>
  cases (show u=Value.ref a from rx);obtain ⟨_,_,xs,_,o,es,ep,h1,h2,_⟩:=(show bo X.prog X.w H s.heap a (.dT b9) from I.hok a _ ea);exact PySem.W.kia_one PySem.W.kitx_dict I.bI ⟨o,h1,h2.1⟩ e (λz=>nomatch z) h
 | @ins a C dx fs ea cl ha hn htk hm=>
  cases (show u=Value.ref a from rx);obtain ⟨mA,O,_⟩:=jV I.hok ea;obtain ⟨od,J,_⟩:=O.look;exact PySem.W.kia_one (PySem.W.kitx_own (cl.get _) cl.hd ha hn htk hm) I.bI J e (λz=>nomatch z) h
end
structure bC (k:Nat) (A:Around):Prop where
 hd:A.handled=none
 dp:A.depth+3*k+5<recursionLimit
 un:A.units+16*k+200<cLine
theorem bC.mono{j k:Nat}{A:Around}(r:bC k A)(h:j≤k):bC j A:=⟨r.hd,by have:=r.dp;omega,by have:=r.un;omega⟩
theorem bC.deeper{k:Nat}{A:Around}(r:bC (k+1) A)(env:Env):bC k (A.deeper env):=
 ⟨r.hd,by have:=r.dp;show A.depth+1+3*k+5<_;omega,by have:=r.un;show A.units+3+16*k+200<_;omega⟩
theorem vB{A:Around}{C:Addr}{us:List Value}{kw:List (Str×Value)}:(A.under (.builtin "type.__call__" ⟨.ref C::us,kw⟩)).depth=A.depth+1:=by
 first|rfl|simp [Around.under,Code.weight,Code.isCreation,Code.isGuard,Code.isCaller,Code.frames,Code.isFrame,guardIds]
theorem vC{A:Around}{C:Addr}{us:List Value}{kw:List (Str×Value)}:(A.under (.builtin "type.__call__" ⟨.ref C::us,kw⟩)).units=A.units+1:=by
 first|rfl|simp [Around.under,Code.cUnits,Code.frames,Code.isFrame]
theorem bC.make{k:Nat}{A:Around}(r:bC (k+1) A)(C:Addr)(us:List Value)(kw:List (Str×Value)):bC k (A.under (.builtin "type.__call__" ⟨.ref C::us,kw⟩)):=
 ⟨r.hd,by have:=r.dp;rw [vB];omega,by have:=r.un;rw [vC];omega⟩
theorem bC.depth{k:Nat}{A:Around}(r:bC k A):A.depth<recursionLimit:=by have:=r.dp;omega
theorem bC.units{k:Nat}{A:Around}(r:bC k A):A.units+64<cLine:=by have:=r.un;omega
def Hj:TA:=λ_ H Q=>Q [] H
def JU(ta:TE)(tr:TA):TA:=λσ H Q=>ta σ H λx H1=>tr σ H1 λxs H2=>Q (x::xs) H2
section
variable {X:Cx} {e:Expr} {es:List Expr} {te:TE} {t:TA} {pos:Pos}
theorem bj:PA X [] Hj:=λ_ _ _ _ H Q I h=>Calls.spliced_nil ⟨[],H,I, .nil,h⟩
theorem aG(ha:PE X e te)(hr:PA X es t)(hs:starEach (e::es) X.env=(false,eval e X.env)::starEach es X.env:=by rfl):PA X (e::es) (JU te t):=by
 intro pos pins s σ H Q I h;rw [hs];show wpAny _ _ (spliced ((false,eval e X.env)::backTo pos (starEach es X.env))) _ _ s;refine Calls.spliced_cons (thn (ha pins s σ H _ I h) λu s1 ⟨x,H1,I1,r1,q1⟩=>?_);exact thn (hr pos pins s1 σ H1 _ I1 q1) λus s2 ⟨xs,H2,I2,r2,q2⟩=>⟨x::xs,H2,I2, .cons r1 r2,q2⟩
def Qh(t:TA):TE:=λσ H Q=>t σ H λxs H1=>xs.length≤sizeLine∧∀p,H1 p=none→Q (.ref p) (upd H1 p (.tup xs))
def Qc(t:TA):TE:=λσ H Q=>t σ H λxs H1=>xs.length≤sizeLine∧∀p,H1 p=none→Q (.ref p) (upd H1 p (.lst xs))
theorem uh{x1}(h:PA X es t):PE X (.Tuple es x1 pos) (Qh t):=by
 intro pins s σ H Q I hq;refine wpAny_Tuple_spliced (thn (h pos pins s σ H _ I hq) λus s1 ⟨xs,H1,I1,r,z,q⟩=>⟨by rw [←r.length];exact z,?_⟩)
 have hf:H1 s1.heap.objs.size=none:=I1.hok.fresh (bL _);refine ⟨.ref s1.heap.objs.size,upd H1 s1.heap.objs.size (.tup xs),I1.laid (t':=s1.toks) (λb u e=>Heap.get?_push_of_some _ e) (bL _) ?_,rfl,q _ hf⟩;exact ⟨z,us,r,⟨_,Heap.get?_push_size _ rfl,rfl,_,rfl⟩⟩
theorem mP(h:PA X es t):PE X (.List es pos) (Qc t):=by
 intro pins s σ H Q I hq;refine wpAny_List_spliced (thn (h pos pins s σ H _ I hq) λus s1 ⟨xs,H1,I1,r,z,q⟩=>⟨by rw [←r.length];exact z,?_⟩)
 have hf:H1 s1.heap.objs.size=none:=I1.hok.fresh (bL _);refine ⟨.ref s1.heap.objs.size,upd H1 s1.heap.objs.size (.lst xs),I1.laid (t':=s1.toks) (λb u e=>Heap.get?_push_of_some _ e) (bL _) ?_,rfl,q _ hf⟩;exact ⟨z,us,0,r,Heap.get?_push_size _ rfl⟩
end
abbrev Sp:=List V→Hp→VK→XK→Prop
abbrev jH:=List Env→Hp→Shared→XK→Value→Shared→Prop
structure Env0 (P:Program) (w:World) (K:PySem.W.Frag) (mg:Str→Option Value) (base:Heap) (A:Around) (outer:List Env) (s:Shared) (H:Hp):Prop where
 frames:A.frames=some outer
 mod:Mod K mg base
 bs:∀b o,base.get? b=some o→s.heap.get? b=some o∧H b=none
 bsz:base.objs.size≤s.heap.objs.size
 funs:s.heap.FunFrames base outer
 frf:∀b∈mh outer,H b=none
 hok:eM P w H s.heap
 bare:AllBare s.gens
def CE(outer:List Env)(P:Program)(w:World)(H:Hp)(s:Shared)(Q:VK)(u:Value)(s':Shared):Prop:=
 ∃v H',s'.os=s.os∧AllBare s'.gens∧Un (mh outer) [] H H' s.heap s'.heap∧eM P w H' s'.heap∧RelV v u∧Q v H'
def CR(CX:jH)(outer:List Env)(P:Program)(w:World)(H:Hp)(s:Shared)(Q:VK)(E:XK)(r:Result)(s':Shared):Prop:=
 match r with
 | .ok (.ret u)=>CE outer P w H s Q u s'
 | .ok _=>False
 | .error e=>CX outer H s E e s'
structure FnOk (P:Program) (w:World) (K:PySem.W.Frag) (mg:Str→Option Value) (base:Heap) (CX:jH) (k:Nat) (f:Addr) (fd:FuncData) (ps:List Str) (sp:Sp):Prop where
 len:∀vs H Q E,sp vs H Q E→vs.length=ps.length
 run:∀(A:Around)(outer:List Env)(s:Shared)(H:Hp)(args:Args)(us:List Value)(vs:List V)(Q:VK)(E:XK),bC k A→Env0 P w K mg base A outer s H→BindsTo s fd args (ps.zip us)→Vals vs us→sp vs H Q E→
  codeAny (model P w) A (.call (.ref f) args) (CR CX outer P w H s Q E) s
theorem FnOk.mono{P:Program}{w:World}{K:PySem.W.Frag}{mg:Str→Option Value}{base:Heap}{CX:jH}{j k:Nat}{f:Addr}{fd:FuncData}{ps:List Str}{sp:Sp}(F:FnOk P w K mg base CX j f fd ps sp)(h:j≤k):
  FnOk P w K mg base CX k f fd ps sp:=⟨F.len,λA outer s H args us vs Q E hr=>F.run A outer s H args us vs Q E (hr.mono h)⟩
theorem FnOk.imp{P:Program}{w:World}{K:PySem.W.Frag}{mg:Str→Option Value}{base:Heap}{CX:jH}{k:Nat}{f:Addr}{fd:FuncData}{ps:List Str}{sp DQ:Sp}(F:FnOk P w K mg base CX k f fd ps sp)
  (h:∀vs H Q E,DQ vs H Q E→sp vs H Q E):FnOk P w K mg base CX k f fd ps DQ:=
 ⟨λvs H Q E q=>F.len vs H Q E (h _ _ _ _ q),λA outer s H args us vs Q E hr he hb hv hs=>F.run A outer s H args us vs Q E hr he hb hv (h _ _ _ _ hs)⟩
theorem Env0.make{P:Program}{w:World}{K:PySem.W.Frag}{mg:Str→Option Value}{base:Heap}{A:Around}{outer:List Env}{s:Shared}{H:Hp}(e:Env0 P w K mg base A outer s H)(C:Addr)(us:List Value)(kw:List (Str×Value)):
  Env0 P w K mg base (A.under (.builtin "type.__call__" ⟨.ref C::us,kw⟩)) outer s H:=⟨by first|exact e.frames| (simpa [Around.under,Code.envs,Code.isFrame,pushEnvs] using e.frames),e.mod,e.bs,e.bsz,e.funs,e.frf,e.hok,e.bare⟩
section
variable {X:Cx} {pins:List (Addr×Obj)} {σ:St} {H:Hp} {s s':Shared}
theorem Inv.yC(I:Inv X pins σ H s):Env0 X.prog X.w X.K X.mg X.base X.A X.stack s H:=
 ⟨I.ok.frames,I.ok.mod,I.bs,fz I.ok.bsz I.sz,I.stack,I.qG,I.hok,I.bare⟩
theorem Inv.after{Q:VK}{u:Value}(I:Inv X pins σ H s)(h:CE X.stack X.prog X.w H s Q u s'):EP X pins σ Q u s':=by
 obtain ⟨v,H',os,bare,un,hok,r,q⟩:=h;obtain ⟨hh,g,d,t,Wm⟩:=s';obtain rfl:Wm=s.os:=os;exact ⟨v,H',I.call (h':=hh) (g':=g) (d':=d) (t':=t) (ch:= []) un hok bare (λb z=>absurd z (by simp)),r,q⟩
end
def JT(sp:Sp)(bc:List V)(E:XK)(t:TA):TE:=λσ H Q=>t σ H λvs H1=>sp (vs++bc) H1 Q E
def D3(C:Addr)(m:Str)(sp:Sp)(bc:List V)(E:XK)(ta:TE)(t:TA):TE:=λσ H Q=>ta σ H λx H1=>∃a dx fs,x= .ref a∧H1 a=some (.ins C dx fs)∧fs.lookup m=none∧
 t σ H1 λvs H2=>sp (x::(vs++bc)) H2 Q E
def JW(C:Addr)(sp:Sp)(bc:List V)(E:XK)(t:TA):TE:=λσ H Q=>t σ H λvs H1=>∀x dx,H1 x=none→H1 dx=none→dx≠x→
 sp (.ref x::(vs++bc)) (upd (upd H1 dx (.own x)) x (.ins C dx [])) (λv H2=>v= .aN∧Q (.ref x) H2) E
def Binds(K:PySem.W.Frag)(fd:FuncData)(ps:List Str)(ds:List Value):Prop:=
 ∀(s:Shared)(us:List Value),K.In s.heap→(us++ds).length=ps.length→BindsTo s fd ⟨us,[]⟩ (ps.zip (us++ds))
theorem Binds.all{K:PySem.W.Frag}{fd:FuncData}{ps:List Str}(h:∀us:List Value,us.length=ps.length→bindArgs fd ⟨us,[]⟩=pure (ps.zip us)):Binds K fd ps []:=λs us _ hl=>by
 rw [iV] at hl ⊢;exact .of_eq (h us hl)
def Passes(CX:jH)(X:Cx)(E:XK):Prop:=∀(pins:List (Addr×Obj))(σ:St)(H:Hp)(s:Shared)(e:Value)(s':Shared),Inv X pins σ H s→CX X.stack H s E e s'→X.xe e s'
section
variable {X:Cx} {CX:jH} {k:Nat} {f C:Addr} {fd:FuncData} {ps:List Str} {sp:Sp} {bc:List V} {ds:List Value} {E:XK} {x m:Str} {p pos apos:Pos} {e o:Expr} {es:List Expr} {ta:TE} {t:TA}
theorem yX{pins:List (Addr×Obj)}{σ:St}{H:Hp}{s:Shared}{Q:VK}{us:List Value}{vs:List V}(F:FnOk X.prog X.w X.K X.mg X.base CX k f fd ps sp)(hr:bC k X.A)(hb:Binds X.K fd ps ds)(hd:Vals bc ds)(hx:Passes CX X E)
  (I:Inv X pins σ H s) (r:Vals vs us) (h:sp (vs++bc) H Q E):wpAny (model X.prog X.w) X.A (call (.ref f) us) (EP X pins σ Q) X.xe s:=by
 have r2:Vals (vs++bc) (us++ds):=r.append hd;have hl:(us++ds).length=ps.length:=by rw [←r2.length];exact F.len _ _ _ _ h
 refine wpAny_call (codeAny_mono (F.run X.A X.stack s H ⟨us,[]⟩ (us++ds) (vs++bc) Q E hr I.yC (hb s us I.bI hl) r2 h) λr s' hq=>?_);cases r with
 |error e=>exact hx pins σ H s e s' I hq
 |ok fl=>
  cases fl with
  |ret u=>exact I.after hq
  |next=>exact False.elim hq
  |brk=>exact False.elim hq
  |cont=>exact False.elim hq
theorem mN(F:FnOk X.prog X.w X.K X.mg X.base CX k f fd ps sp)(hr:bC k X.A)(hg:Gl X x)(hm:X.mg x=some (.ref f))(hk:PySem.W.keepIn X.K (.ref f)=true)(hb:Binds X.K fd ps ds)(hd:Vals bc ds)(hx:Passes CX X E)
  (ha:PA X (e::es) t) (dj:(x==("__debug__":Str))=false:=by decide) (he:starEach (e::es) X.env=(false,eval e X.env)::starEach es X.env:=by rfl) (bU:(backTo pos (starEach es X.env)).any (·.1)=false:=by rfl):
  PE X (.Call (.Name x p) (e::es) [] pos) (JT sp bc E t):=by
 intro pins s σ H Q I h;refine wpAny_Call_Name_kw (gf I hg hm ?_ dj);refine PySem.W.callWith_K (h₀:=X.base) I.ok.mod.kin hk (thn (ha pos pins s σ H _ I h) λus s1 ⟨vs,H1,I1,r,q⟩=>⟨I1.bI,?_⟩) he bU;exact yX F hr hb hd hx I1 r q
theorem AK{pl:Sem Bool}(he:PE X o ta)(c:qU X.K C)(hm:Meth X.K C m f)(F:FnOk X.prog X.w X.K X.mg X.base CX k f fd ps sp)(hr:bC k X.A)(hb:Binds X.K fd ps ds)(hd:Vals bc ds)(hx:Passes CX X E)
  (ht:eval (.Call (.Attribute o m apos) [] [] pos) X.env=(do
   let ov ←eval o X.env
   standAt apos.atName
   let (f,first) ←holding [ov] (getMethod ov m pl)
   callWith pos f first (backTo pos (starEach [] X.env)) (backToKw pos (keywordEach [] X.env))):=by rfl):
  PE X (.Call (.Attribute o m apos) [] [] pos) (D3 C m sp bc E ta Hj):=by
 intro pins s σ H Q I h;refine PySem.W.methodCall_KW (pl:=pl) (thn (he pins s σ H _ I h) λu s1 ⟨x,H1,I1,rx,a,dx,fs,ex,ea,l,q⟩=>?_) ht;subst ex;obtain rfl:u=Value.ref a:=rx;refine vf I1 ea c hm l ?_;exact PySem.W.callWith_K0 (first:= [.ref a]) I1.bI hm.kp (yX (us:= [.ref a]) (vs:= [.ref a]) F hr hb hd hx I1 (.cons rfl .nil) q)
structure Mk (K:PySem.W.Frag) (C f:Addr):Prop where
 makes:PySem.W.makesIn K C=true
 init:PySem.W.findIn K (.ref C) "__init__"=some (some (.ref f))
 fn:PySem.W.isFn K (.ref f)=true
 kp:PySem.W.keepIn K (.ref C)=true
theorem AW{pins:List (Addr×Obj)}{σ:St}{H:Hp}{s:Shared}{Q:VK}{us:List Value}{vs:List V}(M:Mk X.K C f)(F:FnOk X.prog X.w X.K X.mg X.base CX k f fd ps sp)(hr:bC (k+1) X.A)(hb:Binds X.K fd ps ds)(hd:Vals bc ds)
  (hx:Passes CX X E) (I:Inv X pins σ H s) (r:Vals vs us)
  (h:∀x dx,H x=none→H dx=none→dx≠x→sp (.ref x::(vs++bc)) (upd (upd H dx (.own x)) x (.ins C dx [])) (λv H2=>v= .aN∧Q (.ref x) H2) E):
  wpAny (model X.prog X.w) X.A (call (.ref C) us) (EP X pins σ Q) X.xe s:=by
 have hq:=h (s.heap.objs.size+1) s.heap.objs.size (I.hok.fresh (Nat.le_succ _)) (I.hok.fresh (bL _)) (bR (wm _));have I2:=Inv.made (C:=C) I;have r2:Vals (V.ref (s.heap.objs.size+1)::(vs++bc)) (Value.ref (s.heap.objs.size+1)::(us++ds)):= .cons rfl (r.append hd)
 have hl:(Value.ref (s.heap.objs.size+1)::us++ds).length=ps.length:=by
  have e:=r2.length;rw [F.len _ _ _ _ hq] at e;exact e.symm
 refine wpAny_call (sI (f:=f) I.bI M.makes M.init (beq_iff_eq.mp M.fn) (codeAny_mono (F.run _ X.stack _ _ ⟨Value.ref (s.heap.objs.size+1)::us,[]⟩ (Value.ref (s.heap.objs.size+1)::(us++ds)) _ _ E (hr.make C us [])
  (I2.yC.make C us []) (hb _ (Value.ref (s.heap.objs.size+1)::us) I2.bI hl) r2 hq) λr s' f7=>?_))
 cases r with
 |error e=>exact hx pins σ _ _ e s' I2 f7
 |ok fl=>
  cases fl with
  |ret u=>
   obtain ⟨v,H',I3,rv,ev,q3⟩:=I2.after f7;subst ev;exact ⟨rv,⟨V.ref (s.heap.objs.size+1),H',I3,rfl,q3⟩⟩
  |next=>exact False.elim f7
  |brk=>exact False.elim f7
  |cont=>exact False.elim f7
theorem Dh(M:Mk X.K C f)(F:FnOk X.prog X.w X.K X.mg X.base CX k f fd ps sp)(hr:bC (k+1) X.A)(hg:Gl X x)(hm:X.mg x=some (.ref C))(hb:Binds X.K fd ps ds)(hd:Vals bc ds)(hx:Passes CX X E)
  (ha:PA X (e::es) t) (dj:(x==("__debug__":Str))=false:=by decide) (he:starEach (e::es) X.env=(false,eval e X.env)::starEach es X.env:=by rfl) (bU:(backTo pos (starEach es X.env)).any (·.1)=false:=by rfl):
  PE X (.Call (.Name x p) (e::es) [] pos) (JW C sp bc E t):=by
 intro pins s σ H Q I h;refine wpAny_Call_Name_kw (gf I hg hm ?_ dj);refine PySem.W.callWith_K (h₀:=X.base) I.ok.mod.kin M.kp (thn (ha pos pins s σ H _ I h) λus s1 ⟨vs,H1,I1,r,q⟩=>⟨I1.bI,?_⟩) he bU;exact AW M F hr hb hd hx I1 r q
end
section
variable {X:Cx} {CX:jH} {k:Nat} {f C:Addr} {fd:FuncData} {ps ks:List Str} {sp:Sp} {E:XK} {x m:Str} {p pos apos Xk:Pos} {e o:Expr} {es:List Expr} {XO:List Keyword} {te ta:TE} {t tk:TA} {nm:Option Str}
variable {g:List Value→List Value→List Value} {gV:List V→List V→List V}
end
structure aB (N P:List Str) (sc:Scope):Prop where
 kind:sc.kind= .function
 co:sc.isCoroutine=false
 gen:sc.isGenerator=false
 nd:N.Nodup
 pre:N.take P.length=P
 par:∀x∈P,sc.names.lookup x=some .local∨sc.names.lookup x=some .cell
 nofree:∀y∈sc.names,y.2≠ .free
theorem pJ{kindOf:Str→Option NameKind}{x:Str}:∀{binds:List (Str×Value)}{m:Str→Option Value},(∀v,(x,v)∉binds)→bindL kindOf binds m x=m x
 | [],_,_=>rfl
 | (n,v)::r,m,h=>by
  unfold bindL;rw [pJ λw hw=>h w (gK _ hw)]
  split
  ·have:x≠n:=by rintro rfl;exact h v di
   simp [this]
  ·rfl
theorem pH{kindOf:Str→Option NameKind}{x:Str}:∀{binds:List (Str×Value)}{m:Str→Option Value},(∀v,(x,v)∉binds)→bindC kindOf binds m x=m x
 | [],_,_=>rfl
 | (n,v)::r,m,h=>by
  unfold bindC;rw [pH λw hw=>h w (gK _ hw)]
  split
  ·rfl
  ·have:x≠n:=by rintro rfl;exact h v di
   simp [this]
theorem pI{kindOf:Str→Option NameKind}{x:Str}{v:Value}:∀{P:List Str}{vs:List Value}{i:Nat}{m:Str→Option Value},P.Nodup→P[i]? =some x→vs[i]? =some v→kindOf x=some .local→
  bindL kindOf (P.zip vs) m x=some v
 | [],_,_,_,_,h,_,_=>by simp at h
 |_::_,[],_,_,_,_,h,_=>by simp at h
 |p::P,w::vs,0,m,nd,h1,h2,hk=>by
  simp at h1 h2;subst h1;subst h2;show bindL kindOf ((p,w)::P.zip vs) m p=_;unfold bindL;rw [pJ λv hv=>(nz.mp nd).1 (List.of_mem_zip hv).1,if_pos hk];simp
 |p::P,w::vs,i+1,m,nd,h1,h2,hk=>by
  show bindL kindOf ((p,w)::P.zip vs) m x=_;unfold bindL;exact pI (i:=i) (nz.mp nd).2 (by simpa using h1) (by simpa using h2) hk
theorem pG{kindOf:Str→Option NameKind}{x:Str}{v:Value}:∀{P:List Str}{vs:List Value}{i:Nat}{m:Str→Option Value},P.Nodup→P[i]? =some x→vs[i]? =some v→kindOf x≠some .local→
  bindC kindOf (P.zip vs) m x=some v
 | [],_,_,_,_,h,_,_=>by simp at h
 |_::_,[],_,_,_,_,h,_=>by simp at h
 |p::P,w::vs,0,m,nd,h1,h2,hk=>by
  simp at h1 h2;subst h1;subst h2;show bindC kindOf ((p,w)::P.zip vs) m p=_;unfold bindC;rw [pH λv hv=>(nz.mp nd).1 (List.of_mem_zip hv).1,if_neg hk];simp
 |p::P,w::vs,i+1,m,nd,h1,h2,hk=>by
  show bindC kindOf ((p,w)::P.zip vs) m x=_;unfold bindC;exact pG (i:=i) (nz.mp nd).2 (by simpa using h1) (by simpa using h2) hk
def start(N:List Str)(vs:List V):St:=vs.map some++List.replicate (N.length-vs.length) none
def gM(CX:jH)(P:Program)(w:World)(K:PySem.W.Frag)(mg:Str→Option Value)(base:Heap)(N:List Str)(qual:Str)(scope:Scope)(f:Addr)(cd:Value)(A:Around)(outer:List Env)(s:Shared)(H:Hp)(E:XK):Cx where
 prog:=P
 w:=w
 K:=K
 mg:=mg
 base:=base
 A:=A.deeper (envOfC qual scope s.heap.objs.size f cd)
 N:=N
 s₀:=s
 H₀:=H
 env:=envOfC qual scope s.heap.objs.size f cd
 outer:=outer
 stack:=envOfC qual scope s.heap.objs.size f cd::outer
 ex:= []
 calm:=true
 fn:=λ_=>true
 pn:= []
 xe:=λe s'=>wpAny (model P w) (A.deeper (envOfC qual scope s.heap.objs.size f cd)) (leaving (envOfC qual scope s.heap.objs.size f cd) e) (λ_ JO=>CX outer H s E e JO) (λe' JO=>CX outer H s E e' JO) s'
theorem rN{sc:Scope}{n:Nat}{x:Str}(h:sc.names.lookup x=some .cell):∃c,(cellsFrom n sc.names []).lookup x=some c:=by
 have q:=PySem.W.cellsFrom_some sc.names n [] (.inl h);exact Option.isSome_iff_exists.mp q
theorem xD{CX:jH}{P:Program}{w:World}{K:PySem.W.Frag}{mg:Str→Option Value}{base:Heap}{N ps:List Str}{qual:Str}{scope:Scope}{f:Addr}{cd:Value}{A:Around}{outer:List Env}{s s1:Shared}{H:Hp}{E:XK}{us:List Value}{vs:List V}
  (S:aB N ps scope) (hd:A.handled=none) (e0:Env0 P w K mg base A outer s H) (hl:vs.length=ps.length) (r:Vals vs us)
  (x:InCallC s s.heap.objs.size (bindL (envOfC qual scope s.heap.objs.size f cd).kindOf (ps.zip us) λ_=>none) (cellsFrom (s.heap.objs.size+1) scope.names []) (bindC (envOfC qual scope s.heap.objs.size f cd).kindOf (ps.zip us) λ_=>none) s1):
  Inv (gM CX P w K mg base N qual scope f cd A outer s H E) [] (start N vs) H s1:=by
 have bU:ps.length≤N.length:=by have:=congrArg List.length S.pre;rw [wo] at this;omega
 obtain ⟨h1,tk,rfl,hk⟩:=x.done;have CY:∀b:Addr,b∉(gM CX P w K mg base N qual scope f cd A outer s H E).ex:=λb z=>absurd (show b∈([]:List Addr) from z) (by simp)
 refine ⟨⟨e0.mod,S.kind,rfl,rfl,bL _,λy z c h1 h2=>?_,λy hy=>?_,λy c _ h=>?_,λ_=>hd,Around.frames_deeper e0.frames, .inr ⟨rfl,rfl⟩,λb z=>absurd z (CY b),e0.bs,e0.bsz,λb _ _=>CY b,λb z=>absurd z (CY b),e0.funs,e0.frf⟩,
  rfl,e0.bare,Un.kept hk,⟨_,x.toInCall.ns,λi y v h1 h2 h3=>?_⟩,λy c h=>⟨_,x.cell y c h⟩,e0.hok.fresh (bL _),λy c h=>?_,λp hp=>absurd (show p∈([]:List (Addr×Obj)) from hp) (by simp),e0.hok.kept hk,?_⟩
 ·exact name_of_addr x.apart (PySem.mem_of_lookup h1) (PySem.mem_of_lookup h2)
 ·have hy:scope.names.lookup y=some .cell∨scope.names.lookup y=some .free:=hy
  rcases hy with hy|hy
  ·exact rN hy
  ·exact absurd rfl (S.nofree _ (PySem.mem_of_lookup hy))
 ·exact Nat.le_of_lt (x.above y c (PySem.mem_of_lookup h))
 ·have hi:i<vs.length:=by
   unfold start at h2
   by_cases hi:i<vs.length
   ·exact hi
   ·rw [wb (by simpa using hi)] at h2
    rw [kQ] at h2
    split at h2<;>cases h2
  have ha:vs[i]? =some v:=by
   unfold start at h2;rw [qN (by simpa using hi),dX] at h2
   cases e:vs[i]? with
   |none=>rw [e] at h2;cases h2
   |some a=>rw [e] at h2;cases h2;rfl
  obtain ⟨u,hu,rv⟩:=r.get ha
  have hp:ps[i]? =some y:=by
   rw [←S.pre,List.getElem?_take_of_lt (by omega)];exact h1
  have NO:ps.Nodup:=by rw [←S.pre];exact S.nd.sublist (List.take_sublist _ _)
  refine ⟨u,rv,?_⟩
  rcases S.par y (jz hp) with k|k
  ·exact .inl ⟨k,pI NO hp hu k⟩
  ·obtain ⟨c,e⟩:=rN (n:=s.heap.objs.size+1) k
   refine .inr ⟨.inl k,c,e,?_⟩;have q:=x.cell y c e;rw [pG NO hp hu (by show scope.names.lookup y≠_;rw [k];decide)] at q
   exact q
 ·exact e0.hok.fresh (Nat.le_of_lt (x.above y c (PySem.mem_of_lookup h)))
 ·unfold start
  show _=N.length;rw [fw,bV,fv];omega
theorem B7{CX:jH}{P:Program}{w:World}{K:PySem.W.Frag}{mg:Str→Option Value}{base:Heap}{k:Nat}{f:Addr}{name qual:Str}{params:Arguments}{body:List Stmt}{scope:Scope}{dV kV doc pm aW ct oc:Value}{an od:Option Addr}
  {uf:Array (Option Value)} {N ps:List Str} {sp:Sp} (lk:K.lookup f=some ⟨oc,od, .func (PySem.W.fnOf name qual params body scope dV kV doc pm an aW ct),uf⟩) (eB:PySem.W.codeIn K aW qual=true) (S:aB N ps scope)
  (len:∀vs H Q E,sp vs H Q E→vs.length=ps.length)
  (fY:∀(A:Around)(outer:List Env)(s:Shared)(H:Hp)(vs:List V)(Q:VK)(E:XK),bC k (A.deeper (envOfC qual scope s.heap.objs.size f aW))→sp vs H Q E→
   ∃t,fS (gM CX P w K mg base N qual scope f aW A outer s H E) body t∧t {nx:=λ_ H'=>Q .aN H',rt:=Q} (start N vs) H):
  FnOk P w K mg base CX (k+1) f (PySem.W.fnOf name qual params body scope dV kV doc pm an aW ct) ps sp:=by
 refine ⟨len,λA outer s H args us vs Q E hr e0 hb r rm=>?_⟩;have hl:=len _ _ _ _ rm;have KX:K.In s.heap:=e0.mod.kin.keeps λb o e=>(e0.bs b o e).1;have lim:s.heap.NoLimit:=e0.mod.nolimit.keeps λb o e=>(e0.bs b o e).1
 have IY:∀y∈ps.zip us,scope.names.lookup y.1=some .local∨(scope.names.lookup y.1=some .cell∧((cellsFrom (s.heap.objs.size+1) scope.names []).lookup y.1).isSome=true):=λ⟨n,v⟩ hy=>by
  rcases S.par n (List.of_mem_zip hy).1 with q|q
  ·exact .inl q
  ·exact .inr ⟨q,PySem.W.cellsFrom_some _ _ _ (.inl q)⟩
 refine codeAny_call_function hr.depth (KX _ _ lk) rfl S.co S.gen rfl (PySem.W.codeRec_of KX eB) (hb _ _ _ _ ?_);refine wpAny_newFunctionEnv_cells S.kind IY λenv he s1 x=>?_;subst he;refine ⟨lim.keeps x.toInCall.keep,codeAny_func ?_⟩;obtain ⟨t,ht,hq⟩:=fY A outer s H vs Q E (hr.deeper _) rm;have I:Inv (gM CX P w K mg base N qual scope f aW A outer s H E) [] (start N vs) H s1:=xD S hr.hd e0 hl r x;refine wpAny_mono (ht [] s1 (start N vs) H _ I hq) (λfl s' hs=>?_) λe s' hs=>hs
 have fin:∀{ax:St}{H':Hp}{v:V}{u:Value},Inv (gM CX P w K mg base N qual scope f aW A outer s H E) [] ax H' s'→RelV v u→Q v H'→CE outer P w H s Q u s':=
  λ {ax H' v u} J rv q=>⟨v,H',J.os,J.bare,J.base,J.hok,rv,q⟩
 cases fl with
 |ret u=>
  obtain ⟨v,ax,H',J,rv,q⟩:=hs;exact fin J rv q
 |next=>
  obtain ⟨ax,H',J,q⟩:=hs;exact fin (v:=V.aN) (u:=Value.none) J rfl q
 |brk=>
  obtain ⟨_,_,_,q⟩:=hs;exact False.elim q
 |cont=>
  obtain ⟨_,_,_,q⟩:=hs;exact False.elim q
section
variable {X:Cx} {x:Str} {p pos:Pos} {e:Expr} {es:List Expr} {t:TA} {id T:String} {r:List V→Hp→VK→Prop}
def P8(r:List V→Hp→VK→Prop)(t:TA):TE:=λσ H Q=>t σ H λvs H1=>r vs H1 Q
theorem eY(hc:bP X (.builtin id) r)(hg:Gl X x)(hm:X.mg x=none)(hv:bootBuiltins x=some (.builtin id))(ha:PA X (e::es) t)(hn:x≠"__name__":=by decide)(dj:(x==("__debug__":Str))=false:=by decide)
  (he:starEach (e::es) X.env=(false,eval e X.env)::starEach es X.env:=by rfl) (bU:(backTo pos (starEach es X.env)).any (·.1)=false:=by rfl):PE X (.Call (.Name x p) (e::es) [] pos) (P8 r t):=by
 intro pins s σ H Q I h;refine wpAny_Call_Name_kw (gT I hg hm hv ?_ hn dj);exact PyProof.Rows.callWith_builtin1 (thn (ha pos pins s σ H _ I h) λus s1 ⟨vs,H1,I1,r1,q1⟩=>hc pins s1 σ H1 vs us Q I1 r1 q1) he bU
theorem lJ(hc:bP X (.type T) r)(hg:Gl X x)(hm:X.mg x=none)(hv:bootBuiltins x=some (.type T))(ha:PA X (e::es) t)(hn:x≠"__name__":=by decide)(dj:(x==("__debug__":Str))=false:=by decide)
  (he:starEach (e::es) X.env=(false,eval e X.env)::starEach es X.env:=by rfl) (bU:(backTo pos (starEach es X.env)).any (·.1)=false:=by rfl):PE X (.Call (.Name x p) (e::es) [] pos) (P8 r t):=by
 intro pins s σ H Q I h;refine wpAny_Call_Name_kw (gT I hg hm hv ?_ hn dj);exact PyProof.Rows.callWith_type1 (thn (ha pos pins s σ H _ I h) λus s1 ⟨vs,H1,I1,r1,q1⟩=>hc pins s1 σ H1 vs us Q I1 r1 q1) he bU
end
end L2
namespace HT
open PySem PyProof.Rows
def lexLt:List Int→List Int→Bool
 | [],[]=>false
 | [],_::_=>true
 |_::_,[]=>false
 |x::xs,y::ys=>if x=y then lexLt xs ys else decide (x<y)
theorem jY(x y:Int)(xs ys:List Int):lexLt (x::xs) (y::ys)=if x=y then lexLt xs ys else decide (x<y):=rfl
theorem pZ:lexLt [] []=false:=rfl
theorem oS(y:Int)(ys:List Int):lexLt [] (y::ys)=true:=rfl
theorem oR(x:Int)(xs:List Int):lexLt (x::xs) []=false:=rfl
theorem zK(A:Around)(s:Shared)(a:Int)(t:Tok)(c:Int)(u:Tok):∃e,SeqAt.EqAt A s (.int a t) (.int c u) e∧(e=true↔a=c):=
 ⟨(a==c),SeqAt.EqAt.int_int a t c u,by simp⟩
theorem AU(A:Around)(s:Shared)(a:Int)(t:Tok)(c:Int)(u:Tok)(prog:Program)(w:World)(E:Value→Shared→Prop)(Q:Value→Shared→Prop)(h:Q (.bool (decide (a<c))) s):
  wpAny (model prog w) A (richCompare .Lt (.int a t) (.int c u)) Q E s:=
 (PyProof.Rows.lt_int h:wpAny (model prog w) A (compareOp .Lt (.int a t) (.int c u)) Q E s)
section
open PySem.SeqAt
open PySem.AutoSeq1 (wpAny_loadPart')
open PySem.MeetsSeq PySem.MeetsSeq2 PySem.MeetsSeq3
theorem qJ(l b:Addr)(items fh:Array Value)(n n2:Nat)(dd zD:Option Addr)(sl vP:Array (Option Value))(ns ms:List Int)(hi:IntsAre items.toList ns)(hj:IntsAre fh.toList ms):
  Meets (Builtin.«tuple.__lt__» ⟨[.ref l, .ref b],[]⟩)
   (λ_ R s=>s.heap.get? l=some {cls:= .type "tuple",dict:=dd,data:= .seq items n,slots:=sl}∧s.heap.get? b=some {cls:= .type "tuple",dict:=zD,data:= .seq fh n2,slots:=vP}∧
    R (.ok (.ret (.bool (lexLt ns ms)))) s):=
 .of_wp λprog w A R s h=>by
  obtain ⟨hp,g,d,tk,os⟩:=s;obtain ⟨hl,hb,h⟩:=h;have f2:=AutoSeq1.sub_tuple_tuple;have z1:items.size=ns.length:=by rw [←hi.length];simp
  have z2:fh.size=ms.length:=by rw [←hj.length];simp
  wp_walk using wpAny_loadPart' hl,wpAny_loadPart' hb,wpAny_forIn_list _ (λrest b s'=>b.1=none∧s'=⟨hp,g,d,tk,os⟩∧∃(vs ws:List Value)(AF Az:List Int),rest=vs.zip ws∧
   IntsAre vs AF∧IntsAre ws Az∧AF.length+fh.size=Az.length+items.size∧R (.ok (.ret (.bool (lexLt AF Az)))) ⟨hp,g,d,tk,os⟩) _
  case turn=>
   rintro ⟨y,x⟩ rest b s' ⟨oP,rfl,vs,ws,AF,Az,hz,Jk,EL,hlen,hR⟩;cases Jk with
   |nil=>rw [List.zip_nil_left] at hz;cases hz
   |cons a t MT=>
    cases EL with
    |nil=>rw [List.zip_nil_right] at hz;cases hz
    |cons c u MU=>
     rw [List.zip_cons_cons] at hz
     injection hz with Ts pU
     injection Ts with hy hx
     subst hy hx;rw [jY] at hR;simp only [cJ] at hlen;obtain ⟨e,he,GX⟩:=zK A.in1 ⟨hp,g,d,tk,os⟩ a t c u;refine wpAny_bind (he prog w _ _ ?_);cases e with
     |true=>
      rw [if_pos (GX.mp rfl)] at hR
      wp_walk
      exact ⟨rfl,rfl,_,_,_,_,pU,MT,MU,by omega,hR⟩
     |false=>
      rw [if_neg (λq=>absurd (GX.mpr q) fF)] at hR;have Th:=AU A.in1 ⟨hp,g,d,tk,os⟩ a t c u prog w
      wp_walk using Th
      exact ⟨_,rfl,by simpa using hR⟩
  case fin=>
   rintro ⟨b1,b2⟩ s' ⟨oP,rfl,vs,ws,AF,Az,hz,Jk,EL,hlen,hR⟩;simp only at oP;subst oP
   have hv:lexLt AF Az=decide (items.size<fh.size):=by
    cases Jk with
    |nil=>
     cases EL with
     |nil=>
      simp only [ke] at hlen;rw [pZ];exact (decide_eq_false (by omega)).symm
     |cons c u hw=>
      simp only [ke,cJ] at hlen;rw [oS];exact (decide_eq_true (by omega)).symm
    |cons a t hv=>
     cases EL with
     |nil=>
      simp only [ke,cJ] at hlen;rw [oR];exact (decide_eq_false (by omega)).symm
     |cons c u hw=>
      rw [List.zip_cons_cons] at hz;cases hz
   rw [hv] at hR
   wp_walk
   exact ⟨_,rfl,by simpa [Builtin.Tuple.tupleCompareSizes] using hR⟩
  case h=>
   exact ⟨rfl,rfl,items.toList,fh.toList,ns,ms,rfl,hi,hj,by omega,h⟩
end
section
variable {prog:Program} {w:World} {A:Around} {E:Value→Shared→Prop} {s:Shared}
theorem vA{l b:Addr}{items fh:Array Value}{ns ms:List Int}{Q:Value→Shared→Prop}(hl:IsTup s.heap l items)(hb:IsTup s.heap b fh)(hi:IntsAre items.toList ns)(hj:IntsAre fh.toList ms)
  (hu:A.units<cLine) (h:Q (.bool (lexLt ns ms)) s):wpAny (model prog w) A (compareOp .Lt (.ref l) (.ref b)) Q E s:=by
 obtain ⟨⟨cls,dd,data,sl⟩,ho,hc,n,hd⟩:=id hl;obtain ⟨⟨K3,zD,data2,vP⟩,xw,Cf,n2,hd2⟩:=id hb;simp only at hc hd Cf hd2;subst hc hd Cf hd2
 exact richCompare_meets_room (op:= .Lt) ⟨_,ho,rfl⟩ ⟨_,xw,rfl⟩ PySem.F.slot_tuple_lt PySem.F.entry_tuple_lt (PySem.F.args_tuple_lt_2 _ _) (qJ l b items fh n n2 dd zD sl vP ns ms hi hj)
  ⟨ho,xw,show Value.bool (lexLt ns ms)≠Value.notImplemented∧Q (.bool (lexLt ns ms)) s from ⟨(λx=>nomatch x),h⟩⟩ hu
theorem Br{t b:Addr}{vs ws:List Value}{Q:Value→Shared→Prop}(ht:IsTup s.heap t vs.toArray)(hb:IsTup s.heap b ws.toArray)(hv:vs≠ [])
  (h1:ws= []→Q (.ref t) s) (h2:ws≠ []→Q (.ref s.heap.objs.size) {s with heap:=s.heap.push {cls:= .type "tuple",data:= .seq (vs++ws).toArray}})
  (rq:vs.length+ws.length≤sizeLine):wpAny (model prog w) A (binaryOp .Add (.ref t) (.ref b)) Q E s:=by
 obtain ⟨⟨cls,dd,data,sl⟩,ho,hc,n,hd⟩:=id ht;obtain ⟨⟨K3,zD,data2,vP⟩,xw,Cf,n2,hd2⟩:=id hb;simp only at hc hd Cf hd2;subst hc hd Cf hd2;have e:vs.toArray++ws.toArray=(vs++ws).toArray:=by simp
 by_cases hw:ws= []
 ·exact concat_meets ⟨_,ho,rfl⟩ ⟨_,xw,rfl⟩ noFill_tuple_add seq_tuple_add PySem.F.slot_tuple_add PySem.F.entry_tuple_add (PySem.F.args_tuple_add_2 _ _)
   (tuple_addW1 t b vs.toArray ws.toArray n n2 dd zD sl vP (by simpa using hv) (by simp [hw])) ⟨ho,xw,h1 hw⟩
 ·refine concat_meets ⟨_,ho,rfl⟩ ⟨_,xw,rfl⟩ noFill_tuple_add seq_tuple_add PySem.F.slot_tuple_add PySem.F.entry_tuple_add (PySem.F.args_tuple_add_2 _ _)
   (tuple_addW2 t b vs.toArray ws.toArray n n2 dd zD sl vP (by simpa using hv) (by simpa using hw) (by rw [cp,cp];exact rq)) ⟨ho,xw,?_⟩
  rw [e];exact h2 hw
def bf(n d:Nat):Option Int→Nat
 |none=>d
 |some v=>if v<0 then (v+(n:Int)).toNat else min v.toNat n
theorem FN(n d:Nat)(hd:d≤n)(o:Option Int):bf n d o≤n:=by
 cases o with
 |none=>exact hd
 |some v=>
  show (if v<0 then (v+(n:Int)).toNat else min v.toNat n)≤n
  by_cases hv:v<0
  ·rw [if_pos hv];omega
  ·rw [if_neg hv];exact Nat.min_le_right _ _
theorem uS(v:Int)(n d:Nat):(if v<0 then max (v+(n:Int)) 0 else min v (n:Int))=((bf n d (some v):Nat):Int):=by
 show (if v<0 then max (v+(n:Int)) 0 else min v (n:Int))=(((if v<0 then (v+(n:Int)).toNat else min v.toNat n):Nat):Int)
 by_cases hv:v<0
 ·simp only [if_pos hv];omega
 ·simp only [if_neg hv];omega
theorem uI(lo hi:Option Int)(n:Nat):Builtin.Slice.sliceAdjust lo hi 1 (n:Int)=(((bf n 0 lo:Nat):Int),((bf n n hi:Nat):Int)):=by
 have h1:¬((1:Int)<0):=by omega
 unfold Builtin.Slice.sliceAdjust;simp only [h1,if_false];refine Prod.ext ?_ ?_
 ·cases lo with
  |none=>rfl
  |some v=>exact uS v n 0
 ·cases hi with
  |none=>rfl
  |some v=>exact uS v n n
theorem vL(i j:Nat):Builtin.Slice.slicePlaces (i:Int) (j:Int) 1=j-i:=by
 unfold Builtin.Slice.slicePlaces;have h1:(1:Int)>0:=by omega
 simp only [h1,if_true,Int.ediv_one]
 split<;>omega
theorem oJ{v:Value}{o:Option Int}{Q:Option Int→Shared→Prop}(p:IsPart v o)(h:Q o s):wpAny (model prog w) A (Builtin.Slice.slicePartIndex v) Q E s:=by
 cases p with
 |none=>exact slicePart_none h
 |int i t=>exact slicePart_int h
theorem hV{sl:Addr}{vl vu:Value}{lo hi:Option Int}{n:Nat}{Q:Int×Int×Nat→Shared→Prop}(hs:s.heap.IsSliceOf sl vl vu .none)(pl:IsPart vl lo)(pu:IsPart vu hi)
  (h:Q (((bf n 0 lo:Nat):Int),1,bf n n hi-bf n 0 lo) s):wpAny (model prog w) A (Builtin.Slice.sliceApplied (.ref sl) (pure (n:Int))) Q E s:=by
 obtain ⟨os,xy,EH,xk⟩:=id hs;unfold Builtin.Slice.sliceApplied Builtin.Slice.sliceFields;refine wpAny_bind (wpAny_bind (wpAny_field xy xk (x:=vl) rfl (wpAny_bind (wpAny_field xy xk (x:=vu) rfl (wpAny_bind (wpAny_field xy xk (x:= .none) rfl (wpAny_pure ?_)))))));refine wpAny_bind (slicePart_none ?_);show wpAny _ _ (if ((1:Int)==0)=true then _ else _) _ _ s;rw [if_neg (by decide)]
 refine wpAny_bind (oJ pl (wpAny_bind (oJ pu (wpAny_bind (wpAny_pure ?_)))));show wpAny _ _ (match Builtin.Slice.sliceAdjust lo hi 1 (n:Int) with| (lo,hi)=>pure (lo,(1:Int),Builtin.Slice.slicePlaces lo hi 1)) _ _ s
 rw [uI lo hi n];show wpAny _ _ (pure (((bf n 0 lo:Nat):Int),(1:Int),Builtin.Slice.slicePlaces ((bf n 0 lo:Nat):Int) ((bf n n hi:Nat):Int) 1)) _ _ s;rw [vL];exact wpAny_pure h
theorem AN(xs:Array Value)(i k:Nat):((List.range k).filterMap λ(m:Nat)=>xs[((i:Int)+(m:Int)*1).toNat]?).toArray=((xs.toList.drop i).take k).toArray:=by
 have e:(λ(m:Nat)=>xs[((i:Int)+(m:Int)*1).toNat]?)=λm=>xs[i+m]? :=by
  funext m
  have:((i:Int)+(m:Int)*1).toNat=i+m:=by omega
  rw [this]
 rw [e]
 have:=pick_run xs i k
 rw [List.filterMap_map] at this;have e2:((λx=>xs[x]?)∘λx=>i+x)=λm=>xs[i+m]? :=rfl;rw [e2] at this;rw [this]
theorem kY{t sl:Addr}{items:Array Value}{vl vu:Value}{lo hi:Option Int}{Q:Value→Shared→Prop}(ht:IsTup s.heap t items)(hs:s.heap.IsSliceOf sl vl vu .none)(pl:IsPart vl lo)(pu:IsPart vu hi)
  (hw:¬(bf items.size 0 lo=0∧bf items.size items.size hi=items.size))
  (h:Q (.ref s.heap.objs.size) {s with heap:=s.heap.push {cls:= .type "tuple",data:= .seq ((items.toList.drop (bf items.size 0 lo)).take (bf items.size items.size hi-bf items.size 0 lo)).toArray}})
  (rq:items.size≤sizeLine):wpAny (model prog w) A (getItem (.ref t) (.ref sl)) Q E s:=by
 have tV:sizeOk (.seq ((items.toList.drop (bf items.size 0 lo)).take (bf items.size items.size hi-bf items.size 0 lo)).toArray):=by
  show ((items.toList.drop (bf items.size 0 lo)).take (bf items.size items.size hi-bf items.size 0 lo)).toArray.size≤sizeLine;rw [cp,wo,List.length_drop,Array.length_toList];omega
 have hj:bf items.size items.size hi≤items.size:=FN _ _ (bL _) hi;obtain ⟨os,xy,EH,xk⟩:=id hs;have IF:s.TypeIs (.ref sl) "slice":=⟨os,xy,EH⟩;unfold getItem
 try with_reducible refine wpAny_holding ?_
 first|refine wpAny_bind (wpAny_pure ?_) |skip
 refine wpAny_bind (wpAny_sequenceKey ht.typeIs (by decide) ?_)
 refine wpAny_bind (wpAny_callSpecial?_slot (name:=Str.ofString "__getitem__") ht.typeIs PyProof.Rows.slot_tuple_getitem
  (wpAny_call_entry PyProof.Rows.slot_tuple_getitem ht.typeIs entry_tuple_getitem ?_ (args_tuple_getitem _ _)))
 show wpAny _ _ (Builtin.Tuple.tupleItemsOf (.ref t)>>=_) _ _ s;refine wpAny_bind (tupleItemsOf_ ht ?_);refine wpAny_bind (wpAny_typeOf IF ?_);rw [if_pos (by decide)]
 refine wpAny_bind (hV hs pl pu ?_)
 have CD:¬((((bf items.size 0 lo:Nat):Int)==0&&(1:Int)==1&&(bf items.size items.size hi-bf items.size 0 lo)==items.size)=true):=by
  intro q;rw [jA,jA] at q;have q1:((bf items.size 0 lo:Nat):Int)=0:=eq_of_beq q.1.1;have q2:bf items.size items.size hi-bf items.size 0 lo=items.size:=eq_of_beq q.2;exact hw ⟨by omega,by omega⟩
 show wpAny _ _ (if (((bf items.size 0 lo:Nat):Int)==0&&(1:Int)==1&&(bf items.size items.size hi-bf items.size 0 lo)==items.size)=true then _ else _) _ _ s;rw [if_neg CD,AN]
 first
  |exact wpAny_bind (m:=Builtin.Tuple.tupleExact _) (wpAny_newObj_type (wpAny_pure ⟨_,rfl,wpAny_pure h⟩) tV)
  |exact wpAny_bind (m:=Builtin.Tuple.tupleExact _) (wpAny_newObj_type (wpAny_bind (wpAny_pure (wpAny_pure ⟨_,rfl,wpAny_pure h⟩))) tV)
  |exact wpAny_bind (wpAny_bind (m:=Builtin.Tuple.tupleExact _) (wpAny_newObj_type (wpAny_pure (wpAny_pure ⟨_,rfl,wpAny_pure h⟩)) tV))
  |exact wpAny_bind (wpAny_bind (m:=Builtin.Tuple.tupleExact _) (wpAny_newObj_type (wpAny_pure ⟨_,rfl,wpAny_pure h⟩) tV))
end
end HT
namespace L2
open PySem PySem.Spec PyProof.Rows
abbrev TO:=St→Hp→(Option Int→Hp→Prop)→Prop
def PO(X:Cx)(e:Option Expr)(t:TO):Prop:=
 ∀(pins:List (Addr×Obj))(s:Shared)(σ:St)(H:Hp)(Q:Option Int→Hp→Prop),Inv X pins σ H s→t σ H Q→
  wpAny (model X.prog X.w) X.A (evalPart e X.env) (λu s'=>∃o H',Inv X pins σ H' s'∧IsPart u o∧Q o H') X.xe s
def D4:TO:=λ_ H Q=>Q none H
def JZ(t:TE):TO:=λσ H Q=>t σ H λx H1=>∃i,x= .int i∧Q (some i) H1
theorem intsAre_of{ns:List Int}:∀{us:List Value},Vals (ns.map V.int) us→IntsAre us ns:=by
 induction ns with
 |nil=>intro us r;rw [List.map_nil] at r;cases r;exact .nil
 |cons n ns ih=>
  intro us r;rw [List.map_cons] at r;cases r with
  |cons r1 r2=>
   obtain ⟨t,e⟩:=r1;subst e;exact .cons n t (ih r2)
section
variable {X:Cx} {e:Expr} {te:TE} {lo hi:Option Expr} {tl th:TO} {pos p2:Pos}
theorem Dq:PO X none D4:=by
 intro pins s σ H Q I h;rw [evalPart_none];exact wpAny_pure ⟨none,H,I, .none,h⟩
theorem Dr(h:PE X e te):PO X (some e) (JZ te):=by
 intro pins s σ H Q I hw;rw [evalPart_some];refine thn (h pins s σ H _ I hw) λu s1 ⟨x,H1,I1,r1,q1⟩=>?_;obtain ⟨i,rfl,q⟩:=q1;obtain ⟨t,rfl⟩:=r1;exact ⟨some i,H1,I1, .int i t,q⟩
def uG(X:Cx)(r:V→Option Int→Option Int→Hp→VK→Prop):Prop:=
 ∀(pins:List (Addr×Obj))(s:Shared)(σ:St)(H:Hp)(x:V)(v vl vu:Value)(lo hi:Option Int)(sl:Addr)(Q:VK),Inv X pins σ H s→RelV x v→s.heap.IsSliceOf sl vl vu .none→IsPart vl lo→IsPart vu hi→r x lo hi H Q→
  ∃T id,typeLookup (.type T) "__getitem__"=pure (some (.builtin id))∧s.TypeIs v T∧wpAny (model X.prog X.w) X.A (getItem v (.ref sl)) (EP X pins σ Q) X.xe s
theorem uG.or{r r':V→Option Int→Option Int→Hp→VK→Prop}(h:uG X r)(h':uG X r'):uG X (λx lo hi H Q=>r x lo hi H Q∨r' x lo hi H Q):=by
 intro pins s σ H x v vl vu lo hi sl Q I rx hs pl pu q
 rcases q with q|q
 ·exact h pins s σ H x v vl vu lo hi sl Q I rx hs pl pu q
 ·exact h' pins s σ H x v vl vu lo hi sl Q I rx hs pl pu q
def W5(r:V→Option Int→Option Int→Hp→VK→Prop)(te:TE)(tl th:TO):TE:=λσ H Q=>te σ H λx H1=>tl σ H1 λl H2=>th σ H2 λu H3=>r x l u H3 Q
theorem sN{r:V→Option Int→Option Int→Hp→VK→Prop}(hr:uG X r)(he:PE X e te)(hl:PO X lo tl)(hu:PO X hi th):PE X (.Subscript e (.Slice lo hi none p2) pos) (W5 r te tl th):=by
 intro pins s σ H Q I h;refine Subscript_ (thn (he pins s σ H _ I h) λv s1 ⟨x,H1,I1,r1,q1⟩=>?_);refine wpAny_Slice (thn (hl pins s1 σ H1 _ I1 q1) λvl s2 ⟨l,H2,I2,pl,q2⟩=>thn (hu pins s2 σ H2 _ I2 q2) λvu s3 ⟨u,H3,I3,pu,q3⟩=>?_);rw [evalPart_none];refine wpAny_pure ?_;have I4:Inv X pins σ H3 {s3 with heap:=s3.heap.push {cls:= .type "slice",data:= .fields #[vl,vu, .none]}}:=I3.kept (t':=s3.toks) λb ob q=>Heap.get?_push_of_some _ q
 obtain ⟨T,id,hT,ht,hg⟩:=hr pins {s3 with heap:=s3.heap.push {cls:= .type "slice",data:= .fields #[vl,vu, .none]}} σ H3 x v vl vu l u s3.heap.objs.size Q I4 r1 (Heap.IsSliceOf.new ..) pl pu q3
 show wpAny (model X.prog X.w) X.A (subscriptTail e (.Slice lo hi none p2) v (.ref s3.heap.objs.size)) (EP X pins σ Q) X.xe {s3 with heap:=s3.heap.push {cls:= .type "slice",data:= .fields #[vl,vu, .none]}}
 exact tail_any (ops:= [.ref s3.heap.objs.size,v]) ht hT hg (by with_unfolding_all rfl)
def oq(xs:List V)(lo hi:Option Int):List V:=(xs.drop (HT.bf xs.length 0 lo)).take (HT.bf xs.length xs.length hi-HT.bf xs.length 0 lo)
theorem lS(xs:List V)(lo hi:Option Int):(oq xs lo hi).length≤xs.length:=by
 unfold oq;rw [wo,List.length_drop];omega
def Pl(K:PySem.W.Frag):V→Option Int→Option Int→Hp→VK→Prop:=λx lo hi H Q=>∃a xs,x= .ref a∧cj K H a xs∧
 ¬(HT.bf xs.length 0 lo=0∧HT.bf xs.length xs.length hi=xs.length)∧∀p,H p=none→Q (.ref p) (upd H p (.tup (oq xs lo hi)))
theorem yZ:uG X (Pl X.K):=by
 intro pins s σ H x v vl vu lo hi sl Q I rx hs pl pu h;obtain ⟨a,xs,rfl,hx,hw,q⟩:=h;cases rx;obtain ⟨its,r,ht,hz⟩:=I.tuple hx;have hlen:its.toArray.size=xs.length:=by rw [cp];exact r.length.symm
 refine ⟨"tuple",_,PyProof.Rows.slot_tuple_getitem.lookup,ht.typeIs,?_⟩;refine HT.kY ht hs pl pu (by rw [hlen];exact hw) ?_ (by rw [hlen];exact hz)
 rw [hlen];refine ⟨.ref s.heap.objs.size,_,I.laid (t':=s.toks) (o:= .tup (oq xs lo hi)) (λb ob q=>Heap.get?_push_of_some _ q) (bL _) ?_,rfl,q _ (I.hok.fresh (bL _))⟩;exact ⟨fz (lS xs lo hi) hz,_,(r.drop (HT.bf xs.length 0 lo)).take (HT.bf xs.length xs.length hi-HT.bf xs.length 0 lo),IsTup.new _ _⟩
def JJ(K:PySem.W.Frag):R2:=λx y H Q=>∃a b xs ys,x= .ref a∧y= .ref b∧cj K H a xs∧cj K H b ys∧xs≠ []∧xs.length+ys.length≤sizeLine∧
 (ys= []→Q (.ref a) H)∧(ys≠ []→∀p,H p=none→Q (.ref p) (upd H p (.tup (xs++ys))))
theorem Vals.qf{xs:List V}{us:List Value}(r:Vals xs us):us= []↔xs= []:=by
 cases r with
 |nil=>simp
 |cons _ _=>simp
theorem C9:OpR X (binaryOp .Add) (JJ X.K):=by
 intro pins s σ H x y v u Q I rx ry h;obtain ⟨a,b,xs,ys,rfl,rfl,ha,hb,hx,hz,q1,q2⟩:=h;cases rx;cases ry;obtain ⟨its,r1,p1,_⟩:=I.tuple ha;obtain ⟨f9,r2,p2,_⟩:=I.tuple hb;refine HT.Br p1 p2 (λz=>hx (r1.qf.mp z)) (λz=>⟨.ref a,H,I,rfl,q1 (r2.qf.mp z)⟩) (λz=>?_) (by rw [←r1.length,←r2.length];exact hz)
 refine ⟨.ref s.heap.objs.size,_,I.laid (t':=s.toks) (o:= .tup (xs++ys)) (λb ob q=>Heap.get?_push_of_some _ q) (bL _) ?_,rfl,q2 (λw=>z (r2.qf.mpr w)) _ (I.hok.fresh (bL _))⟩;exact ⟨by rw [fw];exact hz,_,r1.append r2,IsTup.new _ _⟩
end
def gc(n:Nat)(i:Int):Option Nat:=if 0≤i then (if i<n then some i.toNat else none) else if-(n:Int)≤i then some (i+n).toNat else none
def cE{α:Type}(xs:List α)(i:Int):Option α:=(gc xs.length i).bind λj=>xs[j]?
theorem vq{n:Nat}{i:Int}{j:Nat}(h:gc n i=some j):seqIndex? i n=some j∧j<n∧-(n:Int)≤i∧i<n:=by
 unfold gc at h
 by_cases h0:0≤i
 ·rw [if_pos h0] at h
  by_cases h1:i<n
  ·rw [if_pos h1] at h
   have e:i.toNat=j:=Option.some.inj h;exact ⟨by rw [seqIndex_of h0 h1,e],by omega,by omega,h1⟩
  ·rw [if_neg h1] at h;cases h
 ·rw [if_neg h0] at h
  by_cases h1: -(n:Int)≤i
  ·rw [if_pos h1] at h
   have e:(i+n).toNat=j:=Option.some.inj h;exact ⟨by rw [seqIndex_neg (by omega) h1,e],by omega,h1,by omega⟩
  ·rw [if_neg h1] at h;cases h
theorem uK{α:Type}{xs:List α}{i:Int}{v:α}(h:cE xs i=some v):∃j,seqIndex? i xs.length=some j∧xs[j]? =some v∧j<xs.length∧-(xs.length:Int)≤i∧i<xs.length:=by
 unfold cE at h;cases e:gc xs.length i with
 |none=>rw [e] at h;cases h
 |some j=>
  rw [e] at h;obtain ⟨h1,h2,h3,h4⟩:=vq e;exact ⟨j,h1,h,h2,h3,h4⟩
theorem uL{α:Type}{xs:List α}{j:Nat}{v:α}(h:xs[j]? =some v):cE xs (j:Int)=some v:=by
 have hj:j<xs.length:=(gF.mp h).1
 have e:gc xs.length (j:Int)=some j:=by
  unfold gc;rw [if_pos (by omega),if_pos (by omega)];simp
 unfold cE;rw [e];exact h
def iA(b:Expr):Prop:=∀o i,subscripted b false o i=operate [o,i] (getItem o i)
def wy(X:Cx)(r:R2):Prop:=
 ∀(value slice:Expr)(pins:List (Addr×Obj))(s:Shared)(σ:St)(H:Hp)(x y:V)(v u:Value)(Q:VK),Inv X pins σ H s→RelV x v→RelV y u→r x y H Q→
  subscripted slice false v u=operate [v,u] (getItem v u)→wpAny (model X.prog X.w) X.A (subscriptTail value slice v u) (EP X pins σ Q) X.xe s
def Kh(X:Cx)(id:String)(r:V→List V→Hp→VK→Prop):Prop:=
 ∀(pins:List (Addr×Obj))(s:Shared)(σ:St)(H:Hp)(x:V)(xs:List V)(v:Value)(us:List Value)(Q:VK),Inv X pins σ H s→RelV x v→Vals xs us→r x xs H Q→
  wpAny (model X.prog X.w) X.A (call (.builtin id) (v::us)) (EP X pins σ Q) X.xe s
section
variable {X:Cx} {a b:Expr} {ta tb:TE} {pos:Pos}
theorem wy.or{r r':R2}(h:wy X r)(h':wy X r'):wy X (λx y H Q=>r x y H Q∨r' x y H Q):=by
 intro value slice pins s σ H x y v u Q I rx ry q hs
 rcases q with q|q
 ·exact h value slice pins s σ H x y v u Q I rx ry q hs
 ·exact h' value slice pins s σ H x y v u Q I rx ry q hs
theorem jm{r:R2}(hr:wy X r)(ha:PE X a ta)(hb:PE X b tb)(hs:iA b):PE X (.Subscript a b pos) (D5 r ta tb):=by
 intro pins s σ H Q I h;exact Subscript_ (Bp ha hb I h λv u s2 x y H2 I2 rx ry q=>hr a b pins s2 σ H2 x y v u Q I2 rx ry q (hs _ _))
def Pe(K:PySem.W.Frag):R2:=λx y H Q=>∃p xs i v,x= .ref p∧y= .int i∧bb K H p xs∧cE xs i=some v∧Q v H
def Pf(K:PySem.W.Frag):R2:=λx y H Q=>∃p xs i v,x= .ref p∧y= .int i∧cj K H p xs∧cE xs i=some v∧Q v H
theorem eE:wy X (Pe X.K):=by
 intro value slice pins s σ H x y v u Q I rx ry h hs;obtain ⟨p,xs,i,z,rfl,rfl,hq,he,q⟩:=h;cases rx;obtain ⟨t,rfl⟩:=ry;obtain ⟨its,r,pl,hz⟩:=I.list hq;obtain ⟨j,h1,h2,h3,h4,h5⟩:=uK he;obtain ⟨w,ew,qz⟩:=r.get h2;have hl:=r.length;have hn:=kj;have fin:EP X pins σ Q w s:=⟨z,H,I,qz,q⟩
 by_cases h0:0≤i
 ·have hj:i.toNat=j:=by
   rw [seqIndex_of h0 h5] at h1;exact Option.some.inj h1
  exact item_listR pl.isList h0 (by omega) (by rw [hj];simpa using ew) fin hs
 ·have hj:(i+(its.toArray.size:Int)).toNat=j:=by
   rw [seqIndex_neg (by omega) h4] at h1
   rw [cp,←hl];exact Option.some.inj h1
  exact subscriptTail_builtinR (x:=w) pl.isList.typeIs slot_list_getitem.lookup
   (wpAny_getItem_list_neg (Q:=λr s'=>r=w∧EP X pins σ Q r s') pl.isList (by omega) (by rw [cp]<;>omega) (by omega) (by rw [hj];simpa using ew) ⟨rfl,fin⟩) hs
theorem EU:wy X (Pf X.K):=by
 intro value slice pins s σ H x y v u Q I rx ry h hs;obtain ⟨p,xs,i,z,rfl,rfl,hq,he,q⟩:=h;cases rx;obtain ⟨t,rfl⟩:=ry;obtain ⟨its,r,pl,hz⟩:=I.tuple hq;obtain ⟨j,h1,h2,h3,h4,h5⟩:=uK he;obtain ⟨w,ew,qz⟩:=r.get h2;have hl:=r.length;have hn:=kj;have fin:EP X pins σ Q w s:=⟨z,H,I,qz,q⟩
 exact subscriptTail_builtinR (x:=w) pl.typeIs slot_tuple_getitem.lookup
  (getItem_tuple (j:=j) (Q:=λr s'=>r=w∧EP X pins σ Q r s') pl (by omega) (by omega) (by rw [cp,←hl];exact h1) (by simpa using ew) ⟨rfl,fin⟩) hs
theorem vD(its:List Value)(n j:Nat)(u:Value):Obj.mapSeq (·.setIfInBounds j u) {cls:= .type "list",data:= .seq its.toArray n}={cls:= .type "list",data:= .seq (its.set j u).toArray n}:=by
 simp [Obj.mapSeq]
theorem Inv.lst{pins:List (Addr×Obj)}{σ:St}{H:Hp}{s:Shared}{p:Addr}{xs:List V}(I:Inv X pins σ H s)(h:H p=some (.lst xs)):
  ∃(its:List Value)(n:Nat),Vals xs its∧s.heap.get? p=some {cls:= .type "list",data:= .seq its.toArray n}∧xs.length≤sizeLine:=by
 obtain ⟨z,its,n,r,e⟩:=I.hok p _ h;exact ⟨its,n,r,e,z⟩
theorem Inv.E5{pins:List (Addr×Obj)}{σ:St}{H:Hp}{s:Shared}{p:Addr}{xs ys:List V}{its its':List Value}{n n':Nat}{f:Obj→Obj}(I:Inv X pins σ H s)(h:H p=some (.lst xs))
  (ho:s.heap.get? p=some {cls:= .type "list",data:= .seq its.toArray n}) (hf:f {cls:= .type "list",data:= .seq its.toArray n}={cls:= .type "list",data:= .seq its'.toArray n'}) (r:Vals ys its') (hz:ys.length≤sizeLine) (t:Nat):
  Inv X pins σ (upd H p (.lst ys)) {s with heap:=s.heap.update p f,toks:=t}:=by
 have e:(s.heap.update p f).get? p=some {cls:= .type "list",data:= .seq its'.toArray n'}:=by
  rw [Heap.get?_update_self f ho (by rw [hf]<;>rfl),hf]
 refine I.write (x:=p) (e:=p) (by rw [h];trivial) (.inl rfl) (λb u hb q=>(Heap.get?_update_other _ _ (Ne.symm hb)).trans q) ⟨_,e⟩ ?_
 exact ⟨hz,its',n',r,e⟩
def JL:V→V→V→Hp→(Hp→Prop)→Prop:=λo i v H Q=>∃p xs k j,o= .ref p∧i= .int k∧H p=some (.lst xs)∧gc xs.length k=some j∧Q (upd H p (.lst (xs.set j v)))
theorem set_list:Gg X JL:=by
 intro pins s σ H o i v ov iv u Q I ro ri rv h;obtain ⟨p,xs,k,j,rfl,rfl,hp,hj,q⟩:=h;cases ro;obtain ⟨t,rfl⟩:=ri;obtain ⟨its,n,r,ho,hz⟩:=I.lst hp;obtain ⟨h1,h2,h3,h4⟩:=vq hj;have hl:=r.length;have hn:=kj
 have I':Inv X pins σ (upd H p (.lst (xs.set j v))) {s with heap:=s.heap.update p (Obj.mapSeq (·.setIfInBounds j u))}:=
  I.E5 hp ho (vD its n j u) (r.set rv j) (by rw [dm];exact hz) s.toks
 by_cases h0:0≤k
 ·have hk:k.toNat=j:=by
   rw [seqIndex_of h0 h4] at h1;exact Option.some.inj h1
  exact PySem.W.ki_setAt ho h0 (by omega) (by rw [cp,←hl];exact h4) (by rw [hk];exact ⟨_,I',q⟩)
 ·have hk:(k+(its.toArray.size:Int)).toNat=j:=by
   rw [seqIndex_neg (by omega) h3] at h1
   rw [cp,←hl];exact Option.some.inj h1
  exact PySem.W.ki_setBack ho (by omega) (by rw [cp,←hl];exact h3) (by omega) (by rw [hk];exact ⟨_,I',q⟩)
theorem rE(lo hi:Option Int)(n:Nat):(sliceBounds lo hi none n).1=((HT.bf n 0 lo:Nat):Int)∧(sliceBounds lo hi none n).2.1=((HT.bf n n hi:Nat):Int)∧(sliceBounds lo hi none n).2.2=1:=by
 refine ⟨?_,?_,rfl⟩
 ·cases lo with
  |none=>simp [sliceBounds,HT.bf]
  |some i=>
   simp only [sliceBounds,HT.bf,Option.getD_none,show (1:Int)>0 by decide,if_true]
   by_cases h:i<0
   ·simp only [h,if_true]<;>omega
   ·simp only [h,if_false]<;>omega
 ·cases hi with
  |none=>simp [sliceBounds,HT.bf]
  |some i=>
   simp only [sliceBounds,HT.bf,Option.getD_none,show (1:Int)>0 by decide,if_true]
   by_cases h:i<0
   ·simp only [h,if_true]<;>omega
   ·simp only [h,if_false]<;>omega
theorem qC(its:List Value)(lo hi:Option Int):slicePick its.toArray lo hi none=((its.drop (HT.bf its.length 0 lo)).take (HT.bf its.length its.length hi-HT.bf its.length 0 lo)).toArray:=by
 obtain ⟨h1,h2,h3⟩:=rE lo hi its.toArray.size;unfold slicePick;rw [h1,h2,h3];simp only [sliceRange_one,pick_run,cp]<;>rfl
def Pk(K:PySem.W.Frag):V→Option Int→Option Int→Hp→VK→Prop:=λx lo hi H Q=>∃a xs,x= .ref a∧bb K H a xs∧∀p,H p=none→Q (.ref p) (upd H p (.lst (oq xs lo hi)))
theorem DM:uG X (Pk X.K):=by
 intro pins s σ H x v vl vu lo hi sl Q I rx hs pl pu h;obtain ⟨a,xs,rfl,hx,q⟩:=h;cases rx;obtain ⟨its,r,ht,hz⟩:=I.list hx;have hlen:=r.length;refine ⟨"list",_,slot_list_getitem.lookup,ht.isList.typeIs,?_⟩;refine wpAny_getItem_list_slice ht.isList hs pl pu .none (by simp) ?_ (by rw [cp]<;>omega)
 rw [qC,←hlen];refine ⟨.ref s.heap.objs.size,_,I.laid (t':=s.toks) (o:= .lst (oq xs lo hi)) (λb ob q=>Heap.get?_push_of_some _ q) (bL _) ?_,rfl,q _ (I.hok.fresh (bL _))⟩;exact ⟨fz (lS xs lo hi) hz,_,0,(r.drop (HT.bf xs.length 0 lo)).take (HT.bf xs.length xs.length hi-HT.bf xs.length 0 lo),Heap.get?_push_size _ rfl⟩
def ie:V→Bool
 | .aN=>true
 | .bl _=>true
 | .int _=>true
 | .str _=>true
 |_=>false
def tO:V→V→Bool
 | .aN, .aN=>true
 | .bl a, .bl b=>a==b
 | .bl a, .int b=>(if a then 1 else 0)==b
 | .int a, .bl b=>a==(if b then 1 else 0)
 | .int a, .int b=>a==b
 | .str a, .str b=>a==b
 |_,_=>false
theorem EB{A:Around}{s:Shared}{y x:V}{u v:Value}(ry:RelV y u)(rx:RelV x v)(fy:ie y=true)(fx:ie x=true):SeqAt.EqAt A s u v (tO y x):=by
 cases y with
 |aN=>
  cases ry;cases x with
  |aN=>cases rx;exact SeqAt.EqAt.same _
  |bl b=>cases rx;exact SeqAt.EqAt.none_bool b
  |int b=>obtain ⟨t,rfl⟩:=rx;exact SeqAt.EqAt.none_int b t
  |str b=>obtain ⟨t,rfl⟩:=rx;exact SeqAt.EqAt.none_str b t
  |_=>exact absurd (show false=true from fx) fF
 |bl a=>
  cases ry;cases x with
  |aN=>cases rx;exact SeqAt.EqAt.bool_none a
  |bl b=>cases rx;exact SeqAt.EqAt.bool_bool a b
  |int b=>obtain ⟨t,rfl⟩:=rx;exact SeqAt.EqAt.bool_int a b t
  |str b=>obtain ⟨t,rfl⟩:=rx;exact SeqAt.EqAt.bool_str a b t
  |_=>exact absurd (show false=true from fx) fF
 |int a=>
  obtain ⟨t',rfl⟩:=ry;cases x with
  |aN=>cases rx;exact SeqAt.EqAt.int_none a t'
  |bl b=>cases rx;exact SeqAt.EqAt.int_bool a t' b
  |int b=>obtain ⟨t,rfl⟩:=rx;exact SeqAt.EqAt.int_int a t' b t
  |str b=>obtain ⟨t,rfl⟩:=rx;exact SeqAt.EqAt.int_str a t' b t
  |_=>exact absurd (show false=true from fx) fF
 |str a=>
  obtain ⟨t',rfl⟩:=ry;cases x with
  |aN=>cases rx;exact SeqAt.EqAt.str_none a t'
  |bl b=>cases rx;exact SeqAt.EqAt.str_bool a t' b
  |int b=>obtain ⟨t,rfl⟩:=rx;exact SeqAt.EqAt.str_int a t' b t
  |str b=>obtain ⟨t,rfl⟩:=rx;exact SeqAt.EqAt.str_str a t' b t
  |_=>exact absurd (show false=true from fx) fF
 |_=>exact absurd (show false=true from fy) fF
def kW(x:V)(u:Value):Bool:=match u with
 | .none=>tO .aN x
 | .bool b=>tO (.bl b) x
 | .int i _=>tO (.int i) x
 | .str z _=>tO (.str z) x
 |_=>false
theorem yD{x y:V}{u:Value}(r:RelV y u)(f:ie y=true):kW x u=tO y x:=by
 cases y with
 |aN=>cases r;rfl
 |bl b=>cases r;rfl
 |int i=>obtain ⟨t,rfl⟩:=r;rfl
 |str z=>obtain ⟨t,rfl⟩:=r;rfl
 |_=>exact absurd (show false=true from f) fF
theorem jK{x:V}:∀{xs:List V}{us:List Value},Vals xs us→xs.all ie=true→us.any (kW x)=xs.any λy=>tO y x
 |_,_, .nil,_=>rfl
 |y::xs,u::us, .cons r t,f=>by
  rw [List.all_cons,jA] at f;rw [List.any_cons,List.any_cons,yD r f.1,jK t f.2]
theorem iJ{A:Around}{s:Shared}{x:V}{v:Value}(rx:RelV x v)(fx:ie x=true):∀{xs:List V}{us:List Value},Vals xs us→xs.all ie=true→∀u∈us,SeqAt.EqAt A s u v (kW x u)
 |_,_, .nil,_=>λu hu=>by cases hu
 |y::xs,u::us, .cons r t,f=>λu' hu=>by
  rw [List.all_cons,jA] at f
  rcases eS.mp hu with rfl|hu
  ·rw [yD r f.1];exact EB r rx f.1 fx
  ·exact iJ rx fx t f.2 u' hu
def ER(x:V)(xs:List V):Bool:=xs.any λy=>tO y x
def JK(K:PySem.W.Frag)(neg:Bool):R2:=λx y H Q=>∃p xs,y= .ref p∧(bb K H p xs∨cj K H p xs)∧ie x=true∧xs.all ie=true∧Q (.bl (if neg then !ER x xs else ER x xs)) H
theorem xS:OpR X (compareOp .In) (JK X.K false):=by
 intro pins s σ H x y v u Q I rx ry h;obtain ⟨p,xs,rfl,hq,fx,fs,q⟩:=h;cases ry
 rcases hq with hq|hq
 ·obtain ⟨its,r,pl,hz⟩:=I.list hq
  refine SeqAt.in_listAt (kW x) pl.isList (λw hw=>iJ rx fx r fs w (by simpa using hw)) ⟨.bl _,H,I,rfl,?_⟩
  rw [show its.toArray.any (kW x)=its.any (kW x) by simp,jK r fs]
  exact q
 ·obtain ⟨its,r,pl,hz⟩:=I.tuple hq
  refine SeqAt.in_tupleAt (kW x) pl (λw hw=>iJ rx fx r fs w (by simpa using hw)) ⟨.bl _,H,I,rfl,?_⟩
  rw [show its.toArray.any (kW x)=its.any (kW x) by simp,jK r fs]
  exact q
theorem rD:OpR X (compareOp .NotIn) (JK X.K true):=by
 intro pins s σ H x y v u Q I rx ry h;obtain ⟨p,xs,rfl,hq,fx,fs,q⟩:=h;cases ry
 rcases hq with hq|hq
 ·obtain ⟨its,r,pl,hz⟩:=I.list hq
  refine SeqAt.notIn_listAt (kW x) pl.isList (λw hw=>iJ rx fx r fs w (by simpa using hw)) ⟨.bl _,H,I,rfl,?_⟩
  rw [show its.toArray.any (kW x)=its.any (kW x) by simp,jK r fs]
  exact q
 ·obtain ⟨its,r,pl,hz⟩:=I.tuple hq
  refine SeqAt.notIn_tupleAt (kW x) pl (λw hw=>iJ rx fx r fs w (by simpa using hw)) ⟨.bl _,H,I,rfl,?_⟩
  rw [show its.toArray.any (kW x)=its.any (kW x) by simp,jK r fs]
  exact q
theorem ib:bP X (.builtin "len") (λxs H Q=>∃p ys,xs= [.ref p]∧(bb X.K H p ys∨cj X.K H p ys)∧Q (.int ys.length) H):=by
 intro pins s σ H xs us Q I r h;obtain ⟨p,ys,rfl,hq,q⟩:=h;obtain ⟨u,rfl,rx⟩:=vals1 r;cases rx;have hn:=kj
 rcases hq with hq|hq
 ·obtain ⟨its,r',pl,hz⟩:=I.list hq
  have hlen:=r'.length;exact Calls.call_len_list pl.isList (by simp only [cp]<;>omega) ⟨.int ys.length,H,I.tok _,⟨s.toks+1,by rw [cp,hlen]⟩,q⟩
 ·obtain ⟨its,r',pl,hz⟩:=I.tuple hq
  have hlen:=r'.length;exact len_tuple pl (by simp only [cp]<;>omega) ⟨.int ys.length,H,I.tok _,⟨s.toks+1,by rw [cp,hlen]⟩,q⟩
theorem kB:bP X (.type "list") (λxs H Q=>∃p ys,xs= [.ref p]∧(bb X.K H p ys∨cj X.K H p ys)∧∀l,H l=none→Q (.ref l) (upd H l (.lst ys))):=by
 intro pins s σ H xs us Q I r h;obtain ⟨p,ys,rfl,hq,q⟩:=h;obtain ⟨u,rfl,rx⟩:=vals1 r;cases rx
 have fin:∀(its:List Value),Vals ys its→ys.length≤sizeLine→∀(h':Heap)(c':Nat),(∀b o',s.heap.get? b=some o'→h'.get? b=some o')→
   h'.get? s.heap.objs.size=some {cls:= .type "list",dict:=none,data:= .seq its.toArray c',slots:= #[]}→EP X pins σ Q (.ref s.heap.objs.size) {s with heap:=h'}:=λits r' hz h' c' kp e=>
  ⟨.ref s.heap.objs.size,_,I.laid (t':=s.toks) kp (bL _) (show bo X.prog X.w _ h' _ (.lst ys) from ⟨hz,its,c',r',e⟩),rfl,q _ (I.hok.fresh (bL _))⟩
 rcases hq with hq|hq
 ·obtain ⟨its,r',pl,hz⟩:=I.list hq
  have hlen:=r'.length;obtain ⟨o,ho,hc,n,hd⟩:=pl.isList;exact call_list_seq p (.inl rfl) ho hc hd (λh' c' kp e=>fin its r' hz h' c' kp e) (by simp only [cp]<;>omega)
 ·obtain ⟨its,r',pl,hz⟩:=I.tuple hq
  have hlen:=r'.length;obtain ⟨o,ho,hc,n,hd⟩:=pl;exact call_list_seq p (.inr rfl) ho hc hd (λh' c' kp e=>fin its r' hz h' c' kp e) (by simp only [cp]<;>omega)
theorem jL:bP X (.type "tuple") (λxs H Q=>∃p ys,xs= [.ref p]∧((bb X.K H p ys∧∀l,H l=none→Q (.ref l) (upd H l (.tup ys)))∨(cj X.K H p ys∧Q (.ref p) H))):=by
 intro pins s σ H xs us Q I r h;obtain ⟨p,ys,rfl,h⟩:=h;obtain ⟨u,rfl,rx⟩:=vals1 r;cases rx
 rcases h with ⟨hq,q⟩ | ⟨hq,q⟩
 ·obtain ⟨its,r',pl,hz⟩:=I.list hq
  have hlen:=r'.length;refine call_tuple_list pl.isList (λh' kp=>?_) (by simp only [cp]<;>omega)
  have I1:Inv X pins σ H {s with heap:=h'}:=I.kept (t':=s.toks) kp
  have I2:Inv X pins σ (upd H h'.objs.size (.tup ys)) {s with heap:=h'.push {cls:= .type "tuple",data:= .seq its.toArray}}:=
   I1.laid (t':=s.toks) (λb o e=>Heap.get?_push_of_some _ e) (bL _) (show bo X.prog X.w _ _ _ (.tup ys) from ⟨hz,its,r',IsTup.new _ _⟩)
  exact ⟨.ref h'.objs.size,_,I2,rfl,q _ (I1.hok.fresh (bL _))⟩
 ·obtain ⟨its,r',pl,hz⟩:=I.tuple hq
  exact call_tuple_same pl ⟨.ref p,H,I,rfl,q⟩
def F5(K:PySem.W.Frag)(T:String)(x:V)(H:Hp):Prop:=match x with
 | .str _=>T="str"
 | .int _=>T="int"
 | .ref p=>(T="list"∧∃xs,bb K H p xs)∨(T="tuple"∧∃o,K.lookup p=some o∧o.cls= .type "tuple"∧o.dict=none)∨
   (T="dict"∧((∃b9,H p=some (.dK b9))∨∃b9,H p=some (.dT b9)))∨(T="set"∧∃S n,H p=some (.set S n))
 |_=>False
theorem zb{pins:List (Addr×Obj)}{σ:St}{H:Hp}{s:Shared}{T:String}{x:V}{v:Value}(I:Inv X pins σ H s)(r:RelV x v)(ty:F5 X.K T x H):
  s.TypeIs v T∧∀a,v= .ref a→∃ob,s.heap.get? a=some ob∧ob.dict=none:=by
 cases x with
 |str z=>
  obtain ⟨t,rfl⟩:=r;cases (show T="str" from ty);exact ⟨typeIs_str s z t,λ_ e=>nomatch e⟩
 |int i=>
  obtain ⟨t,rfl⟩:=r;cases (show T="int" from ty);exact ⟨typeIs_int s i t,λ_ e=>nomatch e⟩
 |ref p=>
  cases r
  rcases ty with ⟨rfl,xs,hq⟩ | ⟨rfl,o,hk,hc,hd⟩ | ⟨rfl,hk⟩ | ⟨rfl,S,n,hk⟩
  ·obtain ⟨its,_,pl,_⟩:=I.list hq
   refine ⟨pl.isList.typeIs,λa e=>?_⟩;cases e;obtain ⟨o,n,e,c,hd,_⟩:=pl;exact ⟨o,e,hd⟩
  ·refine ⟨⟨o,I.bI p o hk,hc⟩,λa e=>?_⟩
   cases e;exact ⟨o,I.bI _ o hk,hd⟩
  ·have z:∃o,s.heap.get? p=some o∧o.ExactDict:=by
    rcases hk with ⟨b9,hk⟩ | ⟨b9,hk⟩
    ·obtain ⟨_,_,_,_,o,_,_,e,ex,_⟩:=I.hok p _ hk
     exact ⟨o,e,ex⟩
    ·obtain ⟨_,_,_,_,o,_,_,e,ex,_⟩:=I.hok p _ hk
     exact ⟨o,e,ex⟩
   obtain ⟨o,e,ex⟩:=z;refine ⟨⟨o,e,ex.1⟩,λa e2=>?_⟩;cases e2;exact ⟨o,e,ex.2.1⟩
  ·obtain ⟨o,_,_,_,e,ex,_⟩:=I.hok p _ hk
   refine ⟨⟨o,e,ex.1⟩,λa e2=>?_⟩;cases e2;exact ⟨o,e,ex.2.1⟩
 |_=>exact False.elim ty
def P7(K:PySem.W.Frag)(T:String)(r:V→List V→Hp→VK→Prop)(to:TE):TE:=λσ H Q=>to σ H λx H1=>F5 K T x H1∧r x [] H1 Q
def W2(K:PySem.W.Frag)(T:String)(r:V→List V→Hp→VK→Prop)(to:TE)(t:TA):TE:=λσ H Q=>to σ H λx H1=>F5 K T x H1∧t σ H1 λxs H2=>r x xs H2 Q
variable {o e:Expr} {es:List Expr} {to:TE} {t:TA} {name:Str} {apos aZ:Pos} {T id:String} {r:V→List V→Hp→VK→Prop}
theorem Fs(pa:PlainAttrs T)(slot:Slot T name id)(z0:typeOf (.builtin id)=pure (.type "method_descriptor"))(hm:Kh X id r)(ho:PE X o to)
  (cP:attributeBase o name X.env (eval o X.env)=eval o X.env:=by rfl) (dk:(apos.endLine==aZ.line)=true:=by rfl):PE X (.Call (.Attribute o name apos) [] [] aZ) (P7 X.K T r to):=by
 intro pins s σ H Q I h;refine wpAny_Call_method0_late cP dk (thn (ho pins s σ H _ I h) λv s1 ⟨x,H1,I1,r1,ty,q1⟩=>?_);obtain ⟨h1,h2⟩:=zb I1 r1 ty;exact ⟨T,id,pa,slot,z0,h1,h2,Calls.callWith_builtin rfl (PySem.evalArgs_none (hm pins s1 σ H1 x [] v [] Q I1 r1 .nil q1))⟩
theorem jl(pa:PlainAttrs T)(slot:Slot T name id)(z0:typeOf (.builtin id)=pure (.type "method_descriptor"))(hm:Kh X id r)(ho:PE X o to)(ha:PA X (e::es) t)
  (cP:attributeBase o name X.env (eval o X.env)=eval o X.env:=by rfl)
  (fZ:((backTo aZ (starEach (e::es) X.env)).all (λx=>!x.1)&&(backToKw aZ (keywordEach [] X.env)).all (λx=>x.1.isSome)
   &&decide ((e::es).length+([]:List Keyword).length+(if ([]:List Keyword).isEmpty then 0 else 1)<30))=true:=by rfl)
  (dk:(apos.endLine==aZ.line)=true:=by rfl) (hs:starEach (e::es) X.env=(false,eval e X.env)::starEach es X.env:=by rfl) (eD:(backTo aZ (starEach es X.env)).any (·.1)=false:=by rfl):
  PE X (.Call (.Attribute o name apos) (e::es) [] aZ) (W2 X.K T r to t):=by
 intro pins s σ H Q I h;refine wpAny_Call_method_late cP fZ dk rfl (thn (ho pins s σ H _ I h) λv s1 ⟨x,H1,I1,r1,ty,q1⟩=>?_);obtain ⟨h1,h2⟩:=zb I1 r1 ty;refine ⟨T,id,pa,slot,z0,h1,h2,?_⟩;have hA:=ha aZ pins s1 σ H1 _ I1 q1;rw [hs] at hA ⊢;refine Calls.callWith_builtin (by show (false|| (backTo aZ (starEach es X.env)).any (·.1))=false;rw [eD]<;>rfl) (Calls.evalArgs_plain ?_)
 exact thn hA λus s2 ⟨vs,H2,I2,r2,q2⟩=>hm pins s2 σ H2 x vs v us Q I2 r1 r2 q2
end
def Bd(X:Cx)(id:String)(r:V→List V→Hp→VK→Prop):Prop:=
 ∀(pins:List (Addr×Obj))(s:Shared)(σ:St)(H:Hp)(x:V)(xs:List V)(v:Value)(us:List Value)(Q:VK),Inv X pins σ H s→RelV x v→Vals xs us→r x xs H Q→
  wpAny (model X.prog X.w) X.A (call (.builtin id) (v::us)) (EP X pins σ Q) X.xe s
theorem Vals.one:∀{x:V}{us:List Value},Vals [x] us→∃u,us= [u]∧RelV x u
 |_,_, .cons r .nil=>⟨_,rfl,r⟩
theorem Vals.two:∀{x y:V}{us:List Value},Vals [x,y] us→∃u v,us= [u,v]∧RelV x u∧RelV y v
 |_,_,_, .cons r (.cons q .nil)=>⟨_,_,rfl,r,q⟩
theorem Vals.zero:∀{us:List Value},Vals [] us→us= []
 |_, .nil=>rfl
theorem Vals.dropLast{xs:List V}{us:List Value}(h:Vals xs us):Vals xs.dropLast us.dropLast:=by
 induction h with
 |nil=>exact .nil
 |cons r t ih=>
  cases t with
  |nil=>exact .nil
  |cons q t'=>exact .cons r ih
theorem Vals.eraseIdx:∀{xs:List V}{us:List Value}(i:Nat),Vals xs us→Vals (xs.eraseIdx i) (us.eraseIdx i)
 |_,_,_, .nil=> .nil
 |_,_,0, .cons _ t=>t
 |_,_,i+1, .cons r t=> .cons r (Vals.eraseIdx i t)
theorem Vals.rep{xs:List V}{us:List Value}(h:Vals xs us):∀k:Nat,Vals (List.replicate k xs).flatten (List.replicate k us).flatten
 |0=> .nil
 |k+1=>by
  rw [qQ,qQ,sY,sY];exact Vals.append h (Vals.rep h k)
theorem u7{α:Type}(l:List α):l.eraseIdx (l.length-1)=l.dropLast:=by
 induction l with
 |nil=>rfl
 |cons a r ih=>
  cases r with
  |nil=>rfl
  |cons b r=>
   have e:(a::b::r).length-1=((b::r).length-1)+1:=by
    have h1:(a::b::r).length=r.length+2:=rfl;have h2:(b::r).length=r.length+1:=rfl;omega
   rw [e,List.eraseIdx_cons_succ,ih]
   all_goals rfl
theorem pY{α:Type}:∀(l:List α)(i:Nat),(l.eraseIdx i).length≤l.length
 | [],_=>bL _
 |_::_,0=>Nat.le_succ _
 |_::r,i+1=>Nat.succ_le_succ (pY r i)
theorem foldl_rep(its:List Value):∀(k:Nat)(acc:List Value),
  List.foldl (λx1 x2=>x1++x2) acc.toArray (List.replicate k its.toArray)=(acc++(List.replicate k its).flatten).toArray
 |0,acc=>by simp
 |k+1,acc=>by
  have e:acc.toArray++its.toArray=(acc++its).toArray:=by simp
  have e2:(acc++its)++(List.replicate k its).flatten=acc++(List.replicate (k+1) its).flatten:=by
   rw [qQ,sY,List.append_assoc]
  rw [←e2,←foldl_rep its k (acc++its),←e,qQ,List.foldl_cons]
section
variable {X:Cx} {pins:List (Addr×Obj)} {σ:St} {H:Hp} {s:Shared} {l b:Addr} {xs ys zs:List V}
theorem Inv.vx{its its':List Value}{n:Nat}{f:Array Value→Array Value}{t':Nat}(I:Inv X pins σ H s)(hH:H l=some (.lst xs))
  (e:s.heap.get? l=some {cls:= .type "list",data:= .seq its.toArray n}) (hf:f its.toArray=its'.toArray) (hv:Vals ys its') (hz:ys.length≤sizeLine):
  Inv X pins σ (upd H l (.lst ys)) {s with heap:=s.heap.update l (Obj.mapSeq f),toks:=t'}:=by
 have q:=PySem.IsL.update e f;rw [hf] at q;refine I.write (x:=l) (e:=l) (by rw [hH];exact trivial) (.inl rfl) (λb' u hb hu=>(Heap.get?_update_other s.heap (Obj.mapSeq f) (Ne.symm hb)).trans hu) ⟨_,q⟩ ?_
 exact ⟨hz,its',_,hv,q⟩
theorem Inv.CT{its:List Value}{t':Nat}(I:Inv X pins σ H s)(hv:Vals ys its)(hz:ys.length≤sizeLine):
  Inv X pins σ (upd H s.heap.objs.size (.lst ys)) {s with heap:=s.heap.push {cls:= .type "list",data:= .seq its.toArray},toks:=t'}:=
 I.laid (λ_ _ q=>Heap.get?_push_of_some _ q) (bL _) ⟨hz,its,0,hv,Heap.get?_push_size _ rfl⟩
theorem Inv.fresh(I:Inv X pins σ H s):H s.heap.objs.size=none:=I.hok.fresh (bL _)
theorem Inv.mD(I:Inv X pins σ H s)(hH:H l=some (.lst xs)):xs.length≤sizeLine∧∃(its:List Value)(n:Nat),Vals xs its∧xs.length=its.length∧s.heap.get? l=some {cls:= .type "list",data:= .seq its.toArray n}:=by
 obtain ⟨z,its,n,r,e⟩:=I.hok l _ hH;exact ⟨z,its,n,r,r.length,e⟩
theorem AE{n:Nat}(h:n≤sizeLine):Builtin.List.listTooLong n=false:=by
 unfold Builtin.List.listTooLong;exact decide_eq_false (by omega)
end
section
variable {X:Cx}
def Dw:V→List V→Hp→VK→Prop:=λx vs H Q=>∃l xs y,x= .ref l∧vs= [y]∧H l=some (.lst xs)∧xs.length<sizeLine∧Q .aN (upd H l (.lst (xs++ [y])))
theorem eW:Bd X "list.append" Dw:=by
 intro pins s σ H x vs v us Q I rx rv h;obtain ⟨l,xs,y,rfl,rfl,hH,hz,q⟩:=h;cases rx;obtain ⟨u,rfl,ru⟩:=rv.one;obtain ⟨z,its,n,r,hl,e⟩:=I.mD hH;refine call_meets F.slot_list_append ⟨_,e,rfl⟩ F.entry_list_append (F.args_list_append_2 _ _) (PySem.list_append l its.toArray n u (by rw [cp];omega)) ⟨e,?_⟩
 refine ⟨.aN,_,I.vx (its':=its++ [u]) hH e (by simp) (r.append (.cons ru .nil)) ?_,rfl,q⟩
 rw [fw,List.length_singleton];omega
def Ph:V→List V→Hp→VK→Prop:=λx vs H Q=>∃l xs y,x= .ref l∧vs= []∧H l=some (.lst xs)∧xs[xs.length-1]? =some y∧Q y (upd H l (.lst xs.dropLast))
theorem E7:Bd X "list.pop" Ph:=by
 intro pins s σ H x vs v us Q I rx rv h;obtain ⟨l,xs,y,rfl,rfl,hH,hy,q⟩:=h;cases rx;have Tp:=rv.zero;subst Tp;obtain ⟨z,its,n,r,hl,e⟩:=I.mD hH;obtain ⟨u,hu,ru⟩:=r.get hy
 have EM:its.toArray[its.toArray.size-1]? =some u:=by
  show its.toArray[its.length-1]? =some u;rw [←Array.getElem?_toList,←hl];exact hu
 refine call_meets F.slot_list_pop ⟨_,e,rfl⟩ F.entry_list_pop (F.args_list_pop_1 _) (MeetsSeq.list_pop_last l its.toArray n u EM (by rw [cp];omega)) ⟨e,?_⟩
 refine ⟨y,_,I.vx (its':=its.dropLast) hH e ?_ r.dropLast ?_,ru,q⟩
 ·show its.toArray.eraseIdxIfInBounds (its.toArray.size-1)=its.dropLast.toArray
  rw [cp,List.eraseIdxIfInBounds_toArray,u7]
 ·rw [List.length_dropLast]
  omega
def FH:V→List V→Hp→VK→Prop:=λx vs H Q=>∃l xs i k y,x= .ref l∧vs= [.int i]∧H l=some (.lst xs)∧-(2^63)≤i∧i<2^63∧seqIndex? i xs.length=some k∧xs[k]? =some y∧Q y (upd H l (.lst (xs.eraseIdx k)))
theorem AA:Bd X "list.pop" FH:=by
 intro pins s σ H x vs v us Q I rx rv h;obtain ⟨l,xs,i,k,y,rfl,rfl,hH,h1,h2,hk,hy,q⟩:=h;cases rx;obtain ⟨u,rfl,ru⟩:=rv.one;obtain ⟨t,rfl⟩:=ru;obtain ⟨z,its,n,r,hl,e⟩:=I.mD hH;obtain ⟨w,hw,qz⟩:=r.get hy
 refine call_meets F.slot_list_pop ⟨_,e,rfl⟩ F.entry_list_pop (F.args_list_pop_2 _ _)
  (MeetsSeq.list_pop_at l its.toArray n i t k w (fitsIndex_both h1 h2) (by rw [cp,←hl];exact hk) (by rw [←Array.getElem?_toList];exact hw) (by rw [cp];omega)) ⟨e,?_⟩
 refine ⟨y,_,I.vx (its':=its.eraseIdx k) hH e ?_ (r.eraseIdx k) ?_,qz,q⟩
 ·show its.toArray.eraseIdxIfInBounds k=(its.eraseIdx k).toArray
  rw [List.eraseIdxIfInBounds_toArray]
 ·have:=pY xs k
  omega
def Pc:R2:=λx y H Q=>∃l b xs zs,x= .ref l∧y= .ref b∧H l=some (.lst xs)∧H b=some (.lst zs)∧xs.length+zs.length≤sizeLine∧∀p,H p=none→Q (.ref p) (upd H p (.lst (xs++zs)))
theorem Fg:OpR X (binaryOp .Add) Pc:=by
 intro pins s σ H x y v u Q I rx ry h;obtain ⟨l,b,xs,zs,rfl,rfl,hH,hB,hz,q⟩:=h;cases rx;cases ry;obtain ⟨z,its,n,r,hl,e⟩:=I.mD hH;obtain ⟨z2,f9,n2,r2,zW,e2⟩:=I.mD hB;refine PySem.P.add_list e e2 ?_ (by rw [cp,cp];omega)
 have ea:its.toArray++f9.toArray=(its++f9).toArray:=by simp
 rw [ea];exact ⟨.ref _,_,I.CT (t':=s.toks) (r.append r2) (by rw [fw];omega),rfl,q _ I.fresh⟩
def Pj:R2:=λx y H Q=>∃l k xs,x= .ref l∧y= .int k∧H l=some (.lst xs)∧-(2^63)≤k∧k<2^63∧xs.length*k.toNat≤sizeLine∧
 ∀p,H p=none→Q (.ref p) (upd H p (.lst (List.replicate k.toNat xs).flatten))
theorem len_rep{α:Type}(xs:List α)(k:Nat):(List.replicate k xs).flatten.length=k*xs.length:=by
 induction k with
 |zero=>simp
 |succ k ih=>rw [qQ,sY,fw,ih,Nat.succ_mul,Nat.add_comm]
theorem Fo:OpR X (binaryOp .Mult) Pj:=by
 intro pins s σ H x y v u Q I rx ry h;obtain ⟨l,k,xs,rfl,rfl,hH,h1,h2,hz,q⟩:=h;cases rx;obtain ⟨t,rfl⟩:=ry;obtain ⟨z,its,n,r,hl,e⟩:=I.mD hH;have hlen:its.toArray.size*k.toNat≤sizeLine:=by rw [cp,←hl];exact hz
 have MB:¬its.toArray.size*k.toNat>(2^63-1) / 8:=by
  have:(sizeLine:Nat)≤(2^63-1) / 8:=by decide
  omega
 have Cs:¬(!Builtin.List.listFitsIndex k)=true:=by
  rw [fitsIndex_both h1 h2];exact fF
 have Ja:¬Builtin.List.listTooLong (its.toArray.size*k.toNat)=true:=by
  rw [AE hlen];exact fF
 have MM:List.foldl (λx1 x2=>x1++x2) #[] (List.replicate (if its.toArray.isEmpty=true then 0 else k.toNat) its.toArray)=(List.replicate k.toNat its).flatten.toArray:=by
  have f0:∀m:Nat,List.foldl (λx1 x2=>x1++x2) #[] (List.replicate m its.toArray)=(List.replicate m its).flatten.toArray:=λm=>by
   have:=foldl_rep its m []
   rw [nv] at this;exact this
  rw [f0];cases its with
  |nil=>simp
  |cons a r'=>rw [if_neg (by simp)]
 refine wpAny_binaryOp_repeat_ref (T:="list") (U:="int") (by decide) ⟨_,e,rfl⟩ (λs'=>typeIs_int s' k t) noFill_list_mul F.fills_int_mul F.slot_int_rmul repeat_list F.slot_int_index.lookup
  (call_meets F.slot_int_rmul (typeIs_int s k t) F.entry_int_rmul (F.args_int_rmul_2 _ _) (int___rmul___int_list k t l its.toArray n)
   ⟨e,rfl,⟨_,e,rfl⟩,call_meets F.slot_list_mul ⟨_,e,rfl⟩ F.entry_list_mul (F.args_list_mul_2 _ _) (AutoListH.list___mul___list_int_3 l its.toArray n k t Cs MB Ja) ⟨e,?_⟩⟩)
 rw [MM];exact ⟨.ref _,_,I.CT (t':=s.toks) (r.rep k.toNat) (by rw [len_rep,Nat.mul_comm];exact hz),rfl,q _ I.fresh⟩
end
section
variable {prog:Program} {w:World} {A:Around} {E:Value→Shared→Prop} {s:Shared}
end
section
variable {X:Cx}
end
end L2
namespace Kb
open PySem PySem.W PySem.Calls PyProof.Rows
theorem nK{P:Params}{h:Heap}:∀(ns:List Int)(vs:List Value),WellAll P h vs (ns.map WData.int)→IntsAre vs ns:=by
 intro ns
 induction ns with
 |nil=>
  intro vs w;rw [List.map_nil] at w;cases w;exact .nil
 |cons n ns ih=>
  intro vs w;rw [List.map_cons] at w;cases w with
  |cons a b=>
   cases a;exact .cons _ _ (ih _ b)
theorem x9{l:OpenLaw}{n:Nat}(hn:l.most=some n){P:Params}{h:Heap}{args:List WData}{vals:List Value}
  (yE:l.row.toRowW.claim.pre args=true) (Jn:WellAll P h vals args):
  ∃a vs ns,vals= [Value.ref a]∧args= [WData.list (ns.map WData.int)]∧h.get? a=some {cls:= .type "list",data:= .seq vs.toArray}∧IntsAre vs ns∧ns.length≤n:=by
 have Ti:WShape.hasAll [] args [.list .int]=true:=(pre_splitW yE).1;have hc:l.pre.holds [] {args:=args}=true:=(pre_splitW yE).2;obtain ⟨d,r,rfl,h1,h2⟩:=hasAllW_cons Ti;obtain rfl:=hasAllW_nil h2;obtain ⟨xs,rfl,h3⟩:=hasW_list h1;obtain ⟨ns,rfl⟩:=items_int h3
 have hlen:ns.length≤n:=by
  unfold OpenLaw.pre at hc
  have h4:(WTm.not (.lt (.lit (.int (n:Int))) (.len (.arg 0)))).holds [] {args:= [.list (ns.map .int)]}=true:=by
   have h4:=(holds_andW hc).1;rw [hn] at h4;exact h4
  have h5:=condW_of h4 (w_not (w_lt w_lit (w_len_list (w_arg rfl))));rw [bV] at h5;refine dU λq=>?_;have q':(n:Int)<((ns.length:Nat):Int):=by omega
  first
   | (rw [decide_eq_true q'] at h5;exact absurd h5 (by decide))
   | (simp at h5;omega)
 cases Jn with
 |cons w1 w2=>
  cases w2;cases w1 with
  |list ho sj=>exact ⟨_,_,ns,rfl,rfl,ho,nK ns _ sj,hlen⟩
theorem xV(l:OpenLaw)(args:List WData):l.row.toRowW.claim.post args (.bool true) args=true:=
 postW_of (r:=l.row.toRowW) (X:=(true==true))
  (show WShape.has [] (.bool true) .bool=true by first|rfl|decide|simp [WShape.has,WShape.arms,WShape.armsAll])
  (show (WTm.eq .res (.lit (.bool true))).value [] {args:=args,res:=some (.bool true),after:=args}=some (.bool (true==true)) from w_eq_bool (w_res rfl) w_lit) rfl
theorem tF{l:OpenLaw}{n:Nat}{q:Program}{loose:List Str}{XP:(Str→Option Value)→Heap→Prop}{YP:World→Heap→Prop}{d:DefRec}
  (hn:l.most=some n) (xj:d.params.defaults= [])
  (call:∀(w:World)(s₀ s₁:Shared)(mg mb:Str→Option Value)(fa:Addr)(o:Obj)(pm cd doc:Value)(a:Addr)(vs:List Value)(ns:List Int),
   Ground q loose [] XP w s₀ mg mb s₁.heap→YP w s₁.heap→
   s₁.heap.get? fa=some o→o.data= .func (docDef d.name d.params d.body d.scope pm cd doc)→s₁.heap.CodeRec cd d.name→mg d.name=some (.ref fa)→
   s₁.heap.get? a=some {cls:= .type "list",data:= .seq vs.toArray}→IntsAre vs ns→ns.length≤n→s₁.gens= #[]→
   codeAny (model l.prog w) callerA (.call (.ref fa) ⟨[.ref a],[]⟩) (λr s'=>r= .ok (.ret (.bool true))∧OldK s₁.heap s'.heap∧s'.os=s₁.os∧AllBare s'.gens) s₁):
  WalkO q loose XP YP l.row.toRowW d [] (λf vs=>PySem.call f vs):=by
 intro w s₀ s₁ mg mb G Y fa o pm cd doc dV kV ho hd eB hD Cz hg args vals as yE Xh XA Jn Xx;obtain rfl:dV= .none:=Dflts.none hD xj;obtain rfl:kV= .none:=Dflts.noKw hD;obtain ⟨a,vs,ns,rfl,rfl,CG,hints,hlen⟩:=x9 hn yE Jn;refine enter_call (codeAny_mono (call w s₀ s₁ mg mb fa o pm cd doc a vs ns G Y ho (fd_plain hd) eB Cz CG hints hlen hg) λr s' hq=>?_);obtain ⟨rfl,h2,h3,h4⟩:=hq;exact ⟨.inl ⟨.bool true, .bool true,[],rfl,λ_=>rfl, .bool true,xV l _,λ_=>⟨List.Pairwise.nil,λ_ hm=>(nomatch hm)⟩⟩,h2,h3,h4⟩
section
variable {prog:Program} {w:World} {A:Around} {E:Value→Shared→Prop} {s:Shared} {K:Frag}
end
end Kb
namespace L2
open PySem PySem.Spec PyProof.Rows
theorem qK:∀{vs:List Value}{ns:List Int},IntsAre vs ns→Vals (ns.map V.int) vs
 |_,_, .nil=> .nil
 |_,_, .cons n t h=> .cons ⟨t,rfl⟩ (qK h)
def Bg(H:Hp):Prop:=∀b,H b=none∨∃o xs,H b=some (.jS o (.lst xs))
theorem As{P:Program}{w:World}{K:PySem.W.Frag}{mg mb:Str→Option Value}{CX:jH}{k:Nat}{fa a:Addr}{fd:FuncData}{x:Str}{sp:Sp}{s₁:Shared}{vs:List Value}{ns:List Int}
  (KX:K.In s₁.heap) (xv:s₁.heap.Ns mainGlobals mg) (hb:s₁.heap.Ns builtinsNs mb) (xi:∀x:Str,x≠"__name__"→mb x=bootBuiltins x) (MK:s₁.heap.NoLimit) (hg:s₁.gens= #[])
  (ha:s₁.heap.get? a=some {cls:= .type "list",data:= .seq vs.toArray}) (hi:IntsAre vs ns) (hl:ns.length≤sizeLine) (hr:bC k callerA)
  (F:∀base:Heap,K.In base→base.Ns mainGlobals mg→FnOk P w K mg base CX k fa fd [x] sp) (IH:∀(s:Shared)(u:Value),BindsTo s fd ⟨[u],[]⟩ [(x,u)])
  (rm:∀H:Hp,Bg H→bb K H a (ns.map V.int)→sp [.ref a] H (λv _=>v= .bl true) λ_ _ _=>False)
  (IE:∀H e s',CX [] H s₁ (λ_ _ _=>False) e s'→False):
  codeAny (model P w) callerA (.call (.ref fa) ⟨[.ref a],[]⟩) (λr s'=>r= .ok (.ret (.bool true))∧OldK s₁.heap s'.heap∧s'.os=s₁.os∧AllBare s'.gens) s₁:=by
 have rv:=qK hi;have NF:=hi.length
 have core:∀H:Hp,Bg H→bb K H a (ns.map V.int)→eM P w H s₁.heap→(∀b,H b≠none→b=a)→(H a≠none→K.lookup a=none)→
   codeAny (model P w) callerA (.call (.ref fa) ⟨[.ref a],[]⟩) (λr s'=>r= .ok (.ret (.bool true))∧OldK s₁.heap s'.heap∧s'.os=s₁.os∧AllBare s'.gens) s₁:=by
  intro H hO hS hok hA hK;have uM:∀{b:Addr}{o:Obj},s₁.heap.get? b=some o→H b=none→(ml s₁.heap H).get? b=some o:=λe n=>zV e n
  have CY:∀{b:Addr}{o:Obj}{es:Array DictEntry}{ep:Nat},s₁.heap.get? b=some o→o.data= .dict es ep→H b=none:=λ {b o es ep} e d=>by
   cases q:H b with
   |none=>rfl
   |some u=>
    have e':b=a:=hA b (by rw [q];simp)
    subst e';rw [ha] at e;cases e;have d':Data.seq vs.toArray _=Data.dict es ep:=d;cases d'
  have Fc:∀{b:Addr}{m:Str→Option Value},s₁.heap.Ns b m→(ml s₁.heap H).Ns b m:=λ {b m} ⟨o,es,ep,e,d,r⟩=>⟨o,es,ep,uM e (CY e d),d,r⟩
  have My:K.In (ml s₁.heap H):=λb o e=>uM (KX b o e) (by
   cases q:H b with
   |none=>rfl
   |some u=>
    have e':b=a:=hA b (by rw [q];simp)
    subst e';rw [hK (by rw [q];simp)] at e;cases e)
  have hM:Mod K mg (ml s₁.heap H):=⟨My,Fc xv,⟨mb,Fc hb,xi⟩,let ⟨mc,h1,h2⟩:=MK;⟨mc,Fc h1,h2⟩⟩;have e0:Env0 P w K mg (ml s₁.heap H) callerA [] s₁ H:=⟨rfl,hM,λb o e=>C5 e,Nat.le_of_eq (xl _ _),trivial,λb hb=>absurd (show b∈([]:List Addr) from hb) (by simp),hok, .of_eq hg⟩
  refine codeAny_mono ((F _ My (Fc xv)).run callerA [] s₁ H ⟨[.ref a],[]⟩ [.ref a] [.ref a] _ _ hr e0 (IH s₁ (.ref a)) (.cons rfl .nil) (rm H hO hS)) λr s' h=>?_;cases r with
  |error e=>exact (IE H e s' h).elim
  |ok fl=>
   cases fl with
   |next=>exact False.elim h
   |brk=>exact False.elim h
   |cont=>exact False.elim h
   |ret u=>
    obtain ⟨v,H',os,bare,un,MP,r',q⟩:=h;have q':v= .bl true:=q;subst q';obtain rfl:u=Value.bool true:=r';refine ⟨rfl,OldK.of_keep λb o e=>?_,os,bare⟩;cases q:H b with
    |none=>exact un.keep b o e q (by intro z;exact absurd (show b∈([]:List Addr) from z) (by simp)) (by simp)
    |some u=>
     rcases hO b with z| ⟨ob,xs,z⟩
     ·rw [q] at z;cases z
     ·have z2:=un.frzs b ob _ z
      obtain ⟨e1,_⟩:=hok b _ z;obtain ⟨e2,_⟩:=MP b _ z2;rw [e] at e1;cases e1;exact e2
 cases hk:K.lookup a with
 |some o=>
  have e:=KX a o hk;rw [ha] at e;cases e;refine core (λ_=>none) (λ_=> .inl rfl) (.inr ⟨_,vs.toArray,_,hk,rfl,rfl,rfl,by rw [cp,NF];exact hl,by simpa using rv⟩) (λb u z=>by have z':(none:Option HO)=some u:=z;cases z') (λb z=>absurd rfl z) λz=>absurd rfl z
 |none=>
  refine core (λb=>if b=a then some (.jS {cls:= .type "list",data:= .seq vs.toArray} (.lst (ns.map V.int))) else none) (λb=>?_) (.inl (.inr ⟨{cls:= .type "list",data:= .seq vs.toArray},if_pos rfl⟩)) (λb u z=>?_) (λb z=>?_) λ_=>hk
  ·by_cases hb:b=a
   ·exact .inr ⟨_,_,if_pos hb⟩
   ·exact .inl (if_neg hb)
  ·by_cases hb:b=a
   ·have z':=(if_pos hb).symm.trans z
    cases z';subst hb;exact ⟨ha,by rw [bV];exact hl,vs,_,rv,ha⟩
   ·have z':=(if_neg hb).symm.trans z
    cases z'
  ·by_cases hb:b=a
   ·exact hb
   ·exact absurd (if_neg hb) z
theorem D9{l:PySem.W.OpenLaw}{n k:Nat}{q:Program}{loose:List Str}{XP:(Str→Option Value)→Heap→Prop}{YP:World→Heap→Prop}{d:DefRec}{K:Params→PySem.W.Frag}{CX:World→jH}{sp:World→Sp}{x:Str}
  (hn:l.most=some n) (xu:n≤sizeLine) (xj:d.params.defaults= []) (hr:bC k callerA)
  (hY:∀(w:World)(h:Heap),YP w h→(K w.params).In h)
  (F:∀(w:World)(mg:Str→Option Value)(fa:Addr)(h:Heap),(K w.params).In h→h.Ns mainGlobals mg→mg d.name=some (.ref fa)→
   ∃fd:FuncData,(∀(s:Shared)(u:Value),BindsTo s fd ⟨[u],[]⟩ [(x,u)])∧
    ∀base:Heap,(K w.params).In base→base.Ns mainGlobals mg→FnOk l.prog w (K w.params) mg base (CX w) k fa fd [x] (sp w))
  (rm:∀(w:World)(H:Hp)(a:Addr)(ns:List Int),ns.length≤n→Bg H→bb (K w.params) H a (ns.map V.int)→sp w [.ref a] H (λv _=>v= .bl true) λ_ _ _=>False)
  (IE:∀(w:World)(H:Hp)(s:Shared)(e:Value)(s':Shared),CX w [] H s (λ_ _ _=>False) e s'→False):
  PySem.W.WalkO q loose XP YP l.row.toRowW d [] (λf vs=>PySem.call f vs):=by
 refine Kb.tF hn xj λw s₀ s₁ mg mb fa o pm cd doc a vs ns G Y ho hd eB Cz CG hints hlen hg=>?_;have KX:=hY w _ Y;obtain ⟨fd,hb,hF⟩:=F w mg fa _ KX G.T.g Cz;exact As KX G.T.g G.T.b G.T.builtins G.T.nolimit hg CG hints (fz hlen xu) hr hF hb (λH hO hS=>rm w H a ns hlen hO hS) λH e s'=>IE w H s₁ e s'
def inClass(s:Stmt)(j:Nat):Stmt:=match s with
 | .ClassDef _ _ _ body _ _ _ _ _ _ _=>body.getD j (.Pass ⟨0,0,0,0⟩)
 |_=> .Pass ⟨0,0,0,0⟩
def fW(s:Stmt):Arguments:=match s with
 | .FunctionDef _ a _ _ _ _ _ _ _ _=>a
 |_=>{posonlyargs:= [],args:= [],vararg:=none,kwonlyargs:= [],kw_defaults:= [],kwarg:=none,defaults:= []}
def cG(s:Stmt):List Stmt:=match s with
 | .FunctionDef _ _ b _ _ _ _ _ _ _=>b
 |_=> []
def aj(s:Stmt):Scope:=match s with
 | .FunctionDef _ _ _ _ _ _ sc _ _ _=>sc
 |_=>{kind:= .function,names:= [],isGenerator:=false,isCoroutine:=false}
abbrev br:jH:=λ_ _ _ _ _ _=>False
abbrev E0:XK:=λ_ _ _=>False
theorem lI{X:Cx}:Passes br X E0:=λ_ _ _ _ _ _ _ h=>h.elim
structure lP (K:PySem.W.Frag) (x qual:Str) (st:Stmt) (f:Addr) (fd:FuncData):Prop where
 ex:∃(oc:Value)(od:Option Addr)(kV doc pm:Value)(an:Option Addr)(aW ct:Value)(uf:Array (Option Value)),
  fd=PySem.W.fnOf x qual (fW st) (cG st) (aj st) .none kV doc pm an aW ct∧K.lookup f=some ⟨oc,od, .func fd,uf⟩∧PySem.W.codeIn K aW qual=true
 kp:PySem.W.keepIn K (.ref f)=true
section
variable {P:Program} {w:World} {K:PySem.W.Frag} {mg:Str→Option Value} {base:Heap}
theorem lP.ok{x qual:Str}{st:Stmt}{f:Addr}{fd:FuncData}{N ps:List Str}{k:Nat}{sp:Sp}(F:lP K x qual st f fd)(S:aB N ps (aj st))(len:∀vs H Q E,sp vs H Q E→vs.length=ps.length)
  (fY:∀(aW:Value)(A:Around)(outer:List Env)(s:Shared)(H:Hp)(vs:List V)(Q:VK)(E:XK),bC k (A.deeper (envOfC qual (aj st) s.heap.objs.size f aW))→sp vs H Q E→
   ∃t,fS (gM br P w K mg base N qual (aj st) f aW A outer s H E).qh (cG st) t∧t {nx:=λ_ H'=>Q .aN H',rt:=Q} (start N vs) H):FnOk P w K mg base br (k+1) f fd ps sp:=by
 obtain ⟨oc,od,kV,doc,pm,an,aW,ct,uf,rfl,lk,eB⟩:=F.ex;refine B7 lk eB S len λA outer s H vs Q E hr rm=>?_;obtain ⟨t,h,q⟩:=fY aW A outer s H vs Q E hr rm;exact ⟨t,h.qh,q⟩
theorem lP.binds{x qual:Str}{st:Stmt}{f:Addr}{fd:FuncData}{ps:List Str}(F:lP K x qual st f fd)
  (h:∀(kV doc pm:Value)(an:Option Addr)(aW ct:Value)(us:List Value),us.length=ps.length→bindArgs (PySem.W.fnOf x qual (fW st) (cG st) (aj st) .none kV doc pm an aW ct) ⟨us,[]⟩=pure (ps.zip us)):Binds K fd ps []:=by
 obtain ⟨oc,od,kV,doc,pm,an,aW,ct,uf,rfl,lk,eB⟩:=F.ex;exact .all (h kV doc pm an aW ct)
theorem jd{x qual:Str}{st:Stmt}{f:Addr}{oc:Value}{od an:Option Addr}{uf:Array (Option Value)}{kV doc pm aW ct:Value}(l:K.lookup f=some ⟨oc,od, .func (PySem.W.fnOf x qual (fW st) (cG st) (aj st) .none kV doc pm an aW ct),uf⟩)
  (c:PySem.W.codeIn K aW qual=true) (k:PySem.W.keepIn K (.ref f)=true):lP K x qual st f (PySem.W.fnOf x qual (fW st) (cG st) (aj st) .none kV doc pm an aW ct):=⟨⟨oc,od,kV,doc,pm,an,aW,ct,uf,rfl,l,c⟩,k⟩
end
theorem cD{n:Nat}(h:n≤1000):n<sizeLine:=Nat.lt_of_le_of_lt h (by decide)
section
variable {X:Cx}
theorem pv(i:Nat){x:Str}{pos:Pos}(hN:X.N[i]? =some x:=by rfl)(hv:jJ X.env.scope x:=by first|exact Or.inl rfl|exact Or.inr (Or.inl rfl) |exact Or.inr (Or.inr rfl))(hd:(x==("__debug__":Str))=false:=by decide)
  (eB:(x==("__classdict__":Str))=false:=by decide):PE X (.Name x pos) (Hl i):=yR hN hv hd eB
end
theorem aI{A B:Prop}(h:B):if false=true then A else B:=by
 rw [if_neg fF];exact h
theorem aU{A B:Prop}(h:A):if true=true then A else B:=by
 rw [if_pos rfl];exact h
def aH(H H':Hp):Prop:=∀b o,H b=some o→H' b=some o
theorem aH.refl(H:Hp):aH H H:=λ_ _ h=>h
theorem aH.trans{H H1 H2:Hp}(a:aH H H1)(b:aH H1 H2):aH H H2:=λc o h=>b c o (a c o h)
theorem aH.free{H H':Hp}(e:aH H H'){l:Addr}(h:H' l=Option.none):H l=Option.none:=by
 cases q:H l with
 |none=>rfl
 |some o=>
  rw [e l o q] at h;cases h
def gL(env:Env):List (Str×NameKind)→List (Str×Addr)→List (Str×Addr)
 | [],cs=>cs
 | (n,k)::r,cs=>if k==NameKind.free then gL env r ((n,(env.cells.lookup n).getD 0)::cs) else gL env r cs
theorem iD{scope:Scope}{env:Env}(h:∀x∈scope.names,x.2= .free→∃c,env.cells.lookup x.1=some c):closureFor scope env=pure (gL env scope.names []):=by
 simp only [closureFor]
 have go:∀(names:List (Str×NameKind))(cs:List (Str×Addr)),(∀x∈names,x.2= .free→∃c,env.cells.lookup x.1=some c)→
   (forIn names cs λx __s=>if (x.snd==NameKind.free)=true then (do let a ←cellOf env x.fst;pure (ForInStep.yield ((x.fst,a)::__s))) else pure (ForInStep.yield __s))=(pure (gL env names cs):Sem _):=by
  intro names
  induction names with
  |nil=>intro cs _;rfl
  |cons x r ih=>
   intro cs h;obtain ⟨n,k⟩:=x;rw [List.forIn_cons,gL];have hr:=λcs=>ih cs λy hy=>h y (gK _ hy);cases hk:k==NameKind.free with
   |false=>
    simp only [hk,wg,if_false];exact hr cs
   |true=>
    have oQ:k= .free:=by simpa using hk
    obtain ⟨c,hc⟩:=h (n,k) di oQ;simp only at hc;simp only [if_true,cellOf,hc];exact hr _
 rw [go _ _ h];rfl
theorem cV{env:Env}:∀(names:List (Str×NameKind))(cs:List (Str×Addr)),(∀x∈names,x.2= .free→∃c,env.cells.lookup x.1=some c)→(∀x c,cs.lookup x=some c→env.cells.lookup x=some c)→
  ∀x c,(gL env names cs).lookup x=some c→env.cells.lookup x=some c
 | [],cs,_,hc=>hc
 | (n,k)::r,cs,h,hc=>by
  rw [gL]
  split
  ·rename_i hk
   refine cV r _ (λy hy=>h y (gK _ hy)) λx c e=>?_;obtain ⟨c',Ce⟩:=h (n,k) di (by simpa using hk)
   rw [nr] at e
   split at e
   ·rename_i hx
    have CI:x=n:=by simpa using hx
    subst CI;simp only at Ce;rw [Ce] at e ⊢;exact e
   ·exact hc x c e
  ·exact cV r cs (λy hy=>h y (gK _ hy)) hc
theorem kf{env:Env}:∀(names:List (Str×NameKind))(cs:List (Str×Addr))(x:Str),((x,NameKind.free)∈names∨∃c,cs.lookup x=some c)→∃c,(gL env names cs).lookup x=some c
 | [],cs,x,h=>by
  rcases h with h|h
  ·cases h
  ·exact h
 | (n,k)::r,cs,x,h=>by
  rw [gL]
  split
  ·rename_i hk
   refine kf r _ x ?_
   by_cases e:x=n
   ·subst e;exact .inr ⟨(env.cells.lookup x).getD 0,by simp [nr]⟩
   ·have ne:(x==n)=false:=by simpa using e
    rcases h with h| ⟨c,h⟩
    ·rcases eS.mp h with z|z
     ·cases z;exact absurd rfl e
     ·exact .inl z
    ·exact .inr ⟨c,by rw [nr,ne];exact h⟩
  ·rename_i hk
   refine kf r cs x ?_
   rcases h with h|h
   ·rcases eS.mp h with z|z
    ·cases z;exact absurd rfl hk
    ·exact .inl z
   ·exact .inr h
def kM(src:List (Option Nat))(σ:St):St:=src.map λo=>o.bind λi=>(σ[i]?).bind id
def cv(scope:Scope)(XN:List Str):List (Option Nat)→List Str→Prop
 | [],[]=>True
 |none::r,_::n=>cv scope XN r n
 |some i::r,x::n=>XN[i]? =some x∧scope.names.lookup x=some .free∧cv scope XN r n
 |_,_=>False
theorem cv.len{scope:Scope}{XN:List Str}:∀{src:List (Option Nat)}{NC:List Str},cv scope XN src NC→src.length=NC.length
 | [],[],_=>rfl
 |none::r,_::n,h=>by have:=cv.len (src:=r) (NC:=n) h;simp [this]
 |some i::r,_::n,h=>by have:=cv.len (src:=r) (NC:=n) h.2.2;simp [this]
 | [],_::_,h=>h.elim
 |none::_,[],h=>h.elim
 |some _::_,[],h=>h.elim
theorem cv.at{scope:Scope}{XN:List Str}:∀{src:List (Option Nat)}{NC:List Str}{j i:Nat}{x:Str},cv scope XN src NC→src[j]? =some (some i)→NC[j]? =some x→XN[i]? =some x∧scope.names.lookup x=some .free
 | [],[],_,_,_,_,h,_=>by simp at h
 |none::r,_::n,0,_,_,_,h,_=>by simp at h
 |none::r,_::n,j+1,i,x,h,h1,h2=>cv.at (src:=r) (NC:=n) (j:=j) h (by simpa using h1) (by simpa using h2)
 |some k::r,y::n,0,i,x,h,h1,h2=>by
  have e1:k=i:=by simpa using h1
  have e2:y=x:=by simpa using h2
  subst e1 e2;exact ⟨h.1,h.2.1⟩
 |some k::r,_::n,j+1,i,x,h,h1,h2=>cv.at (src:=r) (NC:=n) (j:=j) h.2.2 (by simpa using h1) (by simpa using h2)
 | [],_::_,_,_,_,h,_,_=>h.elim
 |none::_,[],_,_,_,h,_,_=>h.elim
 |some _::_,[],_,_,_,h,_,_=>h.elim
structure bz (X:Cx) (scope:Scope):Prop where
 kind:scope.kind= .function
 names:∀x∈scope.names,x.2= .local→scope.names.lookup x.1=some .local
 nocell:∀x∈scope.names,x.2≠ .cell
 free:∀x∈scope.names,x.2= .free→X.env.kindOf x.1=some .cell∨X.env.kindOf x.1=some .free
theorem dH{env:Env}:∀(names:List (Str×NameKind))(x:Str),
  (names.map λ(n,k)=>if (k==NameKind.free&&env.scope.kind== .function&&env.kindOf n==some .cell) then (n,NameKind.cell) else (n,k)).lookup x=
   (names.lookup x).map λk=>if (k==NameKind.free&&env.scope.kind== .function&&env.kindOf x==some .cell) then NameKind.cell else k
 | [],_=>rfl
 | (n,k)::r,x=>by
  have ih:=dH (env:=env) r x;show List.lookup x ((if (k==NameKind.free&&env.scope.kind== .function&&env.kindOf n==some .cell)=true then (n,NameKind.cell) else (n,k))::_)=_;cases hx:x==n with
  |true=>
   have e:x=n:=by simpa using hx
   subst e
   by_cases hc:(k==NameKind.free&&env.scope.kind== .function&&env.kindOf x==some .cell)=true
   ·rw [if_pos hc,nr,nr]
    simp only [hx];show some NameKind.cell=some (if _ then _ else _);rw [if_pos hc]
   ·rw [if_neg hc,nr,nr]
    simp only [hx];show some k=some (if _ then _ else _);rw [if_neg hc]
  |false=>
   by_cases hc:(k==NameKind.free&&env.scope.kind== .function&&env.kindOf n==some .cell)=true
   ·rw [if_pos hc];simp only [nr,hx];exact ih
   ·rw [if_neg hc];simp only [nr,hx];exact ih
theorem mem_lookup{names:List (Str×NameKind)}{x:Str}{k:NameKind}(h:names.lookup x=some k):(x,k)∈names:=PySem.mem_of_lookup h
def dN(X:Cx)(scope:Scope)(NC:List Str)(ex:List Addr)(s:Shared)(H:Hp):Cx:=
 {X with N:=NC,s₀:=s,H₀:=H,env:=compEnvC scope (gL X.env scope.names []) s.heap.objs.size X.env,outer:=X.stack,stack:=X.stack,ex:=ex,fn:=λ_=>false,pn:= [],xe:=λ_ _=>False}
section
variable {X:Cx} {pins:List (Addr×Obj)} {σ:St} {H:Hp} {s:Shared} {scope:Scope} {NC:List Str} {ex:List Addr} {src:List (Option Nat)}
theorem bz.cells(c:bz X scope)(ok:X.Ok):∀x∈scope.names,x.2= .free→∃c,X.env.cells.lookup x.1=some c:=λx hx e=>ok.has x.1 (c.free x hx e)
theorem bz.Jv(c:bz X scope){C:Addr}{x:Str}{k:NameKind}(h:(compEnvC scope (gL X.env scope.names []) C X.env).kindOf x=some k)(hk:k= .cell∨k= .free):scope.names.lookup x=some .free:=by
 have h':(relabel scope X.env).names.lookup x=some k:=h;unfold relabel at h';rw [dH] at h';cases e:scope.names.lookup x with
 |none=>rw [e] at h';cases h'
 |some k'=>
  have nc:=c.nocell _ (mem_lookup e);rw [e] at h';have h2:(if (k'==NameKind.free&&X.env.scope.kind== .function&&X.env.kindOf x==some .cell) then NameKind.cell else k')=k:=Option.some.inj h'
  by_cases hf:k'= .free
  ·rw [hf]
  ·have hb:(k'==NameKind.free)=false:=by simpa using hf
   rw [hb,Bool.false_and,Bool.false_and,if_neg fF] at h2
   rcases hk with z|z
   ·rw [h2] at nc;exact absurd z nc
   ·rw [h2] at hf;exact absurd z hf
theorem Bw(I:Inv X pins σ H s)(c:bz X scope)(hf:∀b∈ex,fm X pins H b)(eU:∀b∈ex,b<s.heap.objs.size):(dN X scope NC ex s H).Ok where
 mod:=I.ok.mod
 kind:=c.kind
 glob:=I.ok.glob
 blt:=I.ok.blt
 above:=bL _
 inj:=λx y d h1 h2=>I.ok.inj x y d (cV _ _ (c.cells I.ok) (λ_ _ z=>by cases z) x d h1) (cV _ _ (c.cells I.ok) (λ_ _ z=>by cases z) y d h2)
 has:=λx hx=>kf _ _ x (.inl (mem_lookup (by rcases hx with h|h<;>exact c.Jv h (by simp))))
 cab:=λ_ _ z=>by cases z
 hd:=I.ok.hd
 frames:=I.ok.frames
 stk:= .inl rfl
 exf:=λb hb=>⟨bR (eU b hb),λx d e=>(hf b hb).2.2.2.2.1 x d (cV _ _ (c.cells I.ok) (λ_ _ z=>by cases z) x d e)⟩
 bs:=I.bs
 bsz:=fz I.ok.bsz I.sz
 noex:=λb o e hb=>by
  rcases (hf b hb).2.2.2.1 with z|z
  ·exact I.ok.noex b o e z
  ·exact absurd (dS (Heap.lt_size e) (fz I.ok.bsz z)) (gE _)
 exfs:=λb hb z=>(eS.mp (I.uv b z)).elim (hf b hb).2.1 (hf b hb).2.2.1
 funs:=I.stack
 frf:=I.qG
theorem zy{h1:Heap}{tk:Nat}{ob:Obj}(I:Inv X pins σ H s)(c:bz X scope)(eR:cv scope X.N src NC)(hf:∀b∈ex,fm X pins H b)(eU:∀b∈ex,b<s.heap.objs.size)
  (xv:h1.Ns s.heap.objs.size (λ_=>none)) (zZ:Heap.SameBut s.heap.objs.size (s.heap.push ob) h1):
  Inv (dN X scope NC ex s H) [] (kM src σ) H {s with heap:=h1,toks:=tk}:=by
 have old:∀b o,s.heap.get? b=some o→h1.get? b=some o:=λb o e=>zZ.extBut b o (bR (Heap.lt_size e)) (Heap.get?_push_of_some _ e);have cl:∀x d,(gL X.env scope.names []).lookup x=some d→X.env.cells.lookup x=some d:=λx d=>cV _ _ (c.cells I.ok) (λ_ _ z=>by cases z) x d
 have cellK:∀d v,s.heap.IsCell d v→h1.IsCell d v:=λd v ⟨o,ho,hd⟩=>⟨o,old d o ho,hd⟩;refine ⟨Bw I c hf eU,rfl,I.bare,Un.kept old,⟨_,xv,λj x v e1 e2 e3=>?_⟩,λx d e=>?_,I.hok.fresh (bL _),λx d e=>I.freeC x d (cl x d e),λp hp=>absurd (show p∈([]:List (Addr×Obj)) from hp) (by simp),I.hok.kept old,?_⟩
 ·have fq:(kM src σ)[j]? =some (some v):=e2
  unfold kM at fq;rw [dX] at fq;cases ej:src[j]? with
  |none=>rw [ej] at fq;cases fq
  |some o=>
   rw [ej] at fq;cases o with
   |none=>cases fq
   |some i=>
    have e4:(σ[i]?).bind id=some v:=Option.some.inj fq
    have e5:σ[i]? =some (some v):=by
     cases q:σ[i]? with
     |none=>rw [q] at e4;cases e4
     |some z=>rw [q] at e4;exact congrArg some e4
    obtain ⟨hN,vk⟩:=eR.at ej e1;have hk:=c.free _ (mem_lookup vk) rfl;obtain ⟨m,hn,hl⟩:=I.loc;obtain ⟨u,r,l⟩:=hl i x v hN e5 (hk.elim (λz=> .inr (.inl z)) (λz=> .inr (.inr z)));refine ⟨u,r, .inr ⟨?_,?_⟩⟩
    ·show (relabel scope X.env).names.lookup x=_∨(relabel scope X.env).names.lookup x=_
     unfold relabel;rw [dH,vk]
     by_cases z:(NameKind.free==NameKind.free&&X.env.scope.kind== .function&&X.env.kindOf x==some .cell)=true
     ·left;simp only [Option.map_some,z,if_true]
     ·right;simp only [Option.map_some,z];rfl
    ·obtain ⟨d,hd⟩:=kf (env:=X.env) scope.names [] x (.inl (mem_lookup vk))
     refine ⟨d,hd,?_⟩
     rcases l with ⟨l,_⟩ | ⟨_,d',e,z⟩
     ·exfalso;rcases hk with z|z<;>(rw [l] at z;cases z)
     ·rw [cl x d hd] at e;cases e;exact cellK d _ z
 ·obtain ⟨v,z⟩:=I.cell x d (cl x d e)
  exact ⟨v,cellK d v z⟩
 ·show (kM src σ).length=NC.length
  unfold kM;rw [bV];exact eR.len
theorem comp_back{H':Hp}{ax:St}{s':Shared}{h2:Heap}{uk:List (Addr×Obj)}(I:Inv X pins σ H s)(hf:∀b∈ex,fm X pins H b)(J:Inv (dN X scope NC ex s H) uk ax H' s')
  (zZ:Heap.SameBut s.heap.objs.size s'.heap h2):Inv X pins σ H' {s' with heap:=h2}:=by
 have up:∀b o,b≠s.heap.objs.size→s'.heap.get? b=some o→h2.get? b=some o:=λb o hb e=>zZ.extBut b o hb e;have ne:∀b o,s.heap.get? b=some o→b≠s.heap.objs.size:=λb o e=>bR (Heap.lt_size e);have u:=J.base;refine I.wC (ch:=ex) (show s'.os=s.os from J.os) ⟨λb o e n hb hx=>up b o (ne b o e) (u.keep b o e n hb hx),λb o e n hb hx=>?_,u.free,λb o e hx=>?_,u.tups,u.frzs,u.tbls⟩ ?_ J.bare λb hb=>?_
 ·obtain ⟨sl,q⟩:=u.slot b o e n hb hx
  exact ⟨sl,up b _ (ne b o e) q⟩
 ·obtain ⟨o',q⟩:=u.there b o e hx
  exact ⟨o',up b o' (ne b o e) q⟩
 ·intro b o e
  have nC:∀b o,H' b=some o→b≠s.heap.objs.size:=λb o e z=>by
   have:=J.free
   rw [z] at e;have e':H' s.heap.objs.size=none:=this;rw [e'] at e;cases e
  refine (J.hok b o e).kN (λd v hd q=>up d v ?_ q) (λ_ q=>q) λ_ _ q=>q
  rcases hd with z|z
  ·rw [z];exact nC b o e
  ·exact nC d _ z
 ·obtain ⟨_,f1,_,f3,f4,f5⟩:=hf b hb
  exact ⟨f3,f1,f4,f5⟩
end
def qW(X:Cx)(ifs:List Expr)(t:TT):Prop:=
 ∀(pins:List (Addr×Obj))(s:Shared)(σ:St)(H:Hp)(Q:Bool→Hp→Prop),Inv X pins σ H s→t σ H Q→
  wpAny (model X.prog X.w) X.A (forIn ifs true λc r=>if r=true then do let ok ←isTrue c X.env (eval c X.env);pure (ForInStep.yield ok) else pure (ForInStep.yield r)) (TP X pins σ Q) X.xe s
def D6:TT:=λ_ H Q=>Q true H
theorem vN{X:Cx}:qW X [] D6:=λ_ _ _ H _ I h=>wpAny_tests_nil ⟨H,I,h⟩
theorem Dt{X:Cx}{c:Expr}{t:TT}(h:PT X c t):qW X [c] t:=λpins s σ H Q I q=>wpAny_tests_one (h pins s σ H Q I q)
def QG(J:It)(g:TG)(tt:TT)(te:TE)(D:Addr)(Q:VK)(σ:St)(H:Hp):Prop:=
 ∃W:Nat→Nat→St→Hp→Prop,(∃m,W 0 m σ H)∧∀i m fe H2,W i m fe H2→
  (J.stop i H2∧Q (.ref D) H2)∨
  (J.go i H2∧∃N:St→Hp→Prop,(∀ax H',N ax H'→∃m',m'<m∧W (i+1) m' ax H')∧∀x H3,J.yld i H2 x H3→g x fe H3 λjG H4=>tt jG H4 λb H5=>
   if b=true then te jG H5 λv H6=>∃ys,H6 D=some (.lst ys)∧ys.length<sizeLine∧N jG (upd H6 D (.lst (ys++ [v]))) else N jG H5)
def D2(wi:TI)(g:TG)(tt:TT)(te:TE)(src:List (Option Nat)):TE:=λσ H Q=>wi σ H λJ H1=>∀D,H1 D=none→QG J g tt te D Q (kM src σ) (upd H1 D (.lst []))
section
variable {X:Cx} {elt iter tg:Expr} {ifs:List Expr} {scope:Scope} {pos:Pos} {wi:TI} {g:TG} {tt:TT} {te:TE} {src:List (Option Nat)} {NC:List Str}
theorem oo{pins:List (Addr×Obj)}{σ:St}{s2:Shared}{H2:Hp}{it:Addr}{fp:List Addr}{tn:Nat→Heap→Prop}{J:It}{RR:Value→Addr→Result→Shared→Prop}{E:Value→Shared→Prop}{Q:VK}
  (hc:X.calm=true) (c:bz X scope) (eR:cv scope X.N src NC) (I2:Inv X pins σ H2 s2) (T:Turn X.prog X.w X.K tg J fp it tn) (iT:tn 0 s2.heap) (f2:∀b∈fp,fm X pins H2 b)
  (hg:∀s H,PG (dN X scope NC fp s H) tg g) (ht:∀s H,qW (dN X scope NC fp s H) ifs tt) (he:∀s H,PE (dN X scope NC fp s H) elt te)
  (hW:∀D,H2 D=none→∃W:Nat→Nat→St→Hp→Prop,(∃m,W 0 m (kM src σ) (upd H2 D (.lst [])))∧∀i m fe H2,W i m fe H2→
   (J.stop i H2∧Q (.ref D) H2)∨
   (J.go i H2∧∃N:St→Hp→Prop,(∀ax H',N ax H'→∃m',m'<m∧W (i+1) m' ax H')∧∀x H3,J.yld i H2 x H3→g x fe H3 λjG H4=>tt jG H4 λb H5=>
    if b=true then te jG H5 λv H6=>∃ys,H6 D=some (.lst ys)∧ys.length<sizeLine∧N jG (upd H6 D (.lst (ys++ [v]))) else N jG H5))
  (SG:∀D s3 H3 ax H' s',Inv X pins σ H3 s3→(∀b∈fp,fm X pins H3 b)→Inv (dN X scope NC fp s3 H3) [] ax H' s'→Q (.ref D) H'→RR (.ref D) s3.heap.objs.size (.ok .next) s'):
  wpAny (model X.prog X.w) X.A (newList []) (λacc vT=>wpAny (model X.prog X.w) X.A (newFunctionEnv scope X.env.globals (gL X.env scope.names []) [] X.env.qual none .none (some X.env)) (λuR D1=>
   codeAny (model X.prog X.w) X.A (.compStart (.ListComp elt [⟨tg,iter,ifs,0⟩] scope pos) 0 (.ref it) acc {uR with scope:=relabel scope X.env}) (RR acc uR.locals) D1) E vT) E s2:=by
 obtain ⟨W,⟨m0,w0⟩,turn⟩:=hW s2.heap.objs.size I2.fresh;have I3:Inv X pins σ (upd H2 s2.heap.objs.size (.lst [])) {s2 with heap:=s2.heap.push {cls:= .type "list",data:= .seq ([]:List Value).toArray}}:=I2.CT (its:= []) (t':=s2.toks) .nil (iW _)
 have Vq:∀b∈fp,b<s2.heap.objs.size:=λb hb=>by
  obtain ⟨o,e,_⟩:=T.obj _ _ iT b hb;exact Heap.lt_size e
 have f3:∀b∈fp,fm X pins (upd H2 s2.heap.objs.size (.lst [])) b:=λb hb=>⟨by rw [ah (bR (Vq b hb))];exact (f2 b hb).1,(f2 b hb).2⟩
 refine wpAny_newObj_type ?_
 suffices key:∀s3:Shared,Inv X pins σ (upd H2 s2.heap.objs.size (.lst [])) s3→(∀b o,s2.heap.get? b=some o→s3.heap.get? b=some o)→
   wpAny (model X.prog X.w) X.A (newFunctionEnv scope X.env.globals (gL X.env scope.names []) [] X.env.qual none .none (some X.env)) (λuR D1=>
    codeAny (model X.prog X.w) X.A (.compStart (.ListComp elt [⟨tg,iter,ifs,0⟩] scope pos) 0 (.ref it) (.ref s2.heap.objs.size) {uR with scope:=relabel scope X.env}) (RR (.ref s2.heap.objs.size) uR.locals) D1) E s3 from
  key _ I3 λb o e=>Heap.get?_push_of_some _ e
 intro s3 I3 W6;have DZ:tn 0 s3.heap:=T.keep _ _ _ iT λb _ o e=>W6 b o e
 have Jy:∀b∈fp,b<s3.heap.objs.size:=λb hb=>by
  obtain ⟨o,e,_⟩:=T.obj _ _ DZ b hb;exact Heap.lt_size e
 generalize Xv:upd H2 s2.heap.objs.size (.lst [])=H3 at I3 f3 w0;refine wpAny_newFunctionEnv c.nocell (by intro y hy;simp at hy) (λh1 xv zZ=>?_) c.kind
 have I4:=zy (src:=src) (NC:=NC) (ex:=fp) (tk:=s3.toks+([]:List (Str×Value)).length) I3 c eR f3 Jy xv zZ;have P2:tn 0 h1:=T.keep _ _ _ DZ λb hb o e=>zZ.extBut b o (bR (Jy b hb)) (Heap.get?_push_of_some _ e);generalize hX:dN X scope NC fp s3 H3=XC at I4
 have stat:∀{H':Hp},(∀b∈fp,H' b=none)→∀b∈fp,fm XC [] H' b:=λ {H'} hn b hb=>by
  subst hX;refine ⟨hn b hb,bR (Jy b hb),λz=>?_, .inl hb,λx d e=>?_,λp hp=>absurd (show p∈([]:List (Addr×Obj)) from hp) (by simp)⟩
  ·exact (I4.ok.exfs b hb) z
  ·exact (I4.ok.exf b hb).2 x d e
 have loop:codeAny (model X.prog X.w) X.A (.compLoop (.ListComp elt [⟨tg,iter,ifs,0⟩] scope pos) 0 (.ref it) (.ref s2.heap.objs.size) XC.env) (RR (.ref s2.heap.objs.size) s3.heap.objs.size)
   {s3 with heap:=h1,toks:=s3.toks+([]:List (Str×Value)).length}:=by
  refine codeAny_loop rfl (λn s'=>∃i ax H',Inv XC [] ax H' s'∧tn i s'.heap∧(∀b∈fp,H' b=none)∧W i n ax H') (λn s' hI=>?_) m0 ⟨0,_,_,I4,P2,λb hb=>(f3 b hb).1,w0⟩;obtain ⟨i,ax,H',I5,A3,EE,w5⟩:=hI;show wpAny _ X.A ((compTurn (.ListComp elt [⟨tg,iter,ifs,0⟩] scope pos) 0 (.ref it) (.ref s2.heap.objs.size) XC.env).onRaise (λx=>do noteFrame x XC.env;theTreesLotGoes x)) _ _ s'
  refine wpAny_noted ?_;rw [compTurn_list]
  have qh:∀{α:Type}{t:Sem α}{Q:α→Shared→Prop}{E:Value→Shared→Prop}{s:Shared},wpAny (model XC.prog XC.w) XC.A t Q XC.xe s→wpAny (model X.prog X.w) X.A t Q E s:=λ {α t Q E s} h=>by
   subst hX;exact wpAny_mono h (λ_ _ q=>q) λ_ _ f=>f.elim
  have MA:XC.calm=true:=by subst hX;exact hc
  have eP:XC.prog=X.prog:=by subst hX;rfl
  have ew:XC.w=X.w:=by subst hX;rfl
  have eK:XC.K=X.K:=by subst hX;rfl
  have eA:XC.A=X.A:=by subst hX;rfl
  have S0:PG XC tg g:=by subst hX;exact hg _ _
  have Tn:qW XC ifs tt:=by subst hX;exact ht _ _
  have SW:PE XC elt te:=by subst hX;exact he _ _
  refine wpAny_bind (wpAny_standAt (wpAny_bind ?_))
  rcases turn i n ax H' w5 with ⟨stop,qn⟩ | ⟨go,N,hN,step⟩
  ·have hd:=T.done XC eP ew eK MA i [] s' ax H' (notedBy (model X.prog X.w) X.A XC.env λe s'=>RR (.ref s2.heap.objs.size) s3.heap.objs.size (.error e) s') I5 (stat EE) A3 stop
   rw [eA] at hd;refine thn hd λr s6 ⟨hr,I6⟩=>?_;subst hr;refine wpAny_pure ?_;subst hX;exact SG _ s3 H3 ax H' s6 I3 f3 I6 qn
  ·have hd:=T.item XC eP ew eK MA i [] s' ax H' (notedBy (model X.prog X.w) X.A XC.env λe s'=>RR (.ref s2.heap.objs.size) s3.heap.objs.size (.error e) s') I5 (stat EE) A3 go
   rw [eA] at hd;refine thn hd λr s6 ⟨u,hr,h6⟩=>?_;subst hr;refine wpAny_bind (thn h6 λ_ s7 ⟨x,H7,I7,r7,y7,JR,Sn⟩=>?_);have QE:=I7.pinned (stat Sn) (T.obj _ _ JR)
   have again:∀{rG:St}{H8:Hp}{s8:Shared},Inv XC ([]++mQ fp s7.heap) rG H8 s8→N rG H8→∃m,m<n∧∃i ax H',Inv XC [] ax H' s8∧tn i s8.heap∧(∀b∈fp,H' b=none)∧W i m ax H':=λ {rG H8 s8} I8 n8=>by
    obtain ⟨m',hm,w8⟩:=hN rG H8 n8;refine ⟨m',hm,i+1,rG,H8,I8.kv,T.keep _ _ _ JR λb hb o e=>(I8.pin (b,o) (fK _ (fK _ (gW hb e)))).1,λb hb=>?_,w8⟩;obtain ⟨o,e,d⟩:=T.obj _ _ JR b hb;exact (I8.pin (b,o) (fK _ (fK _ (gW hb e)))).2.1
   refine wpAny_bind (qh (thn (S0 _ s7 ax H7 x u _ QE r7 (step x H7 y7)) λ_ s8 ⟨rG,H8,I8,q8⟩=>?_));refine wpAny_bind (qh (thn (Tn _ s8 rG H8 _ I8 q8) λb s9 ⟨H9,I9,q9⟩=>?_));cases b with
   |false=>
    rw [if_neg fF] at q9;exact wpAny_pure ⟨by subst hX;rfl,again I9 q9⟩
   |true=>
    rw [if_pos rfl] at q9;refine wpAny_bind (wpAny_bind (qh (thn (SW _ s9 rG H9 _ I9 q9) λy WK ⟨v,QA,QB,WH,ys,hD,hz,WE⟩=>?_)));refine wpAny_bind (qh (thn (eW _ WK rG QA (.ref s2.heap.objs.size) [v] _ [y] (λ_ H'=>N rG H') QB rfl (.cons WH .nil) ⟨_,ys,v,rfl,rfl,hD,hz,WE⟩) λ_ XY ⟨_,Xm,QC,_,WG⟩=>?_));exact wpAny_pure (wpAny_pure ⟨by subst hX;rfl,again QC WG⟩)
 subst hX;exact codeAny_compStart_list loop (T.self _ 0 _ _ _ P2 loop)
theorem JG(hc:X.calm=true)(c:bz X scope)(eR:cv scope X.N src NC)(hi:PI X tg iter wi)
  (hg:∀ex s H,PG (dN X scope NC ex s H) tg g) (ht:∀ex s H,qW (dN X scope NC ex s H) ifs tt) (he:∀ex s H,PE (dN X scope NC ex s H) elt te)
  (hs:∀x,foldedSetIterable iter X.env x=pure x:=by intro _;rfl):PE X (.ListComp elt [⟨tg,iter,ifs,0⟩] scope pos) (D2 wi g tt te src):=by
 intro pins s σ H Q I h;rw [eval_ListComp];refine wpAny_comprehension_free (use:=none) rfl hs (iD (c.cells I.ok)) c.kind c.names (thn (hi pins s σ H _ I h) λv s1 h1=>thn h1 λjX s2 h2=>?_);obtain ⟨it,fp,tn,J,H2,rfl,I2,T,iT,f2,hW⟩:=h2;refine oo (RR:=λacc C=>compPost (model X.prog X.w) X.A X.xe none (EP X pins σ Q) acc C) (Q:=Q) hc c eR I2 T iT f2 (hg fp) (ht fp) (he fp) hW ?_;intro D s3 H3 ax H' s' I3 f3 J' q;obtain ⟨m,hn,_⟩:=J'.loc;exact ⟨m,hn,λh' sb=>⟨.ref D,H',comp_back I3 f3 J' sb,rfl,q⟩⟩
def FY(wi:TI)(g:TG)(tt:TT)(te:TE)(src:List (Option Nat))(i:Nat):TS:=λD σ H=>D2 wi g tt te src σ H λv H'=>D.nx (σ.set i (some v)) H'
theorem kr{i:Nat}{x:Str}{px hZ:Pos}(hc:X.calm=true)(hN:X.N.Nodup)(tT:X.N[i]? =some x)(hx:Loc X.env.scope x)(c:bz X scope)(eR:cv scope X.N src NC)(hi:PI X tg iter wi)
  (hg:∀ex s H,PG (dN X scope NC ex s H) tg g) (ht:∀ex s H,qW (dN X scope NC ex s H) ifs tt) (he:∀ex s H,PE (dN X scope NC ex s H) elt te)
  (je:swapsWith (.ListComp elt [⟨tg,iter,ifs,0⟩] scope pos) (some (.Name x px)) hZ.line X.env=pure true)
  (hf:X.fn x=true∨X.env.scope.names.lookup x=some .local:=by first|exact .inl rfl|exact .inr rfl|assumption)
  (hs:∀x,foldedSetIterable iter X.env x=pure x:=by intro _;rfl):PS X (.Assign [.Name x px] (.ListComp elt [⟨tg,iter,ifs,0⟩] scope pos) hZ) (FY wi g tt te src i):=by
 intro pins s σ H D I h;rw [exec_Assign_Name_used _ _ _ _ je];refine wpAny_bind (wpAny_standAt (wpAny_bind ?_));show wpAny _ X.A (do let _ ←comprehension (.ListComp elt [⟨tg,iter,ifs,0⟩] scope pos) scope X.env _ (newList []) false (eval iter X.env) (some (assign (.Name x px) X.env))) _ _ s
 refine wpAny_bind (wpAny_mono (wpAny_comprehension_free (use:=some (assign (.Name x px) X.env)) (Q:=λ_ s'=>SP X pins D .next s') rfl hs (iD (c.cells I.ok)) c.kind c.names
  (thn (hi pins s σ H _ I h) λv s1 h1=>thn h1 λjX s2 h2=>?_)) (λ_ s' hq=>wpAny_pure (wpAny_pure hq)) λ_ _ e=>e)
 obtain ⟨it,fp,tn,J,H2,rfl,I2,T,iT,f2,hW⟩:=h2;refine oo (RR:=λacc C=>compPost (model X.prog X.w) X.A X.xe (some (assign (.Name x px) X.env)) (λ_ s'=>SP X pins D .next s') acc C) (Q:=λv H'=>D.nx (σ.set i (some v)) H') hc c eR I2 T iT f2 (hg fp) (ht fp) (he fp) hW ?_;intro a s3 H3 ax H' s' I3 f3 J' q;obtain ⟨m,hn,_⟩:=J'.loc;have IX:Inv X pins σ H' s':=comp_back I3 f3 J' (.refl ..);show wpAny _ X.A (assign (.Name x px) X.env (.ref a)) _ _ _;have nL:s3.heap.objs.size≠X.env.locals:=tq I3.lt
 have nc:∀y d,X.env.cells.lookup y=some d→d≠s3.heap.objs.size:=λy d e z=>by
  obtain ⟨v,hv⟩:=I3.cell y d e
  have:=hv.lt
  rw [z] at this;exact absurd this (gE _)
 have np:∀p∈X.pn++pins,p.1≠s3.heap.objs.size:=λp hp z=>by
  have:=Heap.lt_size (I3.pin p hp).1
  rw [z] at this;exact absurd this (gE _)
 obtain ⟨oC,es,ep,Tc,EI,rC⟩:=id hn;have Mx:H' s3.heap.objs.size=none:=J'.free
 have IP:Inv X ((s3.heap.objs.size,oC)::pins) σ H' s':=IX.mR λp hp=>by
  rcases eS.mp hp with z|z
  ·rw [z]
   exact ⟨Tc,Mx,nL,I3.Hb (bL _),λv w=>by rw [EI] at w;cases w⟩
  ·exact IX.pin p (fK _ z)
 refine wpAny_assign_Name (ku (x:=x) IP hN tT hx (v:= .ref a) rfl (λs5 I5=>?_) hf);have SD:=(I5.pin (s3.heap.objs.size,oC) (fK _ di)).1;refine ⟨m,⟨oC,es,ep,SD,EI,rC⟩,λh6 sb=>?_⟩;have Hn:Inv X pins (σ.set i (some (.ref a))) H' s5:=I5.mR λp hp=>I5.pin p (fK _ (gK _ hp));exact ⟨_,H',Hn.turned (t':=s5.toks) (it:=s3.heap.objs.size) (λb o hb e=>sb.extBut b o hb e) Mx nL (.inr I3.sz) nc np,q⟩
end
section
variable {X:Cx} {pins:List (Addr×Obj)} {σ:St} {H:Hp} {s:Shared} {h':Heap} {fp:List Addr}
theorem Inv.ni{t':Nat}(I:Inv X pins σ H s)(hf:∀b∈fp,fm X pins H b)(k:∀b o,b∉fp→s.heap.get? b=some o→h'.get? b=some o):Inv X pins σ H {s with heap:=h',toks:=t'}:=by
 refine I.step (g':=s.gens) (d':=s.drawn) (ch:=fp) (λb hb=>?_) (λb o _ _ hc e _=>k b o hc e) (λb o _ _ hc e _=>⟨o.slots,k b o hc e⟩) (λ_ _ _ _ n=>n)
  (λb o hc e=>⟨o,k b o hc e⟩) (λ_ _ e=>e) (λ_ _ _ e=>e) (λb ps e=>⟨#[],by rw [e];simp⟩) (λm hm=>?_) (λb u e=>?_) I.bare
 ·obtain ⟨_,f1,_,f3,f4,f5⟩:=hf b hb
  exact ⟨f3,f1,f4,f5⟩
 ·obtain ⟨o,es,ep,ho,r⟩:=hm
  exact ⟨o,es,ep,k _ o (λz=>(hf _ z).2.1 rfl) ho,r⟩
 ·have nf:∀b u,H b=some u→b∉fp:=λb u e z=>by rw [(hf b z).1] at e;cases e
  refine (I.hok b u e).kN (λc v hc q=>k c v ?_ q) (λ_ q=>q) λ_ _ q=>q
  rcases hc with z|z
  ·rw [z];exact nf b u e
  ·exact nf c _ z
theorem Inv.vW{t':Nat}{t:Addr}{o:HO}(I:Inv X pins σ H s)(hf:∀b∈fp,fm X pins H b)(k:∀b o,b∉fp→s.heap.get? b=some o→h'.get? b=some o)(ht:s.heap.objs.size≤t)
  (new:bo X.prog X.w (upd H t o) h' t o):Inv X pins σ (upd H t o) {s with heap:=h',toks:=t'}:=by
 have nt:H t=none:=I.hok.fresh ht;have up:∀b u,H b=some u→upd H t o b=some u:=λb u e=>by rw [ah (ar e nt)];exact e
 refine I.step (g':=s.gens) (d':=s.drawn) (ch:=fp) (λb hb=>?_) (λb o _ _ hc e _=>k b o hc e) (λb o _ _ hc e _=>⟨o.slots,k b o hc e⟩) (λb o _ e n=>?_)
  (λb o hc e=>⟨o,k b o hc e⟩) (λb xs e=>up b _ e) (λb _ _ e=>up b _ e) (λb ps e=>⟨#[],by rw [up b _ e];simp⟩) (λm hm=>?_) (λb u e=>?_) I.bare
 ·obtain ⟨_,f1,_,f3,f4,f5⟩:=hf b hb
  exact ⟨f3,f1,f4,f5⟩
 ·rw [ah (bR (dS (Heap.lt_size e) ht))];exact n
 ·obtain ⟨o,es,ep,ho,r⟩:=hm
  exact ⟨o,es,ep,k _ o (λz=>(hf _ z).2.1 rfl) ho,r⟩
 ·by_cases hb:b=t
  ·subst hb
   rw [ak] at e;cases e;exact new
  ·rw [ah hb] at e
   have nf:∀b u,H b=some u→b∉fp:=λb u e z=>by rw [(hf b z).1] at e;cases e
   refine (I.hok b u e).kN (λc v hc q=>k c v ?_ q) (λb' q=>up b' _ q) λb' _ q=>up b' _ q
   rcases hc with z|z
   ·rw [z];exact nf b u e
   ·exact nf c _ z
end
def Ho(K:PySem.W.Frag)(a:Addr):It:=
 ⟨λi H=>∃xs x,bb K H a xs∧xs[i]? =some x,λi H y H'=>∃t x,y= .ref t∧H t=none∧H'=upd H t (.tup [.int i,x])∧∀xs,bb K H a xs→xs[i]? =some x,λi H=>∃xs,bb K H a xs∧xs.length≤i⟩
theorem oB{h:Heap}{t:Addr}{u v:Value}(e:h.get? t=some {cls:= .type "tuple",data:= .seq #[u,v]}):IsTup h t [u,v].toArray:=⟨_,e,rfl,_,rfl⟩
theorem yh{P:Program}{w:World}{K:PySem.W.Frag}{es:List Expr}{k1}{tp:Pos}(a e it:Addr)(ne:e≠it):
  Turn P w K (.Tuple es k1 tp) (Ho K a) [e,it] e (λi h=>(∃old,IsEnum h e it i old)∧h.IsListIter it a i) where
 mem:=by simp
 obj:=λi h st b hb=>by
  obtain ⟨⟨old,he⟩,o,e2,c,d⟩:=st
  rcases eS.mp hb with z|z
  ·subst z
   exact ⟨_,he,λv w=>by cases w⟩
  ·have z':b=it:=by simpa using z
   subst z';exact ⟨o,e2,λv z=>by rw [d] at z;cases z⟩
 keep:=λi h h' st k=>by
  obtain ⟨⟨old,he⟩,iT⟩:=st;exact ⟨⟨old,k e (by simp) _ he⟩,iT.at λo q=>k it (by simp) o q⟩
 item:=by
  intro X hP hw hK hc i pins s σ H E I hf st hg;subst hP hw hK;obtain ⟨xs,x,hq,hx⟩:=hg;obtain ⟨its,rv,p,hz⟩:=I.list hq;obtain ⟨u,hu,ru⟩:=rv.get hx;obtain ⟨⟨old,he⟩,hit⟩:=st;refine wpAny_pyNext_enum_item he hit p.isList (x:=u) (by simpa using hu) ne λh' SU MH xB MS kk=>?_
  have k2:∀b o,b∉ [e,it]→s.heap.get? b=some o→h'.get? b=some o:=λb o hb q=>kk b o (λz=>hb (by simp [z])) (λz=>hb (by simp [z])) q
  have I1:Inv X pins σ (upd H s.heap.objs.size (.tup [.int i,x])) {s with heap:=h',toks:=s.toks+1}:=
   I.vW hf k2 (bL _) ⟨by show 2≤sizeLine;decide,[.int i s.toks,u], .cons ⟨_,rfl⟩ (.cons ru .nil),oB xB⟩
  refine ⟨_,rfl,wpAny_letOwnedTupleGo_enum SU λh2 SV sb=>?_⟩
  have lt:∀b∈ [e,it],b<s.heap.objs.size:=λb hb=>by
   rcases eS.mp hb with z|z
   ·rw [z];exact Heap.lt_size he
   ·obtain ⟨o,e2,_⟩:=hit
    have z':b=it:=by simpa using z
    rw [z'];exact Heap.lt_size e2
  have Cr:∀b∈ [e,it],fm X pins (upd H s.heap.objs.size (.tup [.int i,x])) b:=λb hb=>⟨by rw [ah (bR (lt b hb))];exact (hf b hb).1,(hf b hb).2⟩
  refine ⟨.ref s.heap.objs.size,_,I1.ni (t':=s.toks+1) Cr (λb o hb q=>sb.extBut b o (λz=>hb (by simp [z])) q),rfl,⟨_,x,rfl,I.hok.fresh (bL _),rfl,λys hy=>by rw [I.nQ hy hq];exact hx⟩,⟨⟨u,?_⟩,MH.extBut sb.extBut (Ne.symm ne)⟩,λb hb=>(Cr b hb).1⟩
  have z:((i+1:Nat):Int)=(i:Int)+1:=by omega
  rw [z];exact SV
 done:=by
  intro X hP hw hK hc i pins s σ H E I hf st hg;subst hP hw hK;obtain ⟨xs,hq,hx⟩:=hg;obtain ⟨its,rv,p,hz⟩:=I.list hq;have hl:=rv.length;obtain ⟨⟨old,he⟩,hit⟩:=st;exact wpAny_pyNext_enum_end (I.ok.hd hc) he hit p.isList (by simp;omega) λh' eb=>⟨rfl,I.ni (t':=s.toks) hf λb o hb q=>eb b o (λz=>hb (by simp [z])) q⟩
 self:=λ_ _ _ _ _ st h=>by
  obtain ⟨⟨old,he⟩,_⟩:=st;exact wpAny_pyIter_enum he h
section
variable {X:Cx}
def Jp(K:PySem.W.Frag)(ta:TA):TI:=λσ H R=>ta σ H λvs H1=>∃a,vs= [.ref a]∧(∃xs,H1 a=some (.lst xs))∧R (Ho K a) H1
theorem Dl{a:Expr}{ta:TA}{p pos:Pos}{es:List Expr}{k1}{tp:Pos}(hg:Gl X "enumerate")(hm:X.mg "enumerate"=none)(ha:PA X [a] ta)(hs:starEach [a] X.env= [(false,eval a X.env)]:=by rfl):
  PI X (.Tuple es k1 tp) (.Call (.Name "enumerate" p) [a] [] pos) (Jp X.K ta):=by
 intro pins s σ H R I h;refine Call_ (gT I hg hm boot_enumerate (PyProof.Rows.callWith_type1 (thn (ha pos pins s σ H _ I h) λus s1 ⟨vs,H1,I1,r1,q1⟩=>?_) hs rfl));obtain ⟨l,e,⟨xs,hl⟩,q⟩:=q1;subst e;obtain ⟨u,rfl,ru⟩:=r1.one;cases ru;obtain ⟨z,its,n,rv,hlen,e⟩:=I1.mD hl;refine call_enumerate_1 e λh' he hit rq kk=>?_;refine wpAny_pyIter_enum he ?_;have mm:s1.heap.objs.size+1≠s1.heap.objs.size:=Nat.succ_ne_self _;refine ⟨s1.heap.objs.size+1,[s1.heap.objs.size+1,s1.heap.objs.size],_,_,H1,rfl,I1.kept (t':=s1.toks) kk,yh l _ _ mm,⟨⟨_,he⟩,hit⟩,λb hb=>?_,q⟩
 have oP:s1.heap.objs.size≤b:=by
  rcases eS.mp hb with z|z
  ·rw [z];exact Nat.le_succ _
  ·have z':b=s1.heap.objs.size:=by simpa using z
   rw [z'];exact bL _
 exact I1.vc oP (I1.hok.fresh oP)
end
structure ZN (z TI TO i1 i2:Addr):Prop where
 TIz:TI≠z
 TOz:TO≠z
 i1z:i1≠z
 i2z:i2≠z
 TITO:TI≠TO
 TIi1:TI≠i1
 TIi2:TI≠i2
 TOi1:TO≠i1
 TOi2:TO≠i2
 i12:i1≠i2
section
variable {X:Cx}
end
end L2
namespace Wb
abbrev W:=List (List Nat)
def row(w:W)(p:Nat):List Nat:=w.getD p []
inductive Reach (w:W):Nat→Nat→Prop
 |refl (p):Reach w p p
 |step {p q r}:Reach w p q→r∈row w q→Reach w p r
structure Good (w:W):Prop where
 rng:∀p q,q∈row w p→q<w.length
 irr:∀p,p∉row w p
 nod:∀p,(row w p).Nodup
 sym:∀p q,q∈row w p→p∈row w q
 con:∀p,p<w.length→Reach w 0 p
theorem yW{w:W}{p q:Nat}(h:q∈row w p):p<w.length:=by
 apply Classical.byContradiction;intro hn;unfold row at h;rw [dW,dR (by omega)] at h
 simp at h
theorem qw{w:W}{p:Nat}(h:p<w.length):w[p]? =some (row w p):=by
 unfold row;rw [dW,cS h];rfl
theorem FJ{w:W}{p:Nat}{r:List Nat}(h:w[p]? =some r):row w p=r:=by
 unfold row;rw [dW,h];rfl
theorem Reach.mono{w w':W}(hm:∀p q,q∈row w p→q∈row w' p){p q:Nat}(h:Reach w p q):Reach w' p q:=by
 induction h with
 |refl=>exact .refl _
 |step _ hr ih=>exact .step ih (hm _ _ hr)
def ins{α:Type}(xs:List α)(i:Nat)(x:α):List α:=xs.take i++x::xs.drop i
theorem nJ{α:Type}(xs:List α)(i:Nat)(x:α):(ins xs i x).Perm (x::xs):=by
 unfold ins;have h:= @List.perm_middle _ x (xs.take i) (xs.drop i);rw [List.take_append_drop] at h;exact h
theorem bH{α:Type}{xs:List α}{i:Nat}{x a:α}:a∈ins xs i x↔a=x∨a∈xs:=by
 rw [(nJ xs i x).mem_iff,eS]
theorem lD{α:Type}{xs:List α}{i:Nat}{x:α}(h:xs.Nodup)(hx:x∉xs):(ins xs i x).Nodup:=by
 rw [(nJ xs i x).nodup_iff,nz];exact ⟨hx,h⟩
theorem mr{α:Type}(xs:List α)(i:Nat)(x:α):(ins xs i x).length=xs.length+1:=by
 rw [(nJ xs i x).length_eq];rfl
theorem mU{w:W}{p x:Nat}{r:List Nat}(h:p<w.length):row (w.set p r) x=if p=x then r else row w x:=by
 unfold row;rw [dW,gD]
 by_cases e:p=x
 ·rw [if_pos e,if_pos e,if_pos h];rfl
 ·rw [if_neg e,if_neg e,dW]
theorem AV{w:W}{r:List Nat}{x:Nat}:row (w++ [r]) x=if x=w.length then r else row w x:=by
 unfold row;rw [dW,List.getElem?_append]
 split
 ·rw [if_neg (by omega),dW]
 ·split
  ·rename_i h e;subst e;simp
  ·rename_i h e
   rw [dW,dR (by simp;omega),dR (by omega)]
theorem zS:Good [[]]:=by
 have hr:∀p,row [[]] p= []:=λp=>by
  unfold row;cases p with
  |zero=>rfl
  |succ n=>simp
 refine ⟨λp q h=>?_,λp h=>?_,λp=>?_,λp q h=>?_,λp h=>?_⟩
 ·rw [hr] at h;cases h
 ·rw [hr] at h;cases h
 ·rw [hr];exact oM
 ·rw [hr] at h;cases h
 ·have:p=0:=by simp at h;exact h
  subst this;exact .refl _
def leaf(w:W)(p i:Nat):W:=(w.set p (ins (row w p) i w.length))++ [[p]]
theorem cZ(w:W)(p i:Nat):(leaf w p i).length=w.length+1:=by unfold leaf;simp
theorem iO{w:W}{p i x:Nat}(h:p<w.length):row (leaf w p i) x=if x=w.length then [p] else if p=x then ins (row w p) i w.length else row w x:=by
 unfold leaf;rw [AV,dm,mU h]
theorem xg{w:W}{p i:Nat}(g:Good w)(h:p<w.length):Good (leaf w p i):=by
 have hr:=λx=>iO (i:=i) (x:=x) h;have nl:∀x,w.length∉row w x:=λx hx=>gE _ (g.rng _ _ hx)
 have mono:∀x q,q∈row w x→q∈row (leaf w p i) x:=λx q hq=>by
  have:=yW hq
  rw [hr,if_neg (by omega)]
  split
  ·rename_i e;subst e;exact bH.mpr (.inr hq)
  ·exact hq
 refine ⟨λx q hx=>?_,λx hx=>?_,λx=>?_,λx q hx=>?_,λx hx=>?_⟩
 ·rw [hr] at hx;rw [cZ]
  split at hx
  ·simp at hx;omega
  ·split at hx
   ·rcases bH.mp hx with e|e
    ·omega
    ·have:=g.rng _ _ e;omega
   ·have:=g.rng _ _ hx;omega
 ·rw [hr] at hx
  split at hx
  ·simp at hx;omega
  ·split at hx
   ·rcases bH.mp hx with e|e
    ·omega
    ·rename_i e2;subst e2;exact g.irr _ e
   ·exact g.irr _ hx
 ·rw [hr];split
  ·simp
  ·split
   ·exact lD (g.nod _) (nl _)
   ·exact g.nod _
 ·rw [hr] at hx
  split at hx
  ·have e:q=p:=by simpa using hx
   subst e
   rename_i e
   rw [hr,if_neg (by omega),if_pos rfl,e]
   exact bH.mpr (.inl rfl)
  ·split at hx
   ·rename_i e;subst e
    rcases bH.mp hx with e|e
    ·rw [hr,if_pos e];simp
    ·exact mono _ _ (g.sym _ _ e)
   ·exact mono _ _ (g.sym _ _ hx)
 ·rw [cZ] at hx
  by_cases e:x=w.length
  ·refine Reach.step ((g.con p h).mono mono) ?_
   rw [hr,if_neg (by omega),if_pos rfl,e]
   exact bH.mpr (.inl rfl)
  ·exact (g.con x (by omega)).mono mono
def nh(w:W)(p i u j:Nat):W:=(w.set p (ins (row w p) i u)).set u (ins (row w u) j p)
theorem cR(w:W)(p i u j:Nat):(nh w p i u j).length=w.length:=by unfold nh;simp
theorem j3{w:W}{p i u j x:Nat}(hp:p<w.length)(hu:u<w.length):row (nh w p i u j) x=if u=x then ins (row w u) j p else if p=x then ins (row w p) i u else row w x:=by
 unfold nh;rw [mU (by simpa using hu),mU hp]
theorem zT{w:W}{p i u j:Nat}(g:Good w)(hp:p<w.length)(hu:u<w.length)(ne:u≠p)(nt:u∉row w p):Good (nh w p i u j):=by
 have hr:=λx=>j3 (i:=i) (j:=j) (x:=x) hp hu;have VU:p∉row w u:=λh=>nt (g.sym _ _ h)
 have mono:∀x q,q∈row w x→q∈row (nh w p i u j) x:=λx q hq=>by
  rw [hr]
  split
  ·rename_i e;subst e;exact bH.mpr (.inr hq)
  ·split
   ·rename_i e;subst e;exact bH.mpr (.inr hq)
   ·exact hq
 refine ⟨λx q hx=>?_,λx hx=>?_,λx=>?_,λx q hx=>?_,λx hx=>?_⟩
 ·rw [hr] at hx;rw [cR]
  split at hx
  ·rcases bH.mp hx with e|e
   ·omega
   ·exact g.rng _ _ e
  ·split at hx
   ·rcases bH.mp hx with e|e
    ·omega
    ·exact g.rng _ _ e
   ·exact g.rng _ _ hx
 ·rw [hr] at hx
  split at hx
  ·rename_i e2;subst e2
   rcases bH.mp hx with e|e
   ·exact ne e
   ·exact g.irr _ e
  ·split at hx
   ·rename_i e2;subst e2
    rcases bH.mp hx with e|e
    ·exact ne e.symm
    ·exact g.irr _ e
   ·exact g.irr _ hx
 ·rw [hr];split
  ·exact lD (g.nod _) VU
  ·split
   ·exact lD (g.nod _) nt
   ·exact g.nod _
 ·rw [hr] at hx
  split at hx
  ·rename_i e2;subst e2
   rcases bH.mp hx with e|e
   ·subst e;rw [hr,if_neg ne,if_pos rfl];exact bH.mpr (.inl rfl)
   ·exact mono _ _ (g.sym _ _ e)
  ·split at hx
   ·rename_i e2;subst e2
    rcases bH.mp hx with e|e
    ·subst e;rw [hr,if_pos rfl];exact bH.mpr (.inl rfl)
    ·exact mono _ _ (g.sym _ _ e)
   ·exact mono _ _ (g.sym _ _ hx)
 ·rw [cR] at hx;exact (g.con x hx).mono mono
theorem gU{α:Type} [DecidableEq α]:∀{l m:List α},l.Nodup→(∀x∈l,x∈m)→l.length≤m.length
 | [],_,_,_=>iW _
 |a::r,m,nd,h=>by
  have NN:=nz.mp nd;have am:=h a di;have ih:=gU (l:=r) (m:=m.erase a) NN.2 λx hx=>(List.mem_erase_of_ne (λ(e:x=a)=>NN.1 (by rw [←e];exact hx))).mpr (h x (gK _ hx))
  rw [List.length_erase_of_mem am] at ih
  have:=List.length_pos_of_mem am
  simp only [cJ];omega
theorem qy{w:W}(g:Good w)(p:Nat):(row w p).length≤w.length:=by
 have:=gU (m:=List.range w.length) (g.nod p) λx hx=>tj.mpr (g.rng _ _ hx)
 simpa using this
theorem uT{w:W}(g:Good w){S:Nat→Prop}(h0:S 0)(hc:∀p q,S p→q∈row w p→S q):∀p,p<w.length→S p:=λp hp=>by
 have:∀{a b},Reach w a b→S a→S b:=λ {a b} h ha=>by
  induction h with
  |refl=>exact ha
  |step _ hr ih=>exact hc _ _ ih hr
 exact this (g.con p hp) h0
end Wb
namespace L2
open PySem PySem.Spec PyProof.Rows
section
variable {X:Cx}
theorem Vals.ins{x:V}{u:Value}(r:RelV x u){xs:List V}{us:List Value}(i:Nat)(h:Vals xs us):Vals (Wb.ins xs i x) (Wb.ins us i u):=(h.take i).append (.cons r (h.drop i))
def Dx:V→List V→Hp→VK→Prop:=λx vs H Q=>∃l xs i y,x= .ref l∧vs= [.int i,y]∧H l=some (.lst xs)∧0≤i∧i≤xs.length∧xs.length<sizeLine∧Q .aN (upd H l (.lst (Wb.ins xs i.toNat y)))
theorem qd:Bd X "list.insert" Dx:=by
 intro pins s σ H x vs v us Q I rx rv h;obtain ⟨l,xs,i,y,rfl,rfl,hH,h0,h1,hz,q⟩:=h;cases rx;obtain ⟨u1,u2,rfl,⟨t,rfl⟩,ru⟩:=rv.two;obtain ⟨z,its,n,r,hl,e⟩:=I.mD hH;have eU:=kj
 have Cs:¬(!Builtin.List.listFitsIndex i)=true:=by
  rw [fitsIndex_both (by omega) (by omega)]
  exact fF
 refine call_meets F.slot_list_insert ⟨_,e,rfl⟩ F.entry_list_insert (F.args_list_insert_3 _ _ _) (AutoSeq1.list_insert_list_int_val_1 l its.toArray n i t u2 Cs (by rw [cp];omega)) ⟨e,?_⟩
 refine ⟨.aN,_,I.vx (its':=Wb.ins its i.toNat u2) hH e ?_ (r.ins ru i.toNat) ?_,rfl,q⟩
 ·have hi:¬i<0:=by omega
  have hm:min i.toNat its.length=i.toNat:=by omega
  simp only [hi,if_false,cp,hm];apply Array.toList_inj.mp;unfold Wb.ins;simp;exact List.take_of_length_le (by rw [List.length_drop];omega)
 ·rw [Wb.mr];omega
end
mutual
inductive Dp (K:PySem.W.Frag) (H:Hp):V→PyData→Prop
 |aN:Dp K H .aN .none
 |bl (b:Bool):Dp K H (.bl b) (.bool b)
 |int (i:Int):Dp K H (.int i) (.int i)
 |str (x:Str) (h:PyData.strOk x=true):Dp K H (.str x) (.str x)
 |lst {a:Addr} {xs:List V} {ds:List PyData}:bb K H a xs→cL K H xs ds→Dp K H (.ref a) (.list ds)
 |tup {a:Addr} {xs:List V} {ds:List PyData}:cj K H a xs→cL K H xs ds→Dp K H (.ref a) (.tuple ds)
inductive cL (K:PySem.W.Frag) (H:Hp):List V→List PyData→Prop
 |nil:cL K H [] []
 |cons {v:V} {vs:List V} {d:PyData} {ds:List PyData}:Dp K H v d→cL K H vs ds→cL K H (v::vs) (d::ds)
end
section
variable {X:Cx} {pins:List (Addr×Obj)} {σ:St} {H:Hp} {s:Shared}
mutual
theorem Dp.reads(I:Inv X pins σ H s):∀{v:V}{d:PyData}{u:Value},Dp X.K H v d→RelV v u→(∃as,Reads s.heap u d as)∧d.canLay0=true
 |_,_,_, .aN,r=>by cases r;exact ⟨⟨_, .none⟩,rfl⟩
 |_,_,_, .bl b,r=>by cases r;exact ⟨⟨_, .bool b⟩,rfl⟩
 |_,_,_, .int i,r=>by obtain ⟨t,rfl⟩:=r;exact ⟨⟨_, .int i t⟩,rfl⟩
 |_,_,_, .str x h,r=>by obtain ⟨t,rfl⟩:=r;exact ⟨⟨_, .str x t⟩,by simpa [PyData.canLay0] using h⟩
 |_,_,_, .lst h a,r=>by
  cases r;obtain ⟨its,rv,pl,hz⟩:=I.list h;obtain ⟨⟨as,ra⟩,c⟩:=cL.reads I a rv;obtain ⟨o,ho,hc,n,hd⟩:=pl.isList;exact ⟨⟨_, .list ho hc hd (by simpa using ra)⟩,by simpa [PyData.canLay0] using c⟩
 |_,_,_, .tup h a,r=>by
  cases r;obtain ⟨its,rv,pl,hz⟩:=I.tuple h;obtain ⟨⟨as,ra⟩,c⟩:=cL.reads I a rv;obtain ⟨o,ho,hc,n,hd⟩:=pl;exact ⟨⟨_, .tuple ho hc hd (by simpa using ra)⟩,by simpa [PyData.canLay0] using c⟩
theorem cL.reads(I:Inv X pins σ H s):∀{vs:List V}{ds:List PyData}{us:List Value},cL X.K H vs ds→Vals vs us→(∃as,ReadsAll s.heap us ds as)∧PyData.canLayAll0 ds=true
 |_,_,_, .nil, .nil=>⟨⟨_, .nil⟩,by simp [PyData.canLayAll0]⟩
 |_,_,_, .cons a as, .cons r rs=>by
  obtain ⟨⟨x,h1⟩,c1⟩:=Dp.reads I a r;obtain ⟨⟨y,h2⟩,c2⟩:=cL.reads I as rs;exact ⟨⟨_, .cons h1 h2⟩,by simp [PyData.canLayAll0,c1,c2]⟩
end
end
section
variable {X:Cx}
def Pd(K:PySem.W.Frag):R2:=λx y H Q=>∃d e,Dp K H x d∧Dp K H y e∧d.depth≤64∧Q (.bl (PyData.eqv d e)) H
def Pg(K:PySem.W.Frag):R2:=λx y H Q=>∃d e,Dp K H x d∧Dp K H y e∧d.depth≤64∧Q (.bl (!PyData.eqv d e)) H
theorem Fh(hu:X.A.units+64<cLine):OpR X (compareOp .Eq) (Pd X.K):=by
 intro pins s σ H x y v u Q I rx ry h;obtain ⟨d,e,hd,he,hz,q⟩:=h;obtain ⟨⟨as,r1⟩,c1⟩:=hd.reads I rx;obtain ⟨⟨bs,r2⟩,c2⟩:=he.reads I ry;exact SeqAt.compareEq_reads r1 r2 c1 c2 (by have:=Nat.min_le_left d.depth e.depth;omega) ⟨.bl _,H,I,rfl,q⟩
theorem Fm(hu:X.A.units+64<cLine):OpR X (compareOp .NotEq) (Pg X.K):=by
 intro pins s σ H x y v u Q I rx ry h;obtain ⟨d,e,hd,he,hz,q⟩:=h;obtain ⟨⟨as,r1⟩,c1⟩:=hd.reads I rx;obtain ⟨⟨bs,r2⟩,c2⟩:=he.reads I ry;exact SeqAt.compareNe_reads r1 r2 c1 c2 (by have:=Nat.min_le_left d.depth e.depth;omega) ⟨.bl _,H,I,rfl,q⟩
end
theorem kC{α:Type}{f:α→PyData}{k:Nat}(hf:∀a,(f a).depth≤k):∀xs:List α,PyData.depthAll (xs.map f)≤k
 | []=>by simp [PyData.depthAll]
 |a::xs=>by
  have:=hf a
  have ih:=kC hf xs;simp [PyData.depthAll];omega
end L2
namespace L2
open PySem PySem.Spec PyProof.Rows
theorem Vals.of_get:∀{xs:List V}{us:List Value},xs.length=us.length→(∀(k:Nat) x u,xs[k]? =some x→us[k]? =some u→RelV x u)→Vals xs us
 | [],[],_,_=> .nil
 | [],_::_,h,_=>by simp at h
 |_::_,[],h,_=>by simp at h
 |x::xs,u::us,h,r=> .cons (r 0 x u rfl rfl) (Vals.of_get (by simpa using h) λk y w h1 h2=>r (k+1) y w (by simpa using h1) (by simpa using h2))
section
variable {X:Cx}
theorem iZ:bP X (.builtin "isinstance") (λxs H Q=>∃(x:V)(n:String)(t:Value)(b:Bool),xs= [x, .ty n]∧eN X.K H x t∧PySem.W.kitOne X.K t (.type n)=some b∧Q (.bl b) H):=by
 intro pins s σ H xs us Q I rv h;obtain ⟨x,n,t,b,rfl,ty,e,q⟩:=h;obtain ⟨u1,u2,rfl,r1,r2⟩:=rv.two;cases r2;exact xE I r1 ty e λtk=>⟨.bl b,H,I.tok _,rfl,q⟩
def jn(i:Int)(n:Nat):List V:=(List.range n).map λ(k:Nat)=>V.int (i+(k:Int))
theorem pK(hc:X.calm=true):bP X (.type "list") (λxs H Q=>∃(p:Addr)(i j:Int),xs= [.ref p]∧H p=some (.rng i j)∧-(2^62)≤i∧i<2^62∧-(2^62)≤j∧j<2^62∧(j-i).toNat≤1000∧
  ∀q,H q=none→Q (.ref q) (upd H q (.lst (jn i (j-i).toNat)))):=by
 intro pins s σ H xs us Q I rv h;obtain ⟨p,i,j,rfl,hp,h1,h2,h3,h4,hz,q⟩:=h;obtain ⟨u,rfl,ru⟩:=rv.one;cases ru;obtain ⟨t,u,v,e⟩:=(show bo X.prog X.w H s.heap p (.rng i j) from I.hok p _ hp);refine call_list_range (n:=(j-i).toNat) (I.ok.hd hc) e (small_one h1 h2 h3 h4) ?_ (by omega) λh' tk acc c kk hS GW=>?_
 ·rw [rangeSize_one];split<;>omega
 ·have dk:1000≤sizeLine:=by decide
  refine ⟨.ref s.heap.objs.size,_,I.laid kk (bL _) (o:= .lst (jn i (j-i).toNat)) ⟨by unfold jn;simp;omega,acc.toList,c,?_,by simpa using hS⟩,rfl,q _ (I.hok.fresh (bL _))⟩
  refine Vals.of_get (by unfold jn;simp [GW.1]) λk x w hx hw=>?_
  unfold jn at hx;rw [dX] at hx;obtain ⟨t',xB⟩:=GW.2 k w (by rw [←Array.getElem?_toList];exact hw)
  have hk:(List.range (j-i).toNat)[k]? =some k:=by
   cases q:(List.range (j-i).toNat)[k]? with
   |none=>rw [q] at hx;cases hx
   |some z=>
    obtain ⟨a,b⟩:=gF.mp q;rw [List.getElem_range] at b;rw [b]
  rw [hk] at hx;cases hx;exact ⟨t',by rw [xB,Int.mul_one]⟩
end
end L2
set_option maxHeartbeats 4000000
namespace L2
open PySem PySem.Spec PySem.Calls PyProof.Rows PySem.W Builtin Builtin.ObjectAttr
def kn:List Value→Bool
 | [.type a, .type b, .type c, .type d]=>a=="ValueError"&&b=="Exception"&&c=="BaseException"&&d=="object"
 | .ref _::r=>kn r
 |_=>false
def ug(K:Frag)(C:Addr):Bool:=(clsIn K C).any λcd=>kn cd.mro
structure rH (K:Frag) (C:Addr):Prop where
 hd:hasDictIn K C=true
 ga:findIn K (.ref C) "__getattribute__"=some (some (.builtin "BaseException.__getattribute__"))
 gh:findIn K (.ref C) "__getattr__"=some none
 sa:findIn K (.ref C) "__setattr__"=some (some (.builtin "object.__setattr__"))
 ov:ug K C=true
 cl:findIn K (.ref C) "__class__"=some (some (.builtin "object.__class__"))
 be:mroIn K C (.type "BaseException")=some true
 ob:mroIn K C (.type "object")=some true
section
variable {prog:Program} {w:World} {A:Around} {E:Value→Shared→Prop} {s:Shared} {K:Frag} {x C:Addr} {ox:Obj} {od:Option Obj} {name:Str}
end
theorem qv(self:Value):∀{l:List Value},kn l=true→refuseLoop self "__setattr__" l=pure ()
 | .ref c::r,e=>by rw [refuseLoop_ref];exact qv self (l:=r) (by cases r<;>first|exact e|cases e)
 | [.type a, .type b, .type c, .type d],e=>by
  simp only [kn,jA,beq_iff_eq] at e;obtain ⟨⟨⟨rfl,rfl⟩,rfl⟩,rfl⟩:=e;exact F.store_ValueError.passes self
abbrev bG(C t:Addr)(d:Option Addr):Obj:={cls:= .ref C,dict:=d,data:= .fields #[.ref t, .none, .none, .none, .bool false, .none]}
section
variable {prog:Program} {w:World} {A:Around} {E:Value→Shared→Prop} {s:Shared} {K:Frag} {x C:Addr} {ox:Obj} {od:Option Obj} {name:Str} {R:Result→Shared→Prop}
theorem qL{tk:Tok}{v:Value}(X:K.In s.heap)(I:InstAt s.heap x ox C od)(c:rH K C)(ht:takerIn K C name=some none)
  (h:∀b,wpAny (model prog w) A.in1 (storeInOwnDict (.ref x) (.ref C) (.str name tk) name v b)
   (λfin s'=>match fin with| .done f=>R (.ok f) s'| .again c'=>c'.quiet=true∧codeAny (model prog w) A c' R s') (λe s'=>R (.error e) s') s):
  codeAny (model prog w) A (.call (.builtin "object.__setattr__") ⟨[.ref x, .str name tk,v],[]⟩) R s:=by
 have SF:=PySem.F.store_object;obtain ⟨cd,hc,ho⟩:=any_some c.ov;have sub:Looks (model prog w) s.heap (isInstance (.ref x) (.type "object")) true:=I.type.andThen (looks_mroIn X c.ob);refine codeAny_call_builtin SF.slot.plain SF.entry (@check_slot (model prog w) _ _ s "object.__setattr__" "object" "__setattr__" (.ref x) [.str name tk,v] [] _ SF.kind SF.split sub (SF.args (.ref x) (.str name tk) v) ?_);obtain ⟨attr,ha,hr⟩:=Option.bind_eq_some_iff.mp ht;have hm:Looks (model prog w) s.heap (mroOf (.ref C)) cd.mro:=(looks_clsIn X hc).andThen .now
 have L3:Looks (model prog w) s.heap (storeTaker? attr) none:=by
  cases attr with
  |none=>exact .now
  |some a=>
   obtain ⟨b,hb,q⟩:=Option.map_eq_some_iff.mp hr;refine (looks_takesIn X hb).andThen ?_;cases b with
   |true=>cases q
   |false=>exact .now
 rw [osa_eq,refuse_eq];refine wpAny_bind (wpAny_bind (I.type.here (wpAny_bind (hm.here ?_))));rw [qv _ ho];refine wpAny_pure (wpAny_bind (I.type.here (wpAny_bind ((looks_findIn X ha).here (wpAny_bind (L3.here ?_))))));exact h _
theorem J6{t dx:Addr}{mA:Str→Option Value}{ns:List Str}{v:Value}{Q:Unit→Shared→Prop}(X:K.In s.heap)(c:rH K C)(hx:s.heap.get? x=some (bG C t (some dx)))(hn:s.heap.Ns1 dx mA)(ne:dx≠x)(ht:takerIn K C name=some none)
  (hw:PySem.Within mA ns) (rq:ns.length≤sizeLine)
  (h:∀h',h'.Ns1 dx (λy=>if y=name then some v else mA y)→Heap.SameBut dx s.heap h'→Q () {s with heap:=h',toks:=s.toks+2}):
  wpAny (model prog w) A (setAttr (.ref x) name v) Q E s:=by
 obtain ⟨od,ho,_⟩:=qa hn;have J:InstAt s.heap x (bG C t (some dx)) C (some od):=⟨hx,rfl,rfl,ho⟩;refine set_plain X J c.sa (qL (s:={s with toks:=s.toks+1}) X J c ht λb=>?_)
 obtain ⟨cd,hc,gJ⟩:=any_some c.hd;refine wpAny_bind (wpAny_pure (wpAny_bind (wpAny_bind (wpAny_loadPart hx (wpAny_bind (Looks.here (s:={s with toks:=s.toks+1}) (looks_clsIn X hc) ?_))))))
 rw [gJ];refine wpAny_pure (a:=some dx) (wpAny_bind (wpAny_pure (wpAny_bind ?_)));refine wpAny_nsSet1 (s:={s with toks:=s.toks+1}) hn λh' xu fL=>?_
 obtain ⟨oD,Mh,Mg,CF,Ck,Cg⟩:=xu.count (PySem.Within.cons name v hw);refine wpAny_bind (wpAny_lookBehind CF (by rw [Ck];exact pastItsLine_dict (fz Cg (by rw [cJ];omega))) ?_)
 exact wpAny_pure (h _ xu fL)
theorem J5{t:Addr}{v:Value}{Q:Unit→Shared→Prop}(X:K.In s.heap)(c:rH K C)(hx:s.heap.get? x=some (bG C t none))(ht:takerIn K C name=some none)
  (h:∀h',h'.Ns1 s.heap.objs.size (λy=>if y=name then some v else none)→h'.get? x=some (bG C t (some s.heap.objs.size))→(∀b o,b≠x→s.heap.get? b=some o→h'.get? b=some o)→Q () {s with heap:=h',toks:=s.toks+2}):
  wpAny (model prog w) A (setAttr (.ref x) name v) Q E s:=by
 have J:InstAt s.heap x (bG C t none) C none:=⟨hx,rfl,rfl,trivial⟩;refine set_plain X J c.sa (qL (s:={s with toks:=s.toks+1}) X J c ht λb=>?_)
 obtain ⟨cd,hc,gJ⟩:=any_some c.hd;obtain ⟨hp,g,d,tk,os⟩:=s;dsimp only at*;have CJ:(hp.push {cls:= .type "dict",data:= .dict #[]}).get? x=some (bG C t none):=Heap.get?_push_of_some _ hx;have MX:x≠hp.objs.size:=bR (Heap.lt_size hx);refine wpAny_bind (wpAny_pure (wpAny_bind (wpAny_bind (wpAny_loadPart hx (wpAny_bind (Looks.here (s:=⟨hp,g,d,tk+1,os⟩) (looks_clsIn X hc) ?_))))));rw [gJ];refine wpAny_bind (wpAny_alloc' ?_);refine wpAny_bind (wpAny_update' CJ ?_);refine wpAny_pure ?_
 have S6:((hp.push {cls:= .type "dict",data:= .dict #[]}).update x λo=>{cls:=o.cls,dict:=some hp.objs.size,data:=o.data,slots:=o.slots}).get? hp.objs.size=some {cls:= .type "dict",data:= .dict #[]}:=
  (Heap.get?_update_ne _ _ _ _ MX.symm).trans (Heap.get?_push_at rfl rfl)
 have rj:((hp.push {cls:= .type "dict",data:= .dict #[]}).update x λo=>{cls:=o.cls,dict:=some hp.objs.size,data:=o.data,slots:=o.slots}).Ns hp.objs.size (λ_=>none):=
  ⟨_, #[],_,S6,rfl,λe he=>absurd he (by simp),λ_=>rfl⟩
 show wpAny _ _ (storeInDict hp.objs.size (.str name tk) name v) _ _ _;unfold storeInDict newKeyGuard;refine wpAny_bind (wpAny_pure (wpAny_bind (wpAny_nsSet1 (Heap.Ns1.of_empty rj) λh' xr hs=>?_)));obtain ⟨oD,Mh,Mg,CF,Ck,Cg⟩:=xr.count (Within.cons name v Within.nil);refine wpAny_bind (wpAny_lookBehind CF (by rw [Ck];exact pastItsLine_dict (fz Cg (by rw [cJ,ke,sizeLine_eq];omega))) ?_)
 refine wpAny_pure (h h' xr ?_ λb ob SO hb=>?_)
 ·exact (hs.2 x MX).trans (Heap.get?_update_self _ CJ rfl)
 ·exact (hs.2 b (bR (Heap.lt_size hb))).trans ((Heap.get?_update_ne _ _ _ _ SO).trans (Heap.get?_push_of_some _ hb))
end
section
variable {M:Model} {A:Around} {E:Value→Shared→Prop} {h:Heap} {g:Array GenState} {d:Drawn} {t:Nat} {os:OsState}
variable {nm q:Str} {C N:Addr} {bs bm zp:List Value} {eQ:Bool} {sn:List Str} {sub:List Value} {ab:Bool} {col:Option Bool} {dd:Option Addr} {k0 k1 k2 k3 k5:Option Value} {B newId gR:String}
theorem tI(F:ExcBaseFacts B newId gR zp)(IK:(Value.ref C::bm).contains (.type B)=true){rest:List Value}{Q:Unit→Shared→Prop}(hC:h.get? C=some (excClassObj nm q C N bs bm eQ sn sub ab col dd k0 k1 k2 k3 k5 newId))
  (hq:Q () ⟨h,g,d,t,os⟩):wpAny M A (checkBuiltinCall newId ⟨.ref C::rest,[]⟩) Q E ⟨h,g,d,t,os⟩:=by
 have Tj:=F.noStar;simp only [checkBuiltinCall,F.newKind,F.newSplit,F.newRow]
 repeat (first|refine wpAny_loadPart_at hC ?_| (refine wpAny_isSubtype_exc hC ?_;rw [IK]) |refine wpAny_staticBase_exc hC ?_|refine wpAny_madeBy_exc hC ?_|simp only [bne_self_eq_false,wg,if_false]|wp_step)
 exact hq
theorem qZ(F:ExcBaseFacts B newId gR zp)(rg:(Value.ref C::bm).contains (.type B)=true){e:Addr}{oe:Obj}{rest:List Value}{Q:Unit→Shared→Prop}
  (hC:h.get? C=some (excClassObj nm q C N bs bm eQ sn sub ab col dd k0 k1 k2 k3 k5 newId)) (he:h.get? e=some oe) (Cj:oe.cls= .ref C) (hq:Q () ⟨h,g,d,t,os⟩):
  wpAny M A (checkBuiltinCall gR ⟨.ref e::rest,[]⟩) Q E ⟨h,g,d,t,os⟩:=by
 have Qv:=F.noStar;simp only [checkBuiltinCall,F.initKind,F.initSplit,F.initRow]
 repeat (first| (with_reducible refine wpAny_loadPart_at he ?_;rw [Cj]) |with_reducible refine wpAny_loadPart_at hC ?_| (with_reducible refine wpAny_isSubtype_exc hC ?_;rw [rg]) |wp_step)
 refine wpAny_onRaise ?_
 rw [show ∀(a b:String)(n:Nat),Bind.check ⟨.positional,"*",B, .self,[⟨"args", .varPos,false⟩]⟩ a b n (List.map (λx=>x.fst) ({pos:=Value.ref e::rest}:Args).kw)=pure () from
  λa b n=>check_star_args _ _ _ _ _ _]
 exact wpAny_pure hq
end
section
variable {prog:Program} {w:World} {A:Around} {R:Result→Shared→Prop} {h:Heap} {g:Array GenState} {d:Drawn} {t:Nat} {os:OsState}
variable {nm q:Str} {C N:Addr} {bs bm zp:List Value} {eQ:Bool} {sn:List Str} {sub:List Value} {ab:Bool} {col:Option Bool} {dd:Option Addr} {k0 k1 k2 k3 k5:Option Value} {B newId gR:String}
theorem wZ(F:ExcBaseFacts B newId gR zp)(rg:(Value.ref C::bm).contains (.type B)=true)(II:(Value.ref C::bm).contains (.type "AttributeError")=false)(IJ:(Value.ref C::bm).contains (.type "NameError")=false)
  {rest:List Value} (hC:h.get? C=some (excClassObj nm q C N bs bm eQ sn sub ab col dd k0 k1 k2 k3 k5 newId))
  (hq:R (.ok (.ret (.ref (h.objs.size+1)))) ⟨(h.push {cls:= .type "tuple",data:= .seq rest.toArray}).push (bG C h.objs.size none),g,d,t,os⟩) (pU:rest.length≤sizeLine):
  codeAny (model prog w) A (.builtin newId ⟨.ref C::rest,[]⟩) R ⟨h,g,d,t,os⟩:=by
 have SX:=F.ends;refine codeAny_builtinAt F.entry ?_;unfold Builtin.«BaseException.__new__»;refine PySem.wpAt_bind ?_;show PySem.wpAt _ _ _ (stack>>=_) _ _ _;refine PySem.wpAt_bind (PySem.wpAt_stack λp below=>PySem.wpAt_of_wpAny ?_)
 wp_walk
 refine PySem.wpAt_of_wpAny ?_;rw [F.owner]
 repeat (first|with_reducible refine wpAny_madeHere_exc F.canon hC ?_|with_reducible refine wpAny_loadPart_at hC ?_| (with_reducible refine wpAny_isSubtype_exc hC ?_;first|rw [rg]|rw [II]|rw [IJ]) |wp_step)
 show R _ _;rw [Heap.size_push];exact hq
theorem u9(F:ExcBaseFacts B newId gR zp)(rg:(Value.ref C::bm).contains (.type B)=true){e t0:Addr}{od:Option Addr}{rest:List Value}(hC:h.get? C=some (excClassObj nm q C N bs bm eQ sn sub ab col dd k0 k1 k2 k3 k5 newId))(he:h.get? e=some (bG C t0 od))
  (hq:∀h' t',h'.get? e=some (bG C t' od)→(∀b o,b≠e→h.get? b=some o→h'.get? b=some o)→R (.ok (.ret .none)) ⟨h',g,d,t,os⟩) (pU:rest.length≤sizeLine):
  codeAny (model prog w) A (.call (.builtin gR) ⟨.ref e::rest,[]⟩) R ⟨h,g,d,t,os⟩:=by
 refine codeAny_call_builtin F.init.plain F.initEntry (qZ F rg hC he rfl ?_)
 wp_walk
 have mm:e≠h.objs.size:=bR (Heap.lt_size he);refine hq _ h.objs.size ?_ λb o hb ho=>?_
 ·rw [Heap.get?_update_self _ (Heap.get?_push_of_some _ he) rfl]
  rfl
 ·rw [Heap.get?_update_other _ _ (Ne.symm hb)]
  exact Heap.get?_push_of_some _ ho
theorem v9(F:ExcBaseFacts B newId gR zp)(rg:(Value.ref C::bm).contains (.type B)=true)(II:(Value.ref C::bm).contains (.type "AttributeError")=false)(IJ:(Value.ref C::bm).contains (.type "NameError")=false)
  {rest:List Value} {init:Value} (hC:h.get? C=some (excClassObj nm q C N bs bm eQ sn sub ab col dd k0 k1 k2 k3 k5 newId)) (call:Looks (model prog w) h (specialOf (.ref C) "__call__") (some (.builtin "type.__call__"))) (typ:Looks (model prog w) h (isInstance (.ref C) (.type "type")) true)
  (hi:Looks (model prog w) h (typeLookup (.ref C) "__init__") (some init)) (hb:∀self,Looks (model prog w) h (bindSpecial init self) (init,[self])) (pU:rest.length≤sizeLine)
  (hq:codeAny (model prog w) (A.under (.builtin "type.__call__" ⟨.ref C::rest,[]⟩)) (.call init ⟨.ref (h.objs.size+1)::rest,[]⟩) (InitBack (h.objs.size+1) R) ⟨(h.push {cls:= .type "tuple",data:= .seq rest.toArray}).push (bG C h.objs.size none),g,d,t,os⟩):
  codeAny (model prog w) A (.call (.ref C) ⟨rest,[]⟩) R ⟨h,g,d,t,os⟩:=by
 refine codeAny_of_tree ?_;show wpAny _ _ (callAny (.ref C) _) _ _ _;refine nd_load hC ?_;show wpAny _ _ (callAny.viaDunder (.ref C) _) _ _ _;unfold callAny.viaDunder;refine wpAny_bind (call.at ?_);dsimp only;rw [tc_bind];refine wpAny_bind (wpAny_pure (wpAny_bind (wpAny_pure ?_)));refine wpAny_pure (a:=Fin.again (.call (.builtin "type.__call__") ⟨.ref C::rest,[]⟩)) (And.intro rfl ?_);refine codeAny_call_builtin_at (Code.quiet_builtin _ (by decide+kernel)) entry_typeCall (check_slot tc_kind tc_split typ (tc_args _ _ _) ?_)
 have hm:Looks (model prog w) h (mroOf (.ref C)) (.ref C::bm):=((Looks.ld (part:=none) hC).andThen .now).andThen .now
 have made:Looks (model prog w) h (Bind.madeBy (.ref C)) (some newId):=by
  intro A Q E s k q;obtain ⟨h2,g2,d2,t2,Wn⟩:=s;exact wpAny_madeBy_exc (k _ _ hC) q
 unfold Builtin.«type.__call__»
 repeat (first|simp only [List.isEmpty_cons,wg,if_false]|with_reducible refine wpAny_call ?_|lk)
 refine codeAny_call_builtin_code (Code.quiet_builtin _ F.quiet) (tI F rg hC ?_);refine wZ F rg II IJ hC ?_ pU;have k:∀b o,h.get? b=some o→((h.push {cls:= .type "tuple",data:= .seq rest.toArray}).push (bG C h.objs.size none)).get? b=some o:=λb o e=>Heap.get?_push_of_some _ (Heap.get?_push_of_some _ e);have hx:((h.push {cls:= .type "tuple",data:= .seq rest.toArray}).push (bG C h.objs.size none)).get? (h.objs.size+1)=some (bG C h.objs.size none):=by heap_get
 have t1:Looks (model prog w) ((h.push {cls:= .type "tuple",data:= .seq rest.toArray}).push (bG C h.objs.size none)) (typeOf (.ref (h.objs.size+1))) (.ref C):=(Looks.ld hx).andThen .now
 have s0:Looks (model prog w) h (isSubtype (.ref C) (.ref C)) true:=by
  intro A Q E s k q;obtain ⟨h2,g2,d2,t2,Wn⟩:=s;refine wpAny_isSubtype_exc (k _ _ hC) ?_;rw [show (Value.ref C::bm).contains (.ref C)=true by simp]
  exact q
 have s1:=s0.keeps k;have i1:=hi.keeps k;have b1:=(hb (.ref (h.objs.size+1))).keeps k;unfold isInstance callSpecial? specialOf
 repeat (first|with_reducible refine wpAny_call ?_|lk)
 refine codeAny_mono hq λr s' z=>?_
 rcases r with e| (v|_|_|_)<;>first|exact z|exact z.elim|skip
 obtain ⟨rfl,z⟩:=z;exact wpAny_pure (wpAny_pure z)
end
def nB(C a:Addr)(d:Option Addr):HO:= .ext λh=>∃t,h.get? a=some (bG C t d)
def tD(a:Addr)(fs:List (Str×V)):HO:= .ext λh=>fs.length≤1000∧∃mA,h.Ns1 a mA∧(∀f,iB (fs.lookup f) (mA f))∧PySem.Within mA (fs.map (·.1))
section
variable {P:Program} {w:World} {H:Hp} {h:Heap} {a C:Addr} {d:Option Addr} {fs:List (Str×V)}
theorem yl{t:Addr}(e:h.get? a=some (bG C t d)):bo P w H h a (nB C a d):=⟨⟨t,e⟩,⟨_,e⟩,λh1 h2 ⟨t,p⟩ k=>⟨t,k _ p⟩⟩
theorem Ea{mA:Str→Option Value}(hl:fs.length≤1000)(n:h.Ns1 a mA)(r:∀f,iB (fs.lookup f) (mA f))(q:PySem.Within mA (fs.map (·.1))):bo P w H h a (tD a fs):=
 ⟨⟨hl,mA,n,r,q⟩,let ⟨o,_,_,e,_⟩:=n;⟨o,e⟩,λh1 h2 ⟨hl,mA,⟨o,es,ep,e,c⟩,r,q⟩ k=>⟨hl,mA,⟨o,es,ep,k _ e,c⟩,r,q⟩⟩
theorem pD(hok:eM P w H h)(e:H a=some (nB C a d)):∃t,h.get? a=some (bG C t d):=(hok a _ e).1
theorem F8(hok:eM P w H h)(e:H a=some (tD a fs)):fs.length≤1000∧∃mA,h.Ns1 a mA∧(∀f,iB (fs.lookup f) (mA f))∧PySem.Within mA (fs.map (·.1)):=(hok a _ e).1
end
section
variable {X:Cx} {pins:List (Addr×Obj)} {σ:St} {H:Hp} {s:Shared}
theorem Inv.F7{a dx:Addr}{o1 o2:HO}{h':Heap}{t':Nat}(I:Inv X pins σ H s)(mu:Be (H a))(mj:s.heap.objs.size≤dx)(k:∀b u,b≠a→s.heap.get? b=some u→h'.get? b=some u)(vj:∃u,h'.get? a=some u)
  (NR:bo X.prog X.w (upd (upd H a o1) dx o2) h' a o1) (NS:bo X.prog X.w (upd (upd H a o1) dx o2) h' dx o2):Inv X pins σ (upd (upd H a o1) dx o2) {s with heap:=h',toks:=t'}:=by
 have nd:H dx=none:=I.hok.fresh mj
 obtain ⟨oa,ha⟩:∃o,H a=some o:=by
  cases q:H a with
  |none=>rw [q] at mu;exact mu.elim
  |some o=>exact ⟨o,rfl⟩
 have NK:a≠dx:=ar ha nd;have vG:∀c y,H c=some (.own y)→c≠a:=λc y r z=>by subst z;rw [r] at mu;exact mu
 have yM:∀c xs,H c=some (.tup xs)→c≠a:=λc xs r z=>by subst z;rw [r] at mu;exact mu
 have NU:∀c o u,H c=some (.jS o u)→c≠a:=λc o u r z=>by subst z;rw [r] at mu;exact mu
 have NZ:∀c ps,H c=some (.vU ps)→c≠a:=λc ps r z=>by subst z;rw [r] at mu;exact mu
 have up:∀b u,b≠a→H b=some u→upd (upd H a o1) dx o2 b=some u:=λb u hb e=>by rw [ah (ar e nd),ah hb];exact e
 refine I.un (h':=h') (t':=t') ⟨λb o e n _ _=>?_,λb o e n _ _=>⟨o.slots,?_⟩,λb o e n _=>?_,λb o e _=>?_,λb xs e=>up b _ (yM b xs e) e,λb o u e=>up b _ (NU b o u e) e,λb ps e=>⟨#[],by rw [up b _ (NZ b ps e) e];simp⟩⟩ λb u e=>?_
 ·exact k b o (λz=>by rw [z,ha] at n;cases n) e
 ·exact k b o (λz=>by rw [z,ha] at n;cases n) e
 ·rw [ah (λz=>by rw [z] at e;exact absurd (Heap.lt_size e) (Nat.not_lt.mpr mj)),ah (λz=>by rw [z,ha] at n;cases n)];exact n
 ·by_cases z:b=a
  ·rw [z];exact vj
  ·exact ⟨o,k b o z e⟩
 ·by_cases z:b=dx
  ·subst z;rw [ak] at e;cases e;exact NS
  ·rw [ah z] at e
   by_cases z2:b=a
   ·subst z2;rw [ak] at e;cases e;exact NR
   ·rw [ah z2] at e
    refine (I.hok b u e).kN (λc v hc q=>k c v ?_ q) (λc q=>up c _ (vG c b q) q) λc xs q=>up c _ (yM c xs q) q
    rcases hc with y|y
    ·rw [y];exact z2
    ·exact vG c b y
variable {a C:Addr} {fs:List (Str×V)} {f:Str} {v:V} {A:Around} {E:Value→Shared→Prop}
def Gj(H:Hp)(C a:Addr)(f:Str)(y:V)(fs:List (Str×V))(Q:Hp→Prop):Prop:=
 (fs= []∧H a=some (nB C a none)∧∀dx,H dx=none→Q (upd (upd H a (nB C a (some dx))) dx (tD dx [(f,y)])))∨
 (∃dx,H a=some (nB C a (some dx))∧H dx=some (tD dx fs)∧fs.length<1000∧Q (upd H dx (tD dx (ft f y fs))))
theorem uB{y:V}{u:Value}{Q:Unit→Shared→Prop}{R:Hp→Prop}(I:Inv X pins σ H s)(c:rH X.K C)(n:ff X.K C f)(ry:RelV y u)(p:Gj H C a f y fs R)
  (h:∀H' s',Inv X pins σ H' s'→R H'→Q () s'):wpAny (model X.prog X.w) A (setAttr (.ref a) f u) Q E s:=by
 rcases p with ⟨rfl,e,q⟩ | ⟨dx,e,ed,hl,q⟩
 ·obtain ⟨t,et⟩:=pD I.hok e
  refine J5 I.bI c et n.yg λh' hn hx k=>?_;refine h _ _ (I.F7 (by rw [e];exact True.intro) (bL _) k ⟨_,hx⟩ (yl hx) ?_) (q s.heap.objs.size I.fresh)
  refine Ea (by simp) hn (λg=>?_) (λg hg=>?_)
  ·by_cases z:g=f
   ·rw [if_pos z,z];simp only [List.lookup,beq_self_eq_true];exact ry
   ·rw [if_neg z]
    have hb:(g==f)=false:=beq_eq_false_iff_ne.mpr z;simp only [List.lookup,hb];exact True.intro
  ·by_cases z:g=f
   ·rw [z];simp
   ·rw [if_neg z] at hg;exact absurd rfl hg
 ·obtain ⟨t,et⟩:=pD I.hok e
  obtain ⟨_,mA,hn,r,wi⟩:=F8 I.hok ed
  have ne:dx≠a:=by
   rintro rfl;obtain ⟨o,es,ep,eo,hd,_⟩:=hn;rw [et] at eo;cases eo;cases hd
  have hz:(fs.map (·.1)).length≤sizeLine:=by rw [bV,sizeLine_eq];omega
  refine J6 I.bI c et hn ne n.yg wi hz λh' xr sb=>h _ _ (I.write (x:=dx) (e:=dx) (by rw [ed];exact True.intro) (.inl rfl) (λb q hb z=>(sb.2 b hb).trans z) (let ⟨o,_,_,e',_⟩:=xr;⟨o,e'⟩) ?_) q
  refine Ea (by have:=jf f y fs;omega) xr (λg=>?_) (λg hg=>?_)
  ·rw [jh]
   by_cases q:g=f
   ·rw [if_pos q,if_pos q];exact ry
   ·rw [if_neg q,if_neg q];exact r g
  ·by_cases q:g=f
   ·rw [q];exact (gd f y fs).1
   ·refine (gd f y fs).2 g (wi g λz=>hg ?_)
    show (if g=f then some u else mA g)=none;rw [if_neg q];exact z
end
def JP(K:PySem.W.Frag)(ta tv:TE)(f:Str):TS:=λD σ H=>tv σ H λy H1=>ta σ H1 λx H2=>∃a C fs,x= .ref a∧rH K C∧ff K C f∧Gj H2 C a f y fs λH3=>D.nx σ H3
section
variable {X:Cx} {o e value:Expr} {f:Str} {pos pos' Qj:Pos} {ta tv:TE}
theorem Ds(ha:PE X o ta)(hv:PE X value tv)(hs:swapsWith value (some (.Attribute o f pos')) pos.line X.env=pure false):PS X (.Assign [.Attribute o f pos'] value pos) (JP X.K ta tv f):=by
 intro pins s σ H D I h;refine plainObj_wpAny_Assign_Attribute (thn (hv pins s σ H _ I h) λu s1 ⟨y,H1,I1,ry,q⟩=>thn (ha pins s1 σ H1 _ I1 q) λov s2 ⟨x,H2,I2,rx,a,C,fs,ex,c,n,p⟩=>?_) hs;subst ex;obtain rfl:ov=Value.ref a:=rx;exact uB I2 c n ry p λH3 s3 I3 q=>⟨σ,_,I3,q⟩
end
structure kA (K:PySem.W.Frag) (C:Addr):Prop where
 obj:∃nm q N bs bm eQ sn sub ab col dd k0 k1 k2 k3 k5,K.lookup C=some (excClassObj nm q C N bs bm eQ sn sub ab col dd k0 k1 k2 k3 k5 "ValueError.__new__")∧(Value.ref C::bm).contains (.type "ValueError")=true∧
  (Value.ref C::bm).contains (.type "AttributeError")=false∧(Value.ref C::bm).contains (.type "NameError")=false
structure Ht (K:PySem.W.Frag) (C:Addr) (init:Value):Prop extends kA K C where
 call:PySem.W.specialIn K (.ref C) "__call__"=some (some (.builtin "type.__call__"))
 typ:PySem.W.instIn K (.ref C) (.type "type")=some true
 ini:PySem.W.findIn K (.ref C) "__init__"=some (some init)
 kp:PySem.W.keepIn K (.ref C)=true
theorem F6{H:Hp}{a:Addr}{o:HO}(e:H a=some o):upd H a o=H:=by
 funext b
 by_cases h:b=a
 ·rw [h,ak,e]
 ·rw [ah h]
def F2(C:Addr)(sp:Sp)(E:XK)(t:TA):TE:=λσ H Q=>t σ H λvs H1=>∀e,H1 e=none→sp (.ref e::vs) (upd H1 e (nB C e none)) (λv H2=>v= .aN∧Q (.ref e) H2) E
def F1(K:PySem.W.Frag)(t:TA):TE:=λσ H Q=>t σ H λvs H1=>∃a C d y,vs= [.ref a,y]∧H1 a=some (nB C a d)∧kA K C∧Q .aN H1
section
variable {X:Cx} {CX:jH} {k:Nat} {f C:Addr} {fd:FuncData} {ps:List Str} {sp:Sp} {E:XK} {x m:Str} {p pos apos:Pos} {e o:Expr} {es:List Expr} {ta:TE} {t:TA}
theorem x8{pins:List (Addr×Obj)}{σ:St}{H:Hp}{s:Shared}{Q:VK}{us:List Value}{vs:List V}(M:Ht X.K C (.ref f))(hf:PySem.W.isFn X.K (.ref f)=true)(F:FnOk X.prog X.w X.K X.mg X.base CX k f fd ps sp)(hr:bC (k+1) X.A)(hb:Binds X.K fd ps [])
  (EK:ps.length≤1000) (hx:Passes CX X E) (I:Inv X pins σ H s) (r:Vals vs us)
  (h:∀e,H e=none→sp (.ref e::vs) (upd H e (nB C e none)) (λv H2=>v= .aN∧Q (.ref e) H2) E):
  wpAny (model X.prog X.w) X.A (call (.ref C) us) (EP X pins σ Q) X.xe s:=by
 obtain ⟨nm,q,N,bs,bm,eQ,sn,sub,ab,col,dd,k0,k1,k2,k3,k5,hC,cB,cA,cN⟩:=M.obj;have hq:=h (s.heap.objs.size+1) (I.hok.fresh (Nat.le_succ _))
 have Tr:((s.heap.push {cls:= .type "tuple",data:= .seq us.toArray}).push (bG C s.heap.objs.size none)).get? (s.heap.objs.size+1)=some (bG C s.heap.objs.size none):=by
  have:=Heap.get?_push_size (s.heap.push {cls:= .type "tuple",data:= .seq us.toArray}) (o:=bG C s.heap.objs.size none) rfl
  rwa [Heap.size_push] at this
 have I2:Inv X pins σ (upd H (s.heap.objs.size+1) (nB C (s.heap.objs.size+1) none)) {s with heap:=(s.heap.push {cls:= .type "tuple",data:= .seq us.toArray}).push (bG C s.heap.objs.size none)}:=
  I.laid (t':=s.toks) (λb u q=>Heap.get?_push_of_some _ (Heap.get?_push_of_some _ q)) (Nat.le_succ _) (yl Tr)
 have r2:Vals (V.ref (s.heap.objs.size+1)::vs) (Value.ref (s.heap.objs.size+1)::us):= .cons rfl r
 have hl:((Value.ref (s.heap.objs.size+1)::us)++ []).length=ps.length:=by
  have e:=r2.length;rw [F.len _ _ _ _ hq] at e;rw [iV];exact e.symm
 have hlen:us.length≤sizeLine:=by
  rw [iV,cJ] at hl;exact Nat.le_of_lt (cD (by omega))
 have xi:=hb _ (Value.ref (s.heap.objs.size+1)::us) I2.bI hl;rw [iV] at xi;obtain ⟨hh,g,d,tk,os⟩:=s
 refine wpAny_call (v9 (init:= .ref f) PySem.F.excBase_ValueError cB cA cN (I.bI _ _ hC) (PySem.W.looks_specialIn I.bI M.call) (PySem.W.looks_instIn I.bI M.typ) (PySem.W.looks_findIn I.bI M.ini) (λself=>PySem.W.bind_fn I.bI self (beq_iff_eq.mp hf)) hlen
  (codeAny_mono (F.run _ X.stack _ _ ⟨Value.ref (hh.objs.size+1)::us,[]⟩ (Value.ref (hh.objs.size+1)::us) _ _ E (hr.make C us []) (I2.yC.make C us []) xi r2 hq) λr s' f7=>?_))
 cases r with
 |error e=>exact hx pins σ _ _ e s' I2 f7
 |ok fl=>
  cases fl with
  |ret u=>
   obtain ⟨v,H',I3,rv,ev,q3⟩:=I2.after f7;subst ev;exact ⟨rv,⟨V.ref (hh.objs.size+1),H',I3,rfl,q3⟩⟩
  |next=>exact False.elim f7
  |brk=>exact False.elim f7
  |cont=>exact False.elim f7
theorem AM(M:Ht X.K C (.ref f))(hf:PySem.W.isFn X.K (.ref f)=true)(F:FnOk X.prog X.w X.K X.mg X.base CX k f fd ps sp)(hr:bC (k+1) X.A)(hg:Gl X x)(hm:X.mg x=some (.ref C))(hb:Binds X.K fd ps [])(EK:ps.length≤1000)(hx:Passes CX X E)
  (ha:PA X (e::es) t) (dj:(x==("__debug__":Str))=false:=by decide) (he:starEach (e::es) X.env=(false,eval e X.env)::starEach es X.env:=by rfl) (bU:(backTo pos (starEach es X.env)).any (·.1)=false:=by rfl):
  PE X (.Call (.Name x p) (e::es) [] pos) (F2 C sp E t):=by
 intro pins s σ H Q I h;refine wpAny_Call_Name_kw (gf I hg hm ?_ dj);refine PySem.W.callWith_K (h₀:=X.base) I.ok.mod.kin M.kp (thn (ha pos pins s σ H _ I h) λus s1 ⟨vs,H1,I1,r,q⟩=>⟨I1.bI,?_⟩) he bU;exact x8 M hf F hr hb EK hx I1 r q
theorem AL{C0:Addr}{pl:Sem Bool}(hg:Gl X x)(hm:X.mg x=some (.ref C0))(sg:PySem.W.specialIn X.K (.ref C0) "__getattribute__"=some (some (.builtin "type.__getattribute__")))(rd:PySem.W.readsIn X.K C0 (.type "type")=true)
  (fc:PySem.W.findCls X.K (.ref C0) (.type "type") "__init__"=some (.val (.builtin "ValueError.__init__"))) (ha:PA X (e::es) t) (dj:(x==("__debug__":Str))=false:=by decide)
  (he:starEach (e::es) X.env=(false,eval e X.env)::starEach es X.env:=by rfl) (bU:(backTo pos (starEach es X.env)).any (·.1)=false:=by rfl)
  (ht:eval (.Call (.Attribute (.Name x p) "__init__" apos) (e::es) [] pos) X.env=(do
   let ov ←eval (.Name x p) X.env
   standAt apos.atName
   let (f,first) ←holding [ov] (getMethod ov "__init__" pl)
   callWith pos f first (backTo pos (starEach (e::es) X.env)) (backToKw pos (keywordEach [] X.env))):=by rfl):
  PE X (.Call (.Attribute (.Name x p) "__init__" apos) (e::es) [] pos) (F1 X.K t):=by
 intro pins s σ H Q I h;refine PySem.W.methodCall_KW (pl:=pl) (gf I hg hm ?_ dj) ht;refine PySem.W.method_cls I.bI sg (PySem.W.cls_value I.bI rd fc (by decide+kernel) ?_)
 refine PyProof.Rows.callWith_builtin1 (thn (ha pos pins _ σ H _ (I.tok _) h) λus s1 ⟨vs,H1,I1,r1,a,C,d,y,ev,ea,xo,q1⟩=>?_) he bU;subst ev;obtain ⟨u1,u2,rfl,ra,ry⟩:=r1.two;cases ra;obtain ⟨nm,q,N,bs,bm,eQ,sn,sub,ab,col,dd,k0,k1,k2,k3,k5,hC,cB,cA,cN⟩:=xo.obj;obtain ⟨t0,et⟩:=pD I1.hok ea;obtain ⟨hh,g,dr,tk,os⟩:=s1;refine wpAny_call (u9 PySem.F.excBase_ValueError cB (I1.bI _ _ hC) et (λh' t' MV kk=>?_) (by show 1≤sizeLine;decide))
 have I2:=I1.write (x:=a) (e:=a) (o:=nB C a d) (t':=tk) (by rw [ea];exact True.intro) (.inl rfl) (λb u hb q=>kk b u hb q) ⟨_,MV⟩ (yl MV)
 rw [F6 ea] at I2;exact ⟨.aN,H1,I2,rfl,q1⟩
end
section
variable {X:Cx} {pins:List (Addr×Obj)} {σ:St} {H:Hp} {s:Shared} {A:Around} {E:Value→Shared→Prop} {Q:Value→Shared→Prop} {b:Bool}
theorem vY:∀{ns:List String}{us:List Value},Vals (ns.map V.ty) us→us=ns.map Value.type
 | [],_, .nil=>rfl
 |_::_,_, .cons r t=>by rw [show _=_ from r,vY t];rfl
theorem vp{x:V}{u t:Value}{tp:Addr}{ns:List String}(I:Inv X pins σ H s)(rx:RelV x u)(ty:eN X.K H x t)(ht:H tp=some (.tup (ns.map V.ty)))(e:PySem.W.kitAny X.K t (ns.map Value.type)=some b)(h:∀tk,Q (.bool b) {s with toks:=tk}):
  wpAny (model X.prog X.w) A (call (.builtin "isinstance") [u, .ref tp]) Q E s:=by
 obtain ⟨_,its,rv,o,e1,e2,n,e3⟩:=(show bo X.prog X.w H s.heap tp (.tup (ns.map V.ty)) from I.hok tp _ ht);have ei:=vY rv;subst ei;obtain ⟨oc,od,da,sl⟩:=o;dsimp only at e2 e3;subst e2 e3;cases ty with
 |aN=>cases (show u=Value.none from rx);exact PySem.W.kia_tup PySem.W.kitx_none I.bI True.intro e1 e (λz=>nomatch z) h
 |bl y=>cases (show u=Value.bool y from rx);exact PySem.W.kia_tup PySem.W.kitx_bool I.bI True.intro e1 e (λz=>nomatch z) h
 |int i=>obtain ⟨t,q⟩:=(show ∃t,u=Value.int i t from rx);cases q;exact PySem.W.kia_tup PySem.W.kitx_int I.bI True.intro e1 e (λz=>nomatch z) h
 |str y=>obtain ⟨t,q⟩:=(show ∃t,u=Value.str y t from rx);cases q;exact PySem.W.kia_tup PySem.W.kitx_str I.bI True.intro e1 e (λz=>nomatch z) h
 |va y=>obtain ⟨t,q⟩:=(show ∃t,u=Value.float y t from rx);cases q;exact PySem.W.kia_tup PySem.W.kitx_float I.bI True.intro e1 e (λz=>nomatch z) h
 | @lst a xs ea=>
  cases (show u=Value.ref a from rx);obtain ⟨_,_,n,_,h1⟩:=(show bo X.prog X.w H s.heap a (.lst xs) from I.hok a _ ea);exact PySem.W.kia_tup PySem.W.kitx_list I.bI ⟨_,h1,rfl⟩ e1 e (λz=>nomatch z) h
 | @jS a ob xs ea=>
  cases (show u=Value.ref a from rx);obtain ⟨_,_,_,n,_,h1⟩:=(show bo X.prog X.w H s.heap a (.jS ob (.lst xs)) from I.hok a _ ea);exact PySem.W.kia_tup PySem.W.kitx_list I.bI ⟨_,h1,rfl⟩ e1 e (λz=>nomatch z) h
 | @tup a xs ea=>
  cases (show u=Value.ref a from rx);obtain ⟨_,_,_,p⟩:=(show bo X.prog X.w H s.heap a (.tup xs) from I.hok a _ ea);obtain ⟨o,h1,h2,_⟩:=p;exact PySem.W.kia_tup PySem.W.kitx_tuple I.bI ⟨o,h1,h2⟩ e1 e (λz=>nomatch z) h
 | @dK a b9 ea=>
  cases (show u=Value.ref a from rx);obtain ⟨_,_,vs,_,p⟩:=(show bo X.prog X.w H s.heap a (.dK b9) from I.hok a _ ea);obtain ⟨o,es,ep,h1,h2,_⟩:=p;exact PySem.W.kia_tup PySem.W.kitx_dict I.bI ⟨o,h1,h2.1⟩ e1 e (λz=>nomatch z) h
 | @dT a b9 ea=>
  cases (show u=Value.ref a from rx);obtain ⟨_,_,xs,_,o,es,ep,h1,h2,_⟩:=(show bo X.prog X.w H s.heap a (.dT b9) from I.hok a _ ea);exact PySem.W.kia_tup PySem.W.kitx_dict I.bI ⟨o,h1,h2.1⟩ e1 e (λz=>nomatch z) h
 | @ins a C dx fs ea cl ha hn htk hm=>
  cases (show u=Value.ref a from rx);obtain ⟨mA,O,_⟩:=jV I.hok ea;obtain ⟨od,J,_⟩:=O.look;exact PySem.W.kia_tup (PySem.W.kitx_own (cl.get _) cl.hd ha hn htk hm) I.bI J e1 e (λz=>nomatch z) h
theorem qY:bP X (.builtin "isinstance") (λxs H Q=>∃(x:V)(tp:Addr)(ns:List String)(t:Value)(b:Bool),xs= [x, .ref tp]∧eN X.K H x t∧H tp=some (.tup (ns.map V.ty))∧PySem.W.kitAny X.K t (ns.map Value.type)=some b∧Q (.bl b) H):=by
 intro pins s σ H xs us Q I rv h;obtain ⟨x,tp,ns,t,b,rfl,ty,ht,e,q⟩:=h;obtain ⟨u1,u2,rfl,r1,r2⟩:=rv.two;cases r2;exact vp I r1 ty ht e λtk=>⟨.bl b,H,I.tok _,rfl,q⟩
end
theorem bz.of{X:Cx}{scope:Scope}(sc:Scope)(e:X.env.scope=sc)(k:scope.kind= .function)(a:∀x∈scope.names,x.2= .local→scope.names.lookup x.1=some .local)(b:∀x∈scope.names,x.2≠ .cell)
  (c:∀x∈scope.names,x.2= .free→sc.names.lookup x.1=some .cell∨sc.names.lookup x.1=some .free):bz X scope:=⟨k,a,b,λx hx hf=>by rw [←e] at c;exact c x hx hf⟩
structure cU (K:PySem.W.Frag) (mg:Str→Option Value) (x:Str) (st:Stmt) (ps:List Str) where
 f:Addr
 fd:FuncData
 F:lP K x x st f fd
 b:Binds K fd ps []
 m:mg x=some (.ref f)
theorem aL{H:Hp}{p:Addr}(h:H p=none)(o:HO):aH H (upd H p o):=λb u q=>by rw [ah (ar q h)];exact q
theorem small{n:Nat}(h:n≤1000):n≤sizeLine:=Nat.le_of_lt (cD h)
abbrev fG(C t:Addr)(tb:Value)(d:Option Addr):Obj:={cls:= .ref C,dict:=d,data:= .fields #[.ref t,tb, .none, .none, .bool false, .none]}
def lO(C a:Addr)(d:Option Addr):HO:= .ext λh=>∃t tb,h.get? a=some (fG C t tb d)
section
variable {P:Program} {w:World} {H:Hp} {h:Heap} {a C:Addr} {d:Option Addr}
theorem B5{t:Addr}{tb:Value}(e:h.get? a=some (fG C t tb d)):bo P w H h a (lO C a d):=⟨⟨t,tb,e⟩,⟨_,e⟩,λh1 h2 ⟨t,tb,p⟩ k=>⟨t,tb,k _ p⟩⟩
end
def uH(h:Heap)(T:Addr):Prop:=∃o ts,h.get? T=some o∧o.data= .fields ts∧ts[3]? =some .none
section
variable {M:Model} {A:Around} {E:Value→Shared→Prop} {s:Shared}
theorem qe{base:Heap}{env:Env}{outer:List Env}{L e C t:Addr}{tb head:Value}{d:Option Addr}{Cb:Bool}{Q:Unit→Shared→Prop}
  (vk:A.frames=some (env::outer)) (hl:s.heap.FunFrames base (env::outer)) (hf:env.frame=some L)
  (he:s.heap.get? e=some (fG C t tb d))
  (h:∀h' T,s.heap.objs.size≤T→h'.get? e=some (fG C t (.ref T) d)→uH h' T→(∀b o,s.heap.get? b=some o→b≠e→∃sl,h'.get? b=some {o with slots:=sl})→
   (∀b o,s.heap.get? b=some o→b≠e→b∉mh (env::outer)→h'.get? b=some o)→Q () {s with heap:=h'}):
  wpAny M A (do let a ←frameOf env;let pl ←entryPlaceOf L Cb;let b ←EntryCells.newEntry head a .none (rawInt L) .none pl;setField (.ref e) 1 b) (λ_ s'=>wpAny M A (setFlight (.ref e) none) Q E s') E s:=by
 have hd:(fG C t tb d).data= .fields #[.ref t,tb, .none, .none, .bool false, .none]:=rfl;have rq:1<(#[.ref t,tb, .none, .none, .bool false, .none]:Array Value).size:=by simp
 have MF:e∉(env::outer).filterMap (·.frame):=λhm=>by
  obtain ⟨_,o,ho,CC⟩:=hl.mem hm;rw [he] at ho;injection ho with ho;subst ho;exact CC _ hd
 refine wpAny_bind (wpAny_frameOf_fun vk hl hf λfH tU=>?_);refine wpAny_bind (wpAny_entryPlaceOf λpl bU=>?_);unfold EntryCells.newEntry newFields;refine wpAny_bind (wpAny_newObj_type ?_ (bU.sizeOk5 _ _ _ _ _));have Co:fH.get? e=some (fG C t tb d):=(tU.2.1 e MF).trans he;have Cp:=Heap.get?_push_of_some (h:=fH) {cls:= .type "traceback",dict:=none,data:= .fields ([head, .ref L, .none,rawInt L, .none]++(if pl.isEmpty then List.replicate 6 Value.none else pl)).toArray} Co;refine wpAny_setField Cp hd rq ?_;have EG:fH.objs.size≠e:=tq (Heap.lt_size Co);have Cn:=Obj.data_mapFields hd (·.setIfInBounds 1 (Value.ref fH.objs.size));have Cq:=Heap.get?_update_self (Obj.mapFields (·.setIfInBounds 1 (Value.ref fH.objs.size))) Cp (Obj.isFreed_of_fields Cn)
 have Ca:=(Heap.get?_update_other (fH.push {cls:= .type "traceback",dict:=none,data:= .fields ([head, .ref L, .none,rawInt L, .none]++(if pl.isEmpty then List.replicate 6 Value.none else pl)).toArray})
  (Obj.mapFields (·.setIfInBounds 1 (Value.ref fH.objs.size))) (Ne.symm EG)).trans (Heap.get?_push_size fH rfl)
 unfold setFlight;refine wpAny_bind (wpAny_field Cq Cn (x:= .ref fH.objs.size) (by simp) ?_)
 rw [if_pos (show (Value.ref fH.objs.size !=Value.none)=true from by simp)]
 refine wpAny_setField Ca rfl (by simp only [cp,fw,cJ,ke]<;>omega) ?_
 have keep:∀b o,b≠e→fH.get? b=some o→
   (((fH.push {cls:= .type "traceback",dict:=none,data:= .fields ([head, .ref L, .none,rawInt L, .none]++(if pl.isEmpty then List.replicate 6 Value.none else pl)).toArray}).update e (Obj.mapFields (·.setIfInBounds 1 (Value.ref fH.objs.size)))).update fH.objs.size
     (Obj.mapFields (·.setIfInBounds 3 ((none:Option Addr).elim Value.none λf=>rawInt f)))).get? b=some o:=λb o lg hb=>by
  have SK:fH.objs.size≠b:=tq (Heap.lt_size hb);rw [Heap.get?_update_other _ _ SK,Heap.get?_update_other _ _ (Ne.symm lg)];exact Heap.get?_push_of_some _ hb
 refine h _ fH.objs.size (by rw [tU.1];exact bL _) ?_ ⟨_,_,Heap.get?_update_self _ Ca (Obj.isFreed_of_fields (Obj.data_mapFields rfl _)),Obj.data_mapFields rfl _,by first| (simp;done) | (rcases bU with rfl| ⟨_,_,_,_,_,_,_,rfl⟩<;>simp)⟩ (λb o hb lg=>?_) (λb o hb lg SM=>?_)
 ·rw [Heap.get?_update_other _ _ EG];exact Cq
 ·obtain ⟨sl,hs⟩:=tU.2.2 b o hb
  exact ⟨sl,keep b _ lg hs⟩
 ·exact keep b o lg ((tU.2.1 b SM).trans hb)
theorem xF{base:Heap}{env:Env}{outer:List Env}{L e C t:Addr}{tb:Value}{d:Option Addr}{Q:Unit→Shared→Prop}
  (vk:A.frames=some (env::outer)) (hl:s.heap.FunFrames base (env::outer)) (hf:env.frame=some L)
  (he:s.heap.get? e=some (fG C t tb d)) (ht:tb= .none∨∃T,tb= .ref T∧T≠e∧uH s.heap T)
  (h:∀h' T,s.heap.objs.size≤T→h'.get? e=some (fG C t (.ref T) d)→uH h' T→(∀b o,s.heap.get? b=some o→b≠e→∃o',h'.get? b=some o')→(∀b o,s.heap.get? b=some o→b≠e→tb≠ .ref b→∃sl,h'.get? b=some {o with slots:=sl})→
   (∀b o,s.heap.get? b=some o→b≠e→tb≠ .ref b→b∉mh (env::outer)→h'.get? b=some o)→Q () {s with heap:=h'}):
  wpAny M A (noteFrame (.ref e) env) (λ_ s'=>wpAny M A (setFlight (.ref e) none) Q E s') E s:=by
 have hd:(fG C t tb d).data= .fields #[.ref t,tb, .none, .none, .bool false, .none]:=rfl;unfold noteFrame;simp only [hf];refine wpAny_bind (wpAny_field (x:=tb) he hd rfl ?_)
 rcases ht with rfl| ⟨T,rfl,EG,oT,ts,hT,EJ,h3⟩
 ·rw [if_neg (by decide)]
  exact qe vk hl hf he λh' T h1 h2 h3 h4 h5=>h h' T h1 h2 h3 (λb o q n=>let ⟨sl,z⟩:=h4 b o q n;⟨_,z⟩) (λb o q n _=>h4 b o q n) λb o q n _=>h5 b o q n
 ·rw [if_pos (show (Value.ref T !=Value.none)=true from by simp)]
  refine wpAny_bind (wpAny_field hT EJ h3 ?_);rw [if_neg (show ¬((Value.none==rawInt L)=true) from by simp [rawInt])]
  refine wpAny_bind (wpAny_setField hT EJ (zc.mp h3).1 ?_);have other:∀b,b≠T→(s.heap.update T (Obj.mapFields (·.setIfInBounds 3 Value.none))).get? b=s.heap.get? b:=λb hb=>Heap.get?_update_other _ _ (Ne.symm hb)
  have AD:∀b o,s.heap.get? b=some o→(∀vs,o.data≠ .fields vs)→b≠T:=λb o hb CC q=>by
   rw [q,hT] at hb;injection hb with hb;subst hb;exact CC ts EJ
  have SH:=Heap.get?_update_self (Obj.mapFields (·.setIfInBounds 3 Value.none)) hT (Obj.isFreed_of_fields (Obj.data_mapFields EJ _));refine qe (s:={s with heap:=s.heap.update T (Obj.mapFields (·.setIfInBounds 3 Value.none))}) vk (hl.of_keeps λb o hb CC=>⟨o,(other b (AD b o hb CC)).trans hb,rfl⟩) hf ((other e (Ne.symm EG)).trans he) λh' T' h1 h2 h3 h4 h5=>?_
  refine h h' T' (by rw [Heap.size_after_update] at h1;exact h1) h2 h3 (λb o q n=>?_) (λb o q n z=>h4 b o ((other b λw=>z (by rw [w])).trans q) n) λb o q n z=>h5 b o ((other b λw=>z (by rw [w])).trans q) n
  by_cases z:b=T
  ·subst z
   obtain ⟨sl,z⟩:=h4 b _ SH n;exact ⟨_,z⟩
  ·obtain ⟨sl,z⟩:=h4 b o ((other b z).trans q) n
   exact ⟨_,z⟩
end
def Kl(X:Cx)(H:Hp)(h:Heap)(tb:Value):Prop:=tb= .none∨∃T,tb= .ref T∧X.s₀.heap.objs.size≤T∧T≠X.env.locals∧(∀x c,X.env.cells.lookup x=some c→c≠T)∧(∀p∈X.pn,p.1≠T)∧H T=none∧uH h T
def pE(X:Cx)(H:Hp)(s:Shared)(a:Addr):Prop:=∃C t tb d,H a=some (lO C a d)∧s.heap.get? a=some (fG C t tb d)∧Kl X H s.heap tb
structure Ke (P:Program) (w:World) (outer:List Env) (H:Hp) (s:Shared) (a:Addr) (H':Hp) (s':Shared):Prop where
 os:s'.os=s.os
 bare:AllBare s'.gens
 un:Un (mh outer) [] H H' s.heap s'.heap
 hok:eM P w H' s'.heap
 obj:∃C t tb d,H' a=some (lO C a d)∧s'.heap.get? a=some (fG C t tb d)∧(tb= .none∨∃T,tb= .ref T∧s.heap.objs.size≤T∧H' T=none∧uH s'.heap T)
def qT(P:Program)(w:World):jH:=λouter H s E e s'=>∃a H',e= .ref a∧Ke P w outer H s a H' s'∧E e none H'
section
variable {X:Cx} {pins:List (Addr×Obj)} {σ:St} {H H':Hp} {s s':Shared} {a:Addr}
theorem Inv.Bo(I:Inv X pins σ H s):Inv X [] σ H s:=⟨I.ok,I.os,I.bare,I.base,I.loc,I.cell,I.free,I.freeC,λp hp=>I.pin p (by rw [iV] at hp;exact kc _ hp),I.hok,I.len⟩
theorem ED(I:Inv X pins σ H s)(f:Ke X.prog X.w X.stack H s a H' s'):Inv X [] σ H' s'∧pE X H' s' a:=by
 obtain ⟨os,bare,un,hok,C,t,tb,d,h1,h2,h3⟩:=f;have I':Inv X pins σ H' s':=I.wC (ch:= []) os un hok bare (λb z=>absurd z (by simp))
 refine ⟨I'.Bo,C,t,tb,d,h1,h2,h3.imp id λ⟨T,e1,e2,e3,e4⟩=>⟨T,e1,fz I.sz e2,?_,λx c hc z=>?_,λp hp z=>?_,e3,e4⟩⟩
 ·exact λz=>absurd (dS I.lt e2) (by rw [z];exact gE _)
 ·obtain ⟨v,o,ho,_⟩:=I.cell x c hc
  exact absurd (dS (Heap.lt_size ho) e2) (by rw [z];exact gE _)
 ·have:=(I.pin p (kc _ hp)).1
  exact absurd (dS (Heap.lt_size this) e2) (by rw [z];exact gE _)
theorem sD{M:Model}{E:Value→Shared→Prop}{Q:Unit→Shared→Prop}(iH:X.stack=X.env::X.outer)(Ct:X.env.frame=some X.env.locals)(I:Inv X [] σ H s)(f:pE X H s a)
  (h:∀s',Inv X [] σ H s'→pE X H s' a→Q () s'):
  wpAny M X.A (noteFrame (.ref a) X.env) (λ_ s'=>wpAny M X.A (setFlight (.ref a) none) Q E s') E s:=by
 obtain ⟨C,t,tb,d,h1,h2,h3⟩:=f;have fr:s.heap.FunFrames X.base (X.env::X.outer):=by rw [←iH];exact I.stack
 refine xF (base:=X.base) (by rw [I.ok.frames,iH]) fr Ct h2 (h3.imp id λ⟨T,e1,_,_,_,_,e6,e7⟩=>⟨T,e1,(λz=>by rw [z,h1] at e6;cases e6),e7⟩) λh' T hT ha SJ k0 k1 k2=>?_
 have tr:∀b u,H b=some u→b≠a→∀o,s.heap.get? b=some o→h'.get? b=some o:=λb u hb mm o ho=>by
  refine k2 b o ho mm (λz=>?_) λz=>?_
  ·rcases h3 with q| ⟨T,q,_,_,_,_,q6,_⟩
   ·rw [q] at z;cases z
   ·rw [q] at z;cases z;rw [hb] at q6;cases q6
  ·have:=I.qG b (by rw [iH];exact z)
   rw [hb] at this;cases this
 have hok:eM X.prog X.w H h':=λb u hb=>by
  by_cases z:b=a
  ·subst z;rw [h1] at hb;cases hb;exact B5 ha
  ·refine (I.hok b u hb).kN (λc v hc q=>?_) (λ_ q=>q) λ_ _ q=>q
   rcases hc with rfl|hc
   ·exact tr c u hb z v q
   ·exact tr c _ hc (λw=>by rw [w,h1] at hc;cases hc) v q
 have SE:H T=none:=I.hok.fresh hT;have Jx:∀c o,s.heap.get? c=some o→c≠T:=λc o hc z=>absurd (dS (Heap.lt_size hc) hT) (by rw [z];exact gE _)
 have fin:∀ch:List Addr,(∀b,tb= .ref b→b∈ch)→(∀b∈ch,(b∈X.ex∨X.s₀.heap.objs.size≤b)∧b≠X.env.locals∧(∀x c,X.env.cells.lookup x=some c→c≠b)∧∀p∈X.pn++ [],p.1≠b)→Inv X [] σ H {s with heap:=h'}:=λch h5 h6=>by
  refine I.wC (s':={s with heap:=h'}) (ch:=ch) rfl ⟨λb o e n hb hc=>?_,λb o e n _ hc=>?_,λb o _ n _=>n,λb o e _=>?_,λ_ _ q=>q,λ_ _ _ q=>q,λ_ ps q=>⟨#[],by rw [q];simp⟩⟩ hok I.bare h6
  ·exact k2 b o e (λz=>by rw [z,h1] at n;cases n) (λz=>hc (h5 b z)) (by rw [←iH];exact hb)
  ·exact k1 b o e (λz=>by rw [z,h1] at n;cases n) (λz=>hc (h5 b z))
  ·by_cases z:b=a
   ·exact ⟨_,by rw [z];exact ha⟩
   ·exact k0 b o e z
 have I':Inv X [] σ H {s with heap:=h'}:=by
  rcases h3 with q| ⟨T0,q,q2,q3,q4,q5,q6,q7⟩
  ·exact fin [] (λb z=>by rw [q] at z;cases z) λb z=>absurd z (by simp)
  ·refine fin [T0] (λb z=>by rw [q] at z;cases z;exact di ..) λb z=>?_
   have:b=T0:=by simpa using z
   subst this;exact ⟨.inr q2,q3,q4,λp hp=>q5 p (by rw [iV] at hp;exact hp)⟩
 refine h _ I' ⟨C,t, .ref T,d,h1,ha, .inr ⟨T,rfl,fz I.sz hT,?_,λx c hc=>?_,λp hp=>?_,SE,SJ⟩⟩
 ·obtain ⟨m,⟨o,_,_,ho,_⟩,_⟩:=I.loc
  exact (Jx _ _ ho).symm
 ·obtain ⟨v,o,ho,_⟩:=I.cell x c hc
  exact Jx _ _ ho
 ·exact Jx _ _ (I.pin p (kc _ hp)).1
end
def yq(X:Cx)(σ:St)(H:Hp)(a:Addr):Prop:=∀s,Inv X [] σ H s→pE X H s a→X.xe (.ref a) s
theorem B6{P:Program}{w:World}{K:PySem.W.Frag}{mg:Str→Option Value}{base:Heap}{N:List Str}{qual:Str}{scope:Scope}{f:Addr}{cd:Value}{A:Around}{outer:List Env}{s s':Shared}{H H':Hp}{E:XK}{σ:St}{a:Addr}
  (I:Inv (gM (qT P w) P w K mg base N qual scope f cd A outer s H E) [] σ H' s') (fl:pE (gM (qT P w) P w K mg base N qual scope f cd A outer s H E) H' s' a) (h:E (.ref a) none H'):(gM (qT P w) P w K mg base N qual scope f cd A outer s H E).xe (.ref a) s':=by
 show wpAny _ _ (leaving _ _) _ _ _;unfold leaving;refine wpAny_bind (sD (X:=gM (qT P w) P w K mg base N qual scope f cd A outer s H E) rfl rfl I fl λs2 I2 ⟨C,t,tb,d,h1,h2,h3⟩=>?_);exact ⟨a,H',rfl,⟨I2.os,I2.bare,I2.base,I2.hok,C,t,tb,d,h1,h2,h3.imp id λ⟨T,e1,e2,_,_,_,e6,e7⟩=>⟨T,e1,e2,e6,e7⟩⟩,h⟩
theorem p0:∀a:List Int,HT.lexLt a a=false
 | []=>rfl
 |x::xs=>by rw [HT.jY,if_pos rfl];exact p0 xs
theorem yH:∀a b c:List Int,HT.lexLt a b=true→HT.lexLt b c=true→HT.lexLt a c=true
 | [],[],_,h,_=>by cases h
 | [],_::_,[],_,h=>by cases h
 | [],_::_,_::_,_,_=>rfl
 |_::_,[],_,h,_=>by cases h
 |_::_,_::_,[],_,h=>by cases h
 |x::xs,y::ys,z::zs,h1,h2=>by
  rw [HT.jY] at*
  by_cases e1:x=y
  ·rw [if_pos e1] at h1
   by_cases e2:y=z
   ·rw [if_pos e2] at h2
    rw [if_pos (e1.trans e2)];exact yH xs ys zs h1 h2
   ·rw [if_neg e2] at h2
    rw [if_neg (by rw [e1];exact e2),e1];exact h2
  ·rw [if_neg e1] at h1
   have l1:=of_decide_eq_true h1
   by_cases e2:y=z
   ·rw [if_neg (by rw [←e2];exact e1),←e2];exact h1
   ·rw [if_neg e2] at h2
    have l2:=of_decide_eq_true h2;rw [if_neg (by omega)]
    exact decide_eq_true (by omega)
section
variable {X:Cx}
end
end L2
namespace PySem.SetTable
def Kj(xs:Array Nat):Prop:=∀i j (hj:j<xs.size),i<j→xs[i]! <xs[j]!
def Q4(mask:Nat)(p:Probe):Probe:=
 if p.more>0 then {p with j:=p.j+1,more:=p.more-1} else
 let (i,perturb):=leap mask p.i p.perturb
 {p with j:=i,more:=runEnd mask i-i,i,perturb}
def W0(mask:Nat)(h:Int):Probe:={j:=bits h%(mask+1),more:=runEnd mask (bits h%(mask+1))-bits h%(mask+1),i:=bits h%(mask+1),perturb:=bits h,dummy:=none}
def P4(mask:Nat)(h:Int):Nat→Probe
 |0=>W0 mask h
 |k+1=>Q4 mask (P4 mask h k)
def PX(mask:Nat)(h:Int)(k:Nat):Nat:=(P4 mask h k).j
def Qy(mask:Nat):Prop:=mask=7∨mask=31∨mask=127∨mask=511
structure QI (t:SetTable) (hs:List Int):Prop where
 few:Qy t.mask
 dum:t.dummies= #[]
 rise:Kj t.place
 size:t.place.size=hs.length
 le:∀(i j:Nat),t.place[i]? =some j→j≤t.mask
 room:t.place.size≤t.mask
 path:∀(i:Nat)(h:Int),hs[i]? =some h→∃k,t.place[i]? =some (PX t.mask h k)∧∀k',k'<k→∃i':Nat,t.place[i']? =some (PX t.mask h k')
end PySem.SetTable
namespace PySem
open SetTable PyProof.Rows
structure Gh (bt:Bool) (o:Obj) (es:Array (Int×Value)) (ep:Nat) (t:SetTable):Prop where
 ex:o.ExactSet
 dat:o.data= .set es ep t
 tok:QI t (es.toList.map (·.1))
 pl:t.plain=true
 ld:t.led= !bt
 few:5*es.size<3*t.mask
end PySem
namespace L2
open PySem PySem.Spec PyProof.Rows
inductive FV where
 |int (i:Int) |bl (b:Bool)
inductive XD where
 |Hh (b:Bool) (ps:List (Int×Int)) |Hg (ks:List (Int×Int)) (vs:List FV)
inductive D where
 |aN|bl (b:Bool) |int (i:Int) |str (x:Str) |lst (l:List D) |tup (l:List D) |jq (ns:List Int) |rng (lo hi:Int) |obj (a:Addr) |fb (w:List (List Nat)) |set (b:Bool) (l:List Int) |x (k:XD) |err (C:Addr) (ks:List Str) (l:List D)
structure DC where
 K:PySem.W.Frag
 C:Addr
def aw(n:Nat):D:= .int n
def aQ(r:List Nat):D:= .lst (r.map aw)
def aX(w:List (List Nat)):D:= .lst (w.map aQ)
def Kf(es:Array (Int×Value))(ns:List Int):Prop:=(∀e∈es.toList,∃k t,e=(hashInt k,Value.int k t))∧ns.Nodup∧∃ms,IntsAre (es.toList.map (·.2)) ms∧ms.Perm ns
def Gi(b:Bool)(a:Addr)(ns:List Int)(h:Heap):Prop:=∃o es ep t,h.get? a=some o∧Gh b o es ep t∧Kf es ns
def AG(p:Int×Int):Int:=reduceHash (Builtin.Tuple.tupleHashOf [hashInt p.1,hashInt p.2])
inductive uF (H:Hp):List (Int×Addr)→List (Int×Int)→Prop
 |nil:uF H [] []
 |cons {a:Addr} {p:Int×Int} {es:List (Int×Addr)} {ps:List (Int×Int)}:H a=some (.tup [.int p.1, .int p.2])→uF H es ps→uF H ((AG p,a)::es) (p::ps)
theorem uF.mono{H H':Hp}(s:aH H H'):∀{es:List (Int×Addr)}{ps:List (Int×Int)},uF H es ps→uF H' es ps
 |_,_, .nil=> .nil
 |_,_, .cons h t=> .cons (s _ _ h) (t.mono s)
def Hs(b:Bool)(a:Addr)(es:List (Int×Addr))(h:Heap):Prop:=∃o eA ep t,h.get? a=some o∧Gh b o eA ep t∧eA.toList.Perm (es.map λe=>(e.1,Value.ref e.2))
def Qz:FV→Value→Prop
 | .int i,v=>∃t,v= .int i t
 | .bl b,v=>v= .bool b
inductive Ef:List DictEntry→List (Int×Addr)→List FV→Prop
 |nil:Ef [] [] []
 |cons {e:DictEntry} {l:List DictEntry} {h:Int} {a:Addr} {v:FV} {es:List (Int×Addr)} {vs:List FV}:e.hash=h→e.key= .ref a→Qz v e.val→Ef l es vs→Ef (e::l) ((h,a)::es) (v::vs)
def Hq(a:Addr)(es:List (Int×Addr))(vs:List FV)(h:Heap):Prop:=(a==sysModules)=false∧∃o eA ep,h.get? a=some o∧o.ExactDict∧o.data= .dict eA ep∧Ef eA.toList es vs
def Bk(H:Hp)(a:Addr)(φ:Heap→Prop):XD→Prop
 | .Hh b ps=>ps.Nodup∧∃es,φ=Hs b a es∧uF H es ps
 | .Hg ks vs=>ks.Nodup∧∃es,φ=Hq a es vs∧uF H es ks
theorem Bk.mono{H H':Hp}(s:aH H H'){a:Addr}{φ:Heap→Prop}:∀{k:XD},Bk H a φ k→Bk H' a φ k
 | .Hh _ _,⟨n,es,e,p⟩=>⟨n,es,e,p.mono s⟩
 | .Hg _ _,⟨n,es,e,p⟩=>⟨n,es,e,p.mono s⟩
def Ei(H:Hp)(od:Option Addr)(ks:List Str)(xs:List V):Prop:=(od=none∧ks= []∧xs= [])∨∃dx,od=some dx∧H dx=some (tD dx (ks.zip xs))∧ks.length=xs.length
theorem Ei.mono{H H':Hp}(s:aH H H'){od:Option Addr}{ks:List Str}{xs:List V}(h:Ei H od ks xs):Ei H' od ks xs:=h.imp id λ⟨dx,a,b,c⟩=>⟨dx,a,s _ _ b,c⟩
mutual
inductive Dv (Z:DC) (H:Hp):V→D→Prop
 |aN:Dv Z H .aN .aN
 |bl (b:Bool):Dv Z H (.bl b) (.bl b)
 |int (i:Int):Dv Z H (.int i) (.int i)
 |str (x:Str) (h:PyData.strOk x=true):Dv Z H (.str x) (.str x)
 |lst {a:Addr} {xs:List V} {ds:List D}:H a=some (.lst xs)→ao Z H xs ds→Dv Z H (.ref a) (.lst ds)
 |tup {a:Addr} {xs:List V} {ds:List D}:H a=some (.tup xs)→ao Z H xs ds→Dv Z H (.ref a) (.tup ds)
 |obj (a:Addr):Dv Z H (.ref a) (.obj a)
 |rng {a:Addr} {lo hi:Int}:H a=some (.rng lo hi)→Dv Z H (.ref a) (.rng lo hi)
 |jq {a:Addr} {ns:List Int}:bb Z.K H a (ns.map V.int)→ns.length≤63→Dv Z H (.ref a) (.jq ns)
 |fb {p dx R:Addr} {w:List (List Nat)}:H p=some (.ins Z.C dx [("rows", .ref R)])→Dv Z H (.ref R) (aX w)→Wb.Good w→1≤w.length→w.length≤14→Dv Z H (.ref p) (.fb w)
 |set {a:Addr} {b:Bool} {ns:List Int}:H a=some (.ext (Gi b a ns))→Dv Z H (.ref a) (.set b ns)
 |x {a:Addr} {φ:Heap→Prop} {k:XD}:H a=some (.ext φ)→Bk H a φ k→Dv Z H (.ref a) (.x k)
 |err {a C:Addr} {od:Option Addr} {ks:List Str} {xs:List V} {ds:List D}:H a=some (lO C a od)→Ei H od ks xs→ao Z H xs ds→Dv Z H (.ref a) (.err C ks ds)
inductive ao (Z:DC) (H:Hp):List V→List D→Prop
 |nil:ao Z H [] []
 |cons {v:V} {vs:List V} {d:D} {ds:List D}:Dv Z H v d→ao Z H vs ds→ao Z H (v::vs) (d::ds)
end
theorem bb.mono{K:PySem.W.Frag}{H H':Hp}{a:Addr}{xs:List V}(s:aH H H')(h:bb K H a xs):bb K H' a xs:=by
 rcases h with (h| ⟨o,h⟩) |h
 ·exact .inl (.inl (s _ _ h))
 ·exact .inl (.inr ⟨o,s _ _ h⟩)
 ·exact .inr h
section
variable {Z:DC} {H H' G G':Hp}
theorem Dv.ofInt{v:V}{i:Int}(h:Dv Z H v (.int i)):v= .int i:=by cases h;rfl
theorem Dv.Hc{v:V}{b:Bool}(h:Dv Z H v (.bl b)):v= .bl b:=by cases h;rfl
theorem Dv.eG{v:V}{ds:List D}(h:Dv Z H v (.lst ds)):∃a xs,v= .ref a∧H a=some (.lst xs)∧ao Z H xs ds:=by cases h with|lst h e=>exact ⟨_,_,rfl,h,e⟩
theorem Dv.ji{v:V}{ds:List D}(h:Dv Z H v (.tup ds)):∃a xs,v= .ref a∧H a=some (.tup xs)∧ao Z H xs ds:=by cases h with|tup h e=>exact ⟨_,_,rfl,h,e⟩
theorem Dv.C3{v:V}{ns:List Int}(h:Dv Z H v (.jq ns)):∃a,v= .ref a∧bb Z.K H a (ns.map V.int)∧ns.length≤63:=by cases h with|jq h z=>exact ⟨_,rfl,h,z⟩
theorem ao.xN{vs:List V}(h:ao Z H vs []):vs= []:=by cases h;rfl
theorem ao.ud{vs:List V}{d:D}{ds:List D}(h:ao Z H vs (d::ds)):∃v us,vs=v::us∧Dv Z H v d∧ao Z H us ds:=by cases h with|cons a b=>exact ⟨_,_,rfl,a,b⟩
theorem ao.ofOne{vs:List V}{d:D}(h:ao Z H vs [d]):∃v,vs= [v]∧Dv Z H v d:=by
 obtain ⟨v,us,rfl,a,b⟩:=h.ud;rw [b.xN];exact ⟨v,rfl,a⟩
theorem ao.C4{vs:List V}{d e:D}(h:ao Z H vs [d,e]):∃v u,vs= [v,u]∧Dv Z H v d∧Dv Z H u e:=by
 obtain ⟨v,us,rfl,a,b⟩:=h.ud;obtain ⟨u,rfl,c⟩:=b.ofOne;exact ⟨v,u,rfl,a,c⟩
mutual
theorem Dv.mono(s:aH H H'):∀{v:V}{d:D},Dv Z H v d→Dv Z H' v d
 |_,_, .aN=> .aN
 |_,_, .bl b=> .bl b
 |_,_, .int i=> .int i
 |_,_, .str x h=> .str x h
 |_,_, .lst h a=> .lst (s _ _ h) (ao.mono s a)
 |_,_, .tup h a=> .tup (s _ _ h) (ao.mono s a)
 |_,_, .obj a=> .obj a
 |_,_, .rng h=> .rng (s _ _ h)
 |_,_, .jq h z=> .jq (h.mono s) z
 |_,_, .fb h r g a b=> .fb (s _ _ h) (Dv.mono s r) g a b
 |_,_, .set h=> .set (s _ _ h)
 |_,_, .x h k=> .x (s _ _ h) (k.mono s)
 |_,_, .err h k a=> .err (s _ _ h) (k.mono s) (ao.mono s a)
theorem ao.mono(s:aH H H'):∀{vs:List V}{ds:List D},ao Z H vs ds→ao Z H' vs ds
 |_,_, .nil=> .nil
 |_,_, .cons a as=> .cons (Dv.mono s a) (ao.mono s as)
end
theorem ao.length:∀{vs:List V}{ds:List D},ao Z H vs ds→vs.length=ds.length
 |_,_, .nil=>rfl
 |_,_, .cons _ as=>congrArg (·+1) as.length
theorem ao.get:∀{vs:List V}{ds:List D}{i:Nat}{d:D},ao Z H vs ds→ds[i]? =some d→∃v,vs[i]? =some v∧Dv Z H v d
 |_,_,_,_, .nil,e=>by simp at e
 |_,_,0,_, .cons a as,e=>by simp at e;subst e;exact ⟨_,rfl,a⟩
 |_,_,i+1,d, .cons a as,e=>by
  obtain ⟨v,h1,h2⟩:=ao.get (i:=i) (d:=d) as (by simpa using e)
  exact ⟨v,by simpa using h1,h2⟩
theorem ao.vd:∀{vs:List V}{ds:List D}{i:Nat}{v:V},ao Z H vs ds→vs[i]? =some v→∃d,ds[i]? =some d∧Dv Z H v d
 |_,_,_,_, .nil,e=>by simp at e
 |_,_,0,_, .cons a as,e=>by simp at e;subst e;exact ⟨_,rfl,a⟩
 |_,_,i+1,d, .cons a as,e=>by
  obtain ⟨v,h1,h2⟩:=ao.vd (i:=i) (v:=d) as (by simpa using e)
  exact ⟨v,by simpa using h1,h2⟩
theorem ao.append:∀{vs us:List V}{ds es:List D},ao Z H vs ds→ao Z H us es→ao Z H (vs++us) (ds++es)
 |_,_,_,_, .nil,b=>b
 |_,_,_,_, .cons a as,b=> .cons a (as.append b)
theorem ao.take:∀{vs:List V}{ds:List D}(n:Nat),ao Z H vs ds→ao Z H (vs.take n) (ds.take n)
 |_,_,0,_=>by simpa using ao.nil
 |_,_,n+1, .nil=>by simpa using ao.nil
 |_,_,n+1, .cons a as=>by simpa using ao.cons a (as.take n)
theorem ao.drop:∀{vs:List V}{ds:List D}(n:Nat),ao Z H vs ds→ao Z H (vs.drop n) (ds.drop n)
 |_,_,0,h=>h
 |_,_,n+1, .nil=>by simpa using ao.nil
 |_,_,n+1, .cons a as=>by simpa using as.drop n
theorem ao.set{v:V}{d:D}(h:Dv Z H v d):∀{vs:List V}{ds:List D}(n:Nat),ao Z H vs ds→ao Z H (vs.set n v) (ds.set n d)
 |_,_,_, .nil=> .nil
 |_,_,0, .cons a as=> .cons h as
 |_,_,n+1, .cons a as=> .cons a (ao.set h n as)
theorem ao.ints:∀(ns:List Int),ao Z H (ns.map V.int) (ns.map D.int)
 | []=> .nil
 |n::ns=> .cons (.int n) (ao.ints ns)
theorem ao.snoc{vs:List V}{ds:List D}{v:V}{d:D}(a:ao Z H vs ds)(b:Dv Z H v d):ao Z H (vs++ [v]) (ds++ [d]):=a.append (.cons b .nil)
structure Ext (G H G' H':Hp):Prop where
 gg:aH G G'
 sub:aH G' H'
 hh:aH H H'
 off:∀b,H b≠none→G b=none→G' b=none
theorem Ext.refl(s:aH G H):Ext G H G H:=⟨.refl _,s, .refl _,λ_ _ h=>h⟩
theorem Ext.trans{G1 H1 G2 H2:Hp}(a:Ext G H G1 H1)(b:Ext G1 H1 G2 H2):Ext G H G2 H2:=
 ⟨a.gg.trans b.gg,b.sub,a.hh.trans b.hh,λx h g=>b.off x (λz=>by
  cases e:H x with
  |none=>exact h e
  |some o=>rw [a.hh x o e] at z;cases z) (a.off x h g)⟩
theorem Ext.new{p:Addr}{o:HO}(s:aH G H)(h:H p=none):Ext G H (upd G p o) (upd H p o):=by
 have hg:G p=none:=s.free h;refine ⟨aL hg o,λb u e=>?_,aL h o,λb hb hg=>?_⟩
 ·by_cases z:b=p
  ·subst z;rw [ak] at e ⊢;exact e
  ·rw [ah z] at e ⊢;exact s b u e
 ·have:b≠p:=λz=>hb (by rw [z];exact h)
  rw [ah this];exact hg
end
abbrev DN:=List (Option D)
structure bW (Z:DC) (G:Hp) (σ:St) (ρ:DN):Prop where
 len:ρ.length=σ.length
 at_:∀(i:Nat)(d:D),ρ[i]? =some (some d)→∃v,σ[i]? =some (some v)∧Dv Z G v d
section
variable {Z:DC} {G G' H H':Hp} {σ:St} {ρ:DN}
theorem bW.mono(e:bW Z G σ ρ)(s:aH G G'):bW Z G' σ ρ:=⟨e.len,λi d h=>let ⟨v,a,b⟩:=e.at_ i d h;⟨v,a,b.mono s⟩⟩
theorem bW.set{i:Nat}{v:V}{d:D}(e:bW Z G σ ρ)(h:Dv Z G v d):bW Z G (σ.set i (some v)) (ρ.set i (some d)):=by
 refine ⟨by rw [dm,dm];exact e.len,λj c hj=>?_⟩
 by_cases z:i=j
 ·subst z
  by_cases hi:i<ρ.length
  ·rw [gB hi] at hj
   cases hj;exact ⟨v,by rw [gB (by rw [←e.len];exact hi)],h⟩
  ·rw [qP (dU hi)] at hj
   rw [dR (dU hi)] at hj;cases hj
 ·rw [dF z] at hj ⊢
  exact e.at_ j c hj
end
abbrev aR:=DN→(D→Prop)→Prop
abbrev cg:=DN→(Bool→Prop)→Prop
abbrev dZ:=DN→(List D→Prop)→Prop
abbrev dY:=D→D→(D→Prop)→Prop
abbrev cT:=D→DN→(DN→Prop)→Prop
abbrev gH:=DN→(List D→Prop)→Prop
def cx(Z:DC)(t:aR):TE:=λσ H Q=>∃(G:Hp)(ρ:DN)(P:D→Prop),aH G H∧bW Z G σ ρ∧t ρ P∧∀d,P d→∀v G' H',Ext G H G' H'→Dv Z G' v d→Q v H'
def liftT(Z:DC)(t:cg):TT:=λσ H Q=>∃(G:Hp)(ρ:DN)(P:Bool→Prop),aH G H∧bW Z G σ ρ∧t ρ P∧∀b,P b→∀G' H',Ext G H G' H'→Q b H'
def xG(Z:DC)(t:dZ):TA:=λσ H Q=>∃(G:Hp)(ρ:DN)(P:List D→Prop),aH G H∧bW Z G σ ρ∧t ρ P∧∀ds,P ds→∀vs G' H',Ext G H G' H'→ao Z G' vs ds→Q vs H'
def bu(Z:DC)(r:dY):R2:=λx y H Q=>∃(G:Hp)(a b:D)(P:D→Prop),aH G H∧Dv Z G x a∧Dv Z G y b∧r a b P∧∀d,P d→∀v G' H',Ext G H G' H'→Dv Z G' v d→Q v H'
def gi(Z:DC)(r:List D→(D→Prop)→Prop):List V→Hp→VK→Prop:=λvs H Q=>∃(G:Hp)(ds:List D)(P:D→Prop),aH G H∧ao Z G vs ds∧r ds P∧∀d,P d→∀v G' H',Ext G H G' H'→Dv Z G' v d→Q v H'
abbrev bN:=List D→(D→Prop)→Prop
def aC(Z:DC)(sd:bN):Sp:=λvs H Q _=>gi Z sd vs H Q
def DE(Z:DC)(X:Cx)(e:Expr)(t:aR):Prop:=PE X e (cx Z t)
def DT(Z:DC)(X:Cx)(e:Expr)(t:cg):Prop:=PT X e (liftT Z t)
def DA(Z:DC)(X:Cx)(es:List Expr)(t:dZ):Prop:=PA X es (xG Z t)
theorem PE.imp{X:Cx}{e:Expr}{t t':TE}(h:PE X e t)(f:∀σ H Q,t' σ H Q→t σ H Q):PE X e t':=λpins s σ H Q I q=>h pins s σ H Q I (f _ _ _ q)
theorem PT.imp{X:Cx}{e:Expr}{t t':TT}(h:PT X e t)(f:∀σ H Q,t' σ H Q→t σ H Q):PT X e t':=λpins s σ H Q I q=>h pins s σ H Q I (f _ _ _ q)
theorem PW.imp{X:Cx}{e:Expr}{t t':TT}(h:PW X e t)(f:∀σ H Q,t' σ H Q→t σ H Q):PW X e t':=λwh pins s σ H Q I q=>h wh pins s σ H Q I (f _ _ _ q)
theorem PA.imp{X:Cx}{es:List Expr}{t t':TA}(h:PA X es t)(f:∀σ H Q,t' σ H Q→t σ H Q):PA X es t':=λpos pins s σ H Q I q=>h pos pins s σ H Q I (f _ _ _ q)
theorem OpR.imp{X:Cx}{f:Value→Value→Sem Value}{r r':R2}(h:OpR X f r)(g:∀x y H Q,r' x y H Q→r x y H Q):OpR X f r':=λpins s σ H x y v u Q I a b q=>h pins s σ H x y v u Q I a b (g _ _ _ _ q)
theorem bP.imp{X:Cx}{f:Value}{r r':List V→Hp→VK→Prop}(h:bP X f r)(g:∀xs H Q,r' xs H Q→r xs H Q):bP X f r':=λpins s σ H xs us Q I a q=>h pins s σ H xs us Q I a (g _ _ _ q)
def cu(i:Nat):aR:=λρ P=>∃d,ρ[i]? =some (some d)∧P d
def dC(d:D):aR:=λ_ P=>P d
section
variable {Z:DC} {X:Cx}
theorem aa(i:Nat){x:Str}{pos:Pos}(hN:X.N[i]? =some x:=by rfl)(hv:jJ X.env.scope x:=by first|exact Or.inl rfl|exact Or.inr (Or.inl rfl) |exact Or.inr (Or.inr rfl))(hd:(x==("__debug__":Str))=false:=by decide)
  (eB:(x==("__classdict__":Str))=false:=by decide):DE Z X (.Name x pos) (cu i):=
 (yR hN hv hd eB).imp λσ H Q ⟨G,ρ,P,s,e,⟨d,hd,p⟩,q⟩=>let ⟨v,hv,dv⟩:=e.at_ i d hd;⟨v,hv,q d p v G H (.refl s) dv⟩
theorem aq{i j pos}:DE Z X (.Constant (.int i) j pos) (dC (.int i)):=mO.imp λσ H Q ⟨G,ρ,P,s,e,p,q⟩=>q _ p _ G H (.refl s) (.int i)
theorem cw{b j pos}:DE Z X (.Constant (.bool b) j pos) (dC (.bl b)):=JF.imp λσ H Q ⟨G,ρ,P,s,e,p,q⟩=>q _ p _ G H (.refl s) (.bl b)
theorem bw{j pos}:DE Z X (.Constant .none j pos) (dC .aN):=Fu.imp λσ H Q ⟨G,ρ,P,s,e,p,q⟩=>q _ p _ G H (.refl s) .aN
theorem bF{x j pos}(h:PyData.strOk x=true:=by decide+kernel):DE Z X (.Constant (.str x) j pos) (dC (.str x)):=yQ.imp λσ H Q ⟨G,ρ,P,s,e,p,q⟩=>q _ p _ G H (.refl s) (.str x h)
theorem nD{x:Str}{i:Int}{pos:Pos}(hg:Gl X x)(hm:∃tk,X.mg x=some (.int i tk))(hd:(x==("__debug__":Str))=false:=by decide):DE Z X (.Name x pos) (dC (.int i)):=by
 obtain ⟨tk,hm⟩:=hm;exact (vJ hg hm (v:= .int i) ⟨tk,rfl⟩ hd).imp λσ H Q ⟨G,ρ,P,s,e,p,q⟩=>q _ p _ G H (.refl s) (.int i)
def gI(r:dY)(ta tb:aR):aR:=λρ P=>ta ρ λa=>tb ρ λb=>r a b P
variable {a b c:Expr} {ta tb tc:aR} {pos:Pos}
theorem tZ{r:dY}:∀σ H Q,cx Z (gI r ta tb) σ H Q→D5 (bu Z r) (cx Z ta) (cx Z tb) σ H Q:=by
 rintro σ H Q ⟨G,ρ,P,s,e,h,q⟩;refine ⟨G,ρ,_,s,e,h,λa ha v G1 H1 x1 dv=>?_⟩;refine ⟨G1,ρ,_,x1.sub,e.mono x1.gg,ha,λb hb u G2 H2 x2 du=>?_⟩;exact ⟨G2,a,b,P,x2.sub,dv.mono x2.gg,du,hb,λd hd v' G' H' x3 ic=>q d hd v' G' H' ((x1.trans x2).trans x3) ic⟩
theorem az{op:Operator}{r:dY}(ho:OpR X (binaryOp op) (bu Z r))(ha:DE Z X a ta)(hb:DE Z X b tb):DE Z X (.BinOp a op b pos) (gI r ta tb):=(Dj ho ha hb).imp tZ
theorem lU{op:CmpOp}{r:dY}(ho:OpR X (compareOp op) (bu Z r))(ha:DE Z X a ta)(hb:DE Z X b tb)(hm:behindInMarks op b=false):DE Z X (.Compare a [op] [b] pos) (gI r ta tb):=(Dg ho ha hb hm).imp tZ
def wM(t:aR):cg:=λρ P=>t ρ λd=>∃k,d= .bl k∧P k
theorem sE{t:aR}:∀σ H Q,liftT Z (wM t) σ H Q→yf (cx Z t) σ H Q:=by
 rintro σ H Q ⟨G,ρ,P,s,e,h,q⟩;refine ⟨G,ρ,_,s,e,h,?_⟩;rintro _ ⟨k,rfl,p⟩ v G1 H1 x1 dv;cases dv;exact ⟨k,rfl,q k p G1 H1 x1⟩
theorem aD{op:CmpOp}{r:dY}(ho:OpR X (compareOp op) (bu Z r))(ha:DE Z X a ta)(hb:DE Z X b tb)(hm:behindInMarks op b=false):DT Z X (.Compare a [op] [b] pos) (wM (gI r ta tb)):=
 (vM ho ha hb hm).imp λσ H Q h=>by
  obtain h:=sE σ H Q h;exact tZ σ H _ h
def tK(r r':dY)(ta tb tc:aR):aR:=λρ P=>ta ρ λx=>tb ρ λy=>r x y λz=>∃k,z= .bl k∧(if k=true then tc ρ λw'=>r' y w' P else P (.bl false))
theorem p5{r r':dY}:∀σ H Q,cx Z (tK r r' ta tb tc) σ H Q→ux (bu Z r) (bu Z r') (cx Z ta) (cx Z tb) (cx Z tc) σ H Q:=by
 rintro σ H Q ⟨G,ρ,P,s,e,h,q⟩;refine ⟨G,ρ,_,s,e,h,λa ha v G1 H1 x1 dv=>?_⟩;refine ⟨G1,ρ,_,x1.sub,e.mono x1.gg,ha,λb hb u G2 H2 x2 du=>?_⟩;refine ⟨G2,a,b,_,x2.sub,dv.mono x2.gg,du,hb,?_⟩;rintro _ ⟨k,rfl,hk⟩ v' G3 H3 x3 ic;cases ic;refine ⟨k,rfl,?_⟩;have x:=(x1.trans x2).trans x3;cases k with
 |false=>exact aI (q _ hk _ G3 H3 x (.bl false))
 |true=>
  refine aU ⟨G3,ρ,_,x3.sub,e.mono x.gg,hk,λc hc w' G4 H4 x4 dw=>?_⟩;exact ⟨G4,b,c,P,x4.sub,(du.mono x3.gg).mono x4.gg,dw,hc,λd hd W7 G' H' x5 d5=>q d hd W7 G' H' ((x.trans x4).trans x5) d5⟩
theorem zF{op lH:CmpOp}{r r':dY}(ho:OpR X (compareOp op) (bu Z r))(lh:OpR X (compareOp lH) (bu Z r'))(ha:DE Z X a ta)(hb:DE Z X b tb)(hc:DE Z X c tc)
  (hm:lastMarks [op,lH] [b,c]=false:=by with_unfolding_all rfl):DE Z X (.Compare a [op,lH] [b,c] pos) (tK r r' ta tb tc):=(AH ho lh ha hb hc hm).imp p5
theorem rU{op lH:CmpOp}{r r':dY}(ho:OpR X (compareOp op) (bu Z r))(lh:OpR X (compareOp lH) (bu Z r'))(ha:DE Z X a ta)(hb:DE Z X b tb)(hc:DE Z X c tc)
  (hm:lastMarks [op,lH] [b,c]=false:=by with_unfolding_all rfl):DT Z X (.Compare a [op,lH] [b,c] pos) (wM (tK r r' ta tb tc)):=
 (AR ho lh ha hb hc hm).imp λσ H Q h=>by
  obtain h:=sE σ H Q h;exact p5 σ H _ h
def kO:D→Bool
 | .aN=>false
 | .bl b=>b
 | .int i=>i !=0
 | .str x=>x.length !=0
 | .lst l=>!l.isEmpty
 | .tup l=>!l.isEmpty
 | .jq l=>!l.isEmpty
 | .rng lo hi=>decide (lo<hi)
 | .obj _=>true
 | .fb _=>true
 | .set _ l=>!l.isEmpty
 | .x _=>true
 | .err _ _ _=>true
def GZ:D→Bool
 | .bl _=>true
 | .int _=>true
 | .lst _=>true
 | .tup _=>true
 | .aN=>true
 |_=>false
def LI(t:aR):cg:=λρ P=>t ρ λd=>GZ d=true∧P (kO d)
theorem gS{G:Hp}{vs:List V}{ds:List D}(h:ao Z G vs ds):vs.isEmpty=ds.isEmpty:=by cases h<;>rfl
theorem bY(ha:DE Z X a ta)(he:∀whole,isTrue a X.env whole=(do let v ←whole;standAt a.pos;holding [v] (truthy v)):=by intro _;rfl):DT Z X a (LI ta):=by
 refine (AS ha he).imp ?_;rintro σ H Q ⟨G,ρ,P,s,e,h,q⟩;refine ⟨G,ρ,_,s,e,h,?_⟩;rintro d ⟨hd,p⟩ v G1 H1 x1 dv;refine ⟨kO d,?_,q _ p G1 H1 x1⟩;cases dv with
 |aN=>rfl
 |bl b=>rfl
 |int i=>rfl
 |lst h a=>exact .inl ⟨_,bb.of (x1.sub _ _ h),by rw [gS a];rfl⟩
 |tup h a=>exact .inr (.inl ⟨_,cj.of (x1.sub _ _ h),by rw [gS a];rfl⟩)
 |_=>cases hd
def Lr(t u:cg):cg:=λρ P=>t ρ λc=>if c=true then u ρ P else P false
def RW(t u:cg):cg:=λρ P=>t ρ λc=>if c=true then P true else u ρ P
def LA(t:cg):cg:=λρ P=>t ρ λc=>P (!c)
variable {tA uw:cg} {rest:List Expr}
def DW(Z:DC)(X:Cx)(e:Expr)(t:cg):Prop:=PW X e (liftT Z t)
theorem DW.dt{e:Expr}{t:cg}(h:DW Z X e t):DT Z X e t:=PW.pt h
theorem iG(ha:DT Z X a tA):DW Z X (.BoolOp .And [a] pos) tA:=Du ha
theorem ja(ha:DT Z X a tA):DW Z X (.BoolOp .Or [a] pos) tA:=FF ha
theorem gO(ha:DT Z X a tA)(hb:DW Z X (.BoolOp .And (b::rest) pos) uw):DW Z X (.BoolOp .And (a::b::rest) pos) (Lr tA uw):=by
 refine (FE ha hb).imp ?_;rintro σ H Q ⟨G,ρ,P,s,e,h,q⟩;refine ⟨G,ρ,_,s,e,h,λc hc G1 H1 x1=>?_⟩;cases c with
 |true=>exact aU ⟨G1,ρ,P,x1.sub,e.mono x1.gg,hc,λb hb G2 H2 x2=>q b hb G2 H2 (x1.trans x2)⟩
 |false=>exact aI (q _ hc G1 H1 x1)
theorem jP(ha:DT Z X a tA)(hb:DW Z X (.BoolOp .Or (b::rest) pos) uw):DW Z X (.BoolOp .Or (a::b::rest) pos) (RW tA uw):=by
 refine (JI ha hb).imp ?_;rintro σ H Q ⟨G,ρ,P,s,e,h,q⟩;refine ⟨G,ρ,_,s,e,h,λc hc G1 H1 x1=>?_⟩;cases c with
 |false=>exact aI ⟨G1,ρ,P,x1.sub,e.mono x1.gg,hc,λb hb G2 H2 x2=>q b hb G2 H2 (x1.trans x2)⟩
 |true=>exact aU (q _ hc G1 H1 x1)
theorem cY(ha:DT Z X a tA):DT Z X (.UnaryOp .Not a pos) (LA tA):=by
 refine (FC ha).imp ?_;rintro σ H Q ⟨G,ρ,P,s,e,h,q⟩;exact ⟨G,ρ,_,s,e,h,λc hc G1 H1 x1=>q _ hc G1 H1 x1⟩
def HY(ta tb:aR):aR:=λρ P=>ta ρ λx=>∃c,x= .bl c∧if c=true then tb ρ P else P (.bl false)
def LB(ta tb:aR):aR:=λρ P=>ta ρ λx=>∃c,x= .bl c∧if c=true then P (.bl true) else tb ρ P
def Il(ta:aR):aR:=λρ P=>ta ρ λx=>∃c,x= .bl c∧P (.bl (!c))
theorem ph{op}(h:DE Z X a ta):DE Z X (.BoolOp op [a] pos) ta:=Fw h
theorem pf(ha:DE Z X a ta)(hb:DE Z X (.BoolOp .And (b::rest) pos) tb):DE Z X (.BoolOp .And (a::b::rest) pos) (HY ta tb):=by
 refine (Fq ha hb).imp ?_;rintro σ H Q ⟨G,ρ,P,s,e,h,q⟩;refine ⟨G,ρ,_,s,e,h,?_⟩;rintro _ ⟨c,rfl,hc⟩ v G1 H1 x1 dv;cases dv;refine ⟨c,rfl,?_⟩;cases c with
 |true=>exact aU ⟨G1,ρ,P,x1.sub,e.mono x1.gg,hc,λb hb v G2 H2 x2 d2=>q b hb v G2 H2 (x1.trans x2) d2⟩
 |false=>exact aI (q _ hc _ G1 H1 x1 (.bl false))
theorem BM(ha:DE Z X a ta)(hb:DE Z X (.BoolOp .Or (b::rest) pos) tb):DE Z X (.BoolOp .Or (a::b::rest) pos) (LB ta tb):=by
 refine (JH ha hb).imp ?_;rintro σ H Q ⟨G,ρ,P,s,e,h,q⟩;refine ⟨G,ρ,_,s,e,h,?_⟩;rintro _ ⟨c,rfl,hc⟩ v G1 H1 x1 dv;cases dv;refine ⟨c,rfl,?_⟩;cases c with
 |false=>exact aI ⟨G1,ρ,P,x1.sub,e.mono x1.gg,hc,λb hb v G2 H2 x2 d2=>q b hb v G2 H2 (x1.trans x2) d2⟩
 |true=>exact aU (q _ hc _ G1 H1 x1 (.bl true))
theorem Er(ha:DE Z X a ta):DE Z X (.UnaryOp .Not a pos) (Il ta):=by
 refine (Fv ha).imp ?_;rintro σ H Q ⟨G,ρ,P,s,e,h,q⟩;refine ⟨G,ρ,_,s,e,h,?_⟩;rintro _ ⟨c,rfl,hc⟩ v G1 H1 x1 dv;cases dv;exact ⟨c,rfl,q _ hc _ G1 H1 x1 (.bl _)⟩
def RU(t:cg)(ta tb:aR):aR:=λρ P=>t ρ λc=>if c=true then ta ρ P else tb ρ P
theorem wN{c:Expr}(hc:DT Z X c tA)(ha:DE Z X a ta)(hb:DE Z X b tb):DE Z X (.IfExp c a b pos) (RU tA ta tb):=by
 refine (AI hc ha hb).imp ?_;rintro σ H Q ⟨G,ρ,P,s,e,h,q⟩;refine ⟨G,ρ,_,s,e,h,λc hc G1 H1 x1=>?_⟩;cases c with
 |true=>exact aU ⟨G1,ρ,P,x1.sub,e.mono x1.gg,hc,λb hb v G2 H2 x2 d2=>q b hb v G2 H2 (x1.trans x2) d2⟩
 |false=>exact aI ⟨G1,ρ,P,x1.sub,e.mono x1.gg,hc,λb hb v G2 H2 x2 d2=>q b hb v G2 H2 (x1.trans x2) d2⟩
def eO:dZ:=λ_ P=>P []
def jM(ta:aR)(t:dZ):dZ:=λρ P=>ta ρ λx=>t ρ λxs=>P (x::xs)
variable {es:List Expr} {t:dZ} {e:Expr}
theorem af:DA Z X [] eO:=bj.imp λσ H Q ⟨G,ρ,P,s,e,p,q⟩=>q _ p _ G H (.refl s) .nil
theorem ae(ha:DE Z X e ta)(hr:DA Z X es t)(hs:starEach (e::es) X.env=(false,eval e X.env)::starEach es X.env:=by rfl):DA Z X (e::es) (jM ta t):=by
 refine (aG ha hr hs).imp ?_;rintro σ H Q ⟨G,ρ,P,s,e,h,q⟩;refine ⟨G,ρ,_,s,e,h,λa ha v G1 H1 x1 dv=>?_⟩;exact ⟨G1,ρ,_,x1.sub,e.mono x1.gg,ha,λds hd vs G2 H2 x2 bc=>q _ hd _ G2 H2 (x1.trans x2) (.cons (dv.mono x2.gg) bc)⟩
def LK(t:dZ):aR:=λρ P=>t ρ λxs=>xs.length≤sizeLine∧P (.tup xs)
def Ly(t:dZ):aR:=λρ P=>t ρ λxs=>xs.length≤sizeLine∧P (.lst xs)
theorem cW{x1}(h:DA Z X es t):DE Z X (.Tuple es x1 pos) (LK t):=by
 refine (uh h).imp ?_;rintro σ H Q ⟨G,ρ,P,s,e,h,q⟩;refine ⟨G,ρ,_,s,e,h,?_⟩;rintro ds ⟨hl,hp⟩ vs G1 H1 x1 bc;exact ⟨by rw [bc.length];exact hl,λp rk=>q _ hp _ _ _ (x1.trans (.new x1.sub rk)) (.tup ak (bc.mono (aL (x1.sub.free rk) _)))⟩
theorem gN(h:DA Z X es t):DE Z X (.List es pos) (Ly t):=by
 refine (mP h).imp ?_;rintro σ H Q ⟨G,ρ,P,s,e,h,q⟩;refine ⟨G,ρ,_,s,e,h,?_⟩;rintro ds ⟨hl,hp⟩ vs G1 H1 x1 bc;exact ⟨by rw [bc.length];exact hl,λp rk=>q _ hp _ _ _ (x1.trans (.new x1.sub rk)) (.lst ak (bc.mono (aL (x1.sub.free rk) _)))⟩
def fV(r:List D→(D→Prop)→Prop)(t:dZ):aR:=λρ P=>t ρ λds=>r ds P
theorem nP{r:List D→(D→Prop)→Prop}:∀σ H Q,cx Z (fV r t) σ H Q→xG Z t σ H λvs H1=>gi Z r vs H1 Q:=by
 rintro σ H Q ⟨G,ρ,P,s,e,h,q⟩;exact ⟨G,ρ,_,s,e,h,λds hd vs G1 H1 x1 bc=>⟨G1,ds,P,x1.sub,bc,hd,λd hp v G2 H2 x2 dv=>q d hp v G2 H2 (x1.trans x2) dv⟩⟩
theorem BJ{sd:bN}{k:Nat}{f:Addr}{fd:FuncData}{ps:List Str}{x:Str}{p:Pos}(F:FnOk X.prog X.w X.K X.mg X.base br k f fd ps (aC Z sd))(hr:bC k X.A)(hg:Gl X x)(hm:X.mg x=some (.ref f))(hk:PySem.W.keepIn X.K (.ref f)=true)(hb:Binds X.K fd ps [])
  (ha:DA Z X (e::es) t) (dj:(x==("__debug__":Str))=false:=by decide) (he:starEach (e::es) X.env=(false,eval e X.env)::starEach es X.env:=by rfl) (bU:(backTo pos (starEach es X.env)).any (·.1)=false:=by rfl):
  DE Z X (.Call (.Name x p) (e::es) [] pos) (fV sd t):=
 (mN F hr hg hm hk hb .nil lI ha dj he bU).imp λσ H Q h=>by
  have h:=nP σ H Q h;obtain ⟨G,ρ,P,s,e,h,q⟩:=h;exact ⟨G,ρ,P,s,e,h,λds hd vs G1 H1 x1 bc=>by show aC Z sd (vs++ []) H1 Q E0;rw [iV];exact q ds hd vs G1 H1 x1 bc⟩
theorem aJ{id:String}{x:Str}{p:Pos}{r:List D→(D→Prop)→Prop}(hc:bP X (.builtin id) (gi Z r))(hg:Gl X x)(hm:X.mg x=none)(hv:bootBuiltins x=some (.builtin id))(ha:DA Z X (e::es) t)(hn:x≠"__name__":=by decide)(dj:(x==("__debug__":Str))=false:=by decide)
  (he:starEach (e::es) X.env=(false,eval e X.env)::starEach es X.env:=by rfl) (bU:(backTo pos (starEach es X.env)).any (·.1)=false:=by rfl):
  DE Z X (.Call (.Name x p) (e::es) [] pos) (fV r t):=(eY hc hg hm hv ha hn dj he bU).imp nP
theorem b6{T:String}{x:Str}{p:Pos}{r:List D→(D→Prop)→Prop}(hc:bP X (.type T) (gi Z r))(hg:Gl X x)(hm:X.mg x=none)(hv:bootBuiltins x=some (.type T))(ha:DA Z X (e::es) t)(hn:x≠"__name__":=by decide)(dj:(x==("__debug__":Str))=false:=by decide)
  (he:starEach (e::es) X.env=(false,eval e X.env)::starEach es X.env:=by rfl) (bU:(backTo pos (starEach es X.env)).any (·.1)=false:=by rfl):
  DE Z X (.Call (.Name x p) (e::es) [] pos) (fV r t):=(lJ hc hg hm hv ha hn dj he bU).imp nP
end
end L2
namespace L2
open PySem PySem.Spec PyProof.Rows
section
variable {Z:DC} {X:Cx}
def rR:dY:=λx y P=>match x,y with
 | .int i, .int j=>P (.int (i+j))
 | .lst a, .lst b=>a.length+b.length≤sizeLine∧P (.lst (a++b))
 | .tup a, .tup b=>a≠ []∧a.length+b.length≤sizeLine∧b≠ []∧P (.tup (a++b))
 |_,_=>False
def dI(c:Int→Int→Prop)(g:Int→Int→Int):dY:=λx y P=>match x,y with
 | .int i, .int j=>c i j∧P (.int (g i j))
 |_,_=>False
def Ih(g:Int→Int→Int):dY:=λx y P=>match x,y with
 | .int i, .int j=>P (.int (g i j))
 |_,_=>False
def LH:dY:=Ih λi j=>i-j
def GO:dY:=λx y P=>match x,y with
 | .int i, .int j=>yo i j∧P (.int (i*j))
 | .lst a, .int k=> -(2^63)≤k∧k<2^63∧a.length*k.toNat≤sizeLine∧P (.lst (List.replicate k.toNat a).flatten)
 |_,_=>False
def lT:dY:=dI Gb λi j=>i / j
def GN:dY:=dI (λ_ j=>0<j) λi j=>i%j
def LD:dY:=dI Gd λi j=>i^j.toNat
theorem t8{f:Value→Value→Sem Value}{c:Int→Int→Prop}{g:Int→Int→Int}(h:OpR X f (rI c λi j=> .int (g i j))):OpR X f (bu Z (dI c g)):=by
 refine h.imp ?_;rintro x y H Q ⟨G,a,b,P,s,da,db,hr,q⟩;unfold dI at hr
 split at hr
 ·exact ⟨_,_,da.ofInt,db.ofInt,hr.1,q _ hr.2 _ G H (.refl s) (.int _)⟩
 ·exact hr.elim
theorem E3{f:Value→Value→Sem Value}{g:Int→Int→Int}(h:OpR X f (uq λi j=> .int (g i j))):OpR X f (bu Z (Ih g)):=by
 refine h.imp ?_;rintro x y H Q ⟨G,a,b,P,s,da,db,hr,q⟩;unfold Ih at hr
 split at hr
 ·exact ⟨_,_,da.ofInt,db.ofInt,q _ hr _ G H (.refl s) (.int _)⟩
 ·exact hr.elim
theorem mE:OpR X (binaryOp .Sub) (bu Z LH):=E3 Fp
theorem bS:OpR X (binaryOp .FloorDiv) (bu Z lT):=t8 Dc
theorem bJ:OpR X (binaryOp .Mod) (bu Z GN):=t8 Fj
theorem uc:OpR X (binaryOp .Pow) (bu Z LD):=t8 Fn
theorem cf(e:X.K=Z.K:=by rfl):OpR X (binaryOp .Add) (bu Z rR):=by
 refine (yP.or (Fg.or (C9))).imp ?_;rintro x y H Q ⟨G,a,b,P,s,da,db,hr,q⟩;unfold rR at hr
 split at hr
 ·exact .inl ⟨_,_,da.ofInt,db.ofInt,q _ hr _ G H (.refl s) (.int _)⟩
 ·obtain ⟨a1,Qm,rfl,h1,e1⟩:=da.eG
  obtain ⟨a2,W8,rfl,h2,e2⟩:=db.eG;obtain ⟨hz,hp⟩:=hr;refine .inr (.inl ⟨_,_,_,_,rfl,rfl,s _ _ h1,s _ _ h2,by rw [e1.length,e2.length];exact hz,λp hn=>?_⟩)
  exact q _ hp _ _ _ (.new s hn) (.lst ak ((e1.append e2).mono (aL (s.free hn) _)))
 ·obtain ⟨a1,Qm,rfl,h1,e1⟩:=da.ji
  obtain ⟨a2,W8,rfl,h2,e2⟩:=db.ji;obtain ⟨h0,hz,Sx,hp⟩:=hr;refine .inr (.inr ⟨_,_,_,_,rfl,rfl,cj.of (s _ _ h1),cj.of (s _ _ h2),?_,by rw [e1.length,e2.length];exact hz,?_⟩)
  ·rintro rfl;cases e1;exact h0 rfl
  ·refine ⟨?_,λ_ p hn=>q _ hp _ _ _ (.new s hn) (.tup ak ((e1.append e2).mono (aL (s.free hn) _)))⟩
   rintro rfl;cases e2;exact (Sx rfl).elim
 ·exact hr.elim
theorem ao.rep{G:Hp}{vs:List V}{ds:List D}(h:ao Z G vs ds):∀k:Nat,ao Z G (List.replicate k vs).flatten (List.replicate k ds).flatten
 |0=> .nil
 |k+1=>by rw [qQ,qQ,sY,sY];exact h.append (ao.rep h k)
theorem yO:OpR X (binaryOp .Mult) (bu Z GO):=by
 refine (Fl.or Fo).imp ?_;rintro x y H Q ⟨G,a,b,P,s,da,db,hr,q⟩;unfold GO at hr
 split at hr
 ·exact .inl ⟨_,_,da.ofInt,db.ofInt,hr.1,q _ hr.2 _ G H (.refl s) (.int _)⟩
 ·obtain ⟨a1,Qm,rfl,h1,e1⟩:=da.eG
  obtain ⟨h0,h9,hz,hp⟩:=hr;refine .inr ⟨_,_,_,rfl,db.ofInt,s _ _ h1,h0,h9,by rw [e1.length];exact hz,λp hn=>?_⟩
  exact q _ hp _ _ _ (.new s hn) (.lst ak ((e1.rep _).mono (aL (s.free hn) _)))
 ·exact hr.elim
mutual
def D.py:D→Option PyData
 | .aN=>some .none
 | .bl b=>some (.bool b)
 | .int i=>some (.int i)
 | .str x=>some (.str x)
 | .lst l=>(eZ l).map PyData.list
 | .tup l=>(eZ l).map PyData.tuple
 | .jq _=>none
 | .rng _ _=>none
 | .obj _=>none
 | .fb _=>none
 | .set _ _=>none
 | .x _=>none
 | .err _ _ _=>none
def eZ:List D→Option (List PyData)
 | []=>some []
 |d::ds=>(D.py d).bind λa=>(eZ ds).map λas=>a::as
end
mutual
theorem Dv.dp{K:PySem.W.Frag}{G:Hp}:∀{v:V}{d:D}{e:PyData},Dv Z G v d→d.py=some e→Dp K G v e
 |_,_,_, .aN,h=>by simp [D.py] at h;subst h;exact .aN
 |_,_,_, .bl b,h=>by simp [D.py] at h;subst h;exact .bl b
 |_,_,_, .int i,h=>by simp [D.py] at h;subst h;exact .int i
 |_,_,_, .str x k,h=>by simp [D.py] at h;subst h;exact .str x k
 |_,_,_, .lst a as,h=>by
  simp [D.py] at h;obtain ⟨l,h1,rfl⟩:=h;exact .lst (bb.of a) (ao.dp as h1)
 |_,_,_, .tup a as,h=>by
  simp [D.py] at h;obtain ⟨l,h1,rfl⟩:=h;exact .tup (cj.of a) (ao.dp as h1)
 |_,_,_, .jq _ _,h=>by simp [D.py] at h
 |_,_,_, .rng _,h=>by simp [D.py] at h
 |_,_,_, .obj _,h=>by simp [D.py] at h
 |_,_,_, .fb _ _ _ _ _,h=>by simp [D.py] at h
 |_,_,_, .set _,h=>by simp [D.py] at h
 |_,_,_, .x _ _,h=>by simp [D.py] at h
 |_,_,_, .err _ _ _,h=>by simp [D.py] at h
theorem ao.dp{K:PySem.W.Frag}{G:Hp}:∀{vs:List V}{ds:List D}{es:List PyData},ao Z G vs ds→eZ ds=some es→cL K G vs es
 |_,_,_, .nil,h=>by simp [eZ] at h;subst h;exact .nil
 |_,_,_, .cons (d:=d) (ds:=ds) a as,h=>by
  rw [eZ] at h;cases h1:d.py with
  |none=>rw [h1] at h;cases h
  |some x=>
   rw [h1] at h;cases h2:eZ ds with
   |none=>rw [h2] at h;cases h
   |some y=>rw [h2] at h;cases h;exact .cons (Dv.dp a h1) (ao.dp as h2)
end
theorem cj.mono{K:PySem.W.Frag}{H H':Hp}{a:Addr}{xs:List V}(s:aH H H')(h:cj K H a xs):cj K H' a xs:=by
 rcases h with (h| ⟨o,h⟩) |h
 ·exact .inl (.inl (s _ _ h))
 ·exact .inl (.inr ⟨o,s _ _ h⟩)
 ·exact .inr h
mutual
theorem Dp.mono{K:PySem.W.Frag}{G H:Hp}(s:aH G H):∀{v:V}{d:PyData},Dp K G v d→Dp K H v d
 |_,_, .aN=> .aN
 |_,_, .bl b=> .bl b
 |_,_, .int i=> .int i
 |_,_, .str x h=> .str x h
 |_,_, .lst h a=> .lst (h.mono s) (cL.mono s a)
 |_,_, .tup h a=> .tup (h.mono s) (cL.mono s a)
theorem cL.mono{K:PySem.W.Frag}{G H:Hp}(s:aH G H):∀{vs:List V}{ds:List PyData},cL K G vs ds→cL K H vs ds
 |_,_, .nil=> .nil
 |_,_, .cons a as=> .cons (Dp.mono s a) (cL.mono s as)
end
def GJ(neg:Bool):dY:=λx y P=>∃a b,x.py=some a∧y.py=some b∧a.depth≤64∧P (.bl (if neg then !PyData.eqv a b else PyData.eqv a b))
abbrev zB:dY:=GJ false
abbrev BD:dY:=GJ true
theorem eX(hu:X.A.units+64<cLine):OpR X (compareOp .Eq) (bu Z zB):=by
 refine (Fh hu).imp ?_;rintro x y H Q ⟨G,a,b,P,s,da,db,⟨c,d,h1,h2,h3,hp⟩,q⟩;exact ⟨c,d,(da.dp h1).mono s,(db.dp h2).mono s,h3,q _ hp _ G H (.refl s) (.bl _)⟩
theorem lF(hu:X.A.units+64<cLine):OpR X (compareOp .NotEq) (bu Z BD):=by
 refine (Fm hu).imp ?_;rintro x y H Q ⟨G,a,b,P,s,da,db,⟨c,d,h1,h2,h3,hp⟩,q⟩;exact ⟨c,d,(da.dp h1).mono s,(db.dp h2).mono s,h3,q _ hp _ G H (.refl s) (.bl _)⟩
theorem uV{i j:Int}{P:D→Prop}(h:P (.bl (decide (i=j)))):zB (.int i) (.int j) P:=⟨.int i, .int j,rfl,rfl,by simp [PyData.depth],by
 have:PyData.eqv (.int i) (.int j)=decide (i=j):=by
  rw [PyData.eqv]
  by_cases z:i=j<;>simp [z]
 simpa [this] using h⟩
theorem uW{i j:Int}{P:D→Prop}(h:P (.bl (!decide (i=j)))):BD (.int i) (.int j) P:=⟨.int i, .int j,rfl,rfl,by simp [PyData.depth],by
 have:PyData.eqv (.int i) (.int j)=decide (i=j):=by
  rw [PyData.eqv]
  by_cases z:i=j<;>simp [z]
 simpa [this] using h⟩
def uU(p:Int→Int→Bool):dY:=λx y P=>match x,y with
 | .int i, .int j=>P (.bl (p i j))
 |_,_=>False
theorem p6{f:Value→Value→Sem Value}{p:Int→Int→Bool}(h:OpR X f (uq λi j=> .bl (p i j))):OpR X f (bu Z (uU p)):=by
 refine h.imp ?_;rintro x y H Q ⟨G,a,b,P,s,da,db,hr,q⟩;unfold uU at hr
 split at hr
 ·exact ⟨_,_,da.ofInt,db.ofInt,q _ hr _ G H (.refl s) (.bl _)⟩
 ·exact hr.elim
end
end L2
namespace L2
open PySem PySem.Spec PyProof.Rows
section
variable {Z:DC} {X:Cx}
abbrev Lz:dY:=uU λi j=>decide (i<j)
abbrev RV:dY:=uU λi j=>decide (i≤j)
abbrev Ic:dY:=uU λi j=>decide (j<i)
theorem ub:OpR X (compareOp .Lt) (bu Z Lz):=p6 De
theorem qi:OpR X (compareOp .LtE) (bu Z RV):=p6 JE
theorem nV:OpR X (compareOp .Gt) (bu Z Ic):=p6 JD
def pW:D→Bool
 | .aN=>true
 |_=>false
def GL(neg:Bool):dY:=λx y P=>match y with
 | .aN=>P (.bl (if neg then !pW x else pW x))
 |_=>False
theorem sr{G:Hp}{v:V}{d:D}(h:Dv Z G v d):decide (v= .aN)=pW d:=by cases h<;>rfl
theorem lE:OpR X (compareOp .Is) (bu Z (GL false)):=by
 refine Fi.imp ?_;rintro x y H Q ⟨G,a,b,P,s,da,db,hr,q⟩;cases db<;>first|exact hr.elim|skip
 exact ⟨rfl,by rw [sr da];exact q _ hr _ G H (.refl s) (.bl _)⟩
theorem kl:OpR X (compareOp .IsNot) (bu Z (GL true)):=by
 refine Df.imp ?_;rintro x y H Q ⟨G,a,b,P,s,da,db,hr,q⟩;cases db<;>first|exact hr.elim|skip
 exact ⟨rfl,by rw [sr da];exact q _ hr _ G H (.refl s) (.bl _)⟩
def fX:D→Bool
 | .aN=>true
 | .bl _=>true
 | .int _=>true
 | .str _=>true
 |_=>false
def me:D→D→Bool
 | .aN, .aN=>true
 | .bl a, .bl b=>a==b
 | .bl a, .int b=>(if a then 1 else 0)==b
 | .int a, .bl b=>a==(if b then 1 else 0)
 | .int a, .int b=>a==b
 | .str a, .str b=>a==b
 |_,_=>false
def inD(x:D)(l:List D):Bool:=l.any λy=>me y x
theorem pR{G:Hp}{v:V}{d:D}(h:Dv Z G v d):ie v=fX d:=by cases h<;>rfl
theorem jQ{G:Hp}:∀{vs:List V}{ds:List D},ao Z G vs ds→vs.all ie=ds.all fX
 |_,_, .nil=>rfl
 |_,_, .cons a as=>by rw [List.all_cons,List.all_cons,pR a,jQ as]
theorem EC{G:Hp}{v u:V}{d e:D}(h:Dv Z G v d)(k:Dv Z G u e):tO v u=me d e:=by cases h<;>cases k<;>rfl
theorem xC{G:Hp}{v:V}{d:D}(h:Dv Z G v d):∀{vs:List V}{ds:List D},ao Z G vs ds→ER v vs=inD d ds
 |_,_, .nil=>rfl
 |_,_, .cons a as=>by
  unfold ER inD;rw [List.any_cons,List.any_cons,EC a h];exact congrArg _ (xC h as)
def En(neg:Bool):dY:=λx y P=>match y with
 | .lst l=>fX x=true∧l.all fX=true∧P (.bl (if neg then !inD x l else inD x l))
 | .tup l=>fX x=true∧l.all fX=true∧P (.bl (if neg then !inD x l else inD x l))
 |_=>False
theorem DB{neg:Bool}:∀x y H Q,bu Z (En neg) x y H Q→JK X.K neg x y H Q:=by
 rintro x y H Q ⟨G,a,b,P,s,da,db,hr,q⟩;cases db<;>first|exact hr.elim|skip
 ·rename_i p xs ds h e
  obtain ⟨h1,h2,hp⟩:=hr;refine ⟨p,xs,rfl, .inl (bb.of (s _ _ h)),by rw [pR da];exact h1,by rw [jQ e];exact h2,?_⟩
  rw [xC da e];exact q _ hp _ G H (.refl s) (.bl _)
 ·rename_i p xs ds h e
  obtain ⟨h1,h2,hp⟩:=hr;refine ⟨p,xs,rfl, .inr (cj.of (s _ _ h)),by rw [pR da];exact h1,by rw [jQ e];exact h2,?_⟩
  rw [xC da e];exact q _ hp _ G H (.refl s) (.bl _)
theorem ua:OpR X (compareOp .In) (bu Z (En false)):=xS.imp DB
theorem fP:OpR X (compareOp .NotIn) (bu Z (En true)):=rD.imp DB
def zC:dY:=λx y P=>match x,y with
 | .lst l, .int i=>∃d,cE l i=some d∧P d
 | .tup l, .int i=>∃d,cE l i=some d∧P d
 | .jq l, .int i=>∃n,cE l i=some n∧P (.int n)
 |_,_=>False
theorem yt{G:Hp}{vs:List V}{ds:List D}{i:Int}{d:D}(h:ao Z G vs ds)(e:cE ds i=some d):∃v,cE vs i=some v∧Dv Z G v d:=by
 unfold cE at e ⊢;rw [h.length];cases z:gc ds.length i with
 |none=>rw [z] at e;cases e
 |some j=>rw [z] at e;exact h.get e
theorem Bm{α β:Type}(f:α→β)(l:List α)(i:Int):cE (l.map f) i=(cE l i).map f:=by
 unfold cE;rw [bV];cases gc l.length i with
 |none=>rfl
 |some j=>show (l.map f)[j]? =_;rw [dX];rfl
variable {a b c e:Expr} {ta tb tc te:aR} {pos:Pos}
theorem aK(ha:DE Z X a ta)(hb:DE Z X b tb)(eK:X.K=Z.K:=by rfl)(hs:iA b:=by exact λ_ _=>rfl):DE Z X (.Subscript a b pos) (gI zC ta tb):=by
 refine (jm (eE.or EU) ha hb hs).imp λσ H Q h=>?_;obtain ⟨G,ρ,P,s,e,h,q⟩:=tZ σ H Q h;refine ⟨G,ρ,P,s,e,h,λd hd v G1 H1 x1 dv=>?_⟩;obtain ⟨G',aE,P',s',e',h',q'⟩:=q d hd v G1 H1 x1 dv;refine ⟨G',aE,P',s',e',h',λd2 hd2 v2 G2 H2 x2 jO=>?_⟩;obtain ⟨G,a,b,P,s,da,db,hr,q⟩:=q' d2 hd2 v2 G2 H2 x2 jO;unfold zC at hr
 split at hr
 ·obtain ⟨d,h1,hp⟩:=hr
  obtain ⟨_,_,rfl,h,e⟩:=da.eG;obtain ⟨v,hv,dv⟩:=yt e h1;exact .inl ⟨_,_,_,v,rfl,db.ofInt,bb.of (s _ _ h),hv,q _ hp _ G _ (.refl s) dv⟩
 ·obtain ⟨d,h1,hp⟩:=hr
  obtain ⟨_,_,rfl,h,e⟩:=da.ji;obtain ⟨v,hv,dv⟩:=yt e h1;exact .inr ⟨_,_,_,v,rfl,db.ofInt,cj.of (s _ _ h),hv,q _ hp _ G _ (.refl s) dv⟩
 rotate_left
 ·exact hr.elim
 ·obtain ⟨d,h1,hp⟩:=hr
  obtain ⟨_,rfl,h,_⟩:=da.C3;refine .inl ⟨_,_,_, .int d,rfl,db.ofInt,by rw [eK];exact h.mono s,by rw [Bm,h1];rfl,q _ hp _ G _ (.refl s) (.int d)⟩
def cutD{α:Type}(xs:List α)(lo hi:Option Int):List α:=(xs.drop (HT.bf xs.length 0 lo)).take (HT.bf xs.length xs.length hi-HT.bf xs.length 0 lo)
theorem tJ{G:Hp}{vs:List V}{ds:List D}(h:ao Z G vs ds)(lo hi:Option Int):ao Z G (oq vs lo hi) (cutD ds lo hi):=by
 unfold oq cutD;rw [h.length];exact (h.drop _).take _
theorem zA{α β:Type}(f:α→β)(l:List α)(lo hi:Option Int):cutD (l.map f) lo hi=(cutD l lo hi).map f:=by
 unfold cutD;rw [bV,List.map_take,List.map_drop]
abbrev uD:=DN→(Option Int→Prop)→Prop
def BG:uD:=λ_ P=>P none
def Im(t:aR):uD:=λρ P=>t ρ λd=>match d with
 | .int i=>P (some i)
 |_=>False
def Jw(Z:DC)(t:uD):TO:=λσ H Q=>∃(G:Hp)(ρ:DN)(P:Option Int→Prop),aH G H∧bW Z G σ ρ∧t ρ P∧∀o,P o→∀G' H',Ext G H G' H'→Q o H'
def DO(Z:DC)(X:Cx)(e:Option Expr)(t:uD):Prop:=PO X e (Jw Z t)
theorem PO.imp{e:Option Expr}{t t':TO}(h:PO X e t)(f:∀σ H Q,t' σ H Q→t σ H Q):PO X e t':=λpins s σ H Q I q=>h pins s σ H Q I (f _ _ _ q)
theorem lW:DO Z X none BG:=Dq.imp λσ H Q ⟨G,ρ,P,s,e,p,q⟩=>q _ p G H (.refl s)
theorem lX(h:DE Z X e te):DO Z X (some e) (Im te):=by
 refine (Dr h).imp ?_;rintro σ H Q ⟨G,ρ,P,s,e,h,q⟩;refine ⟨G,ρ,_,s,e,h,λd hd v G1 H1 x1 dv=>?_⟩;cases dv<;>first|exact hd.elim|skip
 exact ⟨_,rfl,q _ hd G1 H1 x1⟩
def RX(te:aR)(tl th:uD):aR:=λρ P=>te ρ λx=>tl ρ λlo=>th ρ λhi=>match x with
 | .lst l=>P (.lst (cutD l lo hi))
 | .tup l=>¬(HT.bf l.length 0 lo=0∧HT.bf l.length l.length hi=l.length)∧P (.tup (cutD l lo hi))
 | .jq l=>P (.lst ((cutD l lo hi).map D.int))
 |_=>False
variable {lo hi:Option Expr} {tl th:uD} {p2:Pos}
theorem nE(he:DE Z X e te)(hl:DO Z X lo tl)(hu:DO Z X hi th)(eK:X.K=Z.K:=by rfl):DE Z X (.Subscript e (.Slice lo hi none p2) pos) (RX te tl th):=by
 refine (sN (DM.or yZ) he hl hu).imp ?_;rintro σ H Q ⟨G,ρ,P,s,en,h,q⟩;refine ⟨G,ρ,_,s,en,h,λd hd v G1 H1 x1 dv=>?_⟩;refine ⟨G1,ρ,_,x1.sub,en.mono x1.gg,hd,λl hl G2 H2 x2=>?_⟩;refine ⟨G2,ρ,_,x2.sub,(en.mono x1.gg).mono x2.gg,hl,λu hu G3 H3 x3=>?_⟩;have x:=(x1.trans x2).trans x3;have dv:=(dv.mono x2.gg).mono x3.gg;cases dv<;>first|exact hu.elim|skip
 ·rename_i h e
  exact .inl ⟨_,_,rfl,bb.of (x3.sub _ _ h),λp hn=>q _ hu _ _ _ (x.trans (.new x3.sub hn)) (.lst ak ((tJ e l u).mono (aL (x3.sub.free hn) _)))⟩
 ·rename_i h e
  refine .inr ⟨_,_,rfl,cj.of (x3.sub _ _ h),by rw [e.length];exact hu.1,λp hn=>q _ hu.2 _ _ _ (x.trans (.new x3.sub hn)) (.tup ak ((tJ e l u).mono (aL (x3.sub.free hn) _)))⟩
 ·rename_i h _
  refine .inl ⟨_,_,rfl,by rw [eK];exact h.mono x3.sub,λp hn=>q _ hu _ _ _ (x.trans (.new x3.sub hn)) (.lst ak ?_)⟩
  show ao Z _ (cutD _ l u) _;rw [zA];exact .ints _
def fT:bN:=λds P=>match ds with
 | [.lst l]=>P (.int l.length)
 | [.tup l]=>P (.int l.length)
 | [.jq l]=>P (.int l.length)
 |_=>False
theorem bg(eK:X.K=Z.K:=by rfl):bP X (.builtin "len") (gi Z fT):=by
 refine ib.imp ?_;rintro xs H Q ⟨G,ds,P,s,dv,hr,q⟩;unfold fT at hr
 split at hr
 ·obtain ⟨_,rfl,a⟩:=dv.ofOne
  obtain ⟨_,_,rfl,h,e⟩:=a.eG;exact ⟨_,_,rfl, .inl (bb.of (s _ _ h)),by rw [e.length];exact q _ hr _ G H (.refl s) (.int _)⟩
 ·obtain ⟨_,rfl,a⟩:=dv.ofOne
  obtain ⟨_,_,rfl,h,e⟩:=a.ji;exact ⟨_,_,rfl, .inr (cj.of (s _ _ h)),by rw [e.length];exact q _ hr _ G H (.refl s) (.int _)⟩
 ·obtain ⟨_,rfl,a⟩:=dv.ofOne
  obtain ⟨_,rfl,h,_⟩:=a.C3;exact ⟨_,_,rfl, .inl (by rw [eK];exact h.mono s),by rw [bV];exact q _ hr _ G H (.refl s) (.int _)⟩
 ·exact hr.elim
def wA:bN:=λds P=>match ds with
 | [.lst l]=>P (.lst l)
 | [.tup l]=>P (.lst l)
 |_=>False
theorem fU:bP X (.type "list") (gi Z wA):=by
 refine kB.imp ?_;rintro xs H Q ⟨G,ds,P,s,dv,hr,q⟩;unfold wA at hr
 split at hr
 ·obtain ⟨_,rfl,a⟩:=dv.ofOne
  obtain ⟨_,_,rfl,h,e⟩:=a.eG;exact ⟨_,_,rfl, .inl (bb.of (s _ _ h)),λp hn=>q _ hr _ _ _ (.new s hn) (.lst ak (e.mono (aL (s.free hn) _)))⟩
 ·obtain ⟨_,rfl,a⟩:=dv.ofOne
  obtain ⟨_,_,rfl,h,e⟩:=a.ji;exact ⟨_,_,rfl, .inr (cj.of (s _ _ h)),λp hn=>q _ hr _ _ _ (.new s hn) (.lst ak (e.mono (aL (s.free hn) _)))⟩
 ·exact hr.elim
def yv:bN:=λds P=>match ds with
 | [.lst l]=>P (.tup l)
 | [.tup l]=>P (.tup l)
 |_=>False
theorem zx:bP X (.type "tuple") (gi Z yv):=by
 refine jL.imp ?_;rintro xs H Q ⟨G,ds,P,s,dv,hr,q⟩;unfold yv at hr
 split at hr
 ·obtain ⟨_,rfl,a⟩:=dv.ofOne
  obtain ⟨_,_,rfl,h,e⟩:=a.eG;exact ⟨_,_,rfl, .inl ⟨bb.of (s _ _ h),λp hn=>q _ hr _ _ _ (.new s hn) (.tup ak (e.mono (aL (s.free hn) _)))⟩⟩
 ·obtain ⟨_,rfl,a⟩:=dv.ofOne
  obtain ⟨_,_,rfl,h,e⟩:=a.ji;exact ⟨_,_,rfl, .inr ⟨cj.of (s _ _ h),q _ hr _ _ _ (.refl s) (.tup h e)⟩⟩
 ·exact hr.elim
def Xe:bN:=λds P=>match ds with
 | [.int i]=>P (.int i)
 | [.bl b]=>P (.int (if b then 1 else 0))
 |_=>False
def M3:String→D→Bool
 |"int", .int _=>true
 |"int", .bl _=>true
 |"bool", .bl _=>true
 |"list", .lst _=>true
 |"tuple", .tup _=>true
 |_,_=>false
def JC(n:String):Bool:=n=="int"||n=="bool"||n=="list"||n=="tuple"
def kE:D→Bool
 | .aN=>true
 | .bl _=>true
 | .int _=>true
 | .str _=>true
 | .lst _=>true
 | .tup _=>true
 |_=>false
def Lx(n:String)(t:aR):aR:=λρ P=>t ρ λd=>kE d=true∧P (.bl (M3 n d))
theorem yF{K:PySem.W.Frag}{H:Hp}{v:V}{d:D}{n:String}(hn:JC n=true)(hd:kE d=true)(h:Dv Z H v d):∃t,eN K H v t∧PySem.W.kitOne K t (.type n)=some (M3 n d):=by
 unfold JC at hn;rw [Bool.or_eq_true,Bool.or_eq_true,Bool.or_eq_true,beq_iff_eq,beq_iff_eq,beq_iff_eq,beq_iff_eq] at hn;cases h with
 |aN=>refine ⟨_, .aN,?_⟩;rcases hn with ((rfl|rfl) |rfl) |rfl<;>kernel_rfl
 |bl b=>refine ⟨_, .bl b,?_⟩;rcases hn with ((rfl|rfl) |rfl) |rfl<;>kernel_rfl
 |int b=>refine ⟨_, .int b,?_⟩;rcases hn with ((rfl|rfl) |rfl) |rfl<;>kernel_rfl
 |str b=>refine ⟨_, .str b,?_⟩;rcases hn with ((rfl|rfl) |rfl) |rfl<;>kernel_rfl
 |lst h a=>refine ⟨_, .lst h,?_⟩;rcases hn with ((rfl|rfl) |rfl) |rfl<;>kernel_rfl
 |tup h a=>refine ⟨_, .tup h,?_⟩;rcases hn with ((rfl|rfl) |rfl) |rfl<;>kernel_rfl
 |_=>cases hd
end
section
variable {Z:DC} {X:Cx} {a b c e:Expr} {ta tb tc te:aR} {pos:Pos}
theorem i6(n:String){x:Str}{p p':Pos}(ha:DE Z X a ta)(hg:Gl X "isinstance")(hm:X.mg "isinstance"=none)(IU:Gl X x)(pT:X.mg x=none)(hv:bootBuiltins x=some (.type n))(ok:JC n=true:=by decide)
  (hn:x≠"__name__":=by decide) (hd:(x==("__debug__":Str))=false:=by decide) (hs:starEach [a, .Name x p'] X.env=(false,eval a X.env)::starEach [.Name x p'] X.env:=by rfl)
  (bU:(backTo pos (starEach [.Name x p'] X.env)).any (·.1)=false:=by rfl) (fL:starEach [.Name x p'] X.env=(false,eval (.Name x p') X.env)::starEach [] X.env:=by rfl):
  DE Z X (.Call (.Name "isinstance" p) [a, .Name x p'] [] pos) (Lx n ta):=by
 have hb:PE X (.Name x p') (tC (.ty n)):=iN IU pT hv rfl hn hd;refine (eY iZ hg hm (by decide+kernel) (aG ha (aG hb bj fL) hs) (by decide) (by decide) hs bU).imp ?_
 rintro σ H Q ⟨G,ρ,P,s,e,h,q⟩;refine ⟨G,ρ,_,s,e,h,?_⟩;rintro d ⟨hk,hp⟩ v G1 H1 x1 dv;obtain ⟨t,ht,oQ⟩:=yF (K:=X.K) (H:=H1) ok hk (dv.mono x1.sub);exact ⟨v,n,t,_,rfl,ht,oQ,q _ hp _ G1 H1 x1 (.bl _)⟩
def p8(Z:DC)(g:cT):TG:=λv σ H Q=>∃(G:Hp)(ρ:DN)(d:D)(P:DN→Prop),aH G H∧bW Z G σ ρ∧Dv Z G v d∧g d ρ P∧∀aE,P aE→∀ax,bW Z G ax aE→Q ax H
def DG(Z:DC)(X:Cx)(e:Expr)(g:cT):Prop:=PG X e (p8 Z g)
theorem PG.imp{e:Expr}{t t':TG}(h:PG X e t)(f:∀v σ H Q,t' v σ H Q→t v σ H Q):PG X e t':=λpins s σ H v u Q I r q=>h pins s σ H v u Q I r (f _ _ _ _ q)
def eh(i:Nat):cT:=λd ρ P=>P (ρ.set i (some d))
theorem bq(i:Nat){x:Str}(hN:X.N.Nodup)(hi:X.N[i]? =some x:=by rfl)(hx:Loc X.env.scope x:=by exact Or.inl rfl)(hf:X.fn x=true∨X.env.scope.names.lookup x=some .local:=by first|exact .inl rfl|exact .inr rfl|assumption):DG Z X (.Name x pos) (eh i):=
 (j0 hN hi hx hf).imp λv σ H Q ⟨G,ρ,d,P,s,e,dv,h,q⟩=>q _ h _ (e.set dv)
abbrev js:=List D→DN→(DN→Prop)→Prop
def E2(Z:DC)(g:js):qX:=λvs σ H Q=>∃(G:Hp)(ρ:DN)(ds:List D)(P:DN→Prop),aH G H∧bW Z G σ ρ∧ao Z G vs ds∧g ds ρ P∧∀aE,P aE→∀ax,bW Z G ax aE→Q ax H
def Eg(Z:DC)(X:Cx)(es:List Expr)(g:js):Prop:=tw X es (E2 Z g)
theorem tw.imp{es:List Expr}{t t':qX}(h:tw X es t)(f:∀v σ H Q,t' v σ H Q→t v σ H Q):tw X es t':=λpins s σ H v u Q I r q=>h pins s σ H v u Q I r (f _ _ _ _ q)
def BN:js:=λds ρ P=>ds= []∧P ρ
def yz(g:cT)(gs:js):js:=λds ρ P=>match ds with
 |d::r=>g d ρ λaE=>gs r aE P
 | []=>False
theorem BO:Eg Z X [] BN:=qr.imp λv σ H Q ⟨G,ρ,ds,P,s,e,dv,⟨h,p⟩,q⟩=>by
 subst h;cases dv;exact ⟨rfl,q _ p _ e⟩
theorem rS{es:List Expr}{g:cT}{gs:js}(h1:DG Z X e g)(h2:Eg Z X es gs)(hs:(assignEach (e::es) X.env).map (·.2)=assign e X.env::(assignEach es X.env).map (·.2):=by rfl):Eg Z X (e::es) (yz g gs):=by
 refine (ko h1 h2 hs).imp ?_;rintro v σ H Q ⟨G,ρ,ds,P,s,e,dv,h,q⟩;cases dv with
 |nil=>exact h.elim
 |cons a as=>
  refine ⟨_,_,rfl,G,ρ,_,_,s,e,a,h,λaE hp ax e'=>?_⟩;exact ⟨G,aE,_,P,s,e',as,hp,q⟩
def tL(n:Nat)(gs:js):cT:=λd ρ P=>match d with
 | .tup l=>l.length=n∧gs l ρ P
 |_=>False
theorem Es(n:Nat){es:List Expr}{k:Nat}{gs:js}(hc:X.calm=true)(h:Eg Z X es gs)(hn:(assignEach es X.env).length=n:=by rfl)(iH:(assignEach es X.env).findIdx? (·.1)=none:=by rfl):DG Z X (.Tuple es k pos) (tL n gs):=by
 refine (uj hc h hn iH).imp ?_;rintro v σ H Q ⟨G,ρ,d,P,s,e,dv,h,q⟩;cases dv<;>first|exact h.elim|skip
 rename_i a xs ds ha es
 exact ⟨a,xs,rfl,cj.of (s _ _ ha),by rw [es.length];exact h.1,G,ρ,_,P,s,e,es,h.2,q⟩
def oh(Z:DC)(G:Hp)(J:It)(ds:List D):Prop:=∀G2 H2,aH G G2→aH G2 H2→∀i:Nat,(i<ds.length→J.go i H2)∧(ds.length≤i→J.stop i H2)∧
 ∀x H',i<ds.length→J.yld i H2 x H'→∃G3 d,Ext G2 H2 G3 H'∧ds[i]? =some d∧Dv Z G3 x d
def t7(Z:DC)(wi:gH):TI:=λσ H R=>∃(G:Hp)(ρ:DN)(P:List D→Prop),aH G H∧bW Z G σ ρ∧wi ρ P∧∀ds,P ds→∀J G' H',Ext G H G' H'→oh Z G' J ds→R J H'
def DI(Z:DC)(X:Cx)(tg e:Expr)(wi:gH):Prop:=PI X tg e (t7 Z wi)
theorem PI.imp{tg e:Expr}{t t':TI}(h:PI X tg e t)(f:∀σ H Q,t' σ H Q→t σ H Q):PI X tg e t':=λpins s σ H Q I q=>h pins s σ H Q I (f _ _ _ q)
def BQ(t:aR):gH:=λρ P=>t ρ λd=>match d with
 | .lst l=>P l
 |_=>False
theorem CL{K:PySem.W.Frag}{G:Hp}{a:Addr}{xs:List V}{ds:List D}(h:G a=some (.lst xs))(e:ao Z G xs ds):oh Z G (zi K a) ds:=by
 intro G2 H2 s1 s2 i;have h2:=bb.of (K:=K) (s2 _ _ (s1 _ _ h));have l:=e.length;refine ⟨λhi=>⟨xs,xs[i],h2,cS (by omega)⟩,λhi=>⟨xs,h2,by omega⟩,?_⟩
 rintro x H' hi ⟨rfl,hx⟩;obtain ⟨d,hd,dv⟩:=e.vd (hx _ h2);exact ⟨G2,d, .refl s2,hd,dv.mono s1⟩
theorem bx{tg:Expr}(h:DE Z X e te):DI Z X tg e (BQ te):=by
 refine (vK h).imp ?_;rintro σ H Q ⟨G,ρ,P,s,en,h,q⟩;refine ⟨G,ρ,_,s,en,h,λd hd v G1 H1 x1 dv=>?_⟩;cases dv<;>first|exact hd.elim|skip
 rename_i ha e
 exact ⟨_,rfl,⟨_,bb.of (x1.sub _ _ ha)⟩,q _ hd _ G1 H1 x1 (CL ha e)⟩
def bp(lo:Int)(n:Nat):List D:=(List.range n).map λ(k:Nat)=>D.int (lo+(k:Int))
theorem oF{lo:Int}{n i:Nat}(h:i<n):(bp lo n)[i]? =some (.int (lo+i)):=by
 unfold bp;rw [dX,List.getElem?_range h];rfl
theorem nM{G:Hp}(lo:Int)(n:Nat):oh Z G (Bb lo n) (bp lo n):=by
 intro G2 H2 s1 s2 i;have l:(bp lo n).length=n:=by unfold bp;simp
 rw [l];refine ⟨λhi=>hi,λhi=>hi,?_⟩;rintro x H' hi ⟨rfl,rfl⟩;exact ⟨G2,_, .refl s2,oF hi, .int _⟩
def GP(t:dZ):gH:=λρ P=>t ρ λds=>match ds with
 | [.int j]=>(-(2^62)≤j∧j<2^62)∧P (bp 0 j.toNat)
 |_=>False
def Mb(t:dZ):gH:=λρ P=>t ρ λds=>match ds with
 | [.int i, .int j]=>(-(2^62)≤i∧i<2^62∧-(2^62)≤j∧j<2^62)∧P (bp i (j-i).toNat)
 |_=>False
variable {t:dZ}
theorem kU{tg:Expr}{p:Pos}(hg:Gl X "range")(hm:X.mg "range"=none)(ha:DA Z X [a] t)(hs:starEach [a] X.env= [(false,eval a X.env)]:=by rfl):DI Z X tg (.Call (.Name "range" p) [a] [] pos) (GP t):=by
 refine (qs hg hm ha hs).imp ?_;rintro σ H Q ⟨G,ρ,P,s,en,h,q⟩;refine ⟨G,ρ,_,s,en,h,λds hd vs G1 H1 x1 dv=>?_⟩
 split at hd
 ·obtain ⟨_,rfl,a⟩:=dv.ofOne
  exact ⟨_,by rw [a.ofInt],hd.1.1,hd.1.2,q _ hd.2 _ G1 H1 x1 (nM 0 _)⟩
 ·exact hd.elim
def ey(l:List D):List D:=l.mapIdx λi x=> .tup [.int (i:Int),x]
def Eu(t:dZ):gH:=λρ P=>t ρ λds=>match ds with
 | [.lst l]=>P (ey l)
 |_=>False
theorem CK{K:PySem.W.Frag}{G:Hp}{a:Addr}{xs:List V}{ds:List D}(h:G a=some (.lst xs))(e:ao Z G xs ds):oh Z G (Ho K a) (ey ds):=by
 intro G2 H2 s1 s2 i;have h2:=bb.of (K:=K) (s2 _ _ (s1 _ _ h));have l:=e.length;rw [show (ey ds).length=ds.length by unfold ey;simp]
 refine ⟨λhi=>⟨xs,xs[i],h2,cS (by omega)⟩,λhi=>⟨xs,h2,by omega⟩,?_⟩
 rintro x H' hi ⟨t,y,rfl,ht,rfl,hx⟩;obtain ⟨d,hd,dv⟩:=e.vd (hx _ h2);refine ⟨_,_, .new s2 ht,by unfold ey;rw [List.getElem?_mapIdx,hd];rfl,?_⟩
 exact .tup ak (.cons (.int _) (.cons ((dv.mono s1).mono (aL (s2.free ht) _)) .nil))
theorem fo{p:Pos}{es:List Expr}{k1}{tp:Pos}(hg:Gl X "enumerate")(hm:X.mg "enumerate"=none)(ha:DA Z X [a] t)(hs:starEach [a] X.env= [(false,eval a X.env)]:=by rfl):DI Z X (.Tuple es k1 tp) (.Call (.Name "enumerate" p) [a] [] pos) (Eu t):=by
 refine (Dl hg hm ha hs).imp ?_;rintro σ H Q ⟨G,ρ,P,s,en,h,q⟩;refine ⟨G,ρ,_,s,en,h,λds hd vs G1 H1 x1 dv=>?_⟩
 split at hd
 ·obtain ⟨_,rfl,a⟩:=dv.ofOne
  obtain ⟨_,_,rfl,h,e⟩:=a.eG;exact ⟨_,rfl,⟨_,x1.sub _ _ h⟩,q _ hd _ G1 H1 x1 (CK h e)⟩
 ·exact hd.elim
def nk(l m:List D):List D:=List.zipWith (λx y=> .tup [x,y]) l m
def sV(src:List (Option Nat))(ρ:DN):DN:=src.map λo=>o.bind λi=>(ρ[i]?).bind id
theorem bW.src{G:Hp}{σ:St}{ρ:DN}(e:bW Z G σ ρ)(src:List (Option Nat)):bW Z G (kM src σ) (sV src ρ):=by
 refine ⟨by unfold kM sV;simp,λi d h=>?_⟩
 unfold sV at h;unfold kM;rw [dX] at h ⊢;cases k:src[i]? with
 |none=>rw [k] at h;cases h
 |some o=>
  rw [k] at h;cases o with
  |none=>cases h
  |some j=>
   have h':(ρ[j]?).bind id=some d:=Option.some.inj h;cases m:ρ[j]? with
   |none=>rw [m] at h';cases h'
   |some z=>
    rw [m] at h';have h2:z=some d:=h';subst h2;obtain ⟨v,hv,dv⟩:=e.at_ j d m;exact ⟨v,by show some ((σ[j]?).bind id)=_;rw [hv];rfl,dv⟩
def ig(g:cT)(tt:cg)(te:aR):List D→DN→List D→(DN→List D→Prop)→Prop
 | [],ρ,acc,N=>N ρ acc
 |x::xs,ρ,acc,N=>g x ρ λcc=>tt cc λb=>if b=true then te cc λd=>acc.length<sizeLine∧ig g tt te xs cc (acc++ [d]) N else ig g tt te xs cc acc N
def BB(wi:gH)(g:cT)(tt:cg)(te:aR)(src:List (Option Nat)):aR:=λρ P=>wi ρ λds=>ig g tt te ds (sV src ρ) [] λ_ out=>P (.lst out)
def ou:cg:=λ_ P=>P true
def zh(Z:DC)(X:Cx)(ifs:List Expr)(t:cg):Prop:=qW X ifs (liftT Z t)
theorem qW.imp{ifs:List Expr}{t t':TT}(h:qW X ifs t)(f:∀σ H Q,t' σ H Q→t σ H Q):qW X ifs t':=λpins s σ H Q I q=>h pins s σ H Q I (f _ _ _ q)
theorem cO:zh Z X [] ou:=vN.imp λσ H Q ⟨G,ρ,P,s,e,p,q⟩=>q _ p G H (.refl s)
theorem lY{tA:cg}(h:DT Z X c tA):zh Z X [c] tA:=Dt h
def CS(Z:DC)(G1 H1:Hp)(Ad:Addr)(ρ:DN)(acc:List D)(σ:St)(H:Hp):Prop:=
 ∃(G:Hp)(ys:List V),aH G1 G∧aH G H∧aH H1 H∧(∀b,H1 b≠none→G1 b=none→G b=none)∧G Ad=none∧H Ad=some (.lst ys)∧ao Z G ys acc∧bW Z G σ ρ
theorem dE{H H':Hp}(s:aH H H'){b:Addr}(h:H b≠none):H' b≠none:=λz=>by
 cases e:H b with
 |none=>exact h e
 |some o=>rw [s b o e] at z;cases z
theorem pO{α:Type}{l:List α}{i:Nat}{x:α}(h:l[i]? =some x):l.drop i=x::l.drop (i+1):=by
 obtain ⟨hi,e⟩:=gF.mp h;rw [List.drop_eq_getElem_cons hi,e]
theorem sC{G1 H1:Hp}{Ad:Addr}{J:It}{ds:List D}{g:cT}{tt:cg}{te:aR}{N:DN→List D→Prop}(hA:H1 Ad=none)(G0:Hp)(it:oh Z G0 J ds)(i:Nat)(ρ:DN)(acc:List D)(σ:St)(H:Hp)
  (c:CS Z G1 H1 Ad ρ acc σ H) (hG:∀G,aH G1 G→aH G0 G) (hi:i<ds.length) (h:ig g tt te (ds.drop i) ρ acc N):
  J.go i H∧∀x H3,J.yld i H x H3→p8 Z g x σ H3 λjG H4=>liftT Z tt jG H4 λb H5=>
   if b=true then cx Z te jG H5 λv H6=>∃ys,H6 Ad=some (.lst ys)∧ys.length<sizeLine∧(∃aE oj,CS Z G1 H1 Ad aE oj jG (upd H6 Ad (.lst (ys++ [v])))∧ig g tt te (ds.drop (i+1)) aE oj N)
   else ∃aE oj,CS Z G1 H1 Ad aE oj jG H5∧ig g tt te (ds.drop (i+1)) aE oj N:=by
 obtain ⟨G2,ys,s1,s2,s3,off,gA,pS,bc,en⟩:=c;obtain ⟨go,_,yld⟩:=it G2 H (hG _ s1) s2 i;refine ⟨go hi,λx H3 y=>?_⟩;obtain ⟨G3,d,x3,hd,dv⟩:=yld x H3 hi y;rw [pO hd] at h;refine ⟨G3,ρ,d,_,x3.sub,en.mono x3.gg,dv,h,λcc h1 jG wY=>?_⟩;refine ⟨G3,cc,_,x3.sub,wY,h1,λb hb G5 H5 x5=>?_⟩;have v8:=x3.trans x5;have C6:∀{G qV:Hp},Ext G2 H G qV→G Ad=none:=λx=>x.off Ad (by rw [pS];exact λz=>nomatch z) gA
 have Hd:∀{G qV:Hp},Ext G2 H G qV→∀b,H1 b≠none→G1 b=none→G b=none:=λx b h1 h2=>x.off b (dE s3 h1) (off b h1 h2);cases b with
 |false=>
  refine aI ⟨cc,acc,⟨G5,ys,s1.trans v8.gg,v8.sub,s3.trans v8.hh,Hd v8,C6 v8,v8.hh _ _ pS,bc.mono v8.gg,wY.mono x5.gg⟩,?_⟩;simpa using hb
 |true=>
  refine aU ⟨G5,cc,_,x5.sub,wY.mono x5.gg,(by simpa using hb),λd' gJ v G6 H6 x6 Se=>?_⟩
  have x:=v8.trans x6;refine ⟨ys,x.hh _ _ pS,by rw [bc.length];exact gJ.1,cc,_,⟨G6,ys++ [v],s1.trans x.gg,λb o e=>?_,λb o e=>?_,Hd x,C6 x,ak,(bc.mono x.gg).snoc Se,(wY.mono x5.gg).mono x6.gg⟩,gJ.2⟩
  ·rw [ah (ar e (C6 x))];exact x.sub _ _ e
  ·rw [ah (ar e hA)];exact (s3.trans x.hh) _ _ e
theorem CS.done{G H G1 H1 H2:Hp}{Ad:Addr}{ρ:DN}{acc:List D}{σ:St}(c:CS Z G1 H1 Ad ρ acc σ H2)(x1:Ext G H G1 H1)(hA:H1 Ad=none):∃G',Ext G H G' H2∧Dv Z G' (.ref Ad) (.lst acc):=by
 obtain ⟨G2,ys,s1,s2,s3,off,gA,pS,bc,en⟩:=c;refine ⟨upd G2 Ad (.lst ys),⟨(x1.gg.trans s1).trans (aL gA _),λb o e=>?_,x1.hh.trans s3,λb hb hg=>?_⟩, .lst ak (bc.mono (aL gA _))⟩
 ·by_cases z:b=Ad
  ·subst z;rw [ak] at e;cases e;exact pS
  ·rw [ah z] at e;exact s2 _ _ e
 ·have h1:=dE x1.hh hb
  rw [ah (λz=>h1 (by rw [z];exact hA))]
  exact off b h1 (x1.off b hb hg)
theorem CS.begin{G1 H1:Hp}{Ad:Addr}{ρ:DN}{σ:St}(s:aH G1 H1)(hA:H1 Ad=none)(en:bW Z G1 σ ρ):CS Z G1 H1 Ad ρ [] σ (upd H1 Ad (.lst [])):=
 ⟨G1,[], .refl _,λb o e=>by rw [ah (ar e (s.free hA))];exact s _ _ e,aL hA _,λ_ _ h=>h,s.free hA,ak, .nil,en⟩
variable {tg iter elt:Expr} {ifs:List Expr} {scope:Scope} {NC:List Str} {src:List (Option Nat)} {wi:gH} {g:cT} {tt:cg}
theorem t9:∀σ H Q,cx Z (BB wi g tt te src) σ H Q→D2 (t7 Z wi) (p8 Z g) (liftT Z tt) (cx Z te) src σ H Q:=by
 rintro σ H Q ⟨G,ρ,P,s,en,h,q⟩;refine ⟨G,ρ,_,s,en,h,λds hd J G1 H1 x1 it Ad hA=>?_⟩;refine ⟨λi m fe H2=>m=ds.length-i∧i≤ds.length∧∃gG acc,CS Z G1 H1 Ad gG acc fe H2∧ig g tt te (ds.drop i) gG acc λ_ out=>P (.lst out),⟨_,rfl,iW _,_,[], .begin x1.sub hA ((en.mono x1.gg).src src),hd⟩,?_⟩;rintro i m fe H2 ⟨rfl,hi,gG,acc,c,hl⟩
 by_cases eU:i<ds.length
 ·obtain ⟨go,turn⟩:=sC hA G1 it i gG acc fe H2 c (λ_ s=>s) eU hl
  exact .inr ⟨go,_,λax H' n=>⟨ds.length-(i+1),by omega,rfl,eU,n⟩,turn⟩
 ·have e:ds.drop i= []:=zd (by omega)
  rw [e] at hl;obtain ⟨G',x,dv⟩:=c.done x1 hA;obtain ⟨G2,ys,s1,s2,_⟩:=c;exact .inl ⟨(it G2 H2 s1 s2 i).2.1 (by omega),q _ hl _ G' H2 x dv⟩
theorem i7(hc:X.calm=true)(c:bz X scope)(eR:cv scope X.N src NC)(hi:DI Z X tg iter wi)
  (hg:∀ex s H,DG Z (dN X scope NC ex s H) tg g) (ht:∀ex s H,zh Z (dN X scope NC ex s H) ifs tt) (he:∀ex s H,DE Z (dN X scope NC ex s H) elt te)
  (hs:∀x,foldedSetIterable iter X.env x=pure x:=by intro _;rfl):DE Z X (.ListComp elt [⟨tg,iter,ifs,0⟩] scope pos) (BB wi g tt te src):=(JG hc c eR hi hg ht he hs).imp t9
variable {t0 i0 t1 i1:Expr} {f0 f1:List Expr} {Ql:gH} {g1:cT} {vV:cg}
end
inductive b8 (R:V→D→List Addr→Prop):List V→List D→List Addr→Prop
 |nil:b8 R [] [] []
 |cons {v:V} {vs:List V} {d:D} {ds:List D} {f fs:List Addr}:R v d f→b8 R vs ds fs→b8 R (v::vs) (d::ds) (f++fs)
def M4:D→Bool
 | .lst _=>true
 |_=>false
def Own(Z:DC)(G H:Hp):Nat→V→D→List Addr→Prop
 |0,v,d,fp=>Dv Z G v d∧fp= []
 |n+1,v,d,fp=>(∃a xs ds dO,v= .ref a∧d= .lst ds∧H a=some (.lst xs)∧fp=a::dO∧b8 (Own Z G H n) xs ds dO)∨(1≤n∧∃a xs ds,v= .ref a∧d= .tup ds∧G a=some (.tup xs)∧b8 (λv d f=>(M4 d=true∧Own Z G H n v d f)∨(M4 d=false∧Dv Z G v d∧f= [])) xs ds fp)∨(∃a φ,v= .ref a∧H a=some (.ext φ)∧fp= [a]∧((n=98∧∃b ns,d= .set b ns∧φ=Gi b a ns)∨(n=97∧∃k,d= .x k∧Bk G a φ k)))
theorem Own.lst{Z:DC}{G H:Hp}{n:Nat}{v:V}{ds:List D}{fp:List Addr}(o:Own Z G H (n+1) v (.lst ds) fp):∃a xs eu dO,v= .ref a∧D.lst ds= .lst eu∧H a=some (.lst xs)∧fp=a::dO∧b8 (Own Z G H n) xs eu dO:=by
 rcases o with o| ⟨_,a,xs,ds,_,e,_⟩ | ⟨a,φ,_,_,_,⟨_,b,ns,e,_⟩ | ⟨_,k,e,_⟩⟩
 ·exact o
 ·cases e
 ·cases e
 ·cases e
theorem Own.one{Z:DC}{G H:Hp}{v:V}{d:D}{fp:List Addr}(o:Own Z G H 1 v d fp):∃a xs ds dO,v= .ref a∧d= .lst ds∧H a=some (.lst xs)∧fp=a::dO∧b8 (Own Z G H 0) xs ds dO:=by
 rcases o with o| ⟨z,_⟩ | ⟨_,_,_,_,_,⟨z,_⟩ | ⟨z,_⟩⟩
 ·exact o
 ·exact absurd z (by decide)
 ·exact absurd z (by decide)
 ·exact absurd z (by decide)
theorem b8.imp{R R':V→D→List Addr→Prop}:∀{vs:List V}{ds:List D}{fp:List Addr},b8 R vs ds fp→(∀v d f,(∀b∈f,b∈fp)→R v d f→R' v d f)→b8 R' vs ds fp
 |_,_,_, .nil,_=> .nil
 |_,_,_, .cons a as,h=> .cons (h _ _ _ (λb hb=>kc _ hb) a) (as.imp λv d f hf r=>h v d f (λb hb=>fK _ (hf b hb)) r)
theorem b8.length{R:V→D→List Addr→Prop}:∀{vs:List V}{ds:List D}{fp:List Addr},b8 R vs ds fp→vs.length=ds.length
 |_,_,_, .nil=>rfl
 |_,_,_, .cons _ as=>congrArg (·+1) as.length
section
variable {Z:DC} {G G' H H':Hp}
theorem Own.keep:∀{n:Nat}{v:V}{d:D}{fp:List Addr},Own Z G H n v d fp→aH G G'→(∀b∈fp,H' b=H b)→Own Z G' H' n v d fp
 |0,_,_,_,⟨a,b⟩,s,_=>⟨a.mono s,b⟩
 |n+1,_,_,_, .inl ⟨a,xs,ds,dO,hv,hd,ha,hf,ho⟩,s,k=>by
  subst hf;exact .inl ⟨a,xs,ds,dO,hv,hd,by rw [k a (di ..)];exact ha,rfl,ho.imp λv d f hb r=>Own.keep r s λb q=>k b (gK _ (hb b q))⟩
 |n+1,_,_,_, .inr (.inl ⟨h1,a,xs,ds,hv,hd,ha,ho⟩),s,k=> .inr (.inl ⟨h1,a,xs,ds,hv,hd,s _ _ ha,ho.imp λv d f hb r=>r.imp (λr=>⟨r.1,Own.keep r.2 s λb q=>k b (hb b q)⟩) λr=>⟨r.1,r.2.1.mono s,r.2.2⟩⟩)
 |n+1,_,_,_, .inr (.inr ⟨a,φ,hv,ha,hf,hx⟩),s,k=> .inr (.inr ⟨a,φ,hv,by rw [k a (by rw [hf];exact di ..)];exact ha,hf,hx.imp id λ⟨h1,k,h2,h3⟩=>⟨h1,k,h2,h3.mono s⟩⟩)
theorem b8.u3{R:V→D→List Addr→Prop}:∀{vs:List V}{ds:List D}{fp:List Addr},b8 R vs ds fp→(∀v d f,(∀b∈f,b∈fp)→R v d f→Dv Z G' v d)→ao Z G' vs ds
 |_,_,_, .nil,_=> .nil
 |_,_,_, .cons a as,k=> .cons (k _ _ _ (λb hb=>kc _ hb) a) (as.u3 λv d f hf r=>k v d f (λb hb=>fK _ (hf b hb)) r)
theorem Own.dv:∀{n:Nat}{v:V}{d:D}{fp:List Addr},Own Z G H n v d fp→aH G G'→(∀b∈fp,∀o,H b=some o→G' b=some o)→Dv Z G' v d
 |0,_,_,_,⟨a,_⟩,s,_=>a.mono s
 |n+1,_,_,_, .inl ⟨a,xs,ds,dO,hv,hd,ha,hf,ho⟩,s,k=>by
  subst hf hv hd;exact .lst (k a (di ..) _ ha) (ho.u3 λv d f hf r=>Own.dv r s λb hb=>k b (gK _ (hf b hb)))
 |n+1,_,_,_, .inr (.inl ⟨_,a,xs,ds,hv,hd,ha,ho⟩),s,k=>by
  subst hv hd;exact .tup (s _ _ ha) (ho.u3 λv d f hf r=>r.elim (λr=>Own.dv r.2 s λb hb=>k b (hf b hb)) λr=>r.2.1.mono s)
 |n+1,_,_,_, .inr (.inr ⟨a,φ,hv,ha,hf,hx⟩),s,k=>by
  subst hv hf
  rcases hx with ⟨_,b,ns,hd,hp⟩ | ⟨_,kx,hd,hp⟩
  ·subst hd hp
   exact .set (k a (di ..) _ ha)
  ·subst hd
   exact .x (k a (di ..) _ ha) (hp.mono s)
theorem b8.flat:∀{vs:List V}{ds:List D}{fp:List Addr},b8 (Own Z G H 0) vs ds fp→ao Z G vs ds∧fp= []
 |_,_,_, .nil=>⟨.nil,rfl⟩
 |_,_,_, .cons a as=>by
  obtain ⟨h1,h2⟩:=as.flat;obtain ⟨a1,a2⟩:=a;exact ⟨.cons a1 h1,by rw [a2,h2];rfl⟩
theorem ao.own:∀{vs:List V}{ds:List D},ao Z G vs ds→b8 (Own Z G H 0) vs ds []
 |_,_, .nil=> .nil
 |_,_, .cons a as=> .cons (f:= []) (fs:= []) ⟨a,rfl⟩ as.own
end
mutual
def jF:D→Bool
 | .aN=>true
 | .bl _=>true
 | .int _=>true
 | .str _=>true
 | .tup l=>yL l
 |_=>false
def yL:List D→Bool
 | []=>true
 |d::ds=>jF d&&yL ds
end
mutual
theorem Dv.jF{Z:DC}{G G':Hp}(k:∀b xs,G b=some (.tup xs)→G' b=some (.tup xs)):∀{v:V}{d:D},Dv Z G v d→L2.jF d=true→Dv Z G' v d
 |_,_, .aN,_=> .aN
 |_,_, .bl b,_=> .bl b
 |_,_, .int i,_=> .int i
 |_,_, .str x h,_=> .str x h
 |_,_, .tup h a,f=> .tup (k _ _ h) (ao.jF k a (by rw [L2.jF] at f;exact f))
 |_,_, .lst _ _,f=>by simp [L2.jF] at f
 |_,_, .obj _,f=>by simp [L2.jF] at f
 |_,_, .rng _,f=>by simp [L2.jF] at f
 |_,_, .jq _ _,f=>by simp [L2.jF] at f
 |_,_, .fb _ _ _ _ _,f=>by simp [L2.jF] at f
 |_,_, .set _,f=>by simp [L2.jF] at f
 |_,_, .x _ _,f=>by simp [L2.jF] at f
 |_,_, .err _ _ _,f=>by simp [L2.jF] at f
theorem ao.jF{Z:DC}{G G':Hp}(k:∀b xs,G b=some (.tup xs)→G' b=some (.tup xs)):∀{vs:List V}{ds:List D},ao Z G vs ds→yL ds=true→ao Z G' vs ds
 |_,_, .nil,_=> .nil
 |_,_, .cons a as,f=>by
  rw [yL,jA] at f;exact .cons (Dv.jF k a f.1) (ao.jF k as f.2)
end
def Hf:HO→Bool
 | .lst _=>true
 | .ext _=>true
 |_=>false
theorem Own.Iq{Z:DC}{G G' H:Hp}:∀{n:Nat}{v:V}{d:D}{fp:List Addr},Own Z G H n v d fp→aH G G'→(∀b∈fp,∀o,Hf o=true→H b=some o→G' b=some o)→Dv Z G' v d
 |0,_,_,_,⟨a,_⟩,s,_=>a.mono s
 |n+1,_,_,_, .inl ⟨a,xs,ds,dO,hv,hd,ha,hf,ho⟩,s,k=>by
  subst hf hv hd;exact .lst (k a (di ..) _ rfl ha) (ho.u3 λv d f hf r=>Own.Iq r s λb hb=>k b (gK _ (hf b hb)))
 |n+1,_,_,_, .inr (.inl ⟨_,a,xs,ds,hv,hd,ha,ho⟩),s,k=>by
  subst hv hd;exact .tup (s _ _ ha) (ho.u3 λv d f hf r=>r.elim (λr=>Own.Iq r.2 s λb hb=>k b (hf b hb)) λr=>r.2.1.mono s)
 |n+1,_,_,_, .inr (.inr ⟨a,φ,hv,ha,hf,hx⟩),s,k=>by
  subst hv hf
  rcases hx with ⟨_,b,ns,hd,hp⟩ | ⟨_,kx,hd,hp⟩
  ·subst hd hp
   exact .set (k a (di ..) _ rfl ha)
  ·subst hd
   exact .x (k a (di ..) _ rfl ha) (hp.mono s)
structure Bs where
 G₀:Hp
 H₀:Hp
 Gf:Hp
structure SIx (Z:DC) (B:Bs) (md:List Nat) (ρ:DN) (σ:St) (H G:Hp) (fp:Nat→List Addr):Prop where
 ex:Ext B.G₀ B.H₀ G H
 fl:aH B.Gf G
 len:ρ.length=σ.length
 at_:∀(i:Nat)(d:D),ρ[i]? =some (some d)→∃v,σ[i]? =some (some v)∧Own Z G H (md.getD i 0) v d (fp i)
 nd:∀i,(fp i).Nodup
 ap:∀i j b,i≠j→b∈fp i→b∉fp j
 nw:∀i b,b∈fp i→B.H₀ b=none∧H b≠none∧G b=none
def SI(Z:DC)(B:Bs)(md:List Nat)(ρ:DN)(σ:St)(H:Hp):Prop:=∃G fp,SIx Z B md ρ σ H G fp
def cz:List Nat→DN→DN
 |_,[]=> []
 | [],o::ρ=>o::ρ
 |0::md,o::ρ=>o::cz md ρ
 | (_+1)::md,_::ρ=>none::cz md ρ
theorem lK:∀(md:List Nat)(ρ:DN),(cz md ρ).length=ρ.length
 |md,[]=>by cases md<;>rfl
 | [],o::ρ=>rfl
 |0::md,o::ρ=>by rw [cz,cJ,lK md ρ,cJ]
 | (_+1)::md,_::ρ=>by rw [cz,cJ,lK md ρ,cJ]
theorem n4{d:D}:∀(md:List Nat)(ρ:DN)(i:Nat),(cz md ρ)[i]? =some (some d)→md.getD i 0=0∧ρ[i]? =some (some d)
 |md,[],i,h=>by cases md<;>simp [cz] at h
 | [],o::ρ,i,h=>⟨by simp,h⟩
 |0::md,o::ρ,0,h=>⟨rfl,by simpa [cz] using h⟩
 |0::md,o::ρ,i+1,h=>by
  rw [cz,wc] at h;obtain ⟨a,b⟩:=n4 md ρ i h;exact ⟨by rw [List.getD_cons_succ];exact a,by rw [wc];exact b⟩
 | (_+1)::md,_::ρ,0,h=>by simp [cz] at h
 | (_+1)::md,_::ρ,i+1,h=>by
  rw [cz,wc] at h;obtain ⟨a,b⟩:=n4 md ρ i h;exact ⟨by rw [List.getD_cons_succ];exact a,by rw [wc];exact b⟩
def uA(md:List Nat):Bool→DN→DN
 |true,ρ=>ρ
 |false,ρ=>cz md ρ
def jc:Bool→D→Prop
 |true,d=>jF d=true
 |false,_=>True
section
variable {Z:DC} {B:Bs} {md:List Nat} {ρ:DN} {σ:St} {H G:Hp} {fp:Nat→List Addr}
theorem xX{i:Nat}{d:D}(h:(cz md ρ)[i]? =some (some d)):md.getD i 0=0∧ρ[i]? =some (some d):=n4 md ρ i h
theorem SIx.u6(S:SIx Z B md ρ σ H G fp):bW Z G σ (cz md ρ):=by
 refine ⟨by rw [lK];exact S.len,λi d h=>?_⟩
 obtain ⟨z,h⟩:=xX h;obtain ⟨v,hv,o⟩:=S.at_ i d h;rw [z] at o;exact ⟨v,hv,o.1⟩
theorem SIx.pQ(S:SIx Z B md ρ σ H G fp):bW Z H σ ρ:=by
 refine ⟨S.len,λi d h=>?_⟩;obtain ⟨v,hv,o⟩:=S.at_ i d h;exact ⟨v,hv,o.dv S.ex.sub λb _ u e=>e⟩
theorem SIx.grow{G' H':Hp}(S:SIx Z B md ρ σ H G fp)(x:Ext G H G' H'):SIx Z B md ρ σ H' G' fp where
 ex:=S.ex.trans x
 fl:=S.fl.trans x.gg
 len:=S.len
 at_:=λi d h=>by
  obtain ⟨v,hv,o⟩:=S.at_ i d h;refine ⟨v,hv,o.keep x.gg λb hb=>?_⟩;cases e:H b with
  |none=>exact absurd e (S.nw i b hb).2.1
  |some u=>exact x.hh _ _ e
 nd:=S.nd
 ap:=S.ap
 nw:=λi b hb=>let ⟨h1,h2,h3⟩:=S.nw i b hb;⟨h1,dE x.hh h2,x.off b h2 h3⟩
theorem Ext.all{G' H':Hp}(s:aH G H)(x:Ext H H G' H'):Ext G H G H':=⟨.refl _,s.trans x.hh,x.hh,λ_ _ h=>h⟩
open Classical in
noncomputable def fD(G H:Hp)(fp:Nat→List Addr):Hp:=λb=>if ∃i,b∈fp i then (match H b with|some (.lst xs)=>some (.lst xs) |some (.ext φ)=>some (.ext φ) |_=>none) else G b
open Classical in
noncomputable def nO(G:Hp)(fp:Nat→List Addr):Hp:=λb=>if ∃i,b∈fp i then none else G b
theorem A8{b:Addr}{o:HO}(i:Nat)(h:b∈fp i)(ho:Hf o=true)(e:H b=some o):fD G H fp b=some o:=by
 unfold fD;rw [if_pos ⟨i,h⟩,e];cases o<;>first|rfl|cases ho
theorem lN{b:Addr}(h:¬∃i,b∈fp i):fD G H fp b=G b:=if_neg h
theorem SIx.GR(S:SIx Z B md ρ σ H G fp):aH G (fD G H fp)∧aH (fD G H fp) H∧bW Z (fD G H fp) σ ρ:=by
 have s1:aH G (fD G H fp):=λb o e=>by
  by_cases h:∃i,b∈fp i
  ·obtain ⟨i,hi⟩:=h
   rw [(S.nw i b hi).2.2] at e;cases e
  ·rw [lN h];exact e
 refine ⟨s1,λb o e=>?_,S.len,λi d h=>?_⟩
 ·by_cases h:∃i,b∈fp i
  ·unfold fD at e
   rw [if_pos h] at e
   split at e
   ·next xs hx=>rw [hx];exact e
   ·next φ hx=>rw [hx];exact e
   ·cases e
  ·rw [lN h] at e;exact S.ex.sub _ _ e
 ·obtain ⟨v,hv,o⟩:=S.at_ i d h
  exact ⟨v,hv,o.Iq s1 λb hb u hu hx=>A8 i hb hu hx⟩
theorem SIx.OO{G' H':Hp}(S:SIx Z B md ρ σ H G fp)(x:Ext (fD G H fp) H G' H'):Ext G H (nO G' fp) H'∧∀b xs,G' b=some (.tup xs)→nO G' fp b=some (.tup xs):=by
 obtain ⟨s1,s2,_⟩:=S.GR;refine ⟨⟨λb o e=>?_,λb o e=>?_,x.hh,λb hb hg=>?_⟩,λb xs e=>?_⟩
 ·have h:¬∃i,b∈fp i:=by
   rintro ⟨i,hi⟩;rw [(S.nw i b hi).2.2] at e;cases e
  unfold nO;rw [if_neg h];exact x.gg _ _ (s1 _ _ e)
 ·unfold nO at e
  split at e
  ·cases e
  ·exact x.sub _ _ e
 ·unfold nO
  split
  ·rfl
  ·next h=>exact x.off b hb (by rw [lN h];exact hg)
 ·have h:¬∃i,b∈fp i:=by
   rintro ⟨i,hi⟩;have hb:=(S.nw i b hi).2.1;cases hw:fD G H fp b with
   |none=>rw [x.off b hb hw] at e;cases e
   |some o=>
    have:=x.gg _ _ hw
    rw [e] at this;cases this;unfold fD at hw;rw [if_pos ⟨i,hi⟩] at hw
    split at hw<;>cases hw
  unfold nO;rw [if_neg h];exact e
theorem SIx.ev{t:aR}{P:D→Prop}{Q:VK}(S:SIx Z B md ρ σ H G fp)(m:Bool)(h:t (uA md m ρ) P)
  (hq:∀d,P d→jc m d∧∀v G' H',SIx Z B md ρ σ H' G' fp→Ext G H G' H'→Dv Z G' v d→Q v H'):cx Z t σ H Q:=by
 cases m with
 |false=>exact ⟨G,_,P,S.ex.sub,S.u6,h,λd hd v G' H' x dv=>(hq d hd).2 v G' H' (S.grow x) x dv⟩
 |true=>
  obtain ⟨s1,s2,e⟩:=S.GR;refine ⟨fD G H fp,_,P,s2,e,h,λd hd v G' H' x dv=>?_⟩;obtain ⟨x',k⟩:=S.OO x;exact (hq d hd).2 v _ H' (S.grow x') x' (dv.jF k (hq d hd).1)
theorem SIx.Mi{t:cg}{P:Bool→Prop}{Q:Bool→Hp→Prop}(S:SIx Z B md ρ σ H G fp)(h:t ρ P)(hq:∀b,P b→∀H',SIx Z B md ρ σ H' G fp→Q b H'):liftT Z t σ H Q:=
 ⟨H,ρ,P, .refl _,S.pQ,h,λb hb G' H' x=>hq b hb H' (S.grow (Ext.all S.ex.sub x))⟩
theorem SIx.oI{i:Nat}{v:V}{d:D}(S:SIx Z B md ρ σ H G fp)(hm:md.getD i 0=0)(dv:Dv Z G v d):SIx Z B md (ρ.set i (some d)) (σ.set i (some v)) H G (λj=>if j=i then [] else fp j) where
 ex:=S.ex
 fl:=S.fl
 len:=by rw [dm,dm];exact S.len
 at_:=λj c h=>by
  by_cases z:i=j
  ·subst z
   by_cases hi:i<ρ.length
   ·rw [gB hi] at h
    cases h;exact ⟨v,gB (by rw [←S.len];exact hi),by rw [hm,if_pos rfl];exact ⟨dv,rfl⟩⟩
   ·rw [qP (dU hi),dR (dU hi)] at h;cases h
  ·rw [dF z] at h ⊢
   rw [if_neg (Ne.symm z)];exact S.at_ j c h
 nd:=λj=>by split;exact oM;exact S.nd j
 ap:=λj k b ne hj hk=>by
  split at hj
  ·cases hj
  ·split at hk
   ·cases hk
   ·exact S.ap j k b ne hj hk
 nw:=λj b hb=>by
  split at hb
  ·cases hb
  ·exact S.nw j b hb
theorem SIx.Po{i n:Nat}{v:V}{d:D}{f:List Addr}(S:SIx Z B md ρ σ H G fp)(hm:md.getD i 0=n)(o:Own Z G H n v d f)(nd:f.Nodup)(nw:∀b∈f,B.H₀ b=none∧H b≠none∧G b=none)(ap:∀b∈f,∀j,j≠i→b∉fp j):
  SIx Z B md (ρ.set i (some d)) (σ.set i (some v)) H G (λj=>if j=i then f else fp j) where
 ex:=S.ex
 fl:=S.fl
 len:=by rw [dm,dm];exact S.len
 at_:=λj c h=>by
  by_cases z:i=j
  ·subst z
   by_cases hi:i<ρ.length
   ·rw [gB hi] at h
    cases h;exact ⟨v,gB (by rw [←S.len];exact hi),by rw [hm,if_pos rfl];exact o⟩
   ·rw [qP (dU hi),dR (dU hi)] at h;cases h
  ·rw [dF z] at h ⊢
   rw [if_neg (Ne.symm z)];exact S.at_ j c h
 nd:=λj=>by split;exact nd;exact S.nd j
 ap:=λj k b ne hj hk=>by
  split at hj
  ·next z=>
   rw [if_neg (λw=>ne (z.trans w.symm))] at hk;exact ap b hj k (λw=>ne (z.trans w.symm)) hk
  ·next z=>
   split at hk
   ·exact ap b hk j z hj
   ·exact S.ap j k b ne hj hk
 nw:=λj b hb=>by
  split at hb
  ·exact nw b hb
  ·exact S.nw j b hb
noncomputable def plus(G H:Hp)(F:Addr→Prop):Hp:=λb=>open Classical in if F b then H b else G b
theorem j1{F:Addr→Prop}{b:Addr}(h:F b):plus G H F b=H b:=by unfold plus;rw [if_pos h]
theorem fQ{F:Addr→Prop}{b:Addr}(h:¬F b):plus G H F b=G b:=by unfold plus;rw [if_neg h]
theorem kq{F:Addr→Prop}(s:aH G H):aH (plus G H F) H:=λb o e=>by
 by_cases h:F b
 ·rw [j1 h] at e;exact e
 ·rw [fQ h] at e;exact s _ _ e
theorem dP{F:Addr→Prop}(s:aH G H):aH G (plus G H F):=λb o e=>by
 by_cases h:F b
 ·rw [j1 h];exact s _ _ e
 ·rw [fQ h];exact e
theorem SIx.Sj{t:aR}{P:D→Prop}{Q:VK}(S:SIx Z B md ρ σ H G fp)(h:t ρ P)(hq:∀d,P d→∀v G' H',Ext B.G₀ B.H₀ G' H'→Dv Z G' v d→Q v H'):cx Z t σ H Q:=by
 let F:Addr→Prop:=λb=>∃i,b∈fp i
 have s:=S.ex.sub
 have x0:Ext B.G₀ B.H₀ (plus G H F) H:=⟨S.ex.gg.trans (dP s),kq s,S.ex.hh,λb hb hg=>by
  rw [fQ (λ⟨i,hi⟩=>hb (S.nw i b hi).1)];exact S.ex.off b hb hg⟩
 refine ⟨plus G H F,ρ,P,kq s,⟨S.len,λi d h=>?_⟩,h,λd hd v G' H' x dv=>hq d hd v G' H' (x0.trans x) dv⟩;obtain ⟨v,hv,o⟩:=S.at_ i d h;exact ⟨v,hv,o.dv (dP s) λb hb u e=>by rw [j1 ⟨i,hb⟩];exact e⟩
end
structure bQ where
 nx:DN→Prop
 rt:D→Prop
 bk:DN→Prop:=λ_=>False
 ct:DN→Prop:=λ_=>False
 xc:DN→D→Prop:=λ_ _=>False
abbrev bO:=bQ→DN→Prop
structure Meets (Z:DC) (X:Cx) (B:Bs) (md:List Nat) (rn:Nat) (E:bQ) (Dn:Ends):Prop where
 nx:∀ρ,E.nx ρ→∀σ H,SI Z B md ρ σ H→Dn.nx σ H
 rt:∀d,E.rt d→∀v f G' H',Ext B.G₀ B.H₀ G' H'→Own Z G' H' rn v d f→f.Nodup→(∀b∈f,B.H₀ b=none∧H' b≠none∧G' b=none)→Dn.rt v H'
 bk:∀ρ,E.bk ρ→∀σ H,SI Z B md ρ σ H→Dn.bk σ H
 ct:∀ρ,E.ct ρ→∀σ H,SI Z B md ρ σ H→Dn.ct σ H
 xc:∀ρ d,E.xc ρ d→∀σ H G fp a,SIx Z B md ρ σ H G fp→Dv Z G (.ref a) d→yq X σ H a
def jg(Z:DC)(X:Cx)(md:List Nat)(rn:Nat)(t:bO):TS:=λDn σ H=>∃(B:Bs)(ρ:DN)(E:bQ),SI Z B md ρ σ H∧t E ρ∧Meets Z X B md rn E Dn
def DSt(Z:DC)(X:Cx)(md:List Nat)(rn:Nat)(st:Stmt)(t:bO):Prop:=PS X st (jg Z X md rn t)
def DSs(Z:DC)(X:Cx)(md:List Nat)(rn:Nat)(qH:List Stmt)(t:bO):Prop:=fS X qH (jg Z X md rn t)
theorem PS.imp{X:Cx}{st:Stmt}{t t':TS}(h:PS X st t)(f:∀D σ H,t' D σ H→t D σ H):PS X st t':=λpins s σ H D I q=>h pins s σ H D I (f _ _ _ q)
theorem fS.imp{X:Cx}{st:List Stmt}{t t':TS}(h:fS X st t)(f:∀D σ H,t' D σ H→t D σ H):fS X st t':=λpins s σ H D I q=>h pins s σ H D I (f _ _ _ q)
section
variable {Z:DC} {X:Cx} {md:List Nat} {rn:Nat} {st:Stmt} {qH:List Stmt} {t u:bO} {e:Expr} {te:aR} {pos:Pos}
def Ij:bO:=λE ρ=>E.nx ρ
def yx(t u:bO):bO:=λE ρ=>t {E with nx:=u E} ρ
theorem aF:DSs Z X md rn [] Ij:=mS.imp λD σ H ⟨B,ρ,E,S,h,M⟩=>M.nx _ h _ _ S
theorem ag(h1:DSt Z X md rn st t)(h2:DSs Z X md rn qH u):DSs Z X md rn (st::qH) (yx t u):=
 (aP h1 h2).imp λD σ H ⟨B,ρ,E,S,h,M⟩=>⟨B,ρ,_,S,h,⟨λaE h' ax H' S'=>⟨B,aE,E,S',h',M⟩,M.rt,M.bk,M.ct,M.xc⟩⟩
theorem ai(h1:DSt Z X md rn st t):DSs Z X md rn [st] t:=dD h1
theorem wV:DSs Z X md rn qH (λ_ _=>False):=xW.imp λD σ H ⟨B,ρ,E,S,h,M⟩=>h
theorem iF:DSt Z X md rn st (λ_ _=>False):=AO.imp λD σ H ⟨B,ρ,E,S,h,M⟩=>h
def LF(te:aR):bO:=λE ρ=>te ρ E.rt
theorem ay(he:DE Z X e te):DSt Z X md 0 (.Return (some e) pos) (LF te):=(yT he).imp λD σ H ⟨B,ρ,E,⟨G,fp,S⟩,h,M⟩=>S.Sj h λd hd v G' H' x dv=>M.rt d hd v [] G' H' x ⟨dv,rfl⟩ oM (λb hb=>by cases hb)
def Lv(c:cg)(t u:bO):bO:=λE ρ=>c ρ λb=>if b=true then t E ρ else u E ρ
theorem aY{c:Expr}{a b:List Stmt}{tc:cg}(hc:DT Z X c tc)(ha:DSs Z X md rn a t)(hb:DSs Z X md rn b u):DSt Z X md rn (.If c a b pos) (Lv tc t u):=by
 refine (um hc ha hb).imp ?_;rintro D σ H ⟨B,ρ,E,⟨G,fp,S⟩,h,M⟩;refine S.Mi h λb hb H' S'=>?_;cases b with
 |true=>exact aU ⟨B,ρ,E,⟨G,fp,S'⟩,(by simpa using hb),M⟩
 |false=>exact aI ⟨B,ρ,E,⟨G,fp,S'⟩,(by simpa using hb),M⟩
def dSet(md:List Nat)(m:Bool)(i:Nat)(te:aR):bO:=λE ρ=>te (uA md m ρ) λd=>jc m d∧E.nx (ρ.set i (some d))
theorem aS(m:Bool)(i:Nat){x:Str}{pos':Pos}(hN:X.N.Nodup)(he:DE Z X e te)(hm:md.getD i 0=0:=by rfl)(hi:X.N[i]? =some x:=by rfl)(hx:Loc X.env.scope x:=by first|exact Or.inl rfl|exact Or.inr rfl)(hs:swapsWith e (some (.Name x pos')) pos.line X.env=pure false:=by rfl)
  (hf:X.fn x=true∨X.env.scope.names.lookup x=some .local:=by first|exact .inl rfl|exact .inr rfl|assumption):DSt Z X md rn (.Assign [.Name x pos'] e pos) (dSet md m i te):=by
 refine (cy hN hi hx he hs hf).imp ?_;rintro D σ H ⟨B,ρ,E,⟨G,fp,S⟩,h,M⟩;exact S.ev m h λd hd=>⟨hd.1,λv G' H' S' x dv=>M.nx _ hd.2 _ _ ⟨G',_,S'.oI hm dv⟩⟩
theorem kg(i:Nat){x:Str}{px hZ:Pos}{tg iter elt:Expr}{ifs:List Expr}{scope:Scope}{NC:List Str}{src:List (Option Nat)}{wi:gH}{g:cT}{tt:cg}(hc:X.calm=true)(hN:X.N.Nodup)(c:bz X scope)(eR:cv scope X.N src NC)(hi:DI Z X tg iter wi)
  (hg:∀ex s H,DG Z (dN X scope NC ex s H) tg g) (ht:∀ex s H,zh Z (dN X scope NC ex s H) ifs tt) (he:∀ex s H,DE Z (dN X scope NC ex s H) elt te)
  (je:swapsWith (.ListComp elt [⟨tg,iter,ifs,0⟩] scope pos) (some (.Name x px)) hZ.line X.env=pure true:=by rfl) (hm:md.getD i 0=0:=by rfl) (tT:X.N[i]? =some x:=by rfl) (hx:Loc X.env.scope x:=by first|exact Or.inl rfl|exact Or.inr rfl)
  (hf:X.fn x=true∨X.env.scope.names.lookup x=some .local:=by first|exact .inl rfl|exact .inr rfl|assumption)
  (hs:∀x,foldedSetIterable iter X.env x=pure x:=by intro _;rfl):DSt Z X md rn (.Assign [.Name x px] (.ListComp elt [⟨tg,iter,ifs,0⟩] scope pos) hZ) (dSet md false i (BB wi g tt te src)):=by
 refine (kr hc hN tT hx c eR hi hg ht he je hf hs).imp ?_;rintro D σ H ⟨B,ρ,E,⟨G,fp,S⟩,h,M⟩;refine t9 σ H _ (S.ev false h λd hd=>⟨hd.1,λv G' H' S' x dv=>M.nx _ hd.2 _ _ ⟨G',_,S'.oI hm dv⟩⟩)
end
end L2
namespace L2
open PySem PySem.Spec PyProof.Rows
section
variable {Z:DC} {X:Cx} {B:Bs} {md:List Nat} {rn:Nat} {ρ:DN} {σ:St} {H G:Hp} {fp:Nat→List Addr}
def yI(Z:DC)(md:List Nat)(g:cT):TG:=λv σ H Q=>∃(B:Bs)(ρ:DN)(d:D)(P:DN→Prop)(G:Hp)(fp:Nat→List Addr),SIx Z B md ρ σ H G fp∧Dv Z G v d∧g d ρ P∧∀aE,P aE→∀ax kX,SIx Z B md aE ax H G kX→Q ax H
def CQ(Z:DC)(md:List Nat)(g:js):qX:=λvs σ H Q=>∃(B:Bs)(ρ:DN)(ds:List D)(P:DN→Prop)(G:Hp)(fp:Nat→List Addr),SIx Z B md ρ σ H G fp∧ao Z G vs ds∧g ds ρ P∧∀aE,P aE→∀ax kX,SIx Z B md aE ax H G kX→Q ax H
def zg(Z:DC)(X:Cx)(md:List Nat)(e:Expr)(g:cT):Prop:=PG X e (yI Z md g)
def yp(Z:DC)(X:Cx)(md:List Nat)(es:List Expr)(g:js):Prop:=tw X es (CQ Z md g)
theorem aT(i:Nat){x:Str}{pos:Pos}(hN:X.N.Nodup)(hm:md.getD i 0=0:=by rfl)(hi:X.N[i]? =some x:=by rfl)(hx:Loc X.env.scope x:=by first|exact Or.inl rfl|exact Or.inr rfl)(hf:X.fn x=true∨X.env.scope.names.lookup x=some .local:=by first|exact .inl rfl|exact .inr rfl|assumption):zg Z X md (.Name x pos) (eh i):=
 (j0 hN hi hx hf).imp λv σ H Q ⟨B,ρ,d,P,G,fp,S,dv,h,q⟩=>q _ h _ _ (S.oI hm dv)
theorem cK:yp Z X md [] BN:=qr.imp λv σ H Q ⟨B,ρ,ds,P,G,fp,S,dv,⟨h,p⟩,q⟩=>by
 subst h;cases dv;exact ⟨rfl,q _ p _ _ S⟩
theorem bh{e:Expr}{es:List Expr}{g:cT}{gs:js}(h1:zg Z X md e g)(h2:yp Z X md es gs)(hs:(assignEach (e::es) X.env).map (·.2)=assign e X.env::(assignEach es X.env).map (·.2):=by rfl):yp Z X md (e::es) (yz g gs):=by
 refine (ko h1 h2 hs).imp ?_;rintro v σ H Q ⟨B,ρ,ds,P,G,fp,S,dv,h,q⟩;cases dv with
 |nil=>exact h.elim
 |cons a as=>exact ⟨_,_,rfl,B,ρ,_,_,G,fp,S,a,h,λaE hp ax kX S'=>⟨B,aE,_,P,G,kX,S',as,hp,q⟩⟩
theorem fg(n:Nat){es:List Expr}{k:Nat}{pos:Pos}{gs:js}(hc:X.calm=true)(h:yp Z X md es gs)(hn:(assignEach es X.env).length=n:=by rfl)(iH:(assignEach es X.env).findIdx? (·.1)=none:=by rfl):zg Z X md (.Tuple es k pos) (tL n gs):=by
 refine (uj hc h hn iH).imp ?_;rintro v σ H Q ⟨B,ρ,d,P,G,fp,S,dv,h,q⟩;cases dv<;>first|exact h.elim|skip
 rename_i a xs ds ha es
 exact ⟨a,xs,rfl,cj.of (S.ex.sub _ _ ha),by rw [es.length];exact h.1,B,ρ,_,P,G,fp,S,es,h.2,q⟩
def Lu(md:List Nat)(te:aR)(g:cT):bO:=λE ρ=>te (cz md ρ) λd=>g d ρ E.nx
theorem yB{tg e:Expr}{te:aR}{g:cT}{pos:Pos}(he:DE Z X e te)(hg:zg Z X md tg g)(hs:swapsWithSole [tg] e pos.line X.env=pure false:=by rfl)(hw:swappedStores [tg] e X.env=pure none:=by rfl)
  (h1:(assignEach [tg] X.env).map (·.2)= [assign tg X.env]:=by rfl):DSt Z X md rn (.Assign [tg] e pos) (Lu md te g):=by
 refine (pA he hg hs hw h1).imp ?_;rintro D σ H ⟨B,ρ,E,⟨G,fp,S⟩,h,M⟩;exact S.ev false h λd hd=>⟨trivial,λv G' H' S' x dv=>⟨B,ρ,d,E.nx,G',fp,S',dv,hd,λaE h' ax kX S2=>M.nx _ h' _ _ ⟨G',kX,S2⟩⟩⟩
def jR(g:cT)(tb:bO)(E:bQ):List D→DN→Prop
 | [],ρ=>E.nx ρ
 |x::xs,ρ=>g x ρ λcc=>tb {nx:=jR g tb E xs,ct:=jR g tb E xs,bk:=E.nx,rt:=E.rt,xc:=E.xc} cc
def GK(md:List Nat)(m:Bool)(wi:gH)(g:cT)(tb:bO):bO:=λE ρ=>wi (uA md m ρ) λds=>jR g tb E ds ρ
theorem se{D':Ends}{J:It}{ds:List D}{g:cT}{tb:bO}{E:bQ}(S:SIx Z B md ρ σ H G fp)(it:oh Z G J ds)(hd:jR g tb E ds ρ)(M:Meets Z X B md rn E D'):
  ∃W:Nat→Nat→St→Hp→Prop,(∃m,W 0 m σ H)∧∀i m σ H,W i m σ H→
   (J.stop i H∧D'.nx σ H)∨(J.go i H∧∃N:St→Hp→Prop,(∀ax H',N ax H'→∃m',m'<m∧W (i+1) m' ax H')∧∀x H',J.yld i H x H'→yI Z md g x σ H' λfe H2=>jg Z X md rn tb {D' with nx:=N,ct:=N,bk:=D'.nx} fe H2):=by
 let B1:Bs:={B with Gf:=G}
 have back:∀ρ σ H,SI Z B1 md ρ σ H→SI Z B md ρ σ H:=λρ σ H ⟨G2,xa,S2⟩=>⟨G2,xa,⟨S2.ex,S.fl.trans S2.fl,S2.len,S2.at_,S2.nd,S2.ap,S2.nw⟩⟩;have S1:SIx Z B1 md ρ σ H G fp:=⟨S.ex, .refl _,S.len,S.at_,S.nd,S.ap,S.nw⟩;refine ⟨λi m σ H=>m=ds.length-i∧i≤ds.length∧∃ρ,SI Z B1 md ρ σ H∧jR g tb E (ds.drop i) ρ,⟨_,rfl,iW _,ρ,⟨G,fp,S1⟩,hd⟩,?_⟩;rintro i m fe H2 ⟨rfl,hi,gG,⟨G2,xa,S2⟩,hf⟩;obtain ⟨go,stop,yld⟩:=it G2 H2 S2.fl S2.ex.sub i
 by_cases eU:i<ds.length
 ·refine .inr ⟨go eU,λax H'=>∃aE,SI Z B1 md aE ax H'∧jR g tb E (ds.drop (i+1)) aE,λax H' n=>⟨ds.length-(i+1),by omega,rfl,eU,n⟩,λx H' y=>?_⟩
  obtain ⟨G3,d,x3,IQ,dv⟩:=yld x H' eU y;rw [pO IQ] at hf;refine ⟨B1,gG,d,_,G3,xa,S2.grow x3,dv,hf,λXc h4 jG Sm S4=>?_⟩;exact ⟨B1,Xc,_,⟨G3,Sm,S4⟩,h4,⟨λaE h' ax H' s'=>⟨aE,s',h'⟩,M.rt,λaE h' ax H' s'=>M.nx _ h' _ _ (back _ _ _ s'),λaE h' ax H' s'=>⟨aE,s',h'⟩,λaE d h' ax H' G' kX a' s' ic=>M.xc aE d h' ax H' G' kX a' ⟨s'.ex,S.fl.trans s'.fl,s'.len,s'.at_,s'.nd,s'.ap,s'.nw⟩ ic⟩⟩
 ·have e:ds.drop i= []:=zd (by omega)
  rw [e] at hf;exact .inl ⟨stop (by omega),M.nx _ hf _ _ (back _ _ _ ⟨G2,xa,S2⟩)⟩
variable {tg iter:Expr} {body:List Stmt} {wi:gH} {g:cT} {tb:bO} {pos:Pos}
theorem dG(hc:X.calm=true)(hp:PassesOwn (model X.prog X.w) X.A X.env X.xe)(hi:DI Z X tg iter wi)(hg:zg Z X md tg g)(hb:DSs Z X md rn body tb)
  (hs:∀x,foldedSetIterable iter X.env x=pure x:=by intro _;rfl):DSt Z X md rn (.For tg iter body [] pos) (GK md false wi g tb):=by
 refine (pB hp hc hi hg hb hs).imp ?_;rintro D σ H ⟨B,ρ,E,⟨G,fp,S⟩,h,M⟩;exact ⟨G,_,_,S.ex.sub,S.u6,h,λds hd J G1 H1 x1 it=>se (S.grow x1) it hd M⟩
def E4(Z:DC)(wi:gH):TI:=λσ H R=>∃(G:Hp)(ρ:DN)(P:List D→Prop),aH G H∧bW Z G σ ρ∧wi ρ P∧∀ds,P ds→∀J G' H',Ext G H G' H'→(∀G2,oh Z G2 J ds)→R J H'
def Hm(Z:DC)(X:Cx)(tg e:Expr)(wi:gH):Prop:=PI X tg e (E4 Z wi)
theorem jN(hc:X.calm=true)(hp:PassesOwn (model X.prog X.w) X.A X.env X.xe)(hi:Hm Z X tg iter wi)(hg:zg Z X md tg g)(hb:DSs Z X md rn body tb)
  (hs:∀x,foldedSetIterable iter X.env x=pure x:=by intro _;rfl):DSt Z X md rn (.For tg iter body [] pos) (GK md true wi g tb):=by
 refine (pB hp hc hi hg hb hs).imp ?_;rintro D σ H ⟨B,ρ,E,⟨G,fp,S⟩,h,M⟩;exact ⟨H,ρ,_, .refl _,S.pQ,h,λds hd J G1 H1 x1 it=>se (S.grow (Ext.all S.ex.sub x1)) (it _) hd M⟩
variable {a b e:Expr} {ta te:aR} {t:dZ}
theorem i8{p:Pos}(hg:Gl X "range")(hm:X.mg "range"=none)(ha:DA Z X [a] t)(hs:starEach [a] X.env= [(false,eval a X.env)]:=by rfl):Hm Z X tg (.Call (.Name "range" p) [a] [] pos) (GP t):=by
 refine (qs hg hm ha hs).imp ?_;rintro σ H Q ⟨G,ρ,P,s,en,h,q⟩;refine ⟨G,ρ,_,s,en,h,λds hd vs G1 H1 x1 dv=>?_⟩
 split at hd
 ·obtain ⟨_,rfl,a⟩:=dv.ofOne
  exact ⟨_,by rw [a.ofInt],hd.1.1,hd.1.2,q _ hd.2 _ G1 H1 x1 λ_=>nM 0 _⟩
 ·exact hd.elim
theorem wR{p:Pos}(hg:Gl X "range")(hm:X.mg "range"=none)(ha:DA Z X [a,b] t)(hs:starEach [a,b] X.env= [(false,eval a X.env),(false,eval b X.env)]:=by rfl)(fL:starEach [b] X.env= [(false,eval b X.env)]:=by rfl):Hm Z X tg (.Call (.Name "range" p) [a,b] [] pos) (Mb t):=by
 refine (xU hg hm ha hs fL).imp ?_;rintro σ H Q ⟨G,ρ,P,s,en,h,q⟩;refine ⟨G,ρ,_,s,en,h,λds hd vs G1 H1 x1 dv=>?_⟩
 split at hd
 ·obtain ⟨u1,u2,rfl,da,db⟩:=dv.C4
  exact ⟨_,_,by rw [da.ofInt,db.ofInt],hd.1,q _ hd.2 _ G1 H1 x1 λ_=>nM _ _⟩
 ·exact hd.elim
def yy(c:cg)(tb:bO):bO:=λE ρ=>∃W:Nat→DN→Prop,(∃m,W m ρ)∧∀m ρ,W m ρ→c ρ λb=>if b=true then tb {nx:=λaE=>∃m',m'<m∧W m' aE,ct:=λaE=>∃m',m'<m∧W m' aE,bk:=E.nx,rt:=E.rt,xc:=E.xc} ρ else E.nx ρ
theorem zH{c:Expr}{tc:cg}(hp:PassesOwn (model X.prog X.w) X.A X.env X.xe)(hc:DT Z X c tc)(hb:DSs Z X md rn body tb):DSt Z X md rn (.While c body [] pos) (yy tc tb):=by
 refine (sO hp hc hb).imp ?_;rintro D σ H ⟨B,ρ,E,S,⟨W,⟨m0,w0⟩,turn⟩,M⟩;refine ⟨λm σ H=>∃ρ,SI Z B md ρ σ H∧W m ρ,⟨m0,ρ,S,w0⟩,?_⟩;rintro m fe H2 ⟨gG,⟨G2,xa,S2⟩,w2⟩;refine S2.Mi (turn m gG w2) λb hb H' S'=>?_;cases b with
 |false=>exact aI (M.nx _ (by simpa using hb) _ _ ⟨G2,xa,S'⟩)
 |true=>
  refine aU ⟨λax H'=>∃aE m',m'<m∧SI Z B md aE ax H'∧W m' aE,λax H' ⟨aE,m',h1,h2,h3⟩=>⟨m',h1,aE,h2,h3⟩,B,gG,_,⟨G2,xa,S'⟩,(by simpa using hb),?_⟩
  exact ⟨λaE ⟨m',h1,h2⟩ ax H' s'=>⟨aE,m',h1,s',h2⟩,M.rt,M.nx,λaE ⟨m',h1,h2⟩ ax H' s'=>⟨aE,m',h1,s',h2⟩,M.xc⟩
abbrev nA:=DN→(List D→Prop)→Prop
def p7(Z:DC)(n:Nat)(t:nA):TE:=λσ H Q=>∃(G:Hp)(ρ:DN)(P:List D→Prop),aH G H∧bW Z G σ ρ∧t ρ P∧∀ds,P ds→∀v f G' H',Ext G H G' H'→Own Z G' H' n v (.lst ds) f→f.Nodup→(∀b∈f,H b=none∧H' b≠none∧G' b=none)→Q v H'
def DF(Z:DC)(X:Cx)(n:Nat)(e:Expr)(t:nA):Prop:=PE X e (p7 Z n t)
theorem Ext.side{p:Addr}{o:HO}{G1 H1:Hp}(x:Ext G H G1 H1)(hp:H1 p=none):Ext G H G1 (upd H1 p o):=
 ⟨x.gg,λb u e=>by rw [ah (ar e (x.sub.free hp))];exact x.sub _ _ e,x.hh.trans (aL hp _),x.off⟩
theorem qm{p:Addr}{xs:List V}{ds:List D}{G1 H1:Hp}(x:Ext G H G1 H1)(hp:H1 p=none)(dv:ao Z G1 xs ds):
  Own Z G1 (upd H1 p (.lst xs)) 1 (.ref p) (.lst ds) [p]∧([p]:List Addr).Nodup∧∀b∈([p]:List Addr),H b=none∧(upd H1 p (.lst xs)) b≠none∧G1 b=none:=by
 refine ⟨.inl ⟨p,xs,ds,[],rfl,rfl,ak,rfl,dv.own⟩,by simp,λb hb=>?_⟩
 have:b=p:=by simpa using hb
 subst this;exact ⟨x.hh.free hp,(by rw [ak];exact λz=>nomatch z),x.sub.free hp⟩
def GV(t:dZ):nA:=λρ P=>t ρ λds=>ds.length≤sizeLine∧P ds
theorem lV{es:List Expr}(h:DA Z X es t):DF Z X 1 (.List es pos) (GV t):=by
 refine (mP h).imp ?_;rintro σ H Q ⟨G,ρ,P,s,e,h,q⟩;refine ⟨G,ρ,_,s,e,h,?_⟩;rintro ds ⟨hl,hp⟩ vs G1 H1 x1 bc;refine ⟨by rw [bc.length];exact hl,λp rk=>?_⟩
 obtain ⟨o1,o2,o3⟩:=qm x1 rk bc;exact q _ hp _ _ _ _ (x1.side rk) o1 o2 o3
def B3(te:aR):nA:=λρ P=>te ρ λd=>match d with
 | .lst l=>P l
 | .tup l=>P l
 |_=>False
theorem pN{x:Str}{p:Pos}(hx:x="list")(hg:Gl X x)(hm:X.mg x=none)(hv:bootBuiltins x=some (.type "list"))(ha:DE Z X a ta)(hn:x≠"__name__":=by decide)(dj:(x==("__debug__":Str))=false:=by decide)
  (he:starEach [a] X.env=(false,eval a X.env)::starEach [] X.env:=by rfl) (bU:(backTo pos (starEach [] X.env)).any (·.1)=false:=by rfl):DF Z X 1 (.Call (.Name x p) [a] [] pos) (B3 ta):=by
 refine (lJ kB hg hm hv (aG ha bj he) hn dj he bU).imp ?_;rintro σ H Q ⟨G,ρ,P,s,e,h,q⟩;refine ⟨G,ρ,_,s,e,h,λd hd v G1 H1 x1 dv=>?_⟩;cases dv<;>first|exact hd.elim|skip
 ·rename_i h e
  refine ⟨_,_,rfl, .inl (bb.of (x1.sub _ _ h)),λp hp=>?_⟩;obtain ⟨o1,o2,o3⟩:=qm x1 hp e;exact q _ hd _ _ _ _ (x1.side hp) o1 o2 o3
 ·rename_i h e
  refine ⟨_,_,rfl, .inr (cj.of (x1.sub _ _ h)),λp hp=>?_⟩;obtain ⟨o1,o2,o3⟩:=qm x1 hp e;exact q _ hd _ _ _ _ (x1.side hp) o1 o2 o3
def Ml(wi:gH)(g:cT)(tt:cg)(te:aR)(src:List (Option Nat)):nA:=λρ P=>wi ρ λds=>ig g tt te ds (sV src ρ) [] λ_ out=>P out
theorem CP{src:List (Option Nat)}{tt:cg}:∀σ H Q,p7 Z 1 (Ml wi g tt te src) σ H Q→D2 (t7 Z wi) (p8 Z g) (liftT Z tt) (cx Z te) src σ H Q:=by
 rintro σ H Q ⟨G,ρ,P,s,en,h,q⟩;refine ⟨G,ρ,_,s,en,h,λds hd J G1 H1 x1 it Ad hA=>?_⟩;refine ⟨λi m fe H2=>m=ds.length-i∧i≤ds.length∧∃gG acc,CS Z G1 H1 Ad gG acc fe H2∧ig g tt te (ds.drop i) gG acc λ_ out=>P out,⟨_,rfl,iW _,_,[], .begin x1.sub hA ((en.mono x1.gg).src src),hd⟩,?_⟩;rintro i m fe H2 ⟨rfl,hi,gG,acc,c,hl⟩
 by_cases eU:i<ds.length
 ·obtain ⟨go,turn⟩:=sC hA G1 it i gG acc fe H2 c (λ_ s=>s) eU hl
  exact .inr ⟨go,_,λax H' n=>⟨ds.length-(i+1),by omega,rfl,eU,n⟩,turn⟩
 ·have e:ds.drop i= []:=zd (by omega)
  rw [e] at hl;obtain ⟨G2,ys,s1,s2,s3,off,gA,pS,bc,en⟩:=c;refine .inl ⟨(it G2 H2 s1 s2 i).2.1 (by omega),q _ hl (.ref Ad) [Ad] G2 H2 ⟨x1.gg.trans s1,s2,x1.hh.trans s3,λb hb hg=>off b (dE x1.hh hb) (x1.off b hb hg)⟩ (.inl ⟨Ad,ys,acc,[],rfl,rfl,pS,rfl,bc.own⟩) (by simp) λb hb=>?_⟩
  have:b=Ad:=by simpa using hb
  subst this;exact ⟨x1.hh.free hA,(by rw [pS];exact λz=>nomatch z),gA⟩
variable {elt:Expr} {ifs:List Expr} {scope:Scope} {NC:List Str} {src:List (Option Nat)} {tt:cg}
def BF(md:List Nat)(i:Nat)(t:nA):bO:=λE ρ=>t (cz md ρ) λds=>E.nx (ρ.set i (some (.lst ds)))
theorem nU{n i:Nat}{t:nA}{D':Ends}{E:bQ}(hm:md.getD i 0=n)(S:SIx Z B md ρ σ H G fp)(h:t (cz md ρ) λds=>E.nx (ρ.set i (some (.lst ds))))(M:Meets Z X B md rn E D'):p7 Z n t σ H λv H'=>D'.nx (σ.set i (some v)) H':=by
 refine ⟨G,_,_,S.ex.sub,S.u6,h,λds hd v f G' H' x o nd nw=>?_⟩;refine M.nx _ hd _ _ ⟨G',_,(S.grow x).Po hm o nd (λb hb=>⟨S.ex.hh.free (nw b hb).1,(nw b hb).2⟩) λb hb j _ hj=>(S.nw j b hj).2.1 (nw b hb).1⟩
theorem pj(i:Nat){n:Nat}{x:Str}{pos':Pos}{t:nA}(hN:X.N.Nodup)(he:DF Z X n e t)(hm:md.getD i 0=n:=by rfl)(hi:X.N[i]? =some x:=by rfl)(hx:Loc X.env.scope x:=by first|exact Or.inl rfl|exact Or.inr rfl)(hs:swapsWith e (some (.Name x pos')) pos.line X.env=pure false:=by rfl)
  (hf:X.fn x=true∨X.env.scope.names.lookup x=some .local:=by first|exact .inl rfl|exact .inr rfl|assumption):DSt Z X md rn (.Assign [.Name x pos'] e pos) (BF md i t):=by
 refine (cy hN hi hx he hs hf).imp ?_;rintro D σ H ⟨B,ρ,E,⟨G,fp,S⟩,h,M⟩;exact nU hm S h M
theorem zG(i:Nat){x:Str}{px hZ:Pos}(hc:X.calm=true)(hN:X.N.Nodup)(c:bz X scope)(eR:cv scope X.N src NC)(hi:DI Z X tg iter wi)
  (hg:∀ex s H,DG Z (dN X scope NC ex s H) tg g) (ht:∀ex s H,zh Z (dN X scope NC ex s H) ifs tt) (he:∀ex s H,DE Z (dN X scope NC ex s H) elt te)
  (je:swapsWith (.ListComp elt [⟨tg,iter,ifs,0⟩] scope pos) (some (.Name x px)) hZ.line X.env=pure true:=by rfl) (hm:md.getD i 0=1:=by rfl) (tT:X.N[i]? =some x:=by rfl) (hx:Loc X.env.scope x:=by first|exact Or.inl rfl|exact Or.inr rfl)
  (hf:X.fn x=true∨X.env.scope.names.lookup x=some .local:=by first|exact .inl rfl|exact .inr rfl|assumption)
  (hs:∀x,foldedSetIterable iter X.env x=pure x:=by intro _;rfl):DSt Z X md rn (.Assign [.Name x px] (.ListComp elt [⟨tg,iter,ifs,0⟩] scope pos) hZ) (BF md i (Ml wi g tt te src)):=by
 refine (kr hc hN tT hx c eR hi hg ht he je hf hs).imp ?_;rintro D σ H ⟨B,ρ,E,⟨G,fp,S⟩,h,M⟩;exact CP σ H _ (nU hm S h M)
end
section
variable {Z:DC} {X:Cx} {B:Bs} {md:List Nat} {rn:Nat} {ρ:DN} {σ:St} {H G:Hp} {fp:Nat→List Addr} {a e k o:Expr} {ta te tk tp:aR} {pos apos aZ p2:Pos}
theorem SIx.mut{i:Nat}{v:V}{d':D}{b:Addr}{c:HO}(S:SIx Z B md ρ σ H G fp)(hi:σ[i]? =some (some v))(hb:b∈fp i)(o:Own Z G (upd H b c) (md.getD i 0) v d' (fp i)):SIx Z B md (ρ.set i (some d')) σ (upd H b c) G fp where
 ex:=by
  obtain ⟨h1,h2,h3⟩:=S.nw i b hb;exact ⟨S.ex.gg,λx u e=>by rw [ah (ar e h3)];exact S.ex.sub _ _ e,λx u e=>by rw [ah (ar e h1)];exact S.ex.hh _ _ e,S.ex.off⟩
 fl:=S.fl
 len:=by rw [dm];exact S.len
 at_:=λj w h=>by
  by_cases z:i=j
  ·subst z
   by_cases hl:i<ρ.length
   ·rw [gB hl] at h
    cases h;exact ⟨v,hi,o⟩
   ·rw [qP (dU hl),dR (dU hl)] at h;cases h
  ·rw [dF z] at h
   obtain ⟨u,hu,ow⟩:=S.at_ j w h;exact ⟨u,hu,ow.keep (.refl _) λx hx=>ah λq=>S.ap i j b z hb (by rw [←q];exact hx)⟩
 nd:=S.nd
 ap:=S.ap
 nw:=λj x hx=>by
  obtain ⟨h1,h2,h3⟩:=S.nw j x hx;refine ⟨h1,?_,h3⟩
  by_cases z:x=b
  ·rw [z,ak];exact λq=>nomatch q
  ·rw [ah z];exact h2
theorem SIx.one{i:Nat}{d:D}(S:SIx Z B md ρ σ H G fp)(hm:md.getD i 0=1)(h:ρ[i]? =some (some d)):∃l xs ds,d= .lst ds∧σ[i]? =some (some (.ref l))∧H l=some (.lst xs)∧ao Z G xs ds∧
  ∀fE eu,ao Z G fE eu→SIx Z B md (ρ.set i (some (.lst eu))) σ (upd H l (.lst fE)) G fp:=by
 obtain ⟨v,hv,o⟩:=S.at_ i d h;rw [hm] at o;obtain ⟨l,xs,ds,dO,rfl,rfl,hl,hf,ol⟩:=o.one;obtain ⟨dv,rfl⟩:=ol.flat;refine ⟨l,xs,ds,rfl,hv,hl,dv,λfE eu ic=>S.mut hv (by rw [hf];simp) ?_⟩
 rw [hm,hf];exact .inl ⟨l,fE,eu,[],rfl,rfl,ak,rfl,ic.own⟩
theorem b8.uJ:∀{ys:List V}{cX:List D}{dO:List Addr}(p:Nat){dp:D},b8 (Own Z G H 1) ys cX dO→dO.Nodup→cX[p]? =some dp→∃l xs ds,dp= .lst ds∧ys[p]? =some (.ref l)∧H l=some (.lst xs)∧ao Z G xs ds∧l∈dO∧
  ∀fE eu,ao Z G fE eu→b8 (Own Z G (upd H l (.lst fE)) 1) ys (cX.set p (.lst eu)) dO
 |_,_,_,_,_, .nil,_,h=>by simp at h
 |_,_,_,0,dp, .cons (f:=f) (fs:=fs) a as,nd,h=>by
  simp at h;subst h;obtain ⟨l,xs,ds,dO,rfl,rfl,hl,hf,ol⟩:=a.one;obtain ⟨dv,rfl⟩:=ol.flat;subst hf;refine ⟨l,xs,ds,rfl,rfl,hl,dv,by simp,λfE eu ic=> .cons (.inl ⟨l,fE,eu,[],rfl,rfl,ak,rfl,ic.own⟩) (as.imp λv d f hf r=>r.keep (.refl _) λb hb=>ah λz=>?_)⟩
  have:=(nz.mp nd).1
  exact this (by subst z;exact hf _ hb)
 |_,_,_,p+1,dp, .cons (f:=f) (fs:=fs) a as,nd,h=>by
  obtain ⟨XR,JB,VS⟩:=List.nodup_append.mp nd;obtain ⟨l,xs,ds,e1,e2,e3,e4,e5,e6⟩:=b8.uJ p (dp:=dp) as JB (by simpa using h)
  refine ⟨l,xs,ds,e1,by simpa using e2,e3,e4,fK _ e5,λfE eu ic=>?_⟩
  refine .cons (a.keep (.refl _) λb hb=>ah λz=>?_) (e6 fE eu ic);exact VS b hb l e5 z
theorem SIx.two{i p:Nat}{cX:List D}{dp:D}(S:SIx Z B md ρ σ H G fp)(hm:md.getD i 0=2)(h:ρ[i]? =some (some (.lst cX)))(hp:cX[p]? =some dp):∃T ys l xs ds,dp= .lst ds∧σ[i]? =some (some (.ref T))∧H T=some (.lst ys)∧ys.length=cX.length∧ys[p]? =some (.ref l)∧H l=some (.lst xs)∧ao Z G xs ds∧
  ∀fE eu,ao Z G fE eu→SIx Z B md (ρ.set i (some (.lst (cX.set p (.lst eu))))) σ (upd H l (.lst fE)) G fp:=by
 obtain ⟨v,hv,o⟩:=S.at_ i _ h;rw [hm] at o;obtain ⟨T,ys,Xr,dO,rfl,e0,hT,hf,ol⟩:=o.lst;cases e0;have nd:=S.nd i;rw [hf] at nd;obtain ⟨nT,JB⟩:=nz.mp nd;obtain ⟨l,xs,ds,e1,e2,e3,e4,e5,e6⟩:=b8.uJ p ol JB hp;refine ⟨T,ys,l,xs,ds,e1,hv,hT,ol.length,e2,e3,e4,λfE eu ic=>S.mut hv (by rw [hf];exact gK _ e5) ?_⟩
 rw [hm,hf];exact .inl ⟨T,ys,_,dO,rfl,rfl,by rw [ah (λz=>nT (by rw [z];exact e5))];exact hT,rfl,e6 fE eu ic⟩
theorem ty_list{K:PySem.W.Frag}{l:Addr}{xs:List V}(h:H l=some (.lst xs)):F5 K "list" (.ref l) H:= .inl ⟨rfl,_,bb.of h⟩
def Ls(md:List Nat)(m:Bool)(i:Nat)(te:aR):bO:=λE ρ=>∃ds,ρ[i]? =some (some (.lst ds))∧te (uA md m ρ) λd=>jc m d∧ds.length<sizeLine∧E.nx (ρ.set i (some (.lst (ds++ [d]))))
theorem tM(m:Bool)(i:Nat){x:Str}{px:Pos}(he:DE Z X e te)(hm:md.getD i 0=1:=by rfl)(hi:X.N[i]? =some x:=by rfl)(hv:jJ X.env.scope x:=by first|exact Or.inl rfl|exact Or.inr (Or.inl rfl) |exact Or.inr (Or.inr rfl))(hd:(x==("__debug__":Str))=false:=by decide)(eB:(x==("__classdict__":Str))=false:=by decide)
  (cP:attributeBase (.Name x px) "append" X.env (eval (.Name x px) X.env)=eval (.Name x px) X.env:=by rfl)
  (fZ:((backTo aZ (starEach [e] X.env)).all (λx=>!x.1)&&(backToKw aZ (keywordEach [] X.env)).all (λx=>x.1.isSome)&&decide (([e]:List Expr).length+([]:List Keyword).length+(if ([]:List Keyword).isEmpty then 0 else 1)<30))=true:=by rfl)
  (dk:(apos.endLine==aZ.line)=true:=by rfl) (hs:starEach [e] X.env=(false,eval e X.env)::starEach [] X.env:=by rfl) (eD:(backTo aZ (starEach [] X.env)).any (·.1)=false:=by rfl)
  (je:swapsWith (.Call (.Attribute (.Name x px) "append" apos) [e] [] aZ) none pos.line X.env=pure false:=by rfl):
  DSt Z X md rn (.Expr (.Call (.Attribute (.Name x px) "append" apos) [e] [] aZ) pos) (Ls md m i te):=by
 refine (cQ (jl PySem.F.plainAttrs_list PySem.F.slot_list_append PySem.F.type_list_append eW (pv i hi hv hd eB) (aG he bj hs) cP fZ dk hs eD) je).imp ?_;rintro D σ H ⟨B,ρ,E,⟨G,fp,S⟩,⟨ds,h1,h⟩,M⟩;obtain ⟨l,xs,_,_,e2,e3,_⟩:=S.one hm h1;refine ⟨_,e2,ty_list e3,S.ev m h λd hd=>⟨hd.1,λv G' H' S' x dv=>?_⟩⟩;obtain ⟨_,h2,h3⟩:=hd;obtain ⟨l',fE,eu,e1,fq,ma,bc,put⟩:=S'.one hm h1;cases e1;rw [e2] at fq;cases fq;exact ⟨l,fE,v,rfl,rfl,ma,by rw [bc.length];exact h2,M.nx _ h3 _ _ ⟨G',fp,put _ _ (bc.snoc dv)⟩⟩
theorem ao.ins{vs:List V}{ds:List D}{v:V}{d:D}(n:Nat)(h:ao Z G vs ds)(dv:Dv Z G v d):ao Z G (Wb.ins vs n v) (Wb.ins ds n d):=(h.take n).append (.cons dv (h.drop n))
def Lw(md:List Nat)(m:Bool)(i:Nat)(tk te:aR):bO:=λE ρ=>∃ds,ρ[i]? =some (some (.lst ds))∧tk ρ λkk=>∃k,kk= .int k∧te (uA md m ρ) λd=>jc m d∧(0≤k∧k≤ds.length∧ds.length<sizeLine)∧E.nx (ρ.set i (some (.lst (Wb.ins ds k.toNat d))))
theorem Ex(m:Bool)(i:Nat){x:Str}{px:Pos}(hk:DE Z X k tk)(he:DE Z X e te)(hm:md.getD i 0=1:=by rfl)(hi:X.N[i]? =some x:=by rfl)(hv:jJ X.env.scope x:=by first|exact Or.inl rfl|exact Or.inr (Or.inl rfl) |exact Or.inr (Or.inr rfl))(hd:(x==("__debug__":Str))=false:=by decide)(eB:(x==("__classdict__":Str))=false:=by decide)
  (cP:attributeBase (.Name x px) "insert" X.env (eval (.Name x px) X.env)=eval (.Name x px) X.env:=by rfl)
  (fZ:((backTo aZ (starEach [k,e] X.env)).all (λx=>!x.1)&&(backToKw aZ (keywordEach [] X.env)).all (λx=>x.1.isSome)&&decide (([k,e]:List Expr).length+([]:List Keyword).length+(if ([]:List Keyword).isEmpty then 0 else 1)<30))=true:=by rfl)
  (dk:(apos.endLine==aZ.line)=true:=by rfl) (hs:starEach [k,e] X.env=(false,eval k X.env)::starEach [e] X.env:=by rfl) (fL:starEach [e] X.env=(false,eval e X.env)::starEach [] X.env:=by rfl) (eD:(backTo aZ (starEach [e] X.env)).any (·.1)=false:=by rfl)
  (je:swapsWith (.Call (.Attribute (.Name x px) "insert" apos) [k,e] [] aZ) none pos.line X.env=pure false:=by rfl):
  DSt Z X md rn (.Expr (.Call (.Attribute (.Name x px) "insert" apos) [k,e] [] aZ) pos) (Lw md m i tk te):=by
 refine (cQ (jl PySem.F.plainAttrs_list PySem.F.slot_list_insert PySem.F.type_list_insert qd (pv i hi hv hd eB) (aG hk (aG he bj fL) hs) cP fZ dk hs eD) je).imp ?_;rintro D σ H ⟨B,ρ,E,⟨G,fp,S⟩,⟨ds,h1,h⟩,M⟩;obtain ⟨l,xs,_,_,e2,e3,_⟩:=S.one hm h1;refine ⟨_,e2,ty_list e3,S.ev true h ?_⟩;rintro _ ⟨k,rfl,h⟩;refine ⟨rfl,λv1 G1 H1 S1 x1 wW=>S1.ev m h λd hd=>⟨hd.1,λv G' H' S' x dv=>?_⟩⟩;cases wW;obtain ⟨_,⟨h2,ID,Mt⟩,h3⟩:=hd;obtain ⟨l',fE,eu,e1,fq,ma,bc,put⟩:=S'.one hm h1;cases e1;rw [e2] at fq;cases fq;exact ⟨l,fE,k,v,rfl,rfl,ma,h2,by rw [bc.length];exact ID,by rw [bc.length];exact Mt,M.nx _ h3 _ _ ⟨G',fp,put _ _ (bc.ins _ dv)⟩⟩
theorem pd{α:Type}{xs:List α}{i:Int}{j n:Nat}{v:α}(hn:xs.length=n)(h:gc n i=some j)(e:xs[j]? =some v):cE xs i=some v:=by unfold cE;rw [hn,h];exact e
def wL(md:List Nat)(m:Bool)(i:Nat)(tp tk te:aR):bO:=λE ρ=>∃cX,ρ[i]? =some (some (.lst cX))∧tp ρ λpp=>∃p j ds,pp= .int p∧gc cX.length p=some j∧cX[j]? =some (.lst ds)∧
 tk ρ λkk=>∃q,kk= .int q∧te (uA md m ρ) λd=>jc m d∧(0≤q∧q≤ds.length∧ds.length<sizeLine)∧E.nx (ρ.set i (some (.lst (cX.set j (.lst (Wb.ins ds q.toNat d))))))
theorem uY(m:Bool)(i:Nat){x:Str}{px ps:Pos}{r:Expr}(hp:DE Z X r tp)(hk:DE Z X k tk)(he:DE Z X e te)(hm:md.getD i 0=2:=by rfl)(Jg:iA r:=by exact λ_ _=>rfl)(hi:X.N[i]? =some x:=by rfl)(hv:jJ X.env.scope x:=by first|exact Or.inl rfl|exact Or.inr (Or.inl rfl) |exact Or.inr (Or.inr rfl))(hd:(x==("__debug__":Str))=false:=by decide)(eB:(x==("__classdict__":Str))=false:=by decide)
  (cP:attributeBase (.Subscript (.Name x px) r ps) "insert" X.env (eval (.Subscript (.Name x px) r ps) X.env)=eval (.Subscript (.Name x px) r ps) X.env:=by rfl)
  (fZ:((backTo aZ (starEach [k,e] X.env)).all (λx=>!x.1)&&(backToKw aZ (keywordEach [] X.env)).all (λx=>x.1.isSome)&&decide (([k,e]:List Expr).length+([]:List Keyword).length+(if ([]:List Keyword).isEmpty then 0 else 1)<30))=true:=by rfl)
  (dk:(apos.endLine==aZ.line)=true:=by rfl) (hs:starEach [k,e] X.env=(false,eval k X.env)::starEach [e] X.env:=by rfl) (fL:starEach [e] X.env=(false,eval e X.env)::starEach [] X.env:=by rfl) (eD:(backTo aZ (starEach [e] X.env)).any (·.1)=false:=by rfl)
  (je:swapsWith (.Call (.Attribute (.Subscript (.Name x px) r ps) "insert" apos) [k,e] [] aZ) none pos.line X.env=pure false:=by rfl):
  DSt Z X md rn (.Expr (.Call (.Attribute (.Subscript (.Name x px) r ps) "insert" apos) [k,e] [] aZ) pos) (wL md m i tp tk te):=by
 refine (cQ (jl PySem.F.plainAttrs_list PySem.F.slot_list_insert PySem.F.type_list_insert qd (jm eE (pv i hi hv hd eB) hp Jg) (aG hk (aG he bj fL) hs) cP fZ dk hs eD) je).imp ?_;rintro D σ H ⟨B,ρ,E,⟨G,fp,S⟩,⟨cX,h1,h⟩,M⟩;obtain ⟨v0,jU,o⟩:=S.at_ i _ h1;refine ⟨_,jU,S.ev true h ?_⟩;rintro _ ⟨p,j,ds,rfl,hj,hd,h⟩;refine ⟨rfl,λv1 G1 H1 S1 x1 wW=>?_⟩;cases wW;obtain ⟨T,ys,l,xs,eu,e1,e2,e3,e4,e5,e6,bc,_⟩:=S1.two hm h1 hd;rw [e2] at jU;cases jU;refine ⟨T,ys,p, .ref l,rfl,rfl,bb.of e3,pd e4 hj e5,ty_list e6,S1.ev true h ?_⟩;rintro _ ⟨q,rfl,h⟩;refine ⟨rfl,λv2 G2 H2 S2 x2 jO=>S2.ev m h λd gJ=>⟨gJ.1,λv G' H' S' x dv=>?_⟩⟩;cases jO;obtain ⟨T',J7,l',fE,R9,Ir,fq,ma,Sg,BW,EA,u4,put⟩:=S'.two hm h1 hd;cases Ir;rw [e2] at fq;cases fq
 have:J7=ys:=by
  have:=(x2.trans x).hh _ _ e3
  rw [ma] at this;cases this;rfl
 rw [this,e5] at BW;cases BW;obtain ⟨_,⟨q1,q2,q3⟩,q4⟩:=gJ;exact ⟨l,fE,q,v,rfl,rfl,EA,q1,by rw [u4.length];exact q2,by rw [u4.length];exact q3,M.nx _ q4 _ _ ⟨G',fp,put _ _ (u4.ins _ dv)⟩⟩
def Ep(md:List Nat)(m:Bool)(i:Nat)(tk te:aR):bO:=λE ρ=>te (uA md m ρ) λd=>jc m d∧∃ds,ρ[i]? =some (some (.lst ds))∧tk ρ λkk=>∃k j,kk= .int k∧gc ds.length k=some j∧E.nx (ρ.set i (some (.lst (ds.set j d))))
theorem rT(m:Bool)(i:Nat){x:Str}{px ps:Pos}(hk:DE Z X k tk)(he:DE Z X e te)(hm:md.getD i 0=1:=by rfl)(hi:X.N[i]? =some x:=by rfl)(hv:jJ X.env.scope x:=by first|exact Or.inl rfl|exact Or.inr (Or.inl rfl) |exact Or.inr (Or.inr rfl))(hd:(x==("__debug__":Str))=false:=by decide)(eB:(x==("__classdict__":Str))=false:=by decide)
  (ha:∀v,assign (.Subscript (.Name x px) k ps) X.env v=(do
   let ov ←holding [v] (eval (.Name x px) X.env)
   let iv ←holding [v,ov] (eval k X.env)
   standAt ps
   holding [v,ov,iv] (setItem ov iv v)
   release [v,ov,iv] []):=by intro _;rfl)
  (hs:swapsWithSole [.Subscript (.Name x px) k ps] e pos.line X.env=pure false:=by rfl) (hw:swappedStores [.Subscript (.Name x px) k ps] e X.env=pure none:=by rfl)
  (h1:(assignEach [.Subscript (.Name x px) k ps] X.env).map (·.2)= [assign (.Subscript (.Name x px) k ps) X.env]:=by rfl):DSt Z X md rn (.Assign [.Subscript (.Name x px) k ps] e pos) (Ep md m i tk te):=by
 refine (pA he (ui (pv i hi hv hd eB) hk set_list ha) hs hw h1).imp ?_;rintro D σ H ⟨B,ρ,E,⟨G,fp,S⟩,h,M⟩;refine S.ev m h λd hd=>⟨hd.1,λv G' H' S' x dv=>?_⟩;obtain ⟨_,ds,h1,h⟩:=hd;obtain ⟨l,xs,_,_,e2,e3,_⟩:=S'.one hm h1;refine ⟨_,e2,S'.ev true h ?_⟩;rintro _ ⟨k,j,rfl,hj,h3⟩;refine ⟨rfl,λv1 G1 H1 S1 x1 wW=>?_⟩;cases wW;obtain ⟨l',fE,eu,e1,fq,ma,bc,put⟩:=S1.one hm h1;cases e1;rw [e2] at fq;cases fq;exact ⟨l,fE,k,j,rfl,rfl,ma,by rw [bc.length];exact hj,M.nx _ h3 _ _ ⟨G1,fp,put _ _ (bc.set (dv.mono x1.gg) j)⟩⟩
def LC(md:List Nat)(i j:Nat):bO:=λE ρ=>∃ds d,ρ[j]? =some (some (.lst (ds++ [d])))∧E.nx ((ρ.set j (some (.lst ds))).set i (some d))
theorem Ey(i j:Nat){x y:Str}{px py:Pos}(hN:X.N.Nodup)(hm:md.getD i 0=0:=by rfl)(Jc:md.getD j 0=1:=by rfl)(hi:X.N[i]? =some x:=by rfl)(hx:Loc X.env.scope x:=by first|exact Or.inl rfl|exact Or.inr rfl)
  (hj:X.N[j]? =some y:=by rfl) (hv:jJ X.env.scope y:=by first|exact Or.inl rfl|exact Or.inr (Or.inl rfl) |exact Or.inr (Or.inr rfl)) (hd:(y==("__debug__":Str))=false:=by decide) (eB:(y==("__classdict__":Str))=false:=by decide)
  (cP:attributeBase (.Name y py) "pop" X.env (eval (.Name y py) X.env)=eval (.Name y py) X.env:=by rfl) (dk:(apos.endLine==aZ.line)=true:=by rfl)
  (hs:swapsWith (.Call (.Attribute (.Name y py) "pop" apos) [] [] aZ) (some (.Name x px)) pos.line X.env=pure false:=by rfl)
  (hf:X.fn x=true∨X.env.scope.names.lookup x=some .local:=by first|exact .inl rfl|exact .inr rfl|assumption):DSt Z X md rn (.Assign [.Name x px] (.Call (.Attribute (.Name y py) "pop" apos) [] [] aZ) pos) (LC md i j):=by
 refine (cy hN hi hx (Fs PySem.F.plainAttrs_list PySem.F.slot_list_pop PySem.F.type_list_pop E7 (pv j hj hv hd eB) cP dk) hs hf).imp ?_;rintro D σ H ⟨B,ρ,E,⟨G,fp,S⟩,⟨ds,d,h1,h⟩,M⟩;obtain ⟨l,xs,eu,e1,e2,e3,bc,put⟩:=S.one Jc h1;cases e1;have hl:xs.length=ds.length+1:=by rw [bc.length];simp
 obtain ⟨v,tX,dv⟩:=bc.get (i:=xs.length-1) (d:=d) (by rw [hl];simp)
 refine ⟨_,e2,ty_list e3,l,xs,v,rfl,rfl,e3,tX,M.nx _ h _ _ ⟨G,_,(put xs.dropLast ds ?_).oI hm dv⟩⟩
 have:=bc.take ds.length
 rw [List.take_left'] at this
 ·rw [List.dropLast_eq_take,hl];exact this
 ·rfl
theorem SIx.yU{j:Nat}{d:D}(S:SIx Z B md ρ σ H G fp)(h:ρ[j]? =some (some d)):∃v,σ[j]? =some (some v)∧Dv Z (plus G H λb=>b∈fp j) v d∧SIx Z B md (ρ.set j none) σ H (plus G H λb=>b∈fp j) (λk=>if k=j then [] else fp k):=by
 have s:=S.ex.sub;obtain ⟨v,hv,o⟩:=S.at_ j d h;refine ⟨v,hv,o.dv (dP s) λb hb u e=>by rw [j1 hb];exact e,?_⟩
 refine ⟨⟨S.ex.gg.trans (dP s),kq s,S.ex.hh,λb hb hg=>?_⟩,S.fl.trans (dP s),by rw [dm];exact S.len,λk c hk=>?_,λk=>by split;exact oM;exact S.nd k,λk k' b ne hk oQ=>?_,λk b hb=>?_⟩
 ·rw [fQ (λz=>hb (S.nw j b z).1)];exact S.ex.off b hb hg
 ·by_cases z:j=k
  ·subst z
   by_cases hl:j<ρ.length
   ·rw [gB hl] at hk;cases hk
   ·rw [qP (dU hl),dR (dU hl)] at hk;cases hk
  ·rw [dF z] at hk
   obtain ⟨u,hu,ow⟩:=S.at_ k c hk;exact ⟨u,hu,by rw [if_neg (Ne.symm z)];exact ow.keep (dP s) λ_ _=>rfl⟩
 ·split at hk
  ·cases hk
  ·split at oQ
   ·cases oQ
   ·exact S.ap k k' b ne hk oQ
 ·split at hb
  ·cases hb
  ·next z=>
   obtain ⟨h1,h2,h3⟩:=S.nw k b hb;exact ⟨h1,h2,by rw [fQ (λw=>S.ap k j b z hb w)];exact h3⟩
def HZ(md:List Nat)(i j:Nat):bO:=λE ρ=>∃ds d,ρ[i]? =some (some (.lst ds))∧ρ[j]? =some (some d)∧ds.length<sizeLine∧E.nx ((ρ.set j none).set i (some (.lst (ds++ [d]))))
theorem BS(i j:Nat){x y:Str}{px py:Pos}(ij:i≠j:=by decide)(hm:md.getD i 0=1:=by rfl)(hj:X.N[j]? =some y:=by rfl)(Tq:jJ X.env.scope y:=by first|exact Or.inl rfl|exact Or.inr (Or.inl rfl) |exact Or.inr (Or.inr rfl))(SR:(y==("__debug__":Str))=false:=by decide)(MD:(y==("__classdict__":Str))=false:=by decide)(hi:X.N[i]? =some x:=by rfl)(hv:jJ X.env.scope x:=by first|exact Or.inl rfl|exact Or.inr (Or.inl rfl) |exact Or.inr (Or.inr rfl))(hd:(x==("__debug__":Str))=false:=by decide)(eB:(x==("__classdict__":Str))=false:=by decide)
  (cP:attributeBase (.Name x px) "append" X.env (eval (.Name x px) X.env)=eval (.Name x px) X.env:=by rfl)
  (fZ:((backTo aZ (starEach [.Name y py] X.env)).all (λx=>!x.1)&&(backToKw aZ (keywordEach [] X.env)).all (λx=>x.1.isSome)&&decide (([.Name y py]:List Expr).length+([]:List Keyword).length+(if ([]:List Keyword).isEmpty then 0 else 1)<30))=true:=by rfl)
  (dk:(apos.endLine==aZ.line)=true:=by rfl) (hs:starEach [.Name y py] X.env=(false,eval (.Name y py) X.env)::starEach [] X.env:=by rfl) (eD:(backTo aZ (starEach [] X.env)).any (·.1)=false:=by rfl)
  (je:swapsWith (.Call (.Attribute (.Name x px) "append" apos) [.Name y py] [] aZ) none pos.line X.env=pure false:=by rfl):
  DSt Z X md rn (.Expr (.Call (.Attribute (.Name x px) "append" apos) [.Name y py] [] aZ) pos) (HZ md i j):=by
 refine (cQ (jl PySem.F.plainAttrs_list PySem.F.slot_list_append PySem.F.type_list_append eW (pv i hi hv hd eB) (aG (pv j hj Tq SR MD) bj hs) cP fZ dk hs eD) je).imp ?_;rintro D σ H ⟨B,ρ,E,⟨G,fp,S⟩,⟨ds,d,h1,h2,hz,h⟩,M⟩;obtain ⟨v,tX,dv,S'⟩:=S.yU h2;have IC:(ρ.set j none)[i]? =some (some (.lst ds)):=by rw [dF (Ne.symm ij)];exact h1
 obtain ⟨l,xs,eu,e1,e2,e3,bc,put⟩:=S'.one hm IC;cases e1;exact ⟨_,e2,ty_list e3,_,tX,l,xs,v,rfl,rfl,e3,by rw [bc.length];exact hz,M.nx _ h _ _ ⟨_,_,put _ _ (bc.snoc dv)⟩⟩
end
structure Kc (mg:Str→Option Value):Prop where
 len:mg "len"=none
 range:mg "range"=none
 max:mg "max"=none
 min:mg "min"=none
 enumerate:mg "enumerate"=none
 zip:mg "zip"=none
 sorted:mg "sorted"=none
 all:mg "all"=none
 isinstance:mg "isinstance"=none
 int:mg "int"=none
 bool:mg "bool"=none
 list:mg "list"=none
 tuple:mg "tuple"=none
 sum:mg "sum"=none
 reversed:mg "reversed"=none
theorem El:bootBuiltins "max"=some (.builtin "max"):=by decide+kernel
theorem Em:bootBuiltins "min"=some (.builtin "min"):=by decide+kernel
theorem uN:bootBuiltins "bool"=some (.type "bool"):=by decide+kernel
theorem yw:bootBuiltins "int"=some (.type "int"):=by decide+kernel
theorem cF:bootBuiltins "list"=some (.type "list"):=by decide+kernel
theorem iC:bootBuiltins "tuple"=some (.type "tuple"):=by decide+kernel
theorem ba:bootBuiltins "len"=some (.builtin "len"):=by decide+kernel
theorem zm:bootBuiltins "range"=some (.type "range"):=by decide+kernel
section
variable {P:Program} {w:World} {K:PySem.W.Frag} {mg:Str→Option Value} {base:Heap} {Z:DC}
def jr(N:List Str)(ds:List D):DN:=ds.map some++List.replicate (N.length-ds.length) none
def vw(Z:DC)(n:Nat)(sd:bN):Sp:=λvs H Q _=>∃(G:Hp)(ds:List D)(P:D→Prop),aH G H∧ao Z G vs ds∧sd ds P∧∀d,P d→∀v f G' H',Ext G H G' H'→Own Z G' H' n v d f→f.Nodup→(∀b∈f,H b=none∧H' b≠none∧G' b=none)→Q v H'
theorem Own.pure{n:Nat}{v:V}{d:D}{f:List Addr}{G H G' H':Hp}(x:Ext G H G' H')(o:Own Z G' H' n v d f)(nw:∀b∈f,H b=none∧H' b≠none∧G' b=none):∃G2,Ext G H G2 H'∧Dv Z G2 v d:=by
 refine ⟨plus G' H' λb=>b∈f,⟨x.gg.trans (dP x.sub),kq x.sub,x.hh,λb hb hg=>?_⟩,o.dv (dP x.sub) λb hb u e=>by rw [j1 hb];exact e⟩
 rw [fQ (λz=>hb (nw b z).1)];exact x.off b hb hg
theorem WZ{n:Nat}{sd:bN}:∀vs H Q E,aC Z sd vs H Q E→vw Z n sd vs H Q E:=by
 rintro vs H Q E ⟨G,ds,P,s,dv,h,q⟩;exact ⟨G,ds,P,s,dv,h,λd hd v f G' H' x o nd nw=>let ⟨G2,x2,jO⟩:=o.pure x nw;q d hd v G2 H' x2 jO⟩
theorem zN(rn:Nat){x qual:Str}{st:Stmt}{f:Addr}{fd:FuncData}{N ps:List Str}{k:Nat}{sd:bN}(F:lP K x qual st f fd)(S:aB N ps (aj st))(md:List Nat)(xq:∀i,i<ps.length→md.getD i 0=0)(len:∀ds P,sd ds P→ds.length=ps.length)
  (fY:∀(aW:Value)(A:Around)(outer:List Env)(s:Shared)(H:Hp)(E:XK)(ds:List D)(R:D→Prop),bC k (A.deeper (envOfC qual (aj st) s.heap.objs.size f aW))→sd ds R→
   ∃t,DSs Z (gM br P w K mg base N qual (aj st) f aW A outer s H E).qh md rn (cG st) t∧t {nx:=λ_=>rn=0∧R .aN,rt:=R} (jr N ds)):FnOk P w K mg base br (k+1) f fd ps (vw Z rn sd):=by
 refine F.ok S (λvs H Q E h=>?_) (λaW A outer s H vs Q E hr h=>?_)
 ·obtain ⟨G,ds,R,s,dv,h,q⟩:=h
  rw [dv.length];exact len _ _ h
 obtain ⟨G,ds,R,s0,dv,h,q⟩:=h;have MR:=q;obtain ⟨t,ht,hq⟩:=fY aW A outer s H E ds R hr h;have hl:=len _ _ h;refine ⟨_,ht,⟨G,H,G⟩,_,_,⟨G,λ_=> [],?_⟩,hq,⟨λρ EO ax H' ⟨G',fp,S'⟩=>q _ EO.2 _ [] G' H' S'.ex (by rw [EO.1];exact ⟨.aN,rfl⟩) oM (λb hb=>by cases hb),MR,λ_ z=>z.elim,λ_ z=>z.elim,λ_ _ z=>z.elim⟩⟩
 refine ⟨.refl s0, .refl _,by unfold jr start;simp [dv.length],λi d hi=>?_,λ_=>oM,(λ_ _ _ _ z=>by cases z),(λ_ _ z=>by cases z)⟩
 unfold jr at hi
 have Cv:i<ds.length:=by
  apply Classical.byContradiction;intro z;rw [wb (by simpa using dU z),kQ] at hi
  split at hi<;>cases hi
 rw [qN (by simpa using Cv),dX] at hi
 have gJ:ds[i]? =some d:=by
  cases z:ds[i]? with
  |none=>rw [z] at hi;cases hi
  |some d'=>rw [z] at hi;cases hi;rfl
 obtain ⟨v,hv,ic⟩:=dv.get gJ;refine ⟨v,?_,by rw [xq i (by omega)];exact ⟨ic,rfl⟩⟩
 unfold start;rw [qN (by simpa [dv.length] using Cv),dX,hv];rfl
theorem aO{x qual:Str}{st:Stmt}{f:Addr}{fd:FuncData}{N ps:List Str}{k:Nat}{sd:bN}(F:lP K x qual st f fd)(S:aB N ps (aj st))(md:List Nat)(xq:∀i,i<ps.length→md.getD i 0=0)(len:∀ds P,sd ds P→ds.length=ps.length)
  (fY:∀(aW:Value)(A:Around)(outer:List Env)(s:Shared)(H:Hp)(E:XK)(ds:List D)(R:D→Prop),bC k (A.deeper (envOfC qual (aj st) s.heap.objs.size f aW))→sd ds R→
   ∃t,DSs Z (gM br P w K mg base N qual (aj st) f aW A outer s H E).qh md 0 (cG st) t∧t {nx:=λ_=>0=0∧R .aN,rt:=R} (jr N ds)):FnOk P w K mg base br (k+1) f fd ps (aC Z sd):=
 (zN 0 F S md xq len λaW A outer s H E ds R hr h=>let ⟨t,a,b⟩:=fY aW A outer s H E ds R hr h;⟨t,a,b⟩).imp WZ
end
section
variable {Z:DC} {X:Cx} {a b c e o:Expr} {ta tb te:aR} {t:dZ} {es:List Expr} {pos apos:Pos}
theorem lZ{G:Hp}:∀{vs:List V}{ns:List Int},ao Z G vs (ns.map D.int)→vs=ns.map V.int
 |vs,[],h=>by cases h;rfl
 |vs,b::bs,h=>by
  cases h with
  |cons a as=>cases a;rw [lZ as];rfl
end
structure Bj (Z:DC):Prop where
 cl:qU Z.K Z.C
 nR:ff Z.K Z.C "rows"
section
variable {Z:DC} {X:Cx} {a b c e o:Expr} {ta tb te:aR} {t:dZ} {es:List Expr} {pos apos:Pos}
def Ip(ta:aR):aR:=λρ P=>ta ρ λd=>∃w,d= .fb w∧P (aX w)
theorem uX(T:Bj Z)(ha:DE Z X o ta)(eK:X.K=Z.K:=by rfl)(hb:attributeBase o "rows" X.env (eval o X.env)=eval o X.env:=by rfl):DE Z X (.Attribute o "rows" apos) (Ip ta):=by
 refine (Ft ha hb).imp ?_;rintro σ H Q ⟨G,ρ,P,s,en,h,q⟩;refine ⟨G,ρ,_,s,en,h,?_⟩;rintro _ ⟨w,rfl,hd⟩ v G1 H1 x1 dv;cases dv with
 | @fb p dx R w hp hr g h1 h2=>exact ⟨p,Z.C,dx,_, .ref R,rfl,x1.sub _ _ hp,by rw [eK];exact T.cl,by rw [eK];exact T.nR,rfl,q _ hd _ G1 H1 x1 hr⟩
def BC(sd:bN)(ta:aR)(t:dZ):aR:=λρ P=>ta ρ λd=>∃w,d= .fb w∧t ρ λds=>sd (.fb w::ds) P
theorem Aw{m:Str}{sd:bN}(hm:([("rows",V.ref 0)]:List (Str×V)).lookup m=none):∀σ H Q,cx Z (BC sd ta t) σ H Q→D3 Z.C m (aC Z sd) [] E0 (cx Z ta) (xG Z t) σ H Q:=by
 rintro σ H Q ⟨G,ρ,P,s,en,h,q⟩;refine ⟨G,ρ,_,s,en,h,?_⟩;rintro _ ⟨w,rfl,hd⟩ v G1 H1 x1 dv;have Sb:=dv;cases dv with
 | @fb p dx R w hp hr g h1 h2=>
  refine ⟨p,dx,_,rfl,x1.sub _ _ hp,?_,G1,ρ,_,x1.sub,en.mono x1.gg,hd,λds xk vs G2 H2 x2 bc=>?_⟩
  ·have hz:(m==("rows":Str))=false:=by
    cases z:(m==("rows":Str)) with
    |false=>rfl
    |true=>simp [List.lookup,z] at hm
   simp [List.lookup,hz]
  ·show aC Z sd (V.ref p::(vs++ [])) H2 Q E0
   rw [iV];exact ⟨G2,_,P,x2.sub, .cons (Sb.mono x2.gg) bc,xk,λd hd v G3 H3 x3 Sd=>q d hd v G3 H3 ((x1.trans x2).trans x3) Sd⟩
variable {sd:bN} {k:Nat} {f:Addr} {fd:FuncData} {ps:List Str} {m:Str}
theorem iE{pl:Sem Bool}(T:Bj Z)(ho:DE Z X o ta)(hm:Meth Z.K Z.C m f)(F:FnOk X.prog X.w X.K X.mg X.base br k f fd ps (aC Z sd))(hr:bC k X.A)(hb:Binds X.K fd ps [])(eK:X.K=Z.K:=by rfl)
  (S9:([("rows",V.ref 0)]:List (Str×V)).lookup m=none:=by decide)
  (ht:eval (.Call (.Attribute o m apos) [] [] pos) X.env=(do
   let ov ←eval o X.env
   standAt apos.atName
   let (f,first) ←holding [ov] (getMethod ov m pl)
   callWith pos f first (backTo pos (starEach [] X.env)) (backToKw pos (keywordEach [] X.env))):=by rfl):DE Z X (.Call (.Attribute o m apos) [] [] pos) (BC sd ta eO):=
 (AK (pl:=pl) ho (by rw [eK];exact T.cl) (by rw [eK];exact hm) F hr hb .nil lI ht).imp λσ H Q h=>by
  obtain ⟨G,ρ,P,s,en,h,q⟩:=Aw S9 σ H Q h;refine ⟨G,ρ,P,s,en,h,λd hd v G1 H1 x1 dv=>?_⟩;obtain ⟨p,dx,fs,h1,h2,h3,G',aE,P',s',Xs,h',q'⟩:=q d hd v G1 H1 x1 dv;exact ⟨p,dx,fs,h1,h2,h3,q' _ h' _ G' _ (.refl s') .nil⟩
def qE(Z:DC):Sp:=λvs H Q _=>∃(p dx:Addr)(v:V)(G:Hp)(w:List (List Nat)),vs= [.ref p,v]∧H p=some (.ins Z.C dx [])∧aH G H∧G p=none∧Dv Z G v (aX w)∧Wb.Good w∧1≤w.length∧w.length≤14∧
 ∀(R:Addr)(G' H':Hp),aH G G'→aH G' H'→(∀b o,H b=some o→b≠p→H' b=some o)→(∀b,H b≠none→G b=none→G' b=none)→H' p=some (.ins Z.C dx [("rows", .ref R)])→Dv Z G' (.ref R) (aX w)→Q .aN H'
def Ii(t:dZ):aR:=λρ P=>t ρ λds=>∃w,ds= [aX w]∧Wb.Good w∧1≤w.length∧w.length≤14∧P (.fb w)
theorem BK{x:Str}{p:Pos}(M:Mk Z.K Z.C f)(F:FnOk X.prog X.w X.K X.mg X.base br k f fd ps (qE Z))(hr:bC (k+1) X.A)(hg:Gl X x)(hm:X.mg x=some (.ref Z.C))(hb:Binds X.K fd ps [])
  (ha:DA Z X (e::es) t) (eK:X.K=Z.K:=by rfl) (dj:(x==("__debug__":Str))=false:=by decide) (he:starEach (e::es) X.env=(false,eval e X.env)::starEach es X.env:=by rfl) (bU:(backTo pos (starEach es X.env)).any (·.1)=false:=by rfl):
  DE Z X (.Call (.Name x p) (e::es) [] pos) (Ii t):=by
 refine (Dh (by rw [eK];exact M) F hr hg hm hb .nil lI ha dj he bU).imp ?_
 rintro σ H Q ⟨G,ρ,P,s,en,h,q⟩;refine ⟨G,ρ,_,s,en,h,?_⟩;rintro _ ⟨w,rfl,g,h1,dq,hp⟩ vs G1 H1 x1 bc p dx hx mj ne;cases bc with
 | @cons v _ _ _ dv bc=>
  cases bc;have CI:upd H1 dx (.own p) p=none:=by rw [ah (Ne.symm ne)];exact hx
  have sJ:=(aL mj (.own p)).trans (aL CI (.ins Z.C dx []));refine ⟨p,dx,v,G1,w,rfl,ak,x1.sub.trans sJ,x1.sub.free hx,dv,g,h1,dq,λR G2 H2 g1 g2 kp off Jf jO=>⟨rfl,?_⟩⟩;have gp:G2 p=none:=off p (by rw [ak];exact λz=>nomatch z) (x1.sub.free hx)
  refine q _ hp _ (upd G2 p (.ins Z.C dx [("rows", .ref R)])) H2 ⟨(x1.gg.trans g1).trans (aL gp _),λb o e=>?_,λb o e=>?_,λb hb hg=>?_⟩ (.fb ak (jO.mono (aL gp _)) g h1 dq)
  ·by_cases z:b=p
   ·subst z;rw [ak] at e;cases e;exact Jf
   ·rw [ah z] at e;exact g2 _ _ e
  ·have e1:=x1.hh _ _ e
   exact kp b o (sJ _ _ e1) (ar e1 hx)
  ·have Cc:=dE x1.hh hb
   have nb:b≠p:=λz=>Cc (by rw [z];exact hx)
   rw [ah nb];exact off b (dE sJ Cc) (x1.off b hb hg)
end
section
variable {Z:DC} {X:Cx} {pos:Pos}
def tY(g:cT)(tf:nA):List D→DN→List D→(List D→Prop)→Prop
 | [],_,acc,N=>N acc
 |x::xs,ρ,acc,N=>g x ρ λcc=>tf cc λds=>acc.length<sizeLine∧tY g tf xs cc (acc++ [.lst ds]) N
def GU(wi:gH)(g:cT)(tf:nA)(src:List (Option Nat)):nA:=λρ P=>wi ρ λds=>tY g tf ds (sV src ρ) [] P
def Kd(Z:DC)(n:Nat)(G1 H1:Hp)(Ad:Addr)(ρ:DN)(acc:List D)(σ:St)(H:Hp):Prop:=
 ∃(G:Hp)(ys:List V)(fs:List Addr),aH G1 G∧aH G H∧aH H1 H∧(∀b,H1 b≠none→G1 b=none→G b=none)∧H Ad=some (.lst ys)∧b8 (Own Z G H n) ys acc fs∧(Ad::fs).Nodup∧(∀b∈Ad::fs,H1 b=none∧H b≠none∧G b=none)∧bW Z G σ ρ
theorem b8.snoc{R:V→D→List Addr→Prop}:∀{vs:List V}{ds:List D}{fs:List Addr}{v:V}{d:D}{f:List Addr},b8 R vs ds fs→R v d f→b8 R (vs++ [v]) (ds++ [d]) (fs++f)
 |_,_,_,v,d,f, .nil,r=>by simpa using b8.cons r .nil
 |_,_,_,v,d,f, .cons a as,r=>by rw [List.append_assoc];exact .cons a (as.snoc r)
theorem Av{n:Nat}{src:List (Option Nat)}{wi:gH}{g:cT}{tf:nA}:∀σ H Q,p7 Z (n+1) (GU wi g tf src) σ H Q→D2 (t7 Z wi) (p8 Z g) D6 (p7 Z n tf) src σ H Q:=by
 rintro σ H Q ⟨G,ρ,P,s,en,h,q⟩;refine ⟨G,ρ,_,s,en,h,λds hd J G1 H1 x1 it Ad hA=>?_⟩;refine ⟨λi m fe H2=>m=ds.length-i∧i≤ds.length∧∃gG acc,Kd Z n G1 H1 Ad gG acc fe H2∧tY g tf (ds.drop i) gG acc P,⟨_,rfl,iW _,_,[],⟨G1,[],[], .refl _,λb o e=>?_,aL hA _,λ_ _ h=>h,ak, .nil,by simp,λb hb=>?_,(en.mono x1.gg).src src⟩,hd⟩,?_⟩
 ·rw [ah (ar e (x1.sub.free hA))];exact x1.sub _ _ e
 ·have:b=Ad:=by simpa using hb
  subst this;exact ⟨hA,(by rw [ak];exact λz=>nomatch z),x1.sub.free hA⟩
 rintro i m fe H2 ⟨rfl,hi,gG,acc,⟨G2,ys,fs,s1,s2,s3,off,pS,ol,nd,nw,Si⟩,hl⟩
 by_cases eU:i<ds.length
 ·obtain ⟨go,_,yld⟩:=it G2 H2 s1 s2 i
  refine .inr ⟨go eU,λax H'=>∃aE oj,Kd Z n G1 H1 Ad aE oj ax H'∧tY g tf (ds.drop (i+1)) aE oj P,λax H' k=>⟨ds.length-(i+1),by omega,rfl,eU,k⟩,λx H3 y=>?_⟩
  obtain ⟨G3,d,x3,IQ,dv⟩:=yld x H3 eU y;rw [pO IQ] at hl;refine ⟨G3,gG,d,_,x3.sub,Si.mono x3.gg,dv,hl,λcc h1 jG wY=>?_⟩;unfold D6;dsimp only;rw [if_pos rfl];refine ⟨G3,cc,_,x3.sub,wY,h1,λeu gJ v f G6 H6 x6 ow Sl Mn=>?_⟩;have x:=x3.trans x6;have aA:Ad∈Ad::fs:=di ..
  have nN:∀b∈Ad::fs,H6 b=H2 b∧G6 b=none:=λb hb=>by
   obtain ⟨_,q2,q3⟩:=nw b hb;refine ⟨?_,x.off b q2 q3⟩;cases e:H2 b with
   |none=>exact absurd e q2
   |some o=>exact x.hh _ _ e
  have SA:H6 Ad=some (.lst ys):=by rw [(nN Ad aA).1];exact pS
  have Mj:∀b∈f,H2 b=none:=λb hb=>x3.hh.free (Mn b hb).1;have Mm:∀b∈f,∀c∈Ad::fs,b≠c:=λb hb c hc z=>(nw c hc).2.1 (by rw [←z];exact Mj b hb)
  refine ⟨ys,SA,by rw [ol.length];exact gJ.1,cc,_,⟨G6,ys++ [v],fs++f,s1.trans x.gg,λb o e=>?_,λb o e=>?_,λb hb hg=>x.off b (dE s3 hb) (off b hb hg),ak,?_,?_,λb hb=>?_,wY.mono x6.gg⟩,gJ.2⟩
  ·rw [ah (ar e (nN Ad aA).2)];exact x.sub _ _ e
  ·rw [ah (ar e hA)];exact (s3.trans x.hh) _ _ e
  ·refine b8.snoc (ol.imp λv d f' hf r=>r.keep x.gg λb hb=>?_) (ow.keep (.refl _) λb hb=>?_)
   ·have oP:b∈fs:=hf b hb
    rw [ah (λz=>(nz.mp nd).1 (by rw [←z];exact oP))]
    exact (nN b (gK _ oP)).1
   ·exact ah (Mm b hb Ad aA)
  ·rw [←List.cons_append]
   exact List.nodup_append.mpr ⟨nd,Sl,λa ha b hb=>Ne.symm (Mm b hb a ha)⟩
  ·rw [←List.cons_append] at hb
   by_cases z:b=Ad
   ·subst z
    exact ⟨hA,(by rw [ak];exact λz=>nomatch z),(nN b aA).2⟩
   ·rcases sZ.mp hb with hb|hb
    ·rw [ah z,(nN b hb).1]
     exact ⟨(nw b hb).1,(nw b hb).2.1,(nN b hb).2⟩
    ·rw [ah z]
     exact ⟨s3.free (Mj b hb),(Mn b hb).2⟩
 ·have e:ds.drop i= []:=zd (by omega)
  rw [e] at hl;refine .inl ⟨(it G2 H2 s1 s2 i).2.1 (by omega),q _ hl (.ref Ad) (Ad::fs) G2 H2 ⟨x1.gg.trans s1,s2,x1.hh.trans s3,λb hb hg=>off b (dE x1.hh hb) (x1.off b hb hg)⟩ (.inl ⟨Ad,ys,acc,fs,rfl,rfl,pS,rfl,ol⟩) nd λb hb=>⟨x1.hh.free (nw b hb).1,(nw b hb).2⟩⟩
variable {tg iter elt:Expr} {scope:Scope} {NC:List Str} {src:List (Option Nat)} {wi:gH} {g:cT} {tf:nA} {md:List Nat} {rn:Nat}
theorem i9(i:Nat){n:Nat}{x:Str}{px hZ:Pos}(hc:X.calm=true)(hN:X.N.Nodup)(c:bz X scope)(eR:cv scope X.N src NC)(hi:DI Z X tg iter wi)
  (hg:∀ex s H,DG Z (dN X scope NC ex s H) tg g) (he:∀ex s H,DF Z (dN X scope NC ex s H) n elt tf)
  (je:swapsWith (.ListComp elt [⟨tg,iter,[],0⟩] scope pos) (some (.Name x px)) hZ.line X.env=pure true:=by rfl) (hm:md.getD i 0=n+1:=by rfl) (tT:X.N[i]? =some x:=by rfl) (hx:Loc X.env.scope x:=by first|exact Or.inl rfl|exact Or.inr rfl)
  (hf:X.fn x=true∨X.env.scope.names.lookup x=some .local:=by first|exact .inl rfl|exact .inr rfl|assumption)
  (hs:∀x,foldedSetIterable iter X.env x=pure x:=by intro _;rfl):DSt Z X md rn (.Assign [.Name x px] (.ListComp elt [⟨tg,iter,[],0⟩] scope pos) hZ) (BF md i (GU wi g tf src)):=by
 refine (kr hc hN tT hx c eR hi hg (λ_ _ _=>vN) he je hf hs).imp ?_;rintro D σ H ⟨B,ρ,E,⟨G,fp,S⟩,h,M⟩;exact Av σ H _ (nU hm S h M)
end
abbrev eV:=inClass
structure wz (Z:DC) (m qual:Str) (st:Stmt) (ps:List Str) where
 f:Addr
 fd:FuncData
 F:lP Z.K m qual st f fd
 b:Binds Z.K fd ps []
 m:Meth Z.K Z.C m f
def m7(K:PySem.W.Frag):Sp:=λvs H Q _=>∃(a:Addr)(ns:List Int),vs= [.ref a]∧bb K H a (ns.map V.int)∧ns.length≤63∧∀H',Q (.bl true) H'
def y6:bN:=λds P=>∃ns:List Int,ds= [.jq ns]∧ns.length≤63∧P (.bl true)
theorem EZ{Z:DC}:∀vs H Q E,m7 Z.K vs H Q E→aC Z y6 vs H Q E:=by
 rintro vs H Q E ⟨a,ns,rfl,hS,hl,q⟩;exact ⟨H,[.jq ns],λd=>d= .bl true, .refl _, .cons (.jq hS hl) .nil,⟨ns,rfl,hl,rfl⟩,λd hd v G' H' x dv=>by subst hd;cases dv;exact q H'⟩
theorem J3(k:Nat){l:PySem.W.OpenLaw}{q:Program}{loose:List Str}{XP:(Str→Option Value)→Heap→Prop}{YP:World→Heap→Prop}{d:DefRec}{K:Params→PySem.W.Frag}(Xw:3*k<150)(hn:l.most=some 63)(xj:d.params.defaults= [])
  (hY:∀(w:World)(h:Heap),YP w h→(K w.params).In h)
  (F:∀(w:World)(mg:Str→Option Value)(fa:Addr)(h:Heap),(K w.params).In h→h.Ns mainGlobals mg→mg d.name=some (.ref fa)→
   ∃fd:FuncData,(∀(s:Shared)(u:Value),BindsTo s fd ⟨[u],[]⟩ [("_law_script",u)])∧∀base:Heap,(K w.params).In base→base.Ns mainGlobals mg→FnOk l.prog w (K w.params) mg base br k fa fd ["_law_script"] (m7 (K w.params))):
  PySem.W.WalkO q loose XP YP l.row.toRowW d [] (λf vs=>PySem.call f vs):=
 L2.D9 (n:=63) (k:=50) (x:="_law_script") (CX:=λ_=>br) (sp:=λw=>m7 (K w.params)) hn (by decide) xj ⟨rfl,by decide,by decide⟩ hY (λw mg fa h a b c=>by
  obtain ⟨fd,h1,h2⟩:=F w mg fa h a b c;exact ⟨fd,h1,λbase x y=>(h2 base x y).mono (by omega)⟩) (λ_ _ a ns hl _ hS=>⟨a,ns,rfl,hS,hl,λ_=>rfl⟩) λ_ _ _ _ _ z=>z
theorem bA{c:Bool}{A B:Prop}(h1:c=true→A)(h2:c=false→B):if c=true then A else B:=by
 cases c with
 |true=>exact aU (h1 rfl)
 |false=>exact aI (h2 rfl)
theorem my{i:Nat}{tt:cg}{te:aR}{ρ:DN}{α:Type}(enc:α→D)(p:α→Bool)(f:α→D):∀(ys:List α)(aE:DN)(acc:List D)(N:DN→List D→Prop),(∀y∈ys,∀(Y:D→Prop)(Nn:Prop),(p y=true→Y (f y))→(p y=false→Nn)→tt (ρ.set i (some (enc y))) λb=>if b=true then te (ρ.set i (some (enc y))) Y else Nn)→
  (∃o,aE=ρ.set i o)→acc.length+ys.length≤sizeLine→(∀aE,N aE (acc++(ys.filter p).map f))→ig (eh i) tt te (ys.map enc) aE acc N
 | [],aE,acc,N,_,_,_,h=>by
  show N aE acc;simpa using h aE
 |y::ys,aE,acc,N,hs,⟨o,ho⟩,hz,h=>by
  show tt (aE.set i (some (enc y))) _;rw [ho,List.set_set];rw [cJ] at hz;refine hs y (di ..) _ _ (λhp=>⟨by omega,?_⟩) (λhp=>?_)
  ·refine my enc p f ys _ (acc++ [f y]) N (λz hz=>hs z (gK _ hz)) ⟨_,rfl⟩ (by simp;omega) λqR=>?_
   have:=h qR
   rw [List.filter_cons,hp] at this;simpa using this
  ·refine my enc p f ys _ acc N (λz hz=>hs z (gK _ hz)) ⟨_,rfl⟩ (by omega) λqR=>?_
   have:=h qR
   rw [List.filter_cons,hp] at this;simpa using this
theorem fM{i:Nat}{te:aR}{ρ:DN}{α:Type}(enc:α→D)(f:α→D)(ys:List α)(N:DN→List D→Prop)(hs:∀y∈ys,∀(Y:D→Prop),Y (f y)→te (ρ.set i (some (enc y))) Y)(h0:ρ[i]? =some none)(hz:ys.length≤sizeLine)(h:∀aE,N aE (ys.map f)):ig (eh i) ou te (ys.map enc) ρ [] N:=by
 refine my (ρ:=ρ) enc (λ_=>true) f ys ρ [] N (λy hy Y Nn h1 _=>?_) ⟨none,?_⟩ (by simpa using hz) λaE=>by rw [List.filter_eq_self.mpr (λ_ _=>rfl),nv];exact h aE
 ·unfold ou
  dsimp only;rw [if_pos rfl];exact hs y hy Y (h1 rfl)
 ·obtain ⟨hi,e⟩:=gF.mp h0
  rw [←e,List.set_getElem_self]
theorem r9{g:cT}{tb:bO}{E:bQ}(I:Nat→DN→Prop):∀(ds:List D)(k:Nat)(ρ:DN),I k ρ→(∀(j:Nat)(d:D)(ρ:DN),ds[j]? =some d→I (k+j) ρ→∀A:DN→Prop,(∀ρ,I (k+j+1) ρ→A ρ)→g d ρ λcc=>tb {nx:=A,ct:=A,bk:=E.nx,rt:=E.rt,xc:=E.xc} cc)→
  (∀ρ,I (k+ds.length) ρ→E.nx ρ)→jR g tb E ds ρ
 | [],k,ρ,h0,hs,he=>he ρ h0
 |d::ds,k,ρ,h0,hs,he=>by
  refine hs 0 d ρ rfl h0 _ λaE h'=>?_
  exact r9 I ds (k+1) aE h' (λj d' gG hj h2 A hA=>by
   refine hs (j+1) d' gG (by simpa using hj) (by rw [show k+(j+1)=k+1+j by omega];exact h2) A λXb h3=>hA Xb ?_
   rw [show k+1+j+1=k+(j+1)+1 by omega];exact h3) (λgG h2=>he gG (by rw [cJ,show k+(ds.length+1)=k+1+ds.length by omega];exact h2))
theorem ck{g:cT}{tb:bO}{E:bQ}{ds:List D}{ρ:DN}(I:Nat→DN→Prop)(h0:I 0 ρ)(hs:∀(j:Nat)(d:D)(ρ:DN),ds[j]? =some d→I j ρ→∀A:DN→Prop,(∀ρ,I (j+1) ρ→A ρ)→g d ρ λcc=>tb {nx:=A,ct:=A,bk:=E.nx,rt:=E.rt,xc:=E.xc} cc)
  (he:∀ρ,I ds.length ρ→E.nx ρ):jR g tb E ds ρ:=r9 I ds 0 ρ h0 (λj d ρ hj h A hA=>hs j d ρ hj (by simpa using h) A λaE h'=>hA aE (by simpa using h')) (λρ h=>he ρ (by simpa using h))
theorem vb{g:cT}{tb:bO}{E:bQ}{lo:Int}{n:Nat}{ρ:DN}(I:Nat→DN→Prop)(h0:I 0 ρ)(hs:∀(j:Nat)(ρ:DN),j<n→I j ρ→∀A:DN→Prop,(∀ρ,I (j+1) ρ→A ρ)→g (.int (lo+j)) ρ λcc=>tb {nx:=A,ct:=A,bk:=E.nx,rt:=E.rt,xc:=E.xc} cc)
  (he:∀ρ,I n ρ→E.nx ρ):jR g tb E (bp lo n) ρ:=by
 have l:(bp lo n).length=n:=by unfold bp;simp
 refine ck I h0 (λj d ρ hj h A hA=>?_) (λρ h=>he ρ (by rw [l] at h;exact h))
 have eU:j<n:=by
  have:=(gF.mp hj).1
  rw [l] at this;exact this
 rw [oF eU] at hj;cases hj;exact hs j ρ eU h A hA
theorem yk{c:cg}{tb:bO}{E:bQ}{ρ:DN}(I:Nat→DN→Prop)(m0:Nat)(h0:I m0 ρ)(hs:∀m ρ,I m ρ→c ρ λb=>if b=true then tb {nx:=λaE=>∃m',m'<m∧I m' aE,ct:=λaE=>∃m',m'<m∧I m' aE,bk:=E.nx,rt:=E.rt,xc:=E.xc} ρ else E.nx ρ):yy c tb E ρ:=⟨I,⟨m0,h0⟩,hs⟩
def Kg(K:PySem.W.Frag)(a:Addr)(n:Nat):It:=
 ⟨λi H=>i<n∧∃xs,bb K H a xs∧xs.length=n,λi H x H'=>H'=H∧∀xs,bb K H a xs→xs[n-1-i]? =some x,λi H=>n≤i⟩
theorem A6{P:Program}{w:World}{K:PySem.W.Frag}{tg:Expr}(a it:Addr)(n:Nat):Turn P w K tg (Kg K a n) [it] it (λi h=>i≤n∧h.IsRevIter it a ((n:Int)-1-(i:Int))) where
 mem:=by simp
 obj:=λi h st b hb=>by
  have e:b=it:=by simpa using hb
  subst e;obtain ⟨_,o,e,c,d⟩:=st;exact ⟨o,e,λv z=>by rw [d] at z;cases z⟩
 keep:=λi h h' st k=>⟨st.1,st.2.at λo e=>k it (by simp) o e⟩
 item:=by
  intro X hP hw hK hc i pins s σ H E I hf st hg;subst hP hw hK;obtain ⟨hi,xs,hq,hl⟩:=hg;obtain ⟨its,rv,p,hz⟩:=I.list hq;have hlen:=rv.length;have hx:xs[n-1-i]? =some (xs[n-1-i]'(by omega)):=cS (by omega)
  obtain ⟨u,hu,ru⟩:=rv.get hx;obtain ⟨f0,f1,f2,f3,f4,f5⟩:=hf it (by simp)
  have e:(n:Int)-1-(i:Int)=((n-1-i:Nat):Int):=by omega
  obtain ⟨_,st⟩:=st;rw [e] at st;refine wpAny_pyNext_rev_item st p.isList (x:=u) (by simpa using hu) λh' uu sb=>?_
  have I1:Inv X pins σ H {s with heap:=h'}:=I.turned (t':=s.toks) (λb o hb e=>(sb.2 b hb).trans e) f0 f1 f3 f4 f5
  have e2:((n-1-i:Nat):Int)-1=(n:Int)-1-((i+1:Nat):Int):=by omega
  rw [e2] at uu;obtain ⟨o,e,c,d⟩:=id uu;exact ⟨u,rfl,xf (s:={s with heap:=h'}) e c d (by decide) ⟨_,H,I1,ru,⟨rfl,λys hy=>by rw [I.nQ hy hq];exact hx⟩,⟨hi,uu⟩,λb hb=>(hf b hb).1⟩⟩
 done:=by
  intro X hP hw hK hc i pins s σ H E I hf st hg;subst hP hw hK;obtain ⟨hi,st⟩:=st;have hg:n≤i:=hg;have e:(n:Int)-1-(i:Int)= -1:=by omega
  rw [e] at st;obtain ⟨f0,f1,f2,f3,f4,f5⟩:=hf it (by simp)
  exact wpAny_pyNext_rev_end (I.ok.hd hc) st λh' eb=>⟨rfl,I.turned (t':=s.toks) (λb o hb e=>eb b o hb e) f0 f1 f3 f4 f5⟩
 self:=λ_ _ _ _ _ st h=>wpAny_pyIter_revIter st.2 h
theorem tG:bootBuiltins "reversed"=some (.type "reversed"):=by decide+kernel
section
variable {Z:DC} {X:Cx} {a b c e:Expr} {ta tb te:aR} {t:dZ} {pos:Pos}
def M0(K:PySem.W.Frag)(ta:TA):TI:=λσ H R=>ta σ H λvs H1=>∃a xs,vs= [.ref a]∧bb K H1 a xs∧R (Kg K a xs.length) H1
theorem Fy{tg:Expr}{ta:TA}{p:Pos}(hg:Gl X "reversed")(hm:X.mg "reversed"=none)(ha:PA X [a] ta)(hs:starEach [a] X.env= [(false,eval a X.env)]:=by rfl):
  PI X tg (.Call (.Name "reversed" p) [a] [] pos) (M0 X.K ta):=by
 intro pins s σ H R I h;refine Call_ (gT I hg hm tG (PyProof.Rows.callWith_type1 (thn (ha pos pins s σ H _ I h) λus s1 ⟨vs,H1,I1,r1,q1⟩=>?_) hs rfl));obtain ⟨l,xs,e,hl,q⟩:=q1;subst e;obtain ⟨u,rfl,ru⟩:=r1.one;cases ru;obtain ⟨its,rv,p,hz⟩:=I1.list hl;have hlen:=rv.length;refine call_reversed_list p.isList ?_;have hit:(s1.heap.push (revObj l ((its.toArray.size:Int)-1))).IsRevIter s1.heap.objs.size l ((xs.length:Int)-1-((0:Nat):Int)):=⟨_,Heap.get?_push_size _ rfl,rfl,by simp [revObj,hlen]⟩
 refine wpAny_pyIter_revIter hit ?_;refine ⟨s1.heap.objs.size,[s1.heap.objs.size],_,_,H1,rfl,I1.kept (t':=s1.toks) λb o e=>Heap.get?_push_of_some _ e,A6 l _ xs.length,⟨iW _,hit⟩,λb hb=>?_,q⟩;have e:b=s1.heap.objs.size:=by simpa using hb
 subst e;exact I1.vc (bL _) (I1.hok.fresh (bL _))
variable {md:List Nat} {rn:Nat} {k:Expr} {tk:aR}
variable {apos aZ:Pos}
variable {es:List Expr}
end
section
variable {X:Cx} {elt t0 i0 t1 i1:Expr} {f0 f1:List Expr} {scope:Scope} {pos:Pos} {wi Ql:TI} {g g1:TG} {tt vV:TT} {te:TE} {src:List (Option Nat)} {NC:List Str}
end
section
variable {Z:DC} {X:Cx} {md:List Nat} {rn:Nat} {elt t0 i0 t1 i1:Expr} {f0 f1:List Expr} {scope:Scope} {pos:Pos} {wi Ql:gH} {g g1:cT} {tt vV:cg} {te:aR} {src:List (Option Nat)} {NC:List Str}
end
section
variable {Z:DC} {X:Cx} {md:List Nat} {rn:Nat} {e:Expr} {pos:Pos}
end
theorem jb{l:List D}{j:Nat}{d:D}(h:(ey l)[j]? =some d):∃x,l[j]? =some x∧d= .tup [.int (j:Int),x]:=by
 unfold ey at h;rw [List.getElem?_mapIdx] at h;cases e:l[j]? with
 |none=>rw [e] at h;cases h
 |some x=>rw [e] at h;cases h;exact ⟨x,rfl,rfl⟩
theorem pP(l:List D):(ey l).length=l.length:=by unfold ey;simp
theorem eF{α β:Type}{f:α→β}{l:List α}{j:Nat}{y:β}(h:(l.map f)[j]? =some y):∃x,l[j]? =some x∧y=f x:=by
 rw [dX] at h;cases e:l[j]? with
 |none=>rw [e] at h;cases h
 |some x=>rw [e] at h;cases h;exact ⟨x,rfl,rfl⟩
theorem nF(r:List Nat):(r.map aw).all fX=true:=by simp [aw,fX]
theorem pV{r:List Nat}{p:Nat}:inD (aw p) (r.map aw)=decide (p∈r):=by
 unfold inD;rw [List.any_map]
 have:((λy=>me y (aw p))∘aw)=λq:Nat=>decide (q=p):=by
  funext q
  simp [aw,me,Function.comp]
  by_cases z:q=p
  ·simp [z]
  ·have:¬(q:Int)=(p:Int):=by omega
   simp [z,this]
 rw [this]
 by_cases h:p∈r
 ·rw [decide_eq_true h,List.any_eq_true];exact ⟨p,h,by simp⟩
 ·rw [decide_eq_false h]
  apply Bool.eq_false_iff.mpr;intro z;rw [List.any_eq_true] at z;obtain ⟨q,hq,e⟩:=z
  exact h (by have:q=p:=by simpa using e
              rw [←this];exact hq)
theorem aV{l:List D}{p:Nat}{d:D}(h:l[p]? =some d):cE l (p:Int)=some d:=uL h
theorem cI{w:List (List Nat)}{p:Nat}(h:p<w.length):(w.map aQ)[p]? =some (aQ (Wb.row w p)):=by
 rw [dX,Wb.qw h];rfl
section
variable {Z:DC} {X:Cx} {md:List Nat} {rn:Nat} {e:Expr} {te:aR} {pos:Pos}
def Ib(te:aR):bO:=λE ρ=>te ρ λ_=>E.nx ρ
theorem BU(he:DE Z X e te)(hs:swapsWith e none pos.line X.env=pure false:=by rfl):DSt Z X md rn (.Expr e pos) (Ib te):=by
 refine (cQ he hs).imp ?_;rintro D σ H ⟨B,ρ,E,⟨G,fp,S⟩,h,M⟩;exact ⟨H,ρ,_, .refl _,S.pQ,h,λd hd v G' H' x dv=>M.nx _ hd _ _ ⟨G,fp,S.grow (Ext.all S.ex.sub x)⟩⟩
end
theorem M5{c:Bool}{A B:Prop}(e:c=false)(h:B):if c=true then A else B:=by rw [if_neg (by rw [e];exact fF)];exact h
theorem mx{g:cT}{tt:cg}{te:aR}{α:Type}(I:DN→Prop)(enc:α→D)(p:α→Bool)(f:α→D):∀(ys:List α)(aE:DN)(acc:List D)(N:DN→List D→Prop),(∀y∈ys,∀aE,I aE→∀(Y:DN→D→Prop)(Nn:DN→Prop),(∀cc,I cc→p y=true→Y cc (f y))→(∀cc,I cc→p y=false→Nn cc)→g (enc y) aE λcc=>tt cc λb=>if b=true then te cc (Y cc) else Nn cc)→
  I aE→acc.length+ys.length≤sizeLine→(∀aE,I aE→N aE (acc++(ys.filter p).map f))→ig g tt te (ys.map enc) aE acc N
 | [],aE,acc,N,_,hI,_,h=>by
  show N aE acc;simpa using h aE hI
 |y::ys,aE,acc,N,hs,hI,hz,h=>by
  rw [cJ] at hz;refine hs y (di ..) aE hI (λcc d=>acc.length<sizeLine∧ig g tt te (ys.map enc) cc (acc++ [d]) N) (λcc=>ig g tt te (ys.map enc) cc acc N) (λcc h1 hp=>⟨by omega,?_⟩) (λcc h1 hp=>?_)
  ·refine mx I enc p f ys _ (acc++ [f y]) N (λz hz=>hs z (gK _ hz)) h1 (by simp;omega) λqR h2=>?_
   have:=h qR h2
   rw [List.filter_cons,hp] at this;simpa using this
  ·refine mx I enc p f ys _ acc N (λz hz=>hs z (gK _ hz)) h1 (by omega) λqR h2=>?_
   have:=h qR h2
   rw [List.filter_cons,hp] at this;simpa using this
theorem fI{α:Type}{us:List α}(h:us.length=1):∃a0,us= [a0]:=by
 cases us with
 |nil=>cases h
 |cons a l=>
  cases l with
  |nil=>exact ⟨a,rfl⟩
  |cons _ _=>cases h
theorem iI{α:Type}{us:List α}(h:us.length=2):∃a0 a1,us= [a0,a1]:=by
 cases us with
 |nil=>cases h
 |cons a l=>
  obtain ⟨a1,rfl⟩:=fI (Nat.succ.inj h);exact ⟨a,a1,rfl⟩
theorem mz{α:Type}{us:List α}(h:us.length=3):∃a0 a1 a2,us= [a0,a1,a2]:=by
 cases us with
 |nil=>cases h
 |cons a l=>
  obtain ⟨a1,a2,rfl⟩:=iI (Nat.succ.inj h);exact ⟨a,a1,a2,rfl⟩
theorem CO{α:Type}{us:List α}(h:us.length=4):∃a0 a1 a2 a3,us= [a0,a1,a2,a3]:=by
 cases us with
 |nil=>cases h
 |cons a l=>
  obtain ⟨a1,a2,a3,rfl⟩:=mz (Nat.succ.inj h);exact ⟨a,a1,a2,a3,rfl⟩
theorem ND{α:Type}{us:List α}(h:us.length=5):∃a0 a1 a2 a3 a4,us= [a0,a1,a2,a3,a4]:=by
 cases us with
 |nil=>cases h
 |cons a l=>
  obtain ⟨a1,a2,a3,a4,rfl⟩:=CO (Nat.succ.inj h);exact ⟨a,a1,a2,a3,a4,rfl⟩
section
variable {Z:DC} {X:Cx}
end
theorem bz.nest{X:Cx}{scope n9:Scope}{NC:List Str}{ex:List Addr}{s:Shared}{H:Hp}(k:n9.kind= .function)(a:∀x∈n9.names,x.2= .local→n9.names.lookup x.1=some .local)(b:∀x∈n9.names,x.2≠ .cell)
  (d:∀x∈n9.names,x.2= .free→scope.names.lookup x.1=some .free):bz (dN X scope NC ex s H) n9 where
 kind:=k
 names:=a
 nocell:=b
 free:=λx hx e=>by
  have h:(dN X scope NC ex s H).env.kindOf x.1=(scope.names.lookup x.1).map λk=>if (k==NameKind.free&&X.env.scope.kind== .function&&X.env.kindOf x.1==some .cell) then NameKind.cell else k:=dH scope.names x.1;rw [h,d x hx e,Option.map_some]
  split
  ·exact .inl rfl
  ·exact .inr rfl
section
variable {Z:DC} {X:Cx} {e:Expr} {es:List Expr} {t:dZ} {pos:Pos}
theorem av{sd:bN}{k j:Nat}{x:Str}{st:Stmt}{ps:List Str}{p:Pos}(d:cU X.K X.mg x st ps)(F:FnOk X.prog X.w X.K X.mg X.base br k d.f d.fd ps (aC Z sd))(hr:bC j X.A)(ha:DA Z X (e::es) t)(hg:Gl X x:=by rfl)(hk:k≤j:=by first|decide|omega)
  (dj:(x==("__debug__":Str))=false:=by decide) (he:starEach (e::es) X.env=(false,eval e X.env)::starEach es X.env:=by rfl) (bU:(backTo pos (starEach es X.env)).any (·.1)=false:=by rfl):
  DE Z X (.Call (.Name x p) (e::es) [] pos) (fV sd t):=BJ F (hr.mono hk) hg d.m d.F.kp d.b ha dj he bU
theorem jD{scope:Scope}(sc:Scope)(e:X.env.scope=sc:=by rfl)(k:scope.kind= .function:=by rfl)(a:∀x∈scope.names,x.2= .local→scope.names.lookup x.1=some .local:=by decide+kernel)(b:∀x∈scope.names,x.2≠ .cell:=by decide+kernel)
  (c:∀x∈scope.names,x.2= .free→sc.names.lookup x.1=some .cell∨sc.names.lookup x.1=some .free:=by decide+kernel):bz X scope:=bz.of sc e k a b c
theorem K4{scope n9:Scope}{NC:List Str}{ex:List Addr}{s:Shared}{H:Hp}(k:n9.kind= .function:=by rfl)(a:∀x∈n9.names,x.2= .local→n9.names.lookup x.1=some .local:=by decide+kernel)(b:∀x∈n9.names,x.2≠ .cell:=by decide+kernel)
  (d:∀x∈n9.names,x.2= .free→scope.names.lookup x.1=some .free:=by decide+kernel):bz (dN X scope NC ex s H) n9:=bz.nest k a b d
end
section
variable {K:PySem.W.Frag} {h:Heap} {mg:Str→Option Value}
abbrev dn(K:PySem.W.Frag)(x:Str)(d:Addr):Prop:=PySem.W.nsIn K mainGlobals x=some (some (.ref d))
abbrev cn(K:PySem.W.Frag)(x qual:Str)(st:Stmt)(d:Addr)(od an:Option Addr)(sl:Array (Option Value))(oc kV dc pm cd ct:Value):Prop:=K.lookup d=some ⟨oc,od, .func (PySem.W.fnOf x qual (fW st) (cG st) (aj st) .none kV dc pm an cd ct),sl⟩
def cU.of{x:Str}{st:Stmt}{ps:List Str}{d:Addr}{od an:Option Addr}{sl:Array (Option Value)}{oc kV dc pm cd ct:Value}(X:K.In h)(G:h.Ns mainGlobals mg)(a:dn K x d)(l:cn K x x st d od an sl oc kV dc pm cd ct)(c:PySem.W.codeIn K cd x=true)(k:PySem.W.keepIn K (.ref d)=true)
  (b:∀(kV doc pm:Value)(an:Option Addr)(aW ct:Value)(us:List Value),us.length=ps.length→bindArgs (PySem.W.fnOf x x (fW st) (cG st) (aj st) .none kV doc pm an aW ct) ⟨us,[]⟩=pure (ps.zip us)):cU K mg x st ps:=
 ⟨d,_,jd l c k,(jd l c k).binds b,PySem.W.mg_of X G a⟩
def wz.of{Z:DC}{m qual:Str}{st:Stmt}{ps:List Str}{d:Addr}{od an:Option Addr}{sl:Array (Option Value)}{oc kV dc pm cd ct:Value}(a:PySem.W.findIn Z.K (.ref Z.C) m=some (some (.ref d)))(f:PySem.W.isFn Z.K (.ref d)=true)(l:cn Z.K m qual st d od an sl oc kV dc pm cd ct)(c:PySem.W.codeIn Z.K cd qual=true)(k:PySem.W.keepIn Z.K (.ref d)=true)
  (b:∀(kV doc pm:Value)(an:Option Addr)(aW ct:Value)(us:List Value),us.length=ps.length→bindArgs (PySem.W.fnOf m qual (fW st) (cG st) (aj st) .none kV doc pm an aW ct) ⟨us,[]⟩=pure (ps.zip us)):wz Z m qual st ps:=
 ⟨d,_,jd l c k,(jd l c k).binds b,⟨a,f,k⟩⟩
end
end L2
namespace Wb
structure RI (w:W) (bs:List Bool) (ws ex:List Nat) (c:Nat):Prop where
 len:bs.length=w.length
 z:bs[0]? =some true
 wt:∀x∈ws,bs[x]? =some true
 cl:∀x,bs[x]? =some true→x∈ws∨x∈ex∨∀q∈row w x,bs[q]? =some true
 cnt:bs.count false+ws.length≤c
theorem RI.pop{w:W}{bs:List Bool}{ws:List Nat}{p c:Nat}(h:RI w bs (ws++ [p]) [] (c+1)):RI w bs ws [p] c:=
 ⟨h.len,h.z,λx hx=>h.wt x (kc _ hx),λx hx=>by
  rcases h.cl x hx with q|q|q
  ·rcases sZ.mp q with q|q
   ·exact .inl q
   ·exact .inr (.inl q)
  ·cases q
  ·exact .inr (.inr q),by have:=h.cnt;rw [fw] at this;simp at this;omega⟩
theorem RI.push{w:W}{bs:List Bool}{ws ex:List Nat}{q c:Nat}(h:RI w bs ws ex c)(hq:bs[q]? =some false):RI w (bs.set q true) (ws++ [q]) ex c:=by
 obtain ⟨hl,he⟩:=gF.mp hq
 have up:∀x,bs[x]? =some true→(bs.set q true)[x]? =some true:=λx hx=>by
  rw [gD]
  by_cases e:q=x
  ·rw [if_pos e,if_pos hl]
  ·rw [if_neg e];exact hx
 refine ⟨by rw [dm];exact h.len,up _ h.z,λx hx=>?_,λx hx=>?_,?_⟩
 ·rcases sZ.mp hx with z|z
  ·exact up _ (h.wt x z)
  ·have:x=q:=by simpa using z
   rw [this,gD,if_pos rfl,if_pos hl]
 ·by_cases e:q=x
  ·exact .inl (by rw [e];simp)
  ·rw [gD,if_neg e] at hx
   rcases h.cl x hx with z|z|z
   ·exact .inl (kc _ z)
   ·exact .inr (.inl z)
   ·exact .inr (.inr λy hy=>up _ (z y hy))
 ·have hc:=h.cnt
  have:0<bs.count false:=List.count_pos_iff.mpr (by rw [←he];exact nu hl)
  rw [List.count_set hl,he,fw];simp;omega
theorem RI.close{w:W}{bs:List Bool}{ws:List Nat}{p c:Nat}(h:RI w bs ws [p] c)(hp:∀q∈row w p,bs[q]? =some true):RI w bs ws [] c:=
 ⟨h.len,h.z,h.wt,λx hx=>by
  rcases h.cl x hx with q|q|q
  ·exact .inl q
  ·have:x=p:=by simpa using q
   rw [this];exact .inr (.inr hp)
  ·exact .inr (.inr q),h.cnt⟩
theorem RI.all{w:W}{bs:List Bool}{c:Nat}(g:Good w)(h:RI w bs [] [] c):bs=List.replicate w.length true:=by
 have:=uT g (S:=λx=>bs[x]? =some true) h.z λp q hp hq=>by
  rcases h.cl p hp with z|z|z
  ·cases z
  ·cases z
  ·exact z q hq
 refine wj λi=>?_
 by_cases hi:i<w.length
 ·rw [this i hi,kQ,if_pos hi]
 ·rw [dR (by rw [h.len];omega),dR (by simp;omega)]
structure kz (w:W):Prop where
 rng:∀p q,q∈row w p→q<w.length
 irr:∀p,p∉row w p
 nod:∀p,(row w p).Nodup
 sym:∀p q,q∈row w p→p∈row w q
theorem Good.near{w:W}(g:Good w):kz w:=⟨g.rng,g.irr,g.nod,g.sym⟩
theorem kz.good{w:W}(n:kz w)(h:∀p,p<w.length→Reach w 0 p):Good w:=⟨n.rng,n.irr,n.nod,n.sym,h⟩
end Wb
namespace L2
open PySem PySem.Spec PyProof.Rows
section
variable {X:Cx} {Z:DC} {pins:List (Addr×Obj)} {σ:St} {H:Hp} {s:Shared}
open Classical in
open Classical in
theorem rJ{f:Nat→Int}(g:Int→Int→Bool)(hg:∀a b,g a b=decide (b<a)):∀k,argBest (λi j=>g (f i) (f j)) k≤k∧∀i,i≤k→f i≤f (argBest (λi j=>g (f i) (f j)) k)
 |0=>⟨bL _,λi h=>by obtain rfl:i=0:=by omega
                    exact Int.le_refl _⟩
 |k+1=>by
  obtain ⟨h1,h2⟩:=rJ (f:=f) g hg k;unfold argBest;simp only [hg] at h1 h2 ⊢
  by_cases c:f (argBest (λi j=>decide (f j<f i)) k)<f (k+1)
  ·rw [if_pos (decide_eq_true c)]
   refine ⟨bL _,λi hi=>?_⟩
   by_cases z:i=k+1
   ·subst z;exact Int.le_refl _
   ·have:=h2 i (by omega);omega
  ·rw [if_neg (by simpa using c)]
   refine ⟨by omega,λi hi=>?_⟩
   by_cases z:i=k+1
   ·subst z;omega
   ·exact h2 i (by omega)
theorem wD(hc:X.calm=true):bP X (.builtin "max") (λxs H Q=>∃(p:Addr)(ns:List Int),xs= [.ref p]∧H p=some (.lst (ns.map V.int))∧ns≠ []∧∀n∈ns,(∀m∈ns,m≤n)→Q (.int n) H):=by
 intro pins s σ H xs us Q I rv h;obtain ⟨p,ns,rfl,hp,CB,q⟩:=h;obtain ⟨u,rfl,ru⟩:=rv.one;cases ru;obtain ⟨its,r,pl,hz⟩:=I.list (bb.of hp);have hl:=r.length;rw [bV] at hl;have MQ:0<ns.length:=List.length_pos_iff.mpr CB
 have jX:∀i:Nat,(hi:i<ns.length)→∃t,its[i]? =some (.int ns[i] t):=λi hi=>by
  obtain ⟨w,hw,qz⟩:=r.get (i:=i) (x:= .int ns[i]) (by rw [dX,cS hi];rfl)
  obtain ⟨t,rfl⟩:=qz;exact ⟨t,hw⟩
 refine call_max_walk (wpAny_pyIter_list pl.isList ?_)
 have mm:p≠s.heap.objs.size:=by
  obtain ⟨o,ho,_⟩:=pl.isList;exact bR (Heap.lt_size ho)
 let f:Nat→Int:=λi=>ns.getD i 0
 have ef:∀k,(hk:k<ns.length)→f k=ns[k]:=λk hk=>by
  show ns.getD k 0=_;rw [dW,cS hk];rfl
 refine ⟨_,_,_,its.toArray.size,_,_,λi j=>(λa b=>decide (b<a)) (f i) (f j),rfl,Walks.list (show X.A.in1.handled=none from I.ok.hd hc) s.heap.objs.size p mm its.toArray,⟨⟨_,Heap.get?_push_size _ rfl,rfl,rfl⟩,pl.isList.push _⟩,?_,?_,?_,?_⟩
 ·intro b hb
  have:b=s.heap.objs.size∨b=p:=by simpa using hb
  obtain ⟨o,ho,_⟩:=pl.isList;have lt:=Heap.lt_size ho;have e:(s.heap.push {cls:= .type "list_iterator",data:= .fields #[.ref p, .int 0 0]}).objs.size=s.heap.objs.size+1:=by simp [Heap.push]
  rcases this with rfl|rfl
  ·exact ze (wm _) e.symm
  ·exact ze (Nat.lt_succ_of_lt lt) e.symm
 ·rw [cp];omega
 ·intro i j u v s' Q' E' CH tX hq
  have tW:its[i]? =some u:=by simpa using CH
  have lC:its[j]? =some v:=by simpa using tX
  have hi:i<ns.length:=by have:=(gF.mp tW).1;omega
  have hj:j<ns.length:=by have:=(gF.mp lC).1;omega
  obtain ⟨t1,h1⟩:=jX i hi;obtain ⟨t2,h2⟩:=jX j hj;rw [h1] at tW;rw [h2] at lC;cases tW;cases lC;have f7:Q' (.bool (decide (ns[j]<ns[i]))) s':=by rw [←ef i hi,←ef j hj];exact hq
  exact (PyProof.Rows.gt_int f7:wpAny _ _ (compareOp .Gt _ _) _ _ _)
 ·intro v h' tk hP kk
  have kept:∀b o,s.heap.get? b=some o→h'.get? b=some o:=λb o e=>kk b o (by simp;exact bR (Heap.lt_size e)) (Heap.get?_push_of_some _ e)
  obtain ⟨hk,hm⟩:=rJ (f:=f) (λa b=>decide (b<a)) (λ_ _=>rfl) (its.toArray.size-1);generalize argBest (λi j=>(λa b=>decide (b<a)) (f i) (f j)) (its.toArray.size-1)=k at hP hk hm;rw [cp] at hk hm;have xp:k<ns.length:=by omega
  have lC:its[k]? =some v:=by simpa using hP
  obtain ⟨t,ht⟩:=jX k xp;rw [ht] at lC;cases lC;refine ⟨.int ns[k],H,I.kept kept,⟨t,rfl⟩,q _ (nu xp) λm pT=>?_⟩;obtain ⟨i,hi,rfl⟩:=List.mem_iff_getElem.mp pT
  have:=hm i (by omega)
  rw [ef i hi,ef k xp] at this;exact this
def Hw:bN:=λds P=>∃ns:List Int,ds= [.lst (ns.map D.int)]∧ns≠ []∧∀n∈ns,(∀m∈ns,m≤n)→P (.int n)
theorem Bt(hc:X.calm=true):bP X (.builtin "max") (gi Z Hw):=by
 refine (wD hc).imp ?_;rintro xs H Q ⟨G,ds,P,s,dv,⟨ns,rfl,mm,hp⟩,q⟩;obtain ⟨v,rfl,a⟩:=dv.ofOne;obtain ⟨p,vs,rfl,h,e⟩:=a.eG;rw [lZ e] at h;exact ⟨p,ns,rfl,s _ _ h,mm,λn hn hm=>q _ (hp n hn hm) _ G H (.refl s) (.int n)⟩
end
section
variable {X:Cx} {Z:DC}
theorem wG:bP X (.type "range") (λxs H Q=>∃i:Int,xs= [.int i]∧∀q,H q=none→Q (.ref q) (upd H q (.rng 0 i))):=by
 intro pins s σ H xs us Q I rv h;obtain ⟨i,rfl,q⟩:=h;obtain ⟨u1,rfl,⟨t1,rfl⟩⟩:=rv.one;refine call_range_1 ?_;exact ⟨.ref s.heap.objs.size,_,I.laid (λb o hb=>Heap.get?_push_of_some _ hb) (bL _) (o:= .rng 0 i) ⟨_,_,_,Heap.get?_push_size _ rfl⟩,rfl,q _ (I.hok.fresh (bL _))⟩
def Hy:bN:=λds P=>∃i:Int,ds= [.int i]∧P (.rng 0 i)
theorem Bv:bP X (.type "range") (gi Z Hy):=by
 refine wG.imp ?_;rintro xs H Q ⟨G,ds,P,s,dv,⟨i,rfl,hp⟩,q⟩;obtain ⟨v,rfl,a⟩:=dv.ofOne;refine ⟨i,by rw [a.ofInt],λp hn=>q _ hp _ _ _ (.new s hn) (.rng ak)⟩
def Ek:bN:=λds P=>∃i j:Int,ds= [.rng i j]∧(-(2^62)≤i∧i<2^62∧-(2^62)≤j∧j<2^62∧(j-i).toNat≤1000)∧P (.lst (bp i (j-i).toNat))
theorem xY{G:Hp}(i:Int)(n:Nat):ao Z G (jn i n) (bp i n):=by
 unfold jn bp
 induction List.range n with
 |nil=>exact .nil
 |cons k l ih=>exact .cons (.int _) ih
theorem zw(hc:X.calm=true):bP X (.type "list") (gi Z Ek):=by
 refine (pK hc).imp ?_;rintro xs H Q ⟨G,ds,P,s,dv,⟨i,j,rfl,⟨b1,b2,b3,b4,b5⟩,hp⟩,q⟩;obtain ⟨v,rfl,a⟩:=dv.ofOne;cases a with
 |rng h=>exact ⟨_,i,j,rfl,s _ _ h,b1,b2,b3,b4,b5,λp hn=>q _ hp _ _ _ (.new s hn) (.lst ak (xY i _))⟩
end
open PySem.Calls PySem.W
section
variable {X:Cx} {C:Addr} {x:Str} {p pos:Pos} {e:Expr} {es:List Expr} {te:TE} {t:TA}
def F0(X:Cx)(te:TE):TS:=λ_ σ H=>te σ H λv H1=>∃a C d,v= .ref a∧H1 a=some (nB C a d)∧kA X.K C∧mroIn X.K C (.type "BaseException")=some true∧yq X σ (upd H1 a (lO C a d)) a
theorem AQ(hc:X.calm=true)(he:PE X e te):PS X (.Raise (some e) none pos) (F0 X te):=by
 intro pins s σ H D I h;rw [arm_exec_Raise];refine wpAny_bind (wpAny_standAt ?_);simp only [evalOpt,Option.map];unfold raiseStmt;refine wpAny_bind (wpAny_bind (thn (he pins s σ H _ I h) λu s1 ⟨v,H1,I1,rv,a,C,d,ev,ha,xo,hb,q⟩=>wpAny_bind (wpAny_standAt (wpAny_pure ?_))));subst ev;obtain rfl:u=Value.ref a:=rv;obtain ⟨t,et⟩:=pD I1.hok ha;obtain ⟨nm,q',N,bs,bm,eQ,sn,sub,ab,col,dd,k0,k1,k2,k3,k5,hC,cB,cA,cN⟩:=xo.obj;have Mw:=I1.bI _ _ hC
 have rg:(Value.ref C::bm).contains (.type "BaseException")=true:=by
  unfold mroIn clsIn at hb;rw [hC] at hb;simpa using hb
 have Iv:Inv X pins σ (upd H1 a (lO C a d)) s1:=by
  have I2:=I1.write (x:=a) (e:=a) (o:=lO C a d) (h':=s1.heap) (t':=s1.toks) (by rw [ha];exact True.intro) (.inl rfl) (λb u hb q=>q) ⟨_,et⟩ (B5 (tb:= .none) et)
  obtain ⟨hp,g,dr,tk,os⟩:=s1;exact I2
 have hE:X.xe (.ref a) s1:=q s1 Iv.Bo ⟨C,t, .none,d,ak,et, .inl rfl⟩;have hh:X.A.handled=none:=I.ok.hd hc;obtain ⟨hp,g,dr,tk,os⟩:=s1
 repeat (first|with_reducible refine wpAny_loadPart_at et ?_|with_reducible refine wpAny_loadPart_at Mw ?_| (with_reducible refine wpAny_isSubtype_exc Mw ?_;rw [rg]) |wp_step)
 exact wpAny_raiseNew_none hh hE
end
section
variable {X:Cx} {k:Nat} {f C:Addr} {fd:FuncData} {ps:List Str} {sp:Sp} {x m:Str} {p pos apos:Pos} {e o:Expr} {es:List Expr} {ta:TE} {t:TA}
def Hu(X:Cx)(σ:St):XK:=λe _ H'=>∃a,e= .ref a∧yq X σ H' a
end
section
variable {X:Cx} {pins:List (Addr×Obj)} {σ:St} {H:Hp} {s:Shared}
theorem vg{K:PySem.W.Frag}{C:Addr}{b:Value}{r:Bool}{nm q:Str}{N:Addr}{bs bm:List Value}{eQ:Bool}{sn:List Str}{sub:List Value}{ab:Bool}{col:Option Bool}{dd:Option Addr}{k0 k1 k2 k3 k5:Option Value}{newId:String}
  (hC:K.lookup C=some (excClassObj nm q C N bs bm eQ sn sub ab col dd k0 k1 k2 k3 k5 newId)) (hb:mroIn K C b=some r):(Value.ref C::bm).contains b=r:=by
 unfold mroIn clsIn at hb;rw [hC] at hb;simpa using hb
theorem B2{M:Model}{A:Around}{E:Value→Shared→Prop}{Q:Bool→Shared→Prop}{K:PySem.W.Frag}{a C Cm t:Addr}{tb:Value}{d:Option Addr}{b:Bool}(X:K.In s.heap)(he:s.heap.get? a=some (fG C t tb d))(xc:kA K C)(xm:kA K Cm)(hm:mroIn K Cm (.type "BaseException")=some true)(hb:mroIn K C (.ref Cm)=some b)
  (h:Q b s):wpAny M A (excMatches (.ref a) (.ref Cm)) Q E s:=by
 obtain ⟨nm,q',N,bs,bm,eQ,sn,sub,ab,col,dd,k0,k1,k2,k3,k5,hC,_⟩:=xc.obj;obtain ⟨XS,XT,N',Xp,Xo,SQ,XZ,Xl,Xn,Xg,Xq,XG,XH,XI,XJ,XM,hM,_⟩:=xm.obj;have h1:=vg hC hb;have h2:=vg hM hm
 replace hC:=X _ _ hC
 replace hM:=X _ _ hM
 have f:=tc_notTuple;obtain ⟨hp,g,dr,tk,os⟩:=s;unfold excMatches
 repeat (first|with_reducible refine wpAny_loadPart_at he ?_|with_reducible refine wpAny_loadPart_at hM ?_| (with_reducible refine wpAny_isSubtype_exc hM ?_;rw [h2]) | (with_reducible refine wpAny_isSubtype_exc hC ?_;rw [h1]) |wp_step)
 cases b<;>(wp_walk;exact h)
end
abbrev Cx.rj(X:Cx)(a:Addr):Cx:={X with A:=X.A.mark (some (.ref a)),calm:=false,xe:=λ_ _=>False}
abbrev Cx.tr(X:Cx)(pn:List (Addr×Obj))(E:Value→Shared→Prop):Cx:={X with pn:=pn,xe:=E}
section
variable {X:Cx} {pins pn:List (Addr×Obj)} {σ:St} {H:Hp} {s:Shared} {E:Value→Shared→Prop} {a:Addr}
theorem Inv.rj(I:Inv X pins σ H s)(a:Addr):Inv (X.rj a) pins σ H s:=
 ⟨⟨I.ok.mod,I.ok.kind,I.ok.glob,I.ok.blt,I.ok.above,I.ok.inj,I.ok.has,I.ok.cab,(λz=>nomatch z),I.ok.frames,I.ok.stk,I.ok.exf,I.ok.bs,I.ok.bsz,I.ok.noex,I.ok.exfs,I.ok.funs,I.ok.frf⟩,I.os,I.bare,I.base,I.loc,I.cell,I.free,I.freeC,I.pin,I.hok,I.len⟩
theorem Inv.uz(ok:X.Ok)(I:Inv (X.rj a) pins σ H s):Inv X pins σ H s:=⟨ok,I.os,I.bare,I.base,I.loc,I.cell,I.free,I.freeC,I.pin,I.hok,I.len⟩
theorem Inv.tr(I:Inv X pins σ H s)(E:Value→Shared→Prop):Inv (X.tr (X.pn++pins) E) [] σ H s:=
 ⟨⟨I.ok.mod,I.ok.kind,I.ok.glob,I.ok.blt,I.ok.above,I.ok.inj,I.ok.has,I.ok.cab,I.ok.hd,I.ok.frames,I.ok.stk,I.ok.exf,I.ok.bs,I.ok.bsz,I.ok.noex,I.ok.exfs,I.ok.funs,I.ok.frf⟩,I.os,I.bare,I.base,I.loc,I.cell,I.free,I.freeC,λp hp=>I.pin p (by rw [iV] at hp;exact hp),I.hok,I.len⟩
theorem Inv.vZ(ok:X.Ok)(I:Inv (X.tr (X.pn++pins) E) [] σ H s):Inv X pins σ H s:=⟨ok,I.os,I.bare,I.base,I.loc,I.cell,I.free,I.freeC,λp hp=>I.pin p (by rw [iV];exact hp),I.hok,I.len⟩
theorem tR{M:Model}{A:Around}{Q:Unit→Shared→Prop}{X:Cx}(f:pE X H s a)(h:Q () s):wpAny M A (setFlight (.ref a) none) Q E s:=by
 obtain ⟨C,t,tb,d,_,h2,h3⟩:=f
 rcases h3 with rfl| ⟨T,rfl,_,_,_,_,_,o,ts,hT,hd,h3⟩
 ·unfold setFlight
  refine wpAny_bind (wpAny_field (x:= .none) h2 rfl rfl ?_);rw [if_neg (by decide)]
  exact wpAny_pure h
 ·refine wpAny_setFlight_none h2 rfl rfl hT hd (zc.mp h3).1 ?_
  rw [Heap.update_setField_same _ _ o ts 3 .none hT hd h3];exact h
end
def Mf:Option Nat→Ends→Ends
 |none,D=>D
 |some i,D=>{nx:=λσ H=>D.nx (σ.set i none) H,rt:=D.rt,bk:=λσ H=>D.bk (σ.set i none) H,ct:=λσ H=>D.ct (σ.set i none) H}
def Pn:Option Nat→Addr→St→St
 |none,_,σ=>σ
 |some i,a,σ=>σ.set i (some (.ref a))
abbrev Ba:=List (Addr×Option Nat×(Addr→TS))
def uy(K:PySem.W.Frag):Ba→Ends→St→Hp→Addr→Addr→Prop
 | [],_,_,_,_,_=>False
 | (Cm,n,th)::r,D,σ,H,a,C=>∃b,mroIn K C (.ref Cm)=some b∧if b=true then th a (Mf n D) (Pn n a σ) H else uy K r D σ H a C
def PH(X:Cx)(hs:List ExceptHandler)(l:Ba):Prop:=
 ∀(pins:List (Addr×Obj))(σ:St)(H:Hp)(s:Shared)(a C:Addr)(d:Option Addr)(D:Ends),Inv X pins σ H s→pE X H s a→H a=some (lO C a d)→kA X.K C→uy X.K l D σ H a C→wpAny (model X.prog X.w) X.A (handleBy (.ref a) X.env hs) (SP X pins D) X.xe s
section
variable {X:Cx} {pos p:Pos} {c n:Str} {Cm:Addr} {uQ:Stmt} {qI:List Stmt} {rest:List ExceptHandler} {l:Ba} {th:Addr→TS}
theorem Fx:PH X [] []:=λ_ _ _ _ _ _ _ _ _ _ _ _ h=>h.elim
theorem B4{C C' a:Addr}{d d':Option Addr}{t:Addr}{tb:Value}{h:Heap}(e:lO C a d=lO C' a d')(g:h.get? a=some (fG C t tb d)):C=C':=by
 have:=congrArg (λo=>match o with|HO.ext φ=>φ h|_=>True) e
 have hh:∃t tb,h.get? a=some (fG C' t tb d'):=by
  have:(∃t tb,h.get? a=some (fG C t tb d))=(∃t tb,h.get? a=some (fG C' t tb d')):=this
  rw [←this];exact ⟨t,tb,g⟩
 obtain ⟨t',X0,g'⟩:=hh;rw [g] at g';cases g';rfl
theorem Dk(hg:Gl X c)(hm:X.mg c=some (.ref Cm))(xm:kA X.K Cm)(lg:mroIn X.K Cm (.type "BaseException")=some true)(hs:∀a,fS (X.rj a) (uQ::qI) (th a))(hr:PH X rest l)(dj:(c==("__debug__":Str))=false:=by decide):
  PH X (.ExceptHandler (some (.Name c p)) none (uQ::qI) pos::rest) ((Cm,none,th)::l):=by
 intro pins σ H s a C d D I fl ha xc h;obtain ⟨C',t,tb,d',h1,h2,h3⟩:=id fl;have eC:C'=C:=B4 (Option.some.inj (h1.symm.trans ha)) h2;subst eC;obtain ⟨b,hb,h⟩:=h;refine wpAny_handleBy_cons (codeAny_handlers_test (wpAny_mono (gf (I.rj a) hg hm ?_ dj) (λ_ _ x=>x) λ_ _ z=>z)) (by intro q;cases q)
 refine B2 I.bI h2 xc xm lg hb ?_;cases b with
 |false=>exact hr pins σ H s a C' d D I fl ha xc h
 |true=>
  refine codeAny_handlers_suite (tR fl ?_);refine wpAny_mono (hs a pins s σ H D (I.rj a) h) (λf s1 q=>?_) λ_ _ z=>z.elim;cases f with
  |next=>obtain ⟨ax,H',I',q⟩:=q;exact ⟨ax,H',I'.uz I.ok,q⟩
  |brk=>obtain ⟨ax,H',I',q⟩:=q;exact ⟨ax,H',I'.uz I.ok,q⟩
  |cont=>obtain ⟨ax,H',I',q⟩:=q;exact ⟨ax,H',I'.uz I.ok,q⟩
  |ret u=>obtain ⟨v,ax,H',I',r,q⟩:=q;exact ⟨v,ax,H',I'.uz I.ok,r,q⟩
def Qg(X:Cx)(tb:List (Addr×Obj)→(Value→Shared→Prop)→TS)(to:TS)(l:Ba):TS:=λD σ H=>∀pn E,(∀ax H' a C d,H' a=some (lO C a d)→kA X.K C→uy X.K l D ax H' a C→yq (X.tr pn E) ax H' a)→tb pn E {D with nx:=to D} σ H
theorem FA{body orelse:List Stmt}{h₀:ExceptHandler}{hs:List ExceptHandler}{tb:List (Addr×Obj)→(Value→Shared→Prop)→TS}{to:TS}(iH:X.stack=X.env::X.outer)(Ct:X.env.frame=some X.env.locals)
  (hb:∀pn E,fS (X.tr pn E) body (tb pn E)) (ho:fS X orelse to) (hh:PH X (h₀::hs) l):PS X (.Try body (h₀::hs) orelse [] pos) (Qg X tb to l):=by
 intro pins s σ H D I h;refine wpAny_Try_except ?_
 let E':Value→Shared→Prop:=λe s₁=>wpAny (model X.prog X.w) X.A (noteFrame e X.env) (λ_ vS=>wpAny (model X.prog X.w) X.A (setFlight e none) (λ_ vT=>wpAny (model X.prog X.w) X.A (handleBy e X.env (h₀::hs)) (SP X pins D) X.xe vT) X.xe vS) X.xe s₁
 have hw:=h (X.pn++pins) E' λax H' a C d h1 h2 h3=>by
  intro s1 I1 f1;refine sD (X:=X.tr (X.pn++pins) E') iH Ct I1 f1 λs2 I2 f2=>?_;have QD:=I2.vZ I.ok;obtain ⟨C',t,tb,d',g1,g2,g3⟩:=f2;refine hh pins ax H' s2 a C d D QD ⟨C',t,tb,d',g1,g2,g3.imp id λ⟨T,e1,e2,e3,e4,e5,e6⟩=>⟨T,e1,e2,e3,e4,λp hp=>e5 p (kc _ hp),e6⟩⟩ h1 h2 h3
 refine wpAny_mono (hb _ E' [] s σ H _ (I.tr E') hw) (λf s1 q=>?_) λ_ _ z=>z;cases f with
 |next=>obtain ⟨ax,H',I',q⟩:=q;exact ho pins s1 ax H' D (I'.vZ I.ok) q
 |brk=>obtain ⟨ax,H',I',q⟩:=q;exact ⟨ax,H',I'.vZ I.ok,q⟩
 |cont=>obtain ⟨ax,H',I',q⟩:=q;exact ⟨ax,H',I'.vZ I.ok,q⟩
 |ret u=>obtain ⟨v,ax,H',I',r,q⟩:=q;exact ⟨v,ax,H',I'.vZ I.ok,r,q⟩
end
abbrev Eh:=List D→(D→Prop)→(D→Prop)→Prop
def p9(Z:DC)(sd:Eh):Sp:=λvs H Q E=>∃(G:Hp)(ds:List D)(P R:D→Prop),aH G H∧ao Z G vs ds∧sd ds P R∧(∀d,P d→∀v G' H',Ext G H G' H'→Dv Z G' v d→Q v H')∧∀d,R d→∀a G' H',Ext G H G' H'→Dv Z G' (.ref a) d→E (.ref a) none H'
section
variable {P:Program} {w:World} {K:PySem.W.Frag} {mg:Str→Option Value} {base:Heap} {Z:DC}
theorem lP.Wl{x qual:Str}{st:Stmt}{f:Addr}{fd:FuncData}{N ps:List Str}{k:Nat}{sp:Sp}{CX:jH}(F:lP K x qual st f fd)(S:aB N ps (aj st))(len:∀vs H Q E,sp vs H Q E→vs.length=ps.length)
  (fY:∀(aW:Value)(A:Around)(outer:List Env)(s:Shared)(H:Hp)(vs:List V)(Q:VK)(E:XK),bC k (A.deeper (envOfC qual (aj st) s.heap.objs.size f aW))→sp vs H Q E→
   ∃t,fS (gM CX P w K mg base N qual (aj st) f aW A outer s H E) (cG st) t∧t {nx:=λ_ H'=>Q .aN H',rt:=Q} (start N vs) H):FnOk P w K mg base CX (k+1) f fd ps sp:=by
 obtain ⟨oc,od,kV,doc,pm,an,aW,ct,uf,rfl,lk,eB⟩:=F.ex;exact B7 lk eB S len λA outer s H vs Q E hr rm=>fY aW A outer s H vs Q E hr rm
theorem zO{x qual:Str}{st:Stmt}{f:Addr}{fd:FuncData}{N ps:List Str}{k:Nat}{sd:Eh}(F:lP K x qual st f fd)(S:aB N ps (aj st))(md:List Nat)(xq:∀i,i<ps.length→md.getD i 0=0)(len:∀ds P R,sd ds P R→ds.length=ps.length)
  (fY:∀(aW:Value)(A:Around)(outer:List Env)(s:Shared)(H:Hp)(E:XK)(ds:List D)(R Rx:D→Prop),bC k (A.deeper (envOfC qual (aj st) s.heap.objs.size f aW))→sd ds R Rx→
   ∃t,DSs Z (gM (qT P w) P w K mg base N qual (aj st) f aW A outer s H E) md 0 (cG st) t∧t {nx:=λ_=>R .aN,rt:=R,xc:=λ_ d=>Rx d} (jr N ds)):FnOk P w K mg base (qT P w) (k+1) f fd ps (p9 Z sd):=by
 refine F.Wl S (λvs H Q E h=>?_) (λaW A outer s H vs Q E hr h=>?_)
 ·obtain ⟨G,ds,R,Rx,s,dv,h,q⟩:=h
  rw [dv.length];exact len _ _ _ h
 obtain ⟨G,ds,R,Rx,s0,dv,h,q,qx⟩:=h;obtain ⟨t,ht,hq⟩:=fY aW A outer s H E ds R Rx hr h;have hl:=len _ _ _ h;refine ⟨_,ht,⟨G,H,G⟩,_,_,⟨G,λ_=> [],?_⟩,hq,⟨λρ EO ax H' ⟨G',fp,S'⟩=>q _ EO _ G' H' S'.ex .aN,λd hd v f G' H' x o nd nw=>q d hd v G' H' x o.1,λ_ z=>z.elim,λ_ z=>z.elim,λρ d hd ax H' G' fp a S' ic s2 I2 f2=>B6 I2 f2 (qx d hd a G' H' S'.ex ic)⟩⟩;refine ⟨.refl s0, .refl _,by unfold jr start;simp [dv.length],λi d hi=>?_,λ_=>oM,(λ_ _ _ _ z=>by cases z),(λ_ _ z=>by cases z)⟩
 unfold jr at hi
 have Cv:i<ds.length:=by
  apply Classical.byContradiction;intro z;rw [wb (by simpa using dU z),kQ] at hi
  split at hi<;>cases hi
 rw [qN (by simpa using Cv),dX] at hi
 have gJ:ds[i]? =some d:=by
  cases z:ds[i]? with
  |none=>rw [z] at hi;cases hi
  |some d'=>rw [z] at hi;cases hi;rfl
 obtain ⟨v,hv,ic⟩:=dv.get gJ;refine ⟨v,?_,by rw [xq i (by omega)];exact ⟨ic,rfl⟩⟩
 unfold start;rw [qN (by simpa [dv.length] using Cv),dX,hv];rfl
end
section
variable {Z:DC} {X:Cx} {md:List Nat} {rn:Nat} {st:Stmt} {qH:List Stmt} {t:dZ} {e x1 y1:Expr} {es:List Expr} {tx ty:aR} {sd:Eh} {k j:Nat} {x:Str} {ps:List Str} {p pos aZ:Pos}
structure XE (K:PySem.W.Frag) (C:Addr):Prop where
 cls:rH K C
 obj:kA K C
def BX:Option Nat→bQ→bQ
 |none,E=>{E with xc:=λ_ _=>False}
 |some i,E=>{nx:=λρ=>E.nx (ρ.set i none),rt:=E.rt,bk:=λρ=>E.bk (ρ.set i none),ct:=λρ=>E.ct (ρ.set i none)}
def DJ:Option Nat→D→DN→DN
 |none,_,ρ=>ρ
 |some i,d,ρ=>ρ.set i (some d)
abbrev tu:=List (Addr×Option Nat×bO)
def Ig(K:PySem.W.Frag)(C:Addr):tu→bQ→DN→D→Prop
 | [],_,_,_=>False
 | (Cm,n,th)::r,E,ρ,d=>∃b,PySem.W.mroIn K C (.ref Cm)=some b∧if b=true then th (BX n E) (DJ n d ρ) else Ig K C r E ρ d
def Ie(K:PySem.W.Frag)(l:tu)(E:bQ)(ρ:DN):D→Prop
 | .err C ks ds=>kA K C∧Ig K C l E ρ (.err C ks ds)
 |_=>False
def LJ(K:PySem.W.Frag)(tb to:bO)(l:tu):bO:=λE ρ=>tb {E with nx:=to E,xc:=Ie K l E} ρ
theorem SIx.drop{B:Bs}{ρ:DN}{σ:St}{H G:Hp}{fp:Nat→List Addr}{i:Nat}(S:SIx Z B md ρ σ H G fp):SIx Z B md (ρ.set i none) (σ.set i none) H G fp where
 ex:=S.ex
 fl:=S.fl
 len:=by rw [dm,dm];exact S.len
 at_:=λj c h=>by
  by_cases z:i=j
  ·subst z
   by_cases hi:i<ρ.length
   ·rw [gB hi] at h;cases h
   ·rw [qP (dU hi),dR (dU hi)] at h;cases h
  ·rw [dF z] at h ⊢
   exact S.at_ j c h
 nd:=S.nd
 ap:=S.ap
 nw:=S.nw
def G7(Z:DC)(X:Cx)(md:List Nat)(rn:Nat)(l:tu):Ba:=l.map λc=>(c.1,c.2.1,λa=>jg Z (X.rj a) md rn c.2.2)
def OQ(md:List Nat)(l:tu):Prop:=∀c∈l,∀i,c.2.1=some i→md.getD i 0=0
def DHs(Z:DC)(X:Cx)(md:List Nat)(rn:Nat)(hs:List ExceptHandler)(l:tu):Prop:=PH X hs (G7 Z X md rn l)∧OQ md l
theorem sk{B:Bs}{E:bQ}{Dn:Ends}(M:Meets Z X B md rn E Dn){ρ:DN}{σ:St}{H G:Hp}{fp:Nat→List Addr}(S:SIx Z B md ρ σ H G fp){a C:Addr}{d:D}(dv:Dv Z G (.ref a) d){K:PySem.W.Frag}:∀(l:tu),OQ md l→Ig K C l E ρ d→uy K (G7 Z X md rn l) Dn σ H a C
 | [],_,h=>h
 | (Cm,n,th)::r,ok,⟨b,hb,h⟩=>by
  refine ⟨b,hb,?_⟩;cases b with
  |false=>exact aI (sk M S dv r (λc hc=>ok c (gK _ hc)) (by simpa using h))
  |true=>
   have h:th (BX n E) (DJ n d ρ):=by simpa using h
   refine aU ?_;cases n with
   |none=>exact ⟨B,ρ,_,⟨G,fp,S⟩,h,⟨M.nx,M.rt,M.bk,M.ct,λ_ _ z=>z.elim⟩⟩
   |some i=>
    refine ⟨B,_,_,⟨G,_,S.oI (ok _ (di ..) i rfl) dv⟩,h,⟨λaE h' ax H' ⟨G',kX,S'⟩=>M.nx _ h' _ _ ⟨G',kX,S'.drop⟩,M.rt,λaE h' ax H' ⟨G',kX,S'⟩=>M.bk _ h' _ _ ⟨G',kX,S'.drop⟩,λaE h' ax H' ⟨G',kX,S'⟩=>M.ct _ h' _ _ ⟨G',kX,S'.drop⟩,λ_ _ z=>z.elim⟩⟩
theorem Ez{body orelse:List Stmt}{h₀:ExceptHandler}{hs:List ExceptHandler}{tb to:bO}{l:tu}(hb:∀pn E,DSs Z (X.tr pn E) md rn body tb)(ho:DSs Z X md rn orelse to)(hh:DHs Z X md rn (h₀::hs) l)(iH:X.stack=X.env::X.outer:=by rfl)(Ct:X.env.frame=some X.env.locals:=by rfl):
  DSt Z X md rn (.Try body (h₀::hs) orelse [] pos) (LJ X.K tb to l):=by
 refine (FA (tb:=λpn E=>jg Z (X.tr pn E) md rn tb) iH Ct hb ho hh.1).imp ?_;rintro Dn σ H ⟨B,ρ,E,S,h,M⟩ pn E' hE;refine ⟨B,ρ,_,S,h,⟨λaE h' ax H' S'=>⟨B,aE,E,S',h',M⟩,M.rt,M.bk,M.ct,λaE d hd ax H' G fp a S' dv=>?_⟩⟩;cases d<;>first|exact False.elim hd|skip
 rename_i C ks ds
 have jO:=dv;cases dv with
 |err ha hk hx=>exact hE ax H' a C _ (S'.ex.sub _ _ ha) hd.1 (sk M S' jO l hh.2 hd.2)
theorem Et:DHs Z X md rn [] []:=⟨Fx,λc hc=>by cases hc⟩
variable {c n:Str} {Cm:Addr} {uQ:Stmt} {qI:List Stmt} {rest:List ExceptHandler} {l:tu} {th:bO}
theorem BP(hm:X.mg c=some (.ref Cm))(xm:XE X.K Cm)(hs:∀a,DSs Z (X.rj a) md rn (uQ::qI) th)(hr:DHs Z X md rn rest l)(hg:Gl X c:=by rfl)(dj:(c==("__debug__":Str))=false:=by decide):
  DHs Z X md rn (.ExceptHandler (some (.Name c p)) none (uQ::qI) pos::rest) ((Cm,none,th)::l):=
 ⟨Dk hg hm xm.obj xm.cls.be hs hr.1 dj,λc hc=>by
  rcases eS.mp hc with rfl|hc
  ·intro i z;cases z
  ·exact hr.2 c hc⟩
end
section
variable {X:Cx}
structure QF (K:PySem.W.Frag):Prop where
 hn:PySem.W.specialIn K (.builtin "object.__class__") "__get__"=some (some (.builtin "getset_descriptor.__get__"))
 htk:PySem.W.takesIn K (.builtin "object.__class__")=some true
end
section
variable {Z:DC} {X:Cx} {a c:Expr} {cs:List Expr} {ta:aR} {p pos:Pos}
def QH(X:Cx):List Expr→List V→Prop
 | [],[]=>True
 |e::es,v::vs=>PE X e (tC v)∧starEach (e::es) X.env=(false,eval e X.env)::starEach es X.env∧QH X es vs
 |_,_=>False
end
section
variable {P:Program} {w:World} {K:PySem.W.Frag} {mg:Str→Option Value} {base:Heap} {Z:DC}
end
section
variable {Z:DC} {X:Cx} {e:Expr} {es:List Expr} {t:dZ} {pos:Pos}
end
def D8:List Value→Bool
 | [.type a, .type b, .type c, .type d]=>a=="ValueError"&&b=="Exception"&&c=="BaseException"&&d=="object"
 | [.ref _, .type a, .type b, .type c, .type d]=>a=="ValueError"&&b=="Exception"&&c=="BaseException"&&d=="object"
 |_=>false
theorem A5{tl:List Value}(h:D8 tl=true):tl= [.type "ValueError", .type "Exception", .type "BaseException", .type "object"]∨∃M,tl= [.ref M, .type "ValueError", .type "Exception", .type "BaseException", .type "object"]:=by
 unfold D8 at h
 split at h
 ·simp only [jA,beq_iff_eq] at h
  obtain ⟨⟨⟨rfl,rfl⟩,rfl⟩,rfl⟩:=h;exact .inl rfl
 ·simp only [jA,beq_iff_eq] at h
  obtain ⟨⟨⟨rfl,rfl⟩,rfl⟩,rfl⟩:=h;exact .inr ⟨_,rfl⟩
 ·cases h
theorem Eb{K:PySem.W.Frag}{C N:Addr}{cd:ClassData}{tl:List Value}{nm q:Str}{bs bm:List Value}{eQ:Bool}{sn:List Str}{sub:List Value}{ab:Bool}{col:Option Bool}{dd:Option Addr}{k0 k1 k2 k3 k5:Option Value}
  (hd:PySem.W.hasDictIn K C=true) (ga:PySem.W.findIn K (.ref C) "__getattribute__"=some (some (.builtin "BaseException.__getattribute__"))) (gh:PySem.W.findIn K (.ref C) "__getattr__"=some none)
  (sa:PySem.W.findIn K (.ref C) "__setattr__"=some (some (.builtin "object.__setattr__"))) (cl:PySem.W.findIn K (.ref C) "__class__"=some (some (.builtin "object.__class__")))
  (cq:PySem.W.clsIn K C=some cd) (cm:cd.mro= .ref C::tl) (lo:K.lookup C=some (excClassObj nm q C N bs bm eQ sn sub ab col dd k0 k1 k2 k3 k5 "ValueError.__new__")) (cb:bm=tl) (ht:D8 tl=true):XE K C:=by
 have mro:∀b,PySem.W.mroIn K C b=some ((Value.ref C::tl).contains b):=λb=>by
  unfold PySem.W.mroIn;rw [cq,Option.bind_some,cm];rfl
 subst cb
 rcases A5 ht with rfl| ⟨M,rfl⟩
 ·refine ⟨⟨hd,ga,gh,sa,?_,cl,?_,?_⟩,⟨nm,q,N,bs,_,eQ,sn,sub,ab,col,dd,k0,k1,k2,k3,k5,lo,rfl,rfl,rfl⟩⟩
  ·unfold ug
   rw [cq];show kn cd.mro=true;rw [cm];rfl
  ·rw [mro];rfl
  ·rw [mro];rfl
 ·refine ⟨⟨hd,ga,gh,sa,?_,cl,?_,?_⟩,⟨nm,q,N,bs,_,eQ,sn,sub,ab,col,dd,k0,k1,k2,k3,k5,lo,rfl,rfl,rfl⟩⟩
  ·unfold ug
   rw [cq];show kn cd.mro=true;rw [cm];rfl
  ·rw [mro];rfl
  ·rw [mro];rfl
structure Kn (K:PySem.W.Frag) (C:Addr) (qual:Str) (st:Stmt) (ps:List Str) where
 f:Addr
 fd:FuncData
 F:lP K "__init__" qual st f fd
 b:Binds K fd ps []
 made:Ht K C (.ref f)
 fn:PySem.W.isFn K (.ref f)=true
structure QJ (K:PySem.W.Frag) (mg:Str→Option Value) (M:Addr):Prop where
 m:mg "MapError"=some (.ref M)
 sg:PySem.W.specialIn K (.ref M) "__getattribute__"=some (some (.builtin "type.__getattribute__"))
 rd:PySem.W.readsIn K M (.type "type")=true
 fc:PySem.W.findCls K (.ref M) (.type "type") "__init__"=some (.val (.builtin "ValueError.__init__"))
def DV(Z:DC)(C:Addr)(ks:List Str)(ok:List D→Prop):Sp:=λvs H Q _=>∃(a:Addr)(ys:List V)(G:Hp)(ds:List D),vs= .ref a::ys∧H a=some (nB C a none)∧G a=none∧aH G H∧ao Z G ys ds∧ok ds∧ds.length=ks.length∧
 ∀dx zs G' H',aH G G'→aH G' H'→(∀b o,b≠a→H b=some o→H' b=some o)→(∀b,H b≠none→G b=none→G' b=none)→H' a=some (nB C a (some dx))→H dx=none→H' dx=some (tD dx (ks.zip zs))→G' dx=none→ao Z G' zs ds→Q .aN H'
section
variable {Z:DC} {X:Cx} {md:List Nat} {rn:Nat} {st:Stmt} {t:dZ} {e:Expr} {es:List Expr} {k j:Nat} {x qual:Str} {ps:List Str} {p pos aZ:Pos}
def BH(md:List Nat)(C:Addr)(ks:List Str)(ok:List D→Prop)(t:dZ):bO:=λE ρ=>t (cz md ρ) λds=>ok ds∧ds.length=ks.length∧E.xc ρ (.err C ks ds)
theorem wU{C:Addr}{ks:List Str}{ok:List D→Prop}(hc:X.calm=true)(I:Kn X.K C qual st ps)(F:FnOk X.prog X.w X.K X.mg X.base br k I.f I.fd ps (DV Z C ks ok))(hr:bC j X.A)(xe:XE X.K C)(hm:X.mg x=some (.ref C))(ha:DA Z X (e::es) t)(hg:Gl X x:=by rfl)(hk:k+1≤j:=by first|decide|omega)(EK:ps.length≤1000:=by decide)
  (dj:(x==("__debug__":Str))=false:=by decide) (he:starEach (e::es) X.env=(false,eval e X.env)::starEach es X.env:=by rfl) (bU:(backTo aZ (starEach es X.env)).any (·.1)=false:=by rfl):
  DSt Z X md rn (.Raise (some (.Call (.Name x p) (e::es) [] aZ)) none pos) (BH md C ks ok t):=by
 refine (AQ hc (AM I.made I.fn F (hr.mono hk) hg hm I.b EK lI ha dj he bU)).imp ?_;rintro D σ H ⟨B,ρ,E,⟨G,fp,S⟩,h,M⟩;refine ⟨G,_,_,S.ex.sub,S.u6,h,λds ⟨ok,hl,hx⟩ vs G1 H1 x1 bc a ha=>?_⟩;have S1:=S.grow x1;have IA:G1 a=none:=x1.sub.free ha;refine ⟨a,vs,G1,ds,rfl,ak,IA,x1.sub.trans (aL ha _),bc,ok,hl,λdx zs G' H' g1 g2 g3 g4 g5 g6 g7 g8 g9=>⟨rfl,a,C,some dx,rfl,g5,xe.obj,xe.cls.be,?_⟩⟩;have NP:dx≠a:=λz=>by rw [z,ak] at g6;cases g6
 have Sy:H1 dx=none:=by rw [ah NP] at g6;exact g6
 have Ss:G1 dx=none:=g1.free g8;have Sq:G' a=none:=g4 a (by rw [ak];exact λz=>nomatch z) IA
 have x2:Ext G1 H1 (upd (upd G' dx (tD dx (ks.zip zs))) a (lO C a (some dx))) (upd H' a (lO C a (some dx))):=by
  refine ⟨λb o eb=>?_,λb o eb=>?_,λb o eb=>?_,λb hb hg=>?_⟩
  ·rw [ah (ar eb IA),ah (ar eb Ss)];exact g1 _ _ eb
  ·by_cases z:b=a
   ·rw [z,ak] at eb ⊢;exact eb
   ·rw [ah z] at eb ⊢
    by_cases z2:b=dx
    ·rw [z2,ak] at eb;cases eb;rw [z2];exact g7
    ·rw [ah z2] at eb;exact g2 _ _ eb
  ·have nb:b≠a:=ar eb ha
   rw [ah nb];exact g3 b o nb (by rw [ah nb];exact eb)
  ·have nb:b≠a:=λz=>hb (by rw [z];exact ha)
   have VO:b≠dx:=λz=>hb (by rw [z];exact Sy)
   rw [ah nb,ah VO];exact g4 b (by rw [ah nb];exact hb) hg
 have s2:aH G' (upd (upd G' dx (tD dx (ks.zip zs))) a (lO C a (some dx))):=λb o eb=>by rw [ah (ar eb Sq),ah (ar eb g8)];exact eb
 exact M.xc ρ _ hx σ _ _ fp a (S1.grow x2) (.err ak (.inr ⟨dx,rfl,by rw [ah NP,ak],by rw [g9.length];exact hl.symm⟩) (g9.mono s2))
end
section
variable {Z:DC} {X:Cx} {a:Expr} {ta:aR} {p p1 p2 p3 p4 pos:Pos}
def nestD:D→Bool
 | .lst _=>true
 | .tup _=>true
 |_=>false
theorem Ap{K:PySem.W.Frag}{H:Hp}{v:V}{d:D}(hd:kE d=true)(h:Dv Z H v d):∃t,eN K H v t∧PySem.W.kitOne K t (.type "dict")=some false:=by
 cases h with
 |aN=>exact ⟨_, .aN,by kernel_rfl⟩
 |bl b=>exact ⟨_, .bl b,by kernel_rfl⟩
 |int b=>exact ⟨_, .int b,by kernel_rfl⟩
 |str b=>exact ⟨_, .str b,by kernel_rfl⟩
 |lst h a=>exact ⟨_, .lst h,by kernel_rfl⟩
 |tup h a=>exact ⟨_, .tup h,by kernel_rfl⟩
 |_=>cases hd
theorem Aq{K:PySem.W.Frag}{H:Hp}{v:V}{d:D}(hd:kE d=true)(h:Dv Z H v d):∃t,eN K H v t∧PySem.W.kitAny K t [.type "list", .type "tuple", .type "dict"]=some (nestD d):=by
 cases h with
 |aN=>exact ⟨_, .aN,by kernel_rfl⟩
 |bl b=>exact ⟨_, .bl b,by kernel_rfl⟩
 |int b=>exact ⟨_, .int b,by kernel_rfl⟩
 |str b=>exact ⟨_, .str b,by kernel_rfl⟩
 |lst h a=>exact ⟨_, .lst h,by kernel_rfl⟩
 |tup h a=>exact ⟨_, .tup h,by kernel_rfl⟩
 |_=>cases hd
def By(t:aR):aR:=λρ P=>t ρ λd=>kE d=true∧P (.bl false)
theorem pM(ha:DE Z X a ta)(hg:Gl X "isinstance")(hm:X.mg "isinstance"=none)(IU:Gl X "dict")(pT:X.mg "dict"=none)(hs:starEach [a, .Name "dict" p1] X.env=(false,eval a X.env)::starEach [.Name "dict" p1] X.env:=by rfl)
  (bU:(backTo pos (starEach [.Name "dict" p1] X.env)).any (·.1)=false:=by rfl) (fL:starEach [.Name "dict" p1] X.env=(false,eval (.Name "dict" p1) X.env)::starEach [] X.env:=by rfl):
  DE Z X (.Call (.Name "isinstance" p) [a, .Name "dict" p1] [] pos) (By ta):=by
 have hb:PE X (.Name "dict" p1) (tC (.ty "dict")):=iN IU pT (by decide+kernel) rfl (by decide) (by decide)
 refine (eY iZ hg hm (by decide+kernel) (aG ha (aG hb bj fL) hs) (by decide) (by decide) hs bU).imp ?_
 rintro σ H Q ⟨G,ρ,P,s,e,h,q⟩;refine ⟨G,ρ,_,s,e,h,?_⟩;rintro d ⟨hk,hp⟩ v G1 H1 x1 dv;obtain ⟨t,ht,oQ⟩:=Ap (K:=X.K) (H:=H1) hk (dv.mono x1.sub);exact ⟨v,"dict",t,_,rfl,ht,oQ,q _ hp _ G1 H1 x1 (.bl _)⟩
def BA(t:aR):aR:=λρ P=>t ρ λd=>kE d=true∧P (.bl (nestD d))
theorem wO{n:Nat}(ha:DE Z X a ta)(hg:Gl X "isinstance")(hm:X.mg "isinstance"=none)(m1:X.mg "list"=none)(m2:X.mg "tuple"=none)(m3:X.mg "dict"=none)(g1:Gl X "list":=by rfl)(g2:Gl X "tuple":=by rfl)(g3:Gl X "dict":=by rfl)
  (hs:starEach [a, .Tuple [.Name "list" p1, .Name "tuple" p2, .Name "dict" p3] n p4] X.env=(false,eval a X.env)::starEach [.Tuple [.Name "list" p1, .Name "tuple" p2, .Name "dict" p3] n p4] X.env:=by rfl)
  (bU:(backTo pos (starEach [.Tuple [.Name "list" p1, .Name "tuple" p2, .Name "dict" p3] n p4] X.env)).any (·.1)=false:=by rfl)
  (fL:starEach [.Tuple [.Name "list" p1, .Name "tuple" p2, .Name "dict" p3] n p4] X.env=(false,eval (.Tuple [.Name "list" p1, .Name "tuple" p2, .Name "dict" p3] n p4) X.env)::starEach [] X.env:=by rfl)
  (h1:starEach [.Name "list" p1, .Name "tuple" p2, .Name "dict" p3] X.env=(false,eval (.Name "list" p1) X.env)::starEach [.Name "tuple" p2, .Name "dict" p3] X.env:=by rfl) (h2:starEach [.Name "tuple" p2, .Name "dict" p3] X.env=(false,eval (.Name "tuple" p2) X.env)::starEach [.Name "dict" p3] X.env:=by rfl)
  (h3:starEach [.Name "dict" p3] X.env=(false,eval (.Name "dict" p3) X.env)::starEach [] X.env:=by rfl):
  DE Z X (.Call (.Name "isinstance" p) [a, .Tuple [.Name "list" p1, .Name "tuple" p2, .Name "dict" p3] n p4] [] pos) (BA ta):=by
 have b1:PE X (.Name "list" p1) (tC (.ty "list")):=iN g1 m1 (by decide+kernel) rfl (by decide) (by decide)
 have b2:PE X (.Name "tuple" p2) (tC (.ty "tuple")):=iN g2 m2 (by decide+kernel) rfl (by decide) (by decide)
 have b3:PE X (.Name "dict" p3) (tC (.ty "dict")):=iN g3 m3 (by decide+kernel) rfl (by decide) (by decide)
 refine (eY qY hg hm (by decide+kernel) (aG ha (aG (uh (aG b1 (aG b2 (aG b3 bj h3) h2) h1)) bj fL) hs) (by decide) (by decide) hs bU).imp ?_
 rintro σ H Q ⟨G,ρ,P,s,e,h,q⟩;refine ⟨G,ρ,_,s,e,h,?_⟩;rintro d ⟨hk,hp⟩ v G1 H1 x1 dv;refine ⟨by show 3≤sizeLine;decide,λtp ht=>?_⟩
 have x2:=x1.trans (.new (o:= .tup [V.ty "list", .ty "tuple", .ty "dict"]) x1.sub ht);obtain ⟨t,xB,oQ⟩:=Aq (K:=X.K) (H:=upd H1 tp (.tup [V.ty "list", .ty "tuple", .ty "dict"])) hk (dv.mono (x1.sub.trans (aL ht _)));exact ⟨v,tp,["list","tuple","dict"],t,_,rfl,xB,ak,oQ,q _ hp _ _ _ x2 (.bl _)⟩
end
section
variable {P:Program} {w:World} {K:PySem.W.Frag} {mg:Str→Option Value} {base:Heap} {CX:jH} {k:Nat} {f:Addr} {fd:FuncData} {ps:List Str} {sp DQ:Sp}
theorem FnOk.up(F:FnOk P w K mg base br k f fd ps sp):FnOk P w K mg base CX k f fd ps sp:=
 ⟨F.len,λA outer s H args us vs Q E hr e0 hb hv h=>codeAny_mono (F.run A outer s H args us vs Q E hr e0 hb hv h) λr s' q=>by
  cases r with
  |error e=>exact False.elim q
  |ok fl=>cases fl<;>exact q⟩
theorem FnOk.or(F:FnOk P w K mg base CX k f fd ps sp)(F':FnOk P w K mg base CX k f fd ps DQ):FnOk P w K mg base CX k f fd ps (λvs H Q E=>sp vs H Q E∨DQ vs H Q E):=
 ⟨λvs H Q E h=>h.elim (F.len vs H Q E) (F'.len vs H Q E),λA outer s H args us vs Q E hr e0 hb hv h=>h.elim (F.run A outer s H args us vs Q E hr e0 hb hv) (F'.run A outer s H args us vs Q E hr e0 hb hv)⟩
end
section
variable {X:Cx} {k:Nat} {f C:Addr} {fd:FuncData} {ps:List Str} {sp:Sp} {x:Str} {p pos:Pos} {e:Expr} {es:List Expr} {t:TA}
theorem xZ{pins:List (Addr×Obj)}{σ:St}{H:Hp}{s:Shared}{Q:VK}{us:List Value}{vs:List V}(M:Mk X.K C f)(F:FnOk X.prog X.w X.K X.mg X.base (qT X.prog X.w) k f fd ps sp)(hr:bC (k+1) X.A)(hb:Binds X.K fd ps [])
  (I:Inv X pins σ H s) (r:Vals vs us)
  (h:∀x dx,H x=none→H dx=none→dx≠x→sp (.ref x::vs) (upd (upd H dx (.own x)) x (.ins C dx [])) (λv H2=>v= .aN∧Q (.ref x) H2) (Hu X σ)):
  wpAny (model X.prog X.w) X.A (call (.ref C) us) (EP X pins σ Q) X.xe s:=by
 have hq:=h (s.heap.objs.size+1) s.heap.objs.size (I.hok.fresh (Nat.le_succ _)) (I.hok.fresh (bL _)) (bR (wm _));have I2:=Inv.made (C:=C) I;have r2:Vals (V.ref (s.heap.objs.size+1)::vs) (Value.ref (s.heap.objs.size+1)::us):= .cons rfl r
 have hl:(Value.ref (s.heap.objs.size+1)::us++ []).length=ps.length:=by
  have e:=r2.length;rw [F.len _ _ _ _ hq] at e;rw [iV];exact e.symm
 have xi:=hb _ (Value.ref (s.heap.objs.size+1)::us) I2.bI hl;rw [iV] at xi
 refine wpAny_call (sI (f:=f) I.bI M.makes M.init (beq_iff_eq.mp M.fn) (codeAny_mono (F.run _ X.stack _ _ ⟨Value.ref (s.heap.objs.size+1)::us,[]⟩ (Value.ref (s.heap.objs.size+1)::us) _ _ (Hu X σ) (hr.make C us [])
  (I2.yC.make C us []) xi r2 hq) λr s' f7=>?_))
 cases r with
 |error e=>
  obtain ⟨a,H',rfl,fl,a',ea,q⟩:=f7;cases ea;obtain ⟨I3,f3⟩:=ED I2 fl;exact q s' I3 f3
 |ok fl=>
  cases fl with
  |ret u=>
   obtain ⟨v,H',I3,rv,ev,q3⟩:=I2.after f7;subst ev;exact ⟨rv,⟨V.ref (s.heap.objs.size+1),H',I3,rfl,q3⟩⟩
  |next=>exact False.elim f7
  |brk=>exact False.elim f7
  |cont=>exact False.elim f7
def FZ(X:Cx)(C:Addr)(sp:Sp)(t:TA):TE:=λσ H Q=>t σ H λvs H1=>∀x dx,H1 x=none→H1 dx=none→dx≠x→sp (.ref x::vs) (upd (upd H1 dx (.own x)) x (.ins C dx [])) (λv H2=>v= .aN∧Q (.ref x) H2) (Hu X σ)
theorem AJ(M:Mk X.K C f)(F:FnOk X.prog X.w X.K X.mg X.base (qT X.prog X.w) k f fd ps sp)(hr:bC (k+1) X.A)(hg:Gl X x)(hm:X.mg x=some (.ref C))(hb:Binds X.K fd ps [])
  (ha:PA X (e::es) t) (dj:(x==("__debug__":Str))=false:=by decide) (he:starEach (e::es) X.env=(false,eval e X.env)::starEach es X.env:=by rfl) (bU:(backTo pos (starEach es X.env)).any (·.1)=false:=by rfl):
  PE X (.Call (.Name x p) (e::es) [] pos) (FZ X C sp t):=by
 intro pins s σ H Q I h;refine wpAny_Call_Name_kw (gf I hg hm ?_ dj);refine PySem.W.callWith_K (h₀:=X.base) I.ok.mod.kin M.kp (thn (ha pos pins s σ H _ I h) λus s1 ⟨vs,H1,I1,r,q⟩=>⟨I1.bI,?_⟩) he bU;exact xZ M F hr hb I1 r q
end
def tE(c:Addr)(q:Nat):D:= .err c ["fault"] [.tup [.str "apart", .int 0,aw q]]
def sU(c:Addr):Eh:=λds P R=>∃(p:Addr)(w:List (List Nat)),ds= [.obj p,aX w]∧Wb.kz w∧¬Wb.Good w∧1≤w.length∧w.length≤14∧∀q,R (tE c q)
section
variable {Z:DC} {X:Cx} {md:List Nat} {rn k j:Nat} {f:Addr} {fd:FuncData} {ps:List Str} {t:dZ} {e:Expr} {es:List Expr} {x:Str} {p pos aZ:Pos}
def Eo(md:List Nat)(c:Addr)(t:dZ)(K:bQ→DN→D→Prop):bO:=λE ρ=>t (cz md ρ) λds=>∃w,ds= [aX w]∧Wb.kz w∧1≤w.length∧w.length≤14∧(Wb.Good w→K E ρ (.fb w))∧(¬Wb.Good w→∀q,E.xc ρ (tE c q))
theorem tN(i:Nat){c:Addr}{y:Str}{pos':Pos}(hN:X.N.Nodup)(M:Mk Z.K Z.C f)(F:FnOk X.prog X.w X.K X.mg X.base br k f fd ps (qE Z))(F':FnOk X.prog X.w X.K X.mg X.base (qT X.prog X.w) k f fd ps (p9 Z (sU c)))(hr:bC j X.A)(hm:X.mg x=some (.ref Z.C))(hb:Binds X.K fd ps [])
  (ha:DA Z X (e::es) t) (eK:X.K=Z.K:=by rfl) (hg:Gl X x:=by rfl) (hk:k+1≤j:=by first|decide|omega) (dj:(x==("__debug__":Str))=false:=by decide) (he:starEach (e::es) X.env=(false,eval e X.env)::starEach es X.env:=by rfl) (bU:(backTo aZ (starEach es X.env)).any (·.1)=false:=by rfl)
  (hs:swapsWith (.Call (.Name x p) (e::es) [] aZ) (some (.Name y pos')) pos.line X.env=pure false:=by rfl)
  (xq:md.getD i 0=0:=by rfl) (hi:X.N[i]? =some y:=by rfl) (hx:Loc X.env.scope y:=by first|exact Or.inl rfl|exact Or.inr rfl) (hf:X.fn y=true∨X.env.scope.names.lookup y=some .local:=by first|exact .inl rfl|exact .inr rfl|assumption):
  DSt Z X md rn (.Assign [.Name y pos'] (.Call (.Name x p) (e::es) [] aZ) pos) (Eo md c t λE ρ d=>E.nx (ρ.set i (some d))):=by
 refine (cy hN hi hx (AJ (by rw [eK];exact M) ((FnOk.up F).or F') (hr.mono hk) hg hm hb ha dj he bU) hs hf).imp ?_
 rintro D σ H ⟨B,ρ,E,⟨G,fp,S⟩,h,M⟩;refine ⟨G,_,_,S.ex.sub,S.u6,h,?_⟩;rintro _ ⟨w,rfl,n,h1,dq,q1,q2⟩ vs G1 H1 x1 bc p dx hx mj ne;cases bc with
 | @cons v _ _ _ dv bc=>
  cases bc;have S1:=S.grow x1;have CI:upd H1 dx (.own p) p=none:=by rw [ah (Ne.symm ne)];exact hx
  have sJ:=(aL mj (.own p)).trans (aL CI (.ins Z.C dx []))
  by_cases g:Wb.Good w
  ·refine .inl ⟨p,dx,v,G1,w,rfl,ak,x1.sub.trans sJ,x1.sub.free hx,dv,g,h1,dq,λR G2 H2 g1 g2 kp off Jf jO=>⟨rfl,?_⟩⟩
   have gp:G2 p=none:=off p (by rw [ak];exact λz=>nomatch z) (x1.sub.free hx)
   have x2:Ext G1 H1 (upd G2 p (.ins Z.C dx [("rows", .ref R)])) H2:=by
    refine ⟨g1.trans (aL gp _),λb o e=>?_,λb o e=>?_,λb hb hg=>?_⟩
    ·by_cases z:b=p
     ·subst z;rw [ak] at e;cases e;exact Jf
     ·rw [ah z] at e;exact g2 _ _ e
    ·exact kp b o (sJ _ _ e) (ar e hx)
    ·have nb:b≠p:=λz=>hb (by rw [z];exact hx)
     rw [ah nb];exact off b (dE sJ hb) hg
   exact M.nx _ (q1 g) _ _ ⟨_,_,(S1.grow x2).oI xq (.fb ak (jO.mono (aL gp _)) g h1 dq)⟩
  ·refine .inr ⟨G1,[.obj p,aX w],λ_=>False,λd=>∃q,d=tE c q,x1.sub.trans sJ, .cons (.obj p) (.cons dv .nil),⟨p,w,rfl,n,g,h1,dq,λq=>⟨q,rfl⟩⟩,λd z=>z.elim,?_⟩
   rintro _ ⟨q,rfl⟩ a G' H' x2 jO;have x3:Ext G1 H1 G' H':=⟨x2.gg,x2.sub,sJ.trans x2.hh,λb hb hg=>x2.off b (dE sJ hb) hg⟩;exact ⟨a,rfl,M.xc ρ _ (q2 g q) σ H' G' fp a (S1.grow x3) jO⟩
end
end L2
namespace kR
open PySem L2 Wb
def top(i:Nat):Stmt:=PySem.Challenge.pw_mapdye_k64_whole_more_and_fewer.main.body.getD i (.Pass ⟨0,0,0,0⟩)
abbrev df:Stmt:=top 2
abbrev n6:Stmt:=top 3
abbrev n5:Stmt:=top 4
abbrev j5:Stmt:=top 10
abbrev gm:Stmt:=top 11
abbrev iw:Stmt:=top 12
abbrev gr:Stmt:=top 13
abbrev iu:Stmt:=top 14
abbrev bT:Stmt:=top 15
abbrev gn:Stmt:=top 16
abbrev gq:Stmt:=top 17
abbrev fC:Stmt:=top 19
abbrev eJ:Stmt:=top 22
abbrev j6:Stmt:=top 23
abbrev dM:Stmt:=top 24
abbrev e9:Stmt:=top 25
abbrev gZ:Stmt:=top 26
abbrev ip:Stmt:=top 27
abbrev e8:Stmt:=top 28
abbrev gY:Stmt:=top 29
abbrev fB:Stmt:=top 31
abbrev il:Stmt:=top 32
abbrev cC:Stmt:=top 33
abbrev gk:Stmt:=top 34
abbrev jo:Stmt:=top 35
abbrev gX:Stmt:=top 36
abbrev fO:Stmt:=top 37
abbrev fk:Stmt:=top 38
abbrev eI:Stmt:=top 39
abbrev dJ:Stmt:=top 40
abbrev ur:Stmt:=top 41
abbrev bX:Stmt:=L2.eV (top 18) 0
abbrev j4:Stmt:=L2.eV (top 18) 1
abbrev fN:Stmt:=L2.eV (top 18) 2
abbrev oH:Stmt:=L2.eV (top 18) 3
abbrev oG:Stmt:=L2.eV (top 18) 4
abbrev kG:Stmt:=L2.eV (top 18) 5
abbrev eH:Stmt:=L2.eV (top 7) 0
theorem gw:aB ["self","fault"] ["self","fault"] (aj eH):=⟨rfl,rfl,rfl,by decide+kernel,rfl,by decide+kernel,by decide+kernel⟩
theorem hJ:aB ["holder","places"] ["holder"] (aj df):=⟨rfl,rfl,rfl,by decide+kernel,rfl,by decide+kernel,by decide+kernel⟩
theorem qB:aB ["held","left"] ["held","left"] (aj n6):=⟨rfl,rfl,rfl,by decide+kernel,rfl,by decide+kernel,by decide+kernel⟩
theorem qA:aB ["thing","top","holders","tuples","left","at","holder","places","place","held","own"] ["thing"] (aj n5):=⟨rfl,rfl,rfl,by decide+kernel,rfl,by decide+kernel,by decide+kernel⟩
theorem mX:aB ["thing","many"] ["thing","many"] (aj j5):=⟨rfl,rfl,rfl,by decide+kernel,rfl,by decide+kernel,by decide+kernel⟩
theorem jv:aB ["rows","p","row","q"] ["rows"] (aj gm):=⟨rfl,rfl,rfl,by decide+kernel,rfl,by decide+kernel,by decide+kernel⟩
theorem kb:aB ["rows","p","row"] ["rows"] (aj iw):=⟨rfl,rfl,rfl,by decide+kernel,rfl,by decide+kernel,by decide+kernel⟩
theorem jy:aB ["rows","p","row","place","q"] ["rows"] (aj gr):=⟨rfl,rfl,rfl,by decide+kernel,rfl,by decide+kernel,by decide+kernel⟩
theorem ka:aB ["rows","p","row","q"] ["rows"] (aj iu):=⟨rfl,rfl,rfl,by decide+kernel,rfl,by decide+kernel,by decide+kernel⟩
theorem eL:aB ["rows","reached","waiting","p","q"] ["rows"] (aj bT):=⟨rfl,rfl,rfl,by decide+kernel,rfl,by decide+kernel,by decide+kernel⟩
theorem jw:aB ["rows","q","reached"] ["rows"] (aj gn):=⟨rfl,rfl,rfl,by decide+kernel,rfl,by decide+kernel,by decide+kernel⟩
theorem jx:aB ["rows","fault"] ["rows"] (aj gq):=⟨rfl,rfl,rfl,by decide+kernel,rfl,by decide+kernel,by decide+kernel⟩
theorem iS:aB ["web","most"] ["web","most"] (aj fC):=⟨rfl,rfl,rfl,by decide+kernel,rfl,by decide+kernel,by decide+kernel⟩
theorem kL:aB ["turns","lists","dyeing","p","taken"] ["turns","lists","dyeing","p"] (aj eJ):=⟨rfl,rfl,rfl,by decide+kernel,rfl,by decide+kernel,by decide+kernel⟩
theorem m6:aB ["dyeing","p","dye"] ["dyeing","p","dye"] (aj j6):=⟨rfl,rfl,rfl,by decide+kernel,rfl,by decide+kernel,by decide+kernel⟩
theorem iR:aB ["turns","lists","dyeing","counts"] ["turns","lists","dyeing"] (aj dM):=⟨rfl,rfl,rfl,by decide+kernel,rfl,by decide+kernel,by decide+kernel⟩
theorem hU:aB ["turns","lists","dyeing","p","left","papers","dye","told"] ["turns","lists","dyeing"] (aj e9):=⟨rfl,rfl,rfl,by decide+kernel,rfl,by decide+kernel,by decide+kernel⟩
theorem mZ:aB ["web","lists"] ["web","lists"] (aj gZ):=⟨rfl,rfl,rfl,by decide+kernel,rfl,by decide+kernel,by decide+kernel⟩
theorem j9:aB ["turns","lists","dyeing","p","papers","left","dye","paper"] ["turns","lists","dyeing","p","papers"] (aj ip):=⟨rfl,rfl,rfl,by decide+kernel,rfl,by decide+kernel,by decide+kernel⟩
theorem g0:aB ["turns","lists","dyeing","paper","word","p"] ["turns","lists","dyeing","paper"] (aj e8):=⟨rfl,rfl,rfl,by decide+kernel,rfl,by decide+kernel,by decide+kernel⟩
theorem mY:aB ["web","lists","paper"] ["web","lists","paper"] (aj gY):=⟨rfl,rfl,rfl,by decide+kernel,rfl,by decide+kernel,by decide+kernel⟩
theorem iP:aB ["_law_script","_law_k"] ["_law_script","_law_k"] (aj fB):=⟨rfl,rfl,rfl,by decide+kernel,rfl,by decide+kernel,by decide+kernel⟩
theorem j7:aB ["_law_cell","_law_mixed"] ["_law_cell"] (aj il):=⟨rfl,rfl,rfl,by decide+kernel,rfl,by decide+kernel,by decide+kernel⟩
theorem fJ:aB ["_law_many","_law_number","_law_turns","_law_thin","_law_point","_law_first","_law_other"] ["_law_many","_law_number"] (aj cC):=⟨rfl,rfl,rfl,by decide+kernel,rfl,by decide+kernel,by decide+kernel⟩
theorem ju:aB ["_law_many","_law_cell","_law_number","_law_base","_law_wide","_law_found","_law_point","_law_row","_law_k"] ["_law_many","_law_cell","_law_number"] (aj gk):=⟨rfl,rfl,rfl,by decide+kernel,rfl,by decide+kernel,by decide+kernel⟩
theorem kJ:aB ["_law_script","_law_most","_law_number","_law_many","_law_turns"] ["_law_script","_law_most"] (aj jo):=⟨rfl,rfl,rfl,by decide+kernel,rfl,by decide+kernel,by decide+kernel⟩
theorem mW:aB ["_law_turns"] ["_law_turns"] (aj gX):=⟨rfl,rfl,rfl,by decide+kernel,rfl,by decide+kernel,by decide+kernel⟩
theorem kI:aB ["_law_turns","_law_lists","_law_told","_law_point","_law_row"] ["_law_turns","_law_lists","_law_told"] (aj fO):=⟨rfl,rfl,rfl,by decide+kernel,rfl,by decide+kernel,by decide+kernel⟩
theorem j8:aB ["_law_lists","_law_number","_law_found","_law_row"] ["_law_lists","_law_number"] (aj fk):=⟨rfl,rfl,rfl,by decide+kernel,rfl,by decide+kernel,by decide+kernel⟩
theorem kK:aB ["_law_lists","_law_number","_law_found","_law_row","_law_others"] ["_law_lists","_law_number"] (aj eI):=⟨rfl,rfl,rfl,by decide+kernel,rfl,by decide+kernel,by decide+kernel⟩
theorem iQ:aB ["_law_turns","_law_number","_law_point","_law_other","_law_found","_law_web_here"] ["_law_turns","_law_number"] (aj dJ):=⟨rfl,rfl,rfl,by decide+kernel,rfl,by decide+kernel,by decide+kernel⟩
theorem yY:aB ["_law_script","_law_turns","_law_lists","_law_number","_law_web_here","_law_some","_law_told","_law_k","_law_less"] ["_law_script"] (aj ur):=⟨rfl,rfl,rfl,by decide+kernel,rfl,by decide+kernel,by decide+kernel⟩
theorem dh:aB ["self","turns","rows","fault"] ["self","turns"] (aj bX):=⟨rfl,rfl,rfl,by decide+kernel,rfl,by decide+kernel,by decide+kernel⟩
theorem mV:aB ["self"] ["self"] (aj j4):=⟨rfl,rfl,rfl,by decide+kernel,rfl,by decide+kernel,by decide+kernel⟩
theorem kH:aB ["self"] ["self"] (aj fN):=⟨rfl,rfl,rfl,by decide+kernel,rfl,by decide+kernel,by decide+kernel⟩
structure Txt (Z:DC) (mg:Str→Option Value) where
 B:Kc mg
 x_dict:mg "dict"=none
 d_nested_places:cU Z.K mg "nested_places" df ["holder"]
 d_own_of:cU Z.K mg "own_of" n6 ["held","left"]
 d_copied:cU Z.K mg "copied" n5 ["thing"]
 d_is_among:cU Z.K mg "is_among" j5 ["thing","many"]
 d_alien_fault:cU Z.K mg "alien_fault" gm ["rows"]
 d_self_fault:cU Z.K mg "self_fault" iw ["rows"]
 d_twice_fault:cU Z.K mg "twice_fault" gr ["rows"]
 d_lone_fault:cU Z.K mg "lone_fault" iu ["rows"]
 d_reached_from_first:cU Z.K mg "reached_from_first" bT ["rows"]
 d_apart_fault:cU Z.K mg "apart_fault" gn ["rows"]
 d_first_fault:cU Z.K mg "first_fault" gq ["rows"]
 d_need_at_most:cU Z.K mg "need_at_most" fC ["web","most"]
 d_dyes_left:cU Z.K mg "dyes_left" eJ ["turns","lists","dyeing","p"]
 d_with_dye:cU Z.K mg "with_dye" j6 ["dyeing","p","dye"]
 d_chosen_point:cU Z.K mg "chosen_point" dM ["turns","lists","dyeing"]
 d_searched_from:cU Z.K mg "searched_from" e9 ["turns","lists","dyeing"]
 d_searched:cU Z.K mg "searched" gZ ["web","lists"]
 d_are_papers:cU Z.K mg "are_papers" ip ["turns","lists","dyeing","p","papers"]
 d_is_paper_from:cU Z.K mg "is_paper_from" e8 ["turns","lists","dyeing","paper"]
 d_is_paper:cU Z.K mg "is_paper" gY ["web","lists","paper"]
 d__law_cell_at:cU Z.K mg "_law_cell_at" fB ["_law_script","_law_k"]
 d__law_drawn:cU Z.K mg "_law_drawn" il ["_law_cell"]
 d__law_tied_turns:cU Z.K mg "_law_tied_turns" cC ["_law_many","_law_number"]
 d__law_listed:cU Z.K mg "_law_listed" gk ["_law_many","_law_cell","_law_number"]
 d__law_made:cU Z.K mg "_law_made" jo ["_law_script","_law_most"]
 d__law_web:cU Z.K mg "_law_web" gX ["_law_turns"]
 d__law_dyed:cU Z.K mg "_law_dyed" fO ["_law_turns","_law_lists","_law_told"]
 d__law_fewer:cU Z.K mg "_law_fewer" fk ["_law_lists","_law_number"]
 d__law_more:cU Z.K mg "_law_more" eI ["_law_lists","_law_number"]
 d__law_without:cU Z.K mg "_law_without" dJ ["_law_turns","_law_number"]
 d_law:cU Z.K mg "law" ur ["_law_script"]
 W:Bj Z
 mC:mg "Web"=some (.ref Z.C)
 i_f:Addr
 i_fd:FuncData
 i_F:lP Z.K "__init__" "Web.__init__" bX i_f i_fd
 mkW:Mk Z.K Z.C i_f
 m___init__b:Binds Z.K i_fd ["self","turns"] []
 m_many:wz Z "many" "Web.many" j4 ["self"]
 m_turns:wz Z "turns" "Web.turns" fN ["self"]
 m_ties:wz Z "ties" "Web.ties" oH ["self"]
 m_tied:wz Z "tied" "Web.tied" oG ["self","a","b"]
 m_behind:wz Z "behind" "Web.behind" kG ["self","p","q"]
 iX:QF Z.K
 e_MapError:Addr
 g_MapError:mg "MapError"=some (.ref e_MapError)
 e_NoWeb:Addr
 g_NoWeb:mg "NoWeb"=some (.ref e_NoWeb)
 q_NoWeb:XE Z.K e_NoWeb
 xb:QJ Z.K mg e_MapError
 j_NoWeb:Kn Z.K e_NoWeb "NoWeb.__init__" eH ["self","fault"]
 n_NoWeb_fault:ff Z.K e_NoWeb "fault"
 m_NoWeb_NoWeb:PySem.W.mroIn Z.K e_NoWeb (.ref e_NoWeb)=some true
 t___name__:∃tk,mg "__name__"=some (.str "law_mapdye_k64_whole_more_and_fewer" tk)
 c_MOST_COPIED:∃tk,mg "MOST_COPIED"=some (.int 1000000 tk)
 c_MOST_POINTS:∃tk,mg "MOST_POINTS"=some (.int 14 tk)
 c_MOST_SEARCHED:∃tk,mg "MOST_SEARCHED"=some (.int 8 tk)
variable {P:Program} {w:World} {mg:Str→Option Value} {base:Heap} {Z:DC} (T:Txt Z mg)
def DR:bN:=λds P=>∃(i n:Int),ds= [.int i, .int n]∧P (.bl (decide (0≤i∧i<n)))
theorem mG:FnOk P w Z.K mg base br 1 T.d_is_among.f T.d_is_among.fd ["thing","many"] (aC Z DR):=by
 have nd:=mX.nd;refine aO T.d_is_among.F mX [0,0] (by decide) (λds R h=>by obtain ⟨_,_,rfl,_⟩:=h;rfl) (λaW A outer s H E ds R hr h=>?_)
 have hu:=hr.units;refine ⟨_,(ai (ay (pf (i6 "int" (aa 0) rfl T.B.isinstance rfl T.B.int yw) (pf (Er (i6 "bool" (aa 0) rfl T.B.isinstance rfl T.B.bool uN)) (ph (zF qi ub aq (aa 0) (aa 1))))))),?_⟩;obtain ⟨i,n,rfl,q⟩:=h;refine ⟨_,rfl,rfl,true,rfl,aU ⟨_,rfl,rfl,false,rfl,true,rfl,aU ⟨_,rfl,?_⟩⟩⟩;refine ⟨_,rfl,bA (λh0=>⟨_,rfl,?_⟩) (λh0=>?_)⟩
 ·have h0:0≤i:=of_decide_eq_true h0
  show R (.bl (decide (i<n)));rw [show decide (i<n)=decide (0≤i∧i<n) by simp [h0]]
  exact q
 ·have h0:¬0≤i:=of_decide_eq_false h0
  rw [show decide (0≤i∧i<n)=false by simp [h0]] at q
  exact q
def pC:bN:=λds P=>∃(w:W),ds= [aX w]∧kz w∧1≤w.length∧w.length≤14∧P .aN
theorem v5{w:W}{j:Nat}{d:D}(h:(ey (w.map aQ))[j]? =some d):j<w.length∧d= .tup [.int (j:Int),aQ (row w j)]:=by
 obtain ⟨x,hx,rfl⟩:=jb h;obtain ⟨r,hr,rfl⟩:=eF hx;have hj:j<w.length:=(gF.mp hr).1;refine ⟨hj,?_⟩;rw [FJ hr]
theorem oV:FnOk P w Z.K mg base br 2 T.d_alien_fault.f T.d_alien_fault.fd ["rows"] (aC Z pC):=by
 have nd:=jv.nd;refine aO T.d_alien_fault.F jv [0,0,0,0] (by decide) (λds R h=>by obtain ⟨_,rfl,_⟩:=h;rfl) (λaW A outer s H E ds R hr h=>?_)
 have hu:=hr.units
 refine ⟨_,(ag (dG rfl PassesOwn.never (fo rfl T.B.enumerate (ae (aa 0) af)) (fg 2 rfl (bh (aT 1 nd) (bh (aT 2 nd) cK))) (ai (dG rfl PassesOwn.never (bx (aa 2)) (aT 3 nd) (ai (aY (cY (bY (av T.d_is_among (mG T) hr (ae (aa 3) (ae (aJ bg rfl T.B.len ba (ae (aa 0) af)) af))))) (ai (ay (cW (ae bF (ae (aa 1) (ae (aa 3) af)))))) aF)))))
   (ai (ay bw))),?_⟩
 obtain ⟨w',rfl,g,h1,dq,q⟩:=h;refine ⟨_,rfl,ck (λ_ ρ=>∃o1 o2 o3,ρ= [some (aX w'),o1,o2,o3]) ⟨_,_,_,rfl⟩ ?_ ?_⟩
 ·rintro j d _ hd ⟨o1,o2,o3,rfl⟩ A hA
  obtain ⟨hj,rfl⟩:=v5 hd;refine ⟨rfl,rfl,?_⟩;refine ⟨_,rfl,ck (λ_ ρ=>∃o3,ρ= [some (aX w'),some (.int (j:Int)),some (aQ (row w' j)),o3]) ⟨_,rfl⟩ ?_ ?_⟩
  ·rintro k d' _ hk ⟨o4,rfl⟩ A' kZ
   obtain ⟨x,hx,rfl⟩:=eF hk;refine ⟨_,rfl,_,rfl,_,_,rfl,⟨rfl,?_⟩⟩;have eU:x<w'.length:=g.rng _ _ (jz hx);rw [show decide ((0:Int)≤(x:Int)∧(x:Int)<((w'.map aQ).length:Int))=true by simp;omega]
   exact aI (kZ _ ⟨_,rfl⟩)
  ·rintro _ ⟨o4,rfl⟩
   exact hA _ ⟨_,_,_,rfl⟩
 ·rintro _ ⟨o1,o2,o3,rfl⟩
  exact q
theorem ql:FnOk P w Z.K mg base br 1 T.d_self_fault.f T.d_self_fault.fd ["rows"] (aC Z pC):=by
 have nd:=kb.nd;refine aO T.d_self_fault.F kb [0,0,0] (by decide) (λds R h=>by obtain ⟨_,rfl,_⟩:=h;rfl) (λaW A outer s H E ds R hr h=>?_)
 have hu:=hr.units
 refine ⟨_,(ag (dG rfl PassesOwn.never (fo rfl T.B.enumerate (ae (aa 0) af)) (fg 2 rfl (bh (aT 1 nd) (bh (aT 2 nd) cK))) (ai (aY (aD ua (aa 1) (aa 2) (by with_unfolding_all rfl)) (ai (ay (cW (ae bF (ae (aa 1) (ae (aa 1) af)))))) aF)))
   (ai (ay bw))),?_⟩
 obtain ⟨w',rfl,g,h1,dq,q⟩:=h;refine ⟨_,rfl,ck (λ_ ρ=>∃o1 o2,ρ= [some (aX w'),o1,o2]) ⟨_,_,rfl⟩ ?_ ?_⟩
 ·rintro j d _ hd ⟨o1,o2,rfl⟩ A hA
  obtain ⟨hj,rfl⟩:=v5 hd;refine ⟨rfl,rfl,?_⟩;refine ⟨_,rfl,_,rfl,rfl,nF _,_,rfl,?_⟩
  have e:inD (.int (j:Int)) ((row w' j).map aw)=false:=by
   have:=pV (r:=row w' j) (p:=j)
   rw [decide_eq_false (g.irr j)] at this;exact this
  rw [if_neg fF,e];exact aI (hA _ ⟨_,_,rfl⟩)
 ·rintro _ ⟨o1,o2,rfl⟩
  exact q
theorem pL{α:Type}(l:List α)(k:Nat)(h:k≤l.length):cutD l none (some (k:Int))=l.take k:=by
 unfold cutD;have e1:HT.bf l.length 0 none=0:=rfl
 have e2:HT.bf l.length l.length (some (k:Int))=k:=by
  simp only [HT.bf]
  split<;>omega
 rw [e1,e2];simp
theorem oX:FnOk P w Z.K mg base br 1 T.d_twice_fault.f T.d_twice_fault.fd ["rows"] (aC Z pC):=by
 have nd:=jy.nd;refine aO T.d_twice_fault.F jy [0,0,0,0,0] (by decide) (λds R h=>by obtain ⟨_,rfl,_⟩:=h;rfl) (λaW A outer s H E ds R hr h=>?_)
 have hu:=hr.units
 refine ⟨_,(ag (dG rfl PassesOwn.never (fo rfl T.B.enumerate (ae (aa 0) af)) (fg 2 rfl (bh (aT 1 nd) (bh (aT 2 nd) cK))) (ai (dG rfl PassesOwn.never (fo rfl T.B.enumerate (ae (aa 2) af)) (fg 2 rfl (bh (aT 3 nd) (bh (aT 4 nd) cK))) (ai (aY (aD ua (aa 4) (nE (aa 2) lW (lX (aa 3))) (by with_unfolding_all rfl)) (ai (ay (cW (ae bF (ae (aa 1) (ae (aa 4) af)))))) aF)))))
   (ai (ay bw))),?_⟩
 obtain ⟨w',rfl,g,h1,dq,q⟩:=h;refine ⟨_,rfl,ck (λ_ ρ=>∃o1 o2 o3 o4,ρ= [some (aX w'),o1,o2,o3,o4]) ⟨_,_,_,_,rfl⟩ ?_ ?_⟩
 ·rintro j d _ hd ⟨o1,o2,o3,o4,rfl⟩ A hA
  obtain ⟨hj,rfl⟩:=v5 hd;refine ⟨rfl,rfl,?_⟩;refine ⟨_,rfl,ck (λ_ ρ=>∃o3 o4,ρ= [some (aX w'),some (.int (j:Int)),some (aQ (row w' j)),o3,o4]) ⟨_,_,rfl⟩ ?_ ?_⟩
  ·rintro k d' _ hk ⟨o5,o6,rfl⟩ A' kZ
   obtain ⟨y,hy,rfl⟩:=jb hk;obtain ⟨x,hx,rfl⟩:=eF hy;have oQ:k<(row w' j).length:=(gF.mp hx).1;refine ⟨rfl,rfl,?_⟩;refine ⟨_,rfl,_,rfl,_,rfl,?_⟩;have ec:cutD ((row w' j).map aw) none (some (k:Int))=((row w' j).take k).map aw:=by rw [pL _ _ (by simp;omega),List.map_take]
   refine (?_:En false (aw x) (.lst (cutD ((row w' j).map aw) none (some (k:Int)))) _);rw [ec];refine ⟨rfl,nF _,_,rfl,?_⟩
   have e:inD (aw x) (((row w' j).take k).map aw)=false:=by
    rw [pV,decide_eq_false];intro z;obtain ⟨m,hm⟩:=we z
    have pT:m<k:=by
     have:=(gF.mp hm).1
     rw [wo] at this;omega
    rw [List.getElem?_take_of_lt pT] at hm;exact absurd ((List.getElem?_inj (by omega) (g.nod j)).mp (hm.trans hx.symm)) (by omega)
   rw [if_neg fF,e];exact aI (kZ _ ⟨_,_,rfl⟩)
  ·rintro _ ⟨o5,o6,rfl⟩
   exact hA _ ⟨_,_,_,_,rfl⟩
 ·rintro _ ⟨o1,o2,o3,o4,rfl⟩
  exact q
theorem qk:FnOk P w Z.K mg base br 1 T.d_lone_fault.f T.d_lone_fault.fd ["rows"] (aC Z pC):=by
 have nd:=ka.nd;refine aO T.d_lone_fault.F ka [0,0,0,0] (by decide) (λds R h=>by obtain ⟨_,rfl,_⟩:=h;rfl) (λaW A outer s H E ds R hr h=>?_)
 have hu:=hr.units
 refine ⟨_,(ag (dG rfl PassesOwn.never (fo rfl T.B.enumerate (ae (aa 0) af)) (fg 2 rfl (bh (aT 1 nd) (bh (aT 2 nd) cK))) (ai (dG rfl PassesOwn.never (bx (aa 2)) (aT 3 nd) (ai (aY (aD fP (aa 1) (aK (aa 0) (aa 3)) (by with_unfolding_all rfl)) (ai (ay (cW (ae bF (ae (aa 1) (ae (aa 3) af)))))) aF)))))
   (ai (ay bw))),?_⟩
 obtain ⟨w',rfl,g,h1,dq,q⟩:=h;refine ⟨_,rfl,ck (λ_ ρ=>∃o1 o2 o3,ρ= [some (aX w'),o1,o2,o3]) ⟨_,_,_,rfl⟩ ?_ ?_⟩
 ·rintro j d _ hd ⟨o1,o2,o3,rfl⟩ A hA
  obtain ⟨hj,rfl⟩:=v5 hd;refine ⟨rfl,rfl,?_⟩;refine ⟨_,rfl,ck (λ_ ρ=>∃o3,ρ= [some (aX w'),some (.int (j:Int)),some (aQ (row w' j)),o3]) ⟨_,rfl⟩ ?_ ?_⟩
  ·rintro k d' _ hk ⟨o4,rfl⟩ A' kZ
   obtain ⟨x,hx,rfl⟩:=eF hk;have MW:=jz hx;have eU:x<w'.length:=g.rng _ _ MW;refine ⟨_,rfl,_,rfl,_,rfl,_,aV (cI eU),rfl,nF _,_,rfl,?_⟩
   have e:inD (.int (j:Int)) ((row w' x).map aw)=true:=by
    have:=pV (r:=row w' x) (p:=j)
    rw [decide_eq_true (g.sym _ _ MW)] at this;exact this
   rw [if_pos rfl,e];exact aI (kZ _ ⟨_,rfl⟩)
  ·rintro _ ⟨o4,rfl⟩
   exact hA _ ⟨_,_,_,rfl⟩
 ·rintro _ ⟨o1,o2,o3,rfl⟩
  exact q
def oN(bs:List Bool):List D:=bs.map D.bl
theorem Bq{bs:List Bool}{i:Nat}{b:Bool}(h:bs[i]? =some b):(oN bs)[i]? =some (.bl b):=by unfold oN;rw [dX,h];rfl
theorem uP(bs:List Bool)(i:Nat)(b:Bool):(oN bs).set i (.bl b)=oN (bs.set i b):=by unfold oN;rw [List.map_set]
theorem uO(bs:List Bool):(oN bs).length=bs.length:=bV _
theorem ki{n k:Nat}(h:k<n):gc n (k:Int)=some k:=by unfold gc;rw [if_pos (by omega),if_pos (by omega)];simp
def yb:bN:=λds P=>∃(w:W),ds= [aX w]∧kz w∧1≤w.length∧w.length≤14∧∀bs m,RI w bs [] [] m→(∀x,bs[x]? =some true→Reach w 0 x)→P (.lst (oN bs))
def Met(w:W)(bs:List Bool):Prop:=∀x,bs[x]? =some true→Reach w 0 x
theorem jk:FnOk P w Z.K mg base br 1 T.d_reached_from_first.f T.d_reached_from_first.fd ["rows"] (aC Z yb):=by
 have nd:=eL.nd;refine aO T.d_reached_from_first.F eL [0,1,1,0,0] (by decide) (λds R h=>by obtain ⟨_,rfl,_⟩:=h;rfl) (λaW A outer s H E ds R hr h=>?_)
 have hu:=hr.units
 refine ⟨_,(ag (zG 1 (NC:= ["row"]) (src:= [none]) rfl nd (jD (aj bT)) trivial (bx (aa 0)) (λ_ _ _=>(bq 0 (show (["row"]:List Str).Nodup from by decide+kernel))) (λ_ _ _=>cO) (λ_ _ _=>cw))
   (ag (rT false 1 aq cw)
   (ag (pj 2 nd (lV (ae aq af)))
   (ag (zH PassesOwn.never (bY (aa 2)) (ag (Ey 3 2 nd)
   (ai (dG rfl PassesOwn.never (bx (aK (aa 0) (aa 3))) (aT 4 nd) (ai (aY (cY (bY (aK (aa 1) (aa 4)))) (ag (rT false 1 (aa 4) cw)
   (ai (tM false 2 (aa 4)))) aF))))))
   (ai (ay (aa 1))))))),?_⟩
 obtain ⟨w',rfl,g,h1,dq,q⟩:=h;refine ⟨_,rfl,fM (ρ:= [none]) aQ (λ_=> .bl false) w' _ (λy hy Y h=>h) rfl (small (by omega)) λaE=>?_⟩
 have e0:w'.map (λ_=>D.bl false)=oN (List.replicate w'.length false):=by unfold oN;rw [List.map_replicate,List.map_const']
 rw [e0];refine ⟨trivial,_,rfl,0,0,rfl,by rw [uO,fv];exact ki (k:=0) (by omega),?_⟩
 rw [uP];refine ⟨by show 1≤sizeLine;decide,?_⟩
 refine yk (λm ρ=>∃(bs:List Bool)(ws:List Nat)(o3 o4:Option D),ρ= [some (aX w'),some (.lst (oN bs)),some (.lst (ws.map aw)),o3,o4]∧RI w' bs ws [] m∧Met w' bs∧m≤14∧bs.count false+ws.length=m) w'.length ?_ ?_
 ·refine ⟨_,[0],none,none,rfl,⟨by simp,?_,?_,λx hx=>?_,?_⟩,λx hx=>?_,dq,?_⟩
  ·rw [gD,if_pos rfl,if_pos (by rw [fv];omega)]
  ·intro x hx
   have:x=0:=by simpa using hx
   rw [this,gD,if_pos rfl,if_pos (by rw [fv];omega)]
  ·by_cases e:0=x
   ·exact .inl (by rw [←e];simp)
   ·rw [gD,if_neg e,kQ] at hx
    split at hx<;>cases hx
  ·rw [List.count_set (by rw [fv];omega),List.count_replicate_self,List.getElem_replicate]
   simp;omega
  ·by_cases e:0=x
   ·rw [←e];exact .refl _
   ·rw [gD,if_neg e,kQ] at hx
    split at hx<;>cases hx
  ·rw [List.count_set (by rw [fv];omega),List.count_replicate_self,List.getElem_replicate]
   simp;omega
 ·rintro m _ ⟨bs,ws,o3,o4,rfl,ri,mt,hc,ME⟩
  refine ⟨_,rfl,rfl,?_⟩
  rcases List.eq_nil_or_concat ws with rfl| ⟨J4,p,e⟩
  ·exact aI ⟨_,rfl,q bs m ri mt⟩
  ·rw [List.concat_eq_append] at e
   subst e;rw [show kO (.lst ((J4++ [p]).map aw))=true by simp [kO]]
   refine aU ?_;rw [fw] at ME;simp only [List.length_singleton] at ME;obtain ⟨c',rfl⟩:∃c',m=c'+1:=⟨m-1,by omega⟩
   have WJ:=ri.pop;have hp:bs[p]? =some true:=ri.wt p (by simp)
   have Tg:p<w'.length:=by rw [←ri.len];exact (gF.mp hp).1
   refine ⟨J4.map aw,aw p,by rw [ny];rfl,?_⟩
   refine ⟨_,rfl,_,rfl,_,aV (cI Tg),ck (λj ρ=>∃(kS:List Bool)(rF:List Nat)(o4:Option D),ρ= [some (aX w'),some (.lst (oN kS)),some (.lst (rF.map aw)),some (aw p),o4]∧RI w' kS rF [p] c'∧Met w' kS∧(∀k y,k<j→(row w' p)[k]? =some y→kS[y]? =some true)∧kS.count false+rF.length=c') ?_ ?_ ?_⟩
   ·exact ⟨bs,J4,_,rfl,WJ,mt,(λk n hk=>by omega),by omega⟩
   ·rintro j x _ hx ⟨kS,rF,o5,rfl,DH,E6,yA,HA⟩ A hA
    obtain ⟨n,hn,rfl⟩:=eF hx;have Ta:=g.rng _ _ (jz hn);have Je:n<kS.length:=by rw [DH.len];exact Ta
    have Cd:kS[n]? =some (kS[n]):=cS Je;refine ⟨_,rfl,_,rfl,_,aV (Bq Cd),rfl,?_⟩;generalize kS[n]=bn at Cd;cases bn with
    |true=>
     refine aI (hA _ ⟨kS,rF,_,rfl,DH,E6,λk y hk hy=>?_,HA⟩)
     by_cases e:k=j
     ·rw [e,hn] at hy;cases hy;exact Cd
     ·exact yA k y (by omega) hy
    |false=>
     refine aU ?_;refine ⟨trivial,_,rfl,_,rfl,_,n,rfl,by rw [uO];exact ki Je,?_⟩
     rw [uP];have FI:=DH.push Cd;have Xf:=FI.cnt;refine ⟨_,rfl,_,rfl,trivial,cD (by rw [bV];omega),?_⟩
     have er:rF.map aw++ [aw n]=(rF++ [n]).map aw:=by rw [ny];rfl
     rw [er];refine hA _ ⟨kS.set n true,rF++ [n],_,rfl,FI,λy hy=>?_,λk y hk hy=>?_,?_⟩
     ·by_cases e:n=y
      ·rw [←e];exact .step (mt p hp) (jz hn)
      ·rw [gD,if_neg e] at hy;exact E6 y hy
     ·rw [gD]
      by_cases e:n=y
      ·rw [if_pos e,if_pos Je]
      ·rw [if_neg e]
       refine yA k y ?_ hy;apply Classical.byContradiction;intro z
       have:k=j:=by omega
       rw [this,hn] at hy;cases hy;exact e rfl
     ·obtain ⟨hl,he⟩:=gF.mp Cd
      have:0<kS.count false:=List.count_pos_iff.mpr (by rw [←he];exact nu hl)
      rw [List.count_set hl,he,fw];simp;omega
   ·rintro _ ⟨kS,rF,o5,rfl,DH,E6,yA,HA⟩
    have FI:=DH.close λy hy=>by
     obtain ⟨k,hk⟩:=we hy;exact yA k y (by rw [bV];exact (gF.mp hk).1) hk
    exact ⟨c',by omega,kS,rF,_,_,rfl,FI,E6,by omega,HA⟩
def vQ:bN:=λds P=>∃(w:W),ds= [aX w]∧kz w∧1≤w.length∧w.length≤14∧(Good w→P .aN)∧(¬Good w→∀q,P (.tup [.str "apart", .int 0,aw q]))
theorem oW:FnOk P w Z.K mg base br 2 T.d_apart_fault.f T.d_apart_fault.fd ["rows"] (aC Z vQ):=by
 have nd:=jw.nd;refine aO T.d_apart_fault.F jw [0,0,0] (by decide) (λds R h=>by obtain ⟨_,rfl,_⟩:=h;rfl) (λaW A outer s H E ds R hr h=>?_)
 have hu:=hr.units
 refine ⟨_,(ag (dG rfl PassesOwn.never (fo rfl T.B.enumerate (ae (av T.d_reached_from_first (jk T) hr (ae (aa 0) af)) af)) (fg 2 rfl (bh (aT 1 nd) (bh (aT 2 nd) cK))) (ai (aY (cY (bY (aa 2))) (ai (ay (cW (ae bF (ae aq (ae (aa 1) af)))))) aF)))
   (ai (ay bw))),?_⟩
 obtain ⟨w',rfl,g,h1,dq,q1,q2⟩:=h;refine ⟨_,rfl,w',rfl,g,h1,dq,λbs m ri mt=>ck (λk ρ=>(∀x,x<k→bs[x]? =some true)∧∃o1 o2,ρ= [some (aX w'),o1,o2]) ⟨λx hx=>absurd hx (Nat.not_lt_zero x),_,_,rfl⟩ ?_ ?_⟩
 ·rintro j d _ hd ⟨up,o1,o2,rfl⟩ A hA
  obtain ⟨y,hy,rfl⟩:=jb hd;obtain ⟨b,hb,rfl⟩:=eF hy;refine ⟨rfl,rfl,?_⟩;cases b with
  |true=>
   refine ⟨_,rfl,rfl,aI (hA _ ⟨λx hx=>?_,_,_,rfl⟩)⟩
   by_cases e:x=j
   ·rw [e];exact hb
   ·exact up x (by omega)
  |false=>
   refine ⟨_,rfl,rfl,aU ⟨_,rfl,by show 3≤sizeLine;decide,q2 (λg'=>?_) j⟩⟩
   have:=ri.all g'
   rw [this,kQ] at hb
   split at hb<;>cases hb
 ·rintro _ ⟨up,o1,o2,rfl⟩
  refine q1 (g.good λp hp=>mt p (up p ?_))
  have:=ri.len
  unfold oN ey;simp;omega
theorem fA:FnOk P w Z.K mg base br 3 T.d_first_fault.f T.d_first_fault.fd ["rows"] (aC Z vQ):=by
 have nd:=jx.nd;refine aO T.d_first_fault.F jx [0,0] (by decide) (λds R h=>by obtain ⟨_,rfl,_⟩:=h;rfl) (λaW A outer s H E ds R hr h=>?_)
 have hu:=hr.units
 refine ⟨_,(ag (aS false 1 nd (av T.d_alien_fault (oV T) hr (ae (aa 0) af)))
   (ag (aY (aD lE (aa 1) bw (aM _)) (ai (aS false 1 nd (av T.d_self_fault (ql T) hr (ae (aa 0) af)))) aF)
   (ag (aY (aD lE (aa 1) bw (aM _)) (ai (aS false 1 nd (av T.d_twice_fault (oX T) hr (ae (aa 0) af)))) aF)
   (ag (aY (aD lE (aa 1) bw (aM _)) (ai (aS false 1 nd (av T.d_lone_fault (qk T) hr (ae (aa 0) af)))) aF)
   (ag (aY (aD lE (aa 1) bw (aM _)) (ai (aS false 1 nd (av T.d_apart_fault (oW T) hr (ae (aa 0) af)))) aF)
   (ai (ay (aa 1)))))))),?_⟩
 obtain ⟨w',rfl,g,h1,dq,q1,q2⟩:=h;refine ⟨_,rfl,w',rfl,g,h1,dq,trivial,?_⟩;refine ⟨_,rfl,_,rfl,aU ⟨_,rfl,w',rfl,g,h1,dq,trivial,?_⟩⟩;refine ⟨_,rfl,_,rfl,aU ⟨_,rfl,w',rfl,g,h1,dq,trivial,?_⟩⟩;refine ⟨_,rfl,_,rfl,aU ⟨_,rfl,w',rfl,g,h1,dq,trivial,?_⟩⟩;refine ⟨_,rfl,_,rfl,aU ⟨_,rfl,w',rfl,g,h1,dq,λg'=>⟨trivial,_,rfl,q1 g'⟩,λg' q=>⟨trivial,_,rfl,q2 g' q⟩⟩⟩
theorem iM{P:Program}{w:World}{mg:Str→Option Value}{base:Heap}{Z:DC}(T:Txt Z mg):FnOk P w Z.K mg base br 4 T.i_f T.i_fd ["self","turns"] (qE Z):=by
 have B9:=fA (P:=P) (w:=w) (base:=base) T;have nd:=dh.nd;refine T.i_F.ok dh (λvs H Q E h=>?_) (λaW A outer s H vs Q E hr h=>?_)
 ·obtain ⟨p,dx,v,G,w',rfl,_⟩:=h;rfl
 obtain ⟨p,dx,v,G,w',rfl,hp,sG,gp,dv,g,h1,dq,q⟩:=h;have hu:=hr.units
 refine ⟨_,aP (t:=jg Z _ [0,0,0,0] 0 _)
   (aY (cY (rU qi qi aq (aJ bg rfl T.B.len ba (ae (aa 1) af)) (nD rfl T.c_MOST_POINTS))) (ai iF) aF)
  (aP (t:=jg Z _ [0,0,0,0] 0 _)
   (kg 2 (NC:= ["row"]) (src:= [none]) rfl nd (jD (aj bX)) trivial (bx (aa 1)) (λ_ _ _=>(bq 0 (show (["row"]:List Str).Nodup from by decide+kernel))) (λ_ _ _=>cO) (λ_ _ _=>(b6 fU rfl T.B.list cF (ae (aa 0) af))))
  (aP (t:=jg Z _ [0,0,0,0] 0 _)
   (aS false 3 nd (av T.d_first_fault (fA T) hr (ae (aa 2) af)))
  (aP (t:=jg Z _ [0,0,0,0] 0 _)
   (aY (aD kl (aa 3) bw (aM _)) (ai iF) aF)
  (dD (Fz (pv 0) (pv 2) rfl))))),?_⟩
 have lw:(w'.map aQ).length=w'.length:=bV _;refine ⟨⟨G,H,G⟩,[some (.obj p),some (aX w'),none,none],{nx:=λρ=>ρ= [some (.obj p),some (aX w'),none,none],rt:=λ_=>False},⟨G,λ_=> [],?_⟩,?_,⟨?_,λ_ z=>z.elim,λ_ z=>z.elim,λ_ z=>z.elim,λ_ _ z=>z.elim⟩⟩
 ·refine ⟨.refl sG, .refl _,rfl,λi d hi=>?_,λ_=>oM,(λ_ _ _ _ z=>by cases z),(λ_ _ z=>by cases z)⟩
  match i,hi with
  |0,hi=>cases hi;exact ⟨_,rfl, .obj p,rfl⟩
  |1,hi=>cases hi;exact ⟨_,rfl,dv,rfl⟩
  |2,hi=>cases hi
  |3,hi=>cases hi
  |i+4,hi=>cases hi
 ·have e1:D.bl (decide ((1:Int)≤((w'.map aQ).length:Int)))= .bl true:=congrArg D.bl (decide_eq_true (by rw [lw];omega))
  have e2:D.bl (decide (((w'.map aQ).length:Int)≤14))= .bl true:=congrArg D.bl (decide_eq_true (by rw [lw];omega))
  exact ⟨_,rfl,true,e1,aU ⟨true,e2,aI rfl⟩⟩
 rintro _ rfl yn H1 S1;refine ⟨⟨G,H,G⟩,_,{nx:=λρ=>ρ= [some (.obj p),some (aX w'),some (aX w'),none],rt:=λ_=>False},S1,?_,⟨?_,λ_ z=>z.elim,λ_ z=>z.elim,λ_ z=>z.elim,λ_ _ z=>z.elim⟩⟩
 ·exact ⟨_,rfl,fM (ρ:= [none]) aQ aQ w' _ (λy hy Y h=>⟨_,rfl,h⟩) rfl (small (by omega)) λaE=>⟨trivial,rfl⟩⟩
 rintro _ rfl fe H2 S2;refine ⟨⟨G,H,G⟩,_,{nx:=λρ=>ρ= [some (.obj p),some (aX w'),some (aX w'),some .aN],rt:=λ_=>False},S2,?_,⟨?_,λ_ z=>z.elim,λ_ z=>z.elim,λ_ z=>z.elim,λ_ _ z=>z.elim⟩⟩
 ·exact ⟨_,rfl,w',rfl,g.near,h1,dq,λ_=>⟨trivial,rfl⟩,λz=>absurd g z⟩
 rintro _ rfl oY H3 S3;refine ⟨⟨G,H,G⟩,_,{nx:=λρ=>ρ= [some (.obj p),some (aX w'),some (aX w'),some .aN],rt:=λ_=>False},S3,?_,⟨?_,λ_ z=>z.elim,λ_ z=>z.elim,λ_ z=>z.elim,λ_ _ z=>z.elim⟩⟩
 ·exact ⟨_,rfl,_,rfl,aI rfl⟩
 rintro _ rfl jG H4 ⟨G4,fp,S4⟩;obtain ⟨v0,jU,o0⟩:=S4.at_ 0 _ rfl;obtain ⟨v2,lC,o2⟩:=S4.at_ 2 _ rfl;obtain ⟨d0,_⟩:=o0;obtain ⟨d2,_⟩:=o2;cases d0;have RT:=d2;cases d2 with
 | @lst R xs ds hR e=>
  have Tf:=S4.ex.hh _ _ hp;refine ⟨_,lC,_,jU,p,Z.C,dx,[],rfl,Tf,T.W.cl,T.W.nR,by decide,?_⟩
  have g4:G4 p=none:=S4.ex.off p (by show H p≠none;rw [hp];exact λz=>nomatch z) gp
  refine q R G4 _ S4.ex.gg (λb o eb=>?_) (λb o eb nb=>?_) S4.ex.off ak RT
  ·rw [ah (ar eb g4)];exact S4.ex.sub _ _ eb
  ·rw [ah nb];exact S4.ex.hh _ _ eb
def FT:bN:=λds P=>∃(w:W),ds= [.fb w]∧P (.int (w.length:Int))
theorem jj:FnOk P w Z.K mg base br 1 T.m_many.f T.m_many.fd ["self"] (aC Z FT):=by
 have nd:=mV.nd;refine aO T.m_many.F mV [0] (by decide) (λds R h=>by obtain ⟨_,rfl,_⟩:=h;rfl) (λaW A outer s H E ds R hr h=>?_)
 have hu:=hr.units;refine ⟨_,(ai (ay (aJ bg rfl T.B.len ba (ae (uX T.W (aa 0)) af)))),?_⟩;obtain ⟨w',rfl,q⟩:=h;refine ⟨_,rfl,w',rfl,?_⟩;refine (?_:R (.int ((w'.map aQ).length:Int)));rw [bV];exact q
def DY:bN:=λds P=>∃(w:W),ds= [.fb w]∧w.length≤14∧P (aX w)
theorem kF:FnOk P w Z.K mg base br 1 T.m_turns.f T.m_turns.fd ["self"] (aC Z DY):=by
 have nd:=kH.nd;refine aO T.m_turns.F kH [0] (by decide) (λds R h=>by obtain ⟨_,rfl,_⟩:=h;rfl) (λaW A outer s H E ds R hr h=>?_)
 have hu:=hr.units;refine ⟨_,(ai (ay (i7 (NC:= ["row"]) (src:= [none]) rfl (jD (aj fN)) trivial (bx (uX T.W (aa 0))) (λ_ _ _=>(bq 0 (show (["row"]:List Str).Nodup from by decide+kernel))) (λ_ _ _=>cO) (λ_ _ _=>(b6 fU rfl T.B.list cF (ae (aa 0) af)))))),?_⟩
 obtain ⟨w',rfl,dq,q⟩:=h;exact ⟨_,rfl,w',rfl,fM (ρ:= [none]) aQ aQ w' _ (λy hy Y h=>⟨_,rfl,h⟩) rfl (small (by omega)) λaE=>q⟩
end kR
namespace Wy
section
variable {α β:Type}
end
theorem zQ{α:Type}(l:List α)(x d:α)(i j:Nat):(l.set i x).getD j d=if i=j∧i<l.length then x else l.getD j d:=by
 simp only [dW,gD]
 by_cases e:i=j
 ·subst e
  by_cases h:i<l.length
  ·rw [if_pos rfl,if_pos h,if_pos ⟨rfl,h⟩];rfl
  ·rw [if_pos rfl,if_neg h,if_neg (λz=>h z.2),dR (by omega)]
 ·rw [if_neg e,if_neg (λz=>e z.1)]
end Wy
namespace kR
open PySem L2 Wb
variable {P:Program} {w:World} {mg:Str→Option Value} {base:Heap} {Z:DC} (T:Txt Z mg)
open Wy
def AZ:bN:=λds P=>∃(w:W)(m:Int),ds= [.fb w, .int m]∧(w.length:Int)≤m∧P .aN
theorem nZ:FnOk P w Z.K mg base br 2 T.d_need_at_most.f T.d_need_at_most.fd ["web","most"] (aC Z AZ):=by
 have nd:=iS.nd;refine aO T.d_need_at_most.F iS [0,0] (by decide) (λds R h=>by obtain ⟨_,_,rfl,_⟩:=h;rfl) (λaW A outer s H E ds R hr h=>?_)
 have hu:=hr.units;refine ⟨_,(ai (aY (aD nV (iE T.W (aa 0) T.m_many.m (jj T) (hr.mono (by decide)) T.m_many.b) (aa 1) (aM _)) (ai iF) aF)),?_⟩
 obtain ⟨w',m,rfl,hm,q⟩:=h;refine ⟨_,rfl,w',rfl,w',rfl,_,rfl,_,rfl,?_⟩;exact M5 (decide_eq_false (by omega)) ⟨rfl,q⟩
theorem wJ{α:Type}(l:List α)(k:Nat)(h:k≤l.length):cutD l (some (k:Int)) none=l.drop k:=by
 unfold cutD
 have e1:HT.bf l.length 0 (some (k:Int))=k:=by
  simp only [HT.bf]
  split<;>omega
 have e2:HT.bf l.length l.length none=l.length:=rfl;rw [e1,e2];exact List.take_of_length_le (by simp)
def au(l:List Int):List D:=l.map D.int
theorem bK(l:List Int):(au l).length=l.length:=bV _
theorem DK{α:Type}(l:List α)(k:Nat)(x:α)(h:k<l.length):l.take k++ [x]++l.drop (k+1)=l.set k x:=by
 rw [List.set_eq_take_append_cons_drop,if_pos h];simp
theorem ik(a b:Int)(h:0<b):0≤a%b∧a%b<b:=⟨Int.emod_nonneg _ (by omega),Int.emod_lt_of_pos _ h⟩
theorem kh{g:cT}{tb:bO}{E:bQ}{n:Nat}{ρ:DN}(I:Nat→DN→Prop)(h0:I 0 ρ)(hs:∀(j:Nat)(ρ:DN),j<n→I j ρ→∀A:DN→Prop,(∀ρ,I (j+1) ρ→A ρ)→g (aw j) ρ λcc=>tb {nx:=A,ct:=A,bk:=E.nx,rt:=E.rt,xc:=E.xc} cc)
  (he:∀ρ,I n ρ→E.nx ρ):jR g tb E (bp 0 n) ρ:=vb I h0 (λj ρ hj h A hA=>by
 have:=hs j ρ hj h A hA
 unfold aw at this;rw [Int.zero_add];exact this) he
end kR
namespace Ws
open Wb
abbrev Dy:=List (Option Int)
def bE(dy:Dy)(p:Nat):Option Int:=dy.getD p none
def lst(ls:List (List Int))(p:Nat):List Int:=ls.getD p []
def left(w:W)(ls:List (List Int))(dy:Dy)(p:Nat):List Int:=(lst ls p).filter λd=>!decide (some d∈(row w p).map λq=>bE dy q)
def Ok(w:W)(ls:List (List Int))(dy:Dy):Prop:=dy.length=w.length∧∀p d,bE dy p=some d→d∈lst ls p∧∀q∈row w p,bE dy q≠some d
def Full(w:W)(dy:Dy):Prop:=∀p,p<w.length→bE dy p≠none
def More(dy dz:Dy):Prop:=∀p d,bE dy p=some d→bE dz p=some d
theorem lR{dy:Dy}{p q:Nat}{d:Int}(h:p<dy.length):bE (dy.set p (some d)) q=if p=q then some d else bE dy q:=by
 unfold bE;rw [Wy.zQ]
 by_cases e:p=q
 ·rw [if_pos ⟨e,h⟩,if_pos e]
 ·rw [if_neg (λz=>e z.1),if_neg e]
theorem iK{w:W}{ls:List (List Int)}{dy:Dy}{p:Nat}{d:Int}:d∈left w ls dy p↔d∈lst ls p∧∀q∈row w p,bE dy q≠some d:=by
 unfold left;rw [wq];simp only [Bool.not_eq_true',decide_eq_false_iff_not,List.mem_map,not_exists,not_and]
theorem Ok.put{w:W}{ls:List (List Int)}{dy:Dy}{p:Nat}{d:Int}(g:Good w)(o:Ok w ls dy)(hp:p<w.length)(hn:bE dy p=none)(hd:d∈left w ls dy p):Ok w ls (dy.set p (some d)):=by
 obtain ⟨h1,h2⟩:=iK.mp hd;have hl:p<dy.length:=by rw [o.1];exact hp
 refine ⟨by rw [dm];exact o.1,λq e hq=>?_⟩
 rw [lR hl] at hq
 by_cases e1:p=q
 ·rw [if_pos e1] at hq
  cases hq;subst e1;refine ⟨h1,λr hr=>?_⟩;rw [lR hl]
  by_cases e2:p=r
  ·subst e2;exact absurd hr (g.irr p)
  ·rw [if_neg e2];exact h2 r hr
 ·rw [if_neg e1] at hq
  obtain ⟨h3,h4⟩:=o.2 q e hq;refine ⟨h3,λr hr=>?_⟩;rw [lR hl]
  by_cases e2:p=r
  ·subst e2
   rw [if_pos rfl];intro z;cases z;exact h2 q (g.sym _ _ hr) hq
  ·rw [if_neg e2];exact h4 r hr
def gz(dy:Dy):Nat:=dy.countP λo=>o.isNone
theorem iU{dy:Dy}{p:Nat}{d:Int}(hp:p<dy.length)(hn:bE dy p=none):gz (dy.set p (some d))+1=gz dy:=by
 unfold bE at hn;unfold gz;rw [dW,cS hp] at hn;have hn:dy[p]=none:=hn;rw [List.countP_set hp,hn]
 have:0<dy.countP λo=>o.isNone:=List.countP_pos_iff.mpr ⟨dy[p],nu hp,by rw [hn];rfl⟩
 simp;omega
inductive iY where
 |full (p:Nat)
 |jC (p:Nat) (ps:List (Option iY))
def jW(w:W)(ls:List (List Int)):Nat→Dy→iY→Prop
 |0,_,_=>False
 |_+1,dy, .full p=>p<w.length∧bE dy p=none∧left w ls dy p= []
 |m+1,dy, .jC p ps=>p<w.length∧bE dy p=none∧ps.length=(lst ls p).length∧
   ∀(i:Nat)(d:Int),(lst ls p)[i]? =some d→(d∈left w ls dy p→∃q,ps[i]? =some (some q)∧jW w ls m (dy.set p (some d)) q)∧(d∉left w ls dy p→ps[i]? =some none)
theorem n0{w:W}{ls:List (List Int)}:∀(m:Nat)(dy:Dy)(q:iY),jW w ls m dy q→dy.length=w.length→∀dz,Ok w ls dz→Full w dz→¬More dy dz
 |0,_,_,h,_=>h.elim
 |m+1,dy, .full p,⟨h1,h2,h3⟩,hl=>λdz o f mo=>by
  cases e:bE dz p with
  |none=>exact f p h1 e
  |some d=>
   obtain ⟨a,b⟩:=o.2 p d e
   have:d∈left w ls dy p:=iK.mpr ⟨a,λq hq z=>b q hq (mo q d z)⟩
   rw [h3] at this;cases this
 |m+1,dy, .jC p ps,⟨h1,h2,_,h3⟩,hl=>λdz o f mo=>by
  cases e:bE dz p with
  |none=>exact f p h1 e
  |some d=>
   obtain ⟨a,b⟩:=o.2 p d e;have hd:d∈left w ls dy p:=iK.mpr ⟨a,λq hq z=>b q hq (mo q d z)⟩;obtain ⟨i,hi⟩:=we a;obtain ⟨q,_,hq⟩:=(h3 i d hi).1 hd;refine n0 m _ q hq (by rw [dm];exact hl) dz o f λr c hr=>?_
   rw [lR (by rw [hl];exact h1)] at hr
   by_cases e1:p=r
   ·rw [if_pos e1] at hr;cases hr;rw [←e1];exact e
   ·rw [if_neg e1] at hr;exact mo r c hr
end Ws
namespace L2
open PySem PySem.Spec PyProof.Rows
section
variable {pr:Program} {wd:World} {A:Around} {R:Result→Shared→Prop} {uE:Addr} {dO og:List Addr} {n:Nat} {Pv:Nat→Value→Prop} {Sv:Nat→Heap→Prop}
def wu(pr:Program)(wd:World)(A:Around)(T:Heap→Prop)(Pv:Nat→Value→Prop)(bt:Nat→Nat→Bool):Prop:=
 ∀i j u v (s:Shared) (Q:Value→Shared→Prop) (E:Value→Shared→Prop),T s.heap→Pv i u→Pv j v→Q (.bool (bt i j)) s→wpAny (model pr wd) A (richCompare .Lt u v) Q E s
theorem xJ(wk:Walks pr wd A.in1 uE dO og n Pv Sv)(bt:Nat→Nat→Bool)(T:Heap→Prop)(cmp:wu pr wd A.in1 T Pv bt)(L:Addr)(nL:L∉dO)
  (kT:∀h h':Heap,T h→(∀b o,b∉og→b≠L→h.get? b=some o→h'.get? b=some o)→T h'):
  ∀(d j:Nat)(s:Shared)(best:Value)(c:Nat),n-(j+1)=d→j+1≤n→Sv (j+1) s.heap→T s.heap→Pv (argBest bt j) best→
  s.heap.get? L=some {cls:= .type "list",dict:=none,data:= .seq #[best,best] c,slots:= #[]}→
  (∀v h' t,Pv (argBest bt (n-1)) v→(∀b o,b∉og→b≠L→s.heap.get? b=some o→h'.get? b=some o)→R (.ok (.ret v)) {s with heap:=h',toks:=t})→
  codeAny (model pr wd) A (.builtin "min.loop" ⟨[.ref uE, .none, .ref L],[]⟩) R s:=by
 have nW:L∉og:=λh=>nL (wk.sub _ h);have nm:(toString "min"++toString ".loop":String)="min.loop":=by decide
 intro d
 induction d with
 |zero=>
  intro j s best c hd hj q0 t0 pb hL fin;have en:j+1=n:=by omega
  refine codeAny_builtin PySem.F.entry_min_loop ?_;rw [Around.under_plainId PySem.F.plain_min_loop _];refine wpAny_bind (wpAny_seqItems hL rfl ?_);refine wpAny_bind (wpAny_tryCatch (wk.done s _ _ (en▸q0) λh1 t1 k1=>?_));show wpAny _ A.in1 ((updateSeq L (λ_=> #[]))>>=_) _ _ _;refine wpAny_bind ?_;refine wpAny_updateSeq (k1 L _ nW hL) rfl (wpAny_bind (wpAny_letGo (wpAny_pure ?_)));exact fin best _ t1 (by rw [←en];exact pb) λb o nb nl e=>(Heap.get?_update_other _ _ (Ne.symm nl)).trans (k1 b o nb e)
 |succ d ih=>
  intro j s best c hd hj q0 t0 pb hL fin;have lt:j+1<n:=by omega
  refine codeAny_builtin PySem.F.entry_min_loop ?_;rw [Around.under_plainId PySem.F.plain_min_loop _];refine wpAny_bind (wpAny_seqItems hL rfl ?_);refine wpAny_bind (wpAny_tryCatch (wk.item (j+1) s _ _ lt q0 λv h1 t1 pv q1 k1=>?_));have zU:=k1 L _ nW hL;have vV:T h1:=kT _ _ t0 λb o nb _ e=>k1 b o nb e;show wpAny _ A.in1 ((tryCatch (holding [v,v] (richCompare .Lt v best>>=_)) _)>>=_) _ _ _;refine wpAny_bind (wpAny_tryCatch (wpAny_holding (wpAny_bind (cmp (j+1) (argBest bt j) v best _ _ _ vV pv pb ?_))));refine wpAny_bind (wpAny_holding (wpAny_truthy_bool ?_));refine wpAny_bind (wpAny_letGo (wpAny_pure ?_));cases eb:bt (j+1) (argBest bt j) with
  |true=>
   simp only [if_true];refine wpAny_bind ?_;refine wpAny_updateSeq zU rfl (wpAny_bind (wpAny_letGo ?_));rw [nm];refine wpAny_pure ⟨plainId_quiet PySem.F.plain_min_loop _,ih (j+1) _ v _ (by omega) lt (wk.frame _ _ _ q1 λb hb o e=>?_) (kT _ _ vV λb o _ nl e=>?_) ?_ (Heap.get?_update_self _ zU rfl) λv2 h2 t2 p2 k2=>?_⟩
   ·exact (Heap.get?_update_other _ _ (λz:L=b=>nL (z▸hb))).trans e
   ·exact (Heap.get?_update_other _ _ (Ne.symm nl)).trans e
   ·simp only [argBest,eb,if_true];exact pv
   ·exact fin v2 h2 t2 p2 λb o nb nl e=>k2 b o nb nl ((Heap.get?_update_other _ _ (Ne.symm nl)).trans (k1 b o nb e))
  |false=>
   simp only [wg,if_false];refine wpAny_bind (wpAny_letGo ?_);rw [nm];refine wpAny_pure ⟨plainId_quiet PySem.F.plain_min_loop _,ih (j+1) _ best c (by omega) lt q1 vV ?_ zU λv2 h2 t2 p2 k2=>?_⟩
   ·simp only [argBest,eb,wg,if_false];exact pb
   ·exact fin v2 h2 t2 p2 λb o nb nl e=>k2 b o nb nl (k1 b o nb e)
theorem xI(wk:Walks pr wd A.in1 uE dO og n Pv Sv)(bt:Nat→Nat→Bool)(T:Heap→Prop)(cmp:wu pr wd A.in1 T Pv bt)(L:Addr)(nL:L∉dO)
  (kT:∀h h':Heap,T h→(∀b o,b∉og→b≠L→h.get? b=some o→h'.get? b=some o)→T h') (hn:0<n) {s:Shared} {c:Nat} (q0:Sv 0 s.heap) (t0:T s.heap)
  (hL:s.heap.get? L=some {cls:= .type "list",dict:=none,data:= .seq #[] c,slots:= #[]})
  (fin:∀v h' t,Pv (argBest bt (n-1)) v→(∀b o,b∉og→b≠L→s.heap.get? b=some o→h'.get? b=some o)→R (.ok (.ret v)) {s with heap:=h',toks:=t}):
  codeAny (model pr wd) A (.builtin "min.loop" ⟨[.ref uE, .none, .ref L],[]⟩) R s:=by
 have nW:L∉og:=λh=>nL (wk.sub _ h);have nm:(toString "min"++toString ".loop":String)="min.loop":=by decide
 refine codeAny_builtin PySem.F.entry_min_loop ?_;rw [Around.under_plainId PySem.F.plain_min_loop _];refine wpAny_bind (wpAny_seqItems hL rfl ?_);refine wpAny_bind (wpAny_tryCatch (wk.item 0 s _ _ hn q0 λv h1 t1 pv q1 k1=>?_));have zU:=k1 L _ nW hL;have vV:T h1:=kT _ _ t0 λb o nb _ e=>k1 b o nb e;show wpAny _ A.in1 (updateSeq L (λ_=> #[v,v])>>=_) _ _ _;refine wpAny_bind ?_;refine wpAny_updateSeq zU rfl ?_;rw [nm];refine wpAny_pure ⟨plainId_quiet PySem.F.plain_min_loop _,xJ wk bt T cmp L nL kT _ 0 _ v _ rfl hn (wk.frame _ _ _ q1 λb hb o e=>?_) (kT _ _ vV λb o _ nl e=>?_) pv (Heap.get?_update_self _ zU rfl) λv2 h2 t2 p2 k2=>?_⟩
 ·exact (Heap.get?_update_other _ _ (λz:L=b=>nL (z▸hb))).trans e
 ·exact (Heap.get?_update_other _ _ (Ne.symm nl)).trans e
 ·exact fin v2 h2 t2 p2 λb o nb nl e=>k2 b o nb nl ((Heap.get?_update_other _ _ (Ne.symm nl)).trans (k1 b o nb e))
end
section
variable {pr:Program} {wd:World} {A:Around} {E:Value→Shared→Prop} {s:Shared}
theorem Ay{x:Value}{Q:Value→Shared→Prop}(T:Heap→Prop)
  (h:wpAny (model pr wd) A.in1 (pyIter x) (λit s2=>∃uE dO og n Pv Sv bt,it= .ref uE∧Walks pr wd A.in1 uE dO og n Pv Sv∧Sv 0 s2.heap∧(∀b∈dO,b<s2.heap.objs.size)∧0<n∧wu pr wd A.in1 T Pv bt∧T s2.heap∧
   (∀h h':Heap,T h→(∀b o,b∉og→b≠s2.heap.objs.size→h.get? b=some o→h'.get? b=some o)→T h')∧
   ∀v h' tk,Pv (argBest bt (n-1)) v→(∀b o,b∉og→s2.heap.get? b=some o→h'.get? b=some o)→Q v {s2 with heap:=h',toks:=tk}) E s):
  wpAny (model pr wd) A (call (.builtin "min") [x]) Q E s:=by
 have nm:(toString "min"++toString ".loop":String)="min.loop":=by decide
 refine call_function_tree PySem.F.kind_min PySem.F.plain_min PySem.F.entry_min (PySem.F.args_min1 _) ?_;show wpAny _ A.in1 (Builtin.Builtins.bindParams "min" ["key","default"] 0 ⟨[],[]⟩>>=_) _ _ s;refine wpAny_bind (wpAny_of_eq (rfl:Builtin.Builtins.bindParams "min" ["key","default"] 0 ⟨[],[]⟩=pure [none,none]) ?_);refine wpAny_bind (wpAny_pure ?_);refine wpAny_bind (wpAny_mono h (λit s2 h2=>?_) λ_ _ e=>e);obtain ⟨uE,dO,og,n,Pv,Sv,bt,rfl,wk,q0,hf,hn,cmp,t0,kT,hQ⟩:=h2;refine wpAny_bind (wpAny_newObj_type ?_);have nL:s2.heap.objs.size∉dO:=λhm=>gE _ (hf _ hm);rw [nm];refine wpAny_pure ⟨plainId_quiet PySem.F.plain_min_loop _,xI wk bt T cmp s2.heap.objs.size nL kT hn (wk.frame _ _ _ q0 λb _ o e=>Heap.get?_push_of_some _ e) (kT _ _ t0 λb o _ _ e=>Heap.get?_push_of_some _ e) (Heap.get?_push_size _ rfl) λv h' tk hP hk=>?_⟩;exact hQ v h' tk hP λb o SN e=>hk b o SN (bR (Heap.lt_size e)) (Heap.get?_push_of_some _ e)
end
theorem om(bt:Nat→Nat→Bool):∀k,argBest bt k≤k
 |0=>bL _
 |k+1=>by
  unfold argBest
  split
  ·exact bL _
  ·exact Nat.le_succ_of_le (om bt k)
theorem lQ{f:Nat→List Int}:∀k i,i≤k→HT.lexLt (f i) (f (argBest (λi j=>HT.lexLt (f i) (f j)) k))=false
 |0,i,h=>by
  obtain rfl:i=0:=by omega
  exact p0 _
 |k+1,i,h=>by
  have ih:=lQ (f:=f) k;unfold argBest
  by_cases c:HT.lexLt (f (k+1)) (f (argBest (λi j=>HT.lexLt (f i) (f j)) k))=true
  ·rw [if_pos c]
   by_cases z:i=k+1
   ·subst z;exact p0 _
   ·have:=ih i (by omega)
    cases e:HT.lexLt (f i) (f (k+1)) with
    |false=>rfl
    |true=>rw [yH _ _ _ e c] at this;cases this
  ·rw [if_neg c]
   by_cases z:i=k+1
   ·subst z;exact Bool.eq_false_iff.mpr c
   ·exact ih i (by omega)
section
variable {X:Cx} {Z:DC}
theorem wF(hc:X.calm=true)(hu:X.A.units+64<cLine):bP X (.builtin "min") (λxs H Q=>∃(p:Addr)(L:List (Addr×List Int)),xs= [.ref p]∧H p=some (.lst (L.map λe=>V.ref e.1))∧(∀e∈L,H e.1=some (.tup (e.2.map V.int)))∧L≠ []∧
  ∀e∈L,(∀f∈L,HT.lexLt f.2 e.2=false)→Q (.ref e.1) H):=by
 intro pins s σ H xs us Q I rv h;obtain ⟨p,L,rfl,hp,hL,CB,q⟩:=h;obtain ⟨u,rfl,ru⟩:=rv.one;cases ru;obtain ⟨its,r,pl,hz⟩:=I.list (bb.of hp);have hl:=r.length;rw [bV] at hl;have MQ:0<L.length:=List.length_pos_iff.mpr CB
 have jX:∀i:Nat,(hi:i<L.length)→its[i]? =some (.ref L[i].1):=λi hi=>by
  obtain ⟨w,hw,qz⟩:=r.get (i:=i) (x:= .ref L[i].1) (by rw [dX,cS hi];rfl)
  cases qz;exact hw
 refine Ay (λh=>∀b o,s.heap.get? b=some o→h.get? b=some o) (wpAny_pyIter_list pl.isList ?_)
 have mm:p≠s.heap.objs.size:=by
  obtain ⟨o,ho,_⟩:=pl.isList;exact bR (Heap.lt_size ho)
 let f:Nat→List Int:=λi=>(L.getD i (0,[])).2
 refine ⟨_,_,_,its.toArray.size,_,_,λi j=>HT.lexLt (f i) (f j),rfl,Walks.list (show X.A.in1.handled=none from I.ok.hd hc) s.heap.objs.size p mm its.toArray,⟨⟨_,Heap.get?_push_size _ rfl,rfl,rfl⟩,pl.isList.push _⟩,?_,?_,?_,λb o e=>Heap.get?_push_of_some _ e,?_,?_⟩
 ·intro b hb
  have:b=s.heap.objs.size∨b=p:=by simpa using hb
  obtain ⟨o,ho,_⟩:=pl.isList;have lt:=Heap.lt_size ho;have e:(s.heap.push {cls:= .type "list_iterator",data:= .fields #[.ref p, .int 0 0]}).objs.size=s.heap.objs.size+1:=by simp [Heap.push]
  rcases this with rfl|rfl
  ·exact ze (wm _) e.symm
  ·exact ze (Nat.lt_succ_of_lt lt) e.symm
 ·rw [cp];omega
 ·intro i j u v s' Q' E' hT CH tX hq
  have tW:its[i]? =some u:=by simpa using CH
  have lC:its[j]? =some v:=by simpa using tX
  have hi:i<L.length:=by have:=(gF.mp tW).1;omega
  have hj:j<L.length:=by have:=(gF.mp lC).1;omega
  rw [jX i hi] at tW;rw [jX j hj] at lC;cases tW;cases lC;obtain ⟨t1,r1,p1,_⟩:=I.tuple (cj.of (hL L[i] (nu hi)));obtain ⟨t2,r2,p2,_⟩:=I.tuple (cj.of (hL L[j] (nu hj)));obtain ⟨o1,g1,c1⟩:=p1;obtain ⟨o2,g2,c2⟩:=p2;have i1:IntsAre t1.toArray.toList L[i].2:=intsAre_of r1;have i2:IntsAre t2.toArray.toList L[j].2:=intsAre_of r2
  have ef:∀k,(hk:k<L.length)→f k=L[k].2:=λk hk=>by
   show (L.getD k (0,[])).2=_;rw [dW,cS hk];rfl
  have f7:Q' (.bool (HT.lexLt L[i].2 L[j].2)) s':=by rw [←ef i hi,←ef j hj];exact hq
  exact HT.vA (A:=X.A.in1) ⟨o1,hT _ _ g1,c1⟩ ⟨o2,hT _ _ g2,c2⟩ i1 i2 (by simp only [Around.in1_units];omega) f7
 ·intro h h' hT hk b o e
  have lt:=Heap.lt_size e;refine hk b o ?_ ?_ (hT b o e)
  ·intro hm
   have:b=s.heap.objs.size:=by simpa using hm
   exact bR lt this
  ·simp only [Heap.push,Array.size_push]
   exact bR (Nat.lt_succ_of_lt lt)
 ·intro v h' tk hP kk
  have kept:∀b o,s.heap.get? b=some o→h'.get? b=some o:=λb o e=>kk b o (by simp;exact bR (Heap.lt_size e)) (Heap.get?_push_of_some _ e)
  have hk:=om (λi j=>HT.lexLt (f i) (f j)) (its.toArray.size-1);generalize hb:argBest (λi j=>HT.lexLt (f i) (f j)) (its.toArray.size-1)=k at hP hk;rw [cp] at hk;have xp:k<L.length:=by omega
  have lC:its[k]? =some v:=by simpa using hP
  rw [jX k xp] at lC;cases lC;refine ⟨.ref L[k].1,H,I.kept kept,rfl,q L[k] (nu xp) λe he=>?_⟩;obtain ⟨i,hi,rfl⟩:=List.mem_iff_getElem.mp he
  have:=lQ (f:=f) (its.toArray.size-1) i (by rw [cp];omega)
  rw [hb] at this
  have ef:∀k,(hk:k<L.length)→f k=L[k].2:=λk hk=>by
   show (L.getD k (0,[])).2=_;rw [dW,cS hk];rfl
  rw [ef i hi,ef k xp] at this;exact this
def tupI(l:List Int):D:= .tup (l.map D.int)
def Hx:bN:=λds P=>∃ls:List (List Int),ds= [.lst (ls.map tupI)]∧ls≠ []∧∀m∈ls,(∀n∈ls,HT.lexLt n m=false)→P (tupI m)
theorem rV{G:Hp}:∀{vs:List V}{ns:List (List Int)},ao Z G vs (ns.map tupI)→∃L:List (Addr×List Int),vs=L.map (λe=>V.ref e.1)∧L.map (·.2)=ns∧∀e∈L,G e.1=some (.tup (e.2.map V.int))
 |vs,[],h=>by rw [h.xN];exact ⟨[],rfl,rfl,λp hp=>by cases hp⟩
 |vs,n::ns,h=>by
  obtain ⟨v,us,rfl,a,as⟩:=h.ud;obtain ⟨L,rfl,h2,h3⟩:=rV as;obtain ⟨p,xs,rfl,hp,e⟩:=a.ji;rw [lZ e] at hp;refine ⟨(p,n)::L,rfl,by rw [←h2];rfl,λq hq=>?_⟩
  rcases eS.mp hq with rfl|hq
  ·exact hp
  ·exact h3 q hq
theorem Bu(hc:X.calm=true)(hu:X.A.units+64<cLine):bP X (.builtin "min") (gi Z Hx):=by
 refine (wF hc hu).imp ?_;rintro xs H Q ⟨G,ds,P,s,dv,⟨ls,rfl,mm,hp⟩,q⟩;obtain ⟨v,rfl,a⟩:=dv.ofOne;obtain ⟨p,vs,rfl,h,e⟩:=a.eG;obtain ⟨L,rfl,rfl,h3⟩:=rV e;refine ⟨p,L,rfl,s _ _ h,λx hx=>s _ _ (h3 x hx),λz=>mm (by rw [z];rfl),λx hx hm=>?_⟩
 exact q _ (hp x.2 (List.mem_map_of_mem hx) λn hn=>by
  obtain ⟨y,hy,rfl⟩:=List.mem_map.mp hn;exact hm y hy) _ G H (.refl s) (.tup (h3 x hx) (.ints _))
end
end L2
set_option maxHeartbeats 1000000
namespace HT
open PySem PyProof.Rows
open PySem.SeqAt
open PySem.AutoSeq1 (wpAny_loadPart')
open PySem.MeetsSeq PySem.MeetsSeq2 PySem.MeetsSeq3
section
variable {prog:Program} {w:World} {A:Around} {E:Value→Shared→Prop} {s:Shared}
theorem jT{t sl:Addr}{items:Array Value}{vl vu:Value}{lo hi:Option Int}{Q:Value→Shared→Prop}(ht:IsTup s.heap t items)(hs:s.heap.IsSliceOf sl vl vu .none)(pl:IsPart vl lo)(pu:IsPart vu hi)
  (hw:bf items.size 0 lo=0∧bf items.size items.size hi=items.size) (h:Q (.ref t) s):wpAny (model prog w) A (getItem (.ref t) (.ref sl)) Q E s:=by
 obtain ⟨os,xy,EH,xk⟩:=id hs;have IF:s.TypeIs (.ref sl) "slice":=⟨os,xy,EH⟩;unfold getItem
 try with_reducible refine wpAny_holding ?_
 first|refine wpAny_bind (wpAny_pure ?_) |skip
 refine wpAny_bind (wpAny_sequenceKey ht.typeIs (by decide) ?_)
 refine wpAny_bind (wpAny_callSpecial?_slot (name:=Str.ofString "__getitem__") ht.typeIs PyProof.Rows.slot_tuple_getitem
  (wpAny_call_entry PyProof.Rows.slot_tuple_getitem ht.typeIs entry_tuple_getitem ?_ (args_tuple_getitem _ _)))
 show wpAny _ _ (Builtin.Tuple.tupleItemsOf (.ref t)>>=_) _ _ s;refine wpAny_bind (tupleItemsOf_ ht ?_);refine wpAny_bind (wpAny_typeOf IF ?_);rw [if_pos (by decide)]
 refine wpAny_bind (hV hs pl pu ?_)
 have MY:(((bf items.size 0 lo:Nat):Int)==0&&(1:Int)==1&&(bf items.size items.size hi-bf items.size 0 lo)==items.size)=true:=by
  rw [hw.1,hw.2];simp
 show wpAny _ _ (if (((bf items.size 0 lo:Nat):Int)==0&&(1:Int)==1&&(bf items.size items.size hi-bf items.size 0 lo)==items.size)=true then _ else _) _ _ s;rw [if_pos MY];refine wpAny_bind ?_;show wpAny _ _ (do return (←typeOf (.ref t))== .type "tuple") _ _ s
 refine wpAny_bind (wpAny_typeOf ht.typeIs ?_);refine wpAny_pure ?_;rw [if_pos (by decide)]
 refine wpAny_bind (wpAny_rule ?_);exact wpAny_pure ⟨_,rfl,wpAny_pure h⟩
end
end HT
namespace L2
open PySem PySem.Spec PyProof.Rows
section
variable {Z:DC} {X:Cx} {e:Expr} {te:aR} {pos p2:Pos} {lo hi:Option Expr} {tl th:uD}
theorem DP:uG X (λx lo hi H Q=>∃a xs,x= .ref a∧cj X.K H a xs∧(HT.bf xs.length 0 lo=0∧HT.bf xs.length xs.length hi=xs.length)∧Q (.ref a) H):=by
 intro pins s σ H x v vl vu lo hi sl Q I rx hs pl pu h;obtain ⟨a,xs,rfl,hx,hw,q⟩:=h;cases rx;obtain ⟨its,r,ht,hz⟩:=I.tuple hx;have hlen:its.toArray.size=xs.length:=by rw [cp];exact r.length.symm
 refine ⟨"tuple",_,PyProof.Rows.slot_tuple_getitem.lookup,ht.typeIs,?_⟩;exact HT.jT ht hs pl pu (by rw [hlen];exact hw) ⟨.ref a,H,I,rfl,q⟩
def LG(te:aR)(tl th:uD):aR:=λρ P=>te ρ λx=>tl ρ λlo=>th ρ λhi=>match x with
 | .tup l=>P (.tup (cutD l lo hi))
 |_=>False
theorem wK{α:Type}{l:List α}{lo hi:Option Int}(h:HT.bf l.length 0 lo=0∧HT.bf l.length l.length hi=l.length):cutD l lo hi=l:=by
 unfold cutD;rw [h.1,h.2];simp
theorem wQ(he:DE Z X e te)(hl:DO Z X lo tl)(hu:DO Z X hi th):DE Z X (.Subscript e (.Slice lo hi none p2) pos) (LG te tl th):=by
 refine (sN (yZ.or DP) he hl hu).imp ?_;rintro σ H Q ⟨G,ρ,P,s,en,h,q⟩;refine ⟨G,ρ,_,s,en,h,λd hd v G1 H1 x1 dv=>?_⟩;refine ⟨G1,ρ,_,x1.sub,en.mono x1.gg,hd,λl hl G2 H2 x2=>?_⟩;refine ⟨G2,ρ,_,x2.sub,(en.mono x1.gg).mono x2.gg,hl,λu hu G3 H3 x3=>?_⟩;have x:=(x1.trans x2).trans x3;have dv:=(dv.mono x2.gg).mono x3.gg;cases dv<;>first|exact hu.elim|skip
 rename_i a xs ds h e
 by_cases w:HT.bf xs.length 0 l=0∧HT.bf xs.length xs.length u=xs.length
 ·have CH:P (.tup ds):=by
   have hu:P (.tup (cutD ds l u)):=hu;rw [wK (by rw [←e.length];exact w)] at hu
   exact hu
  exact .inr ⟨_,_,rfl,cj.of (x3.sub _ _ h),w,q _ CH _ G3 H3 x (.tup h e)⟩
 ·exact .inl ⟨_,_,rfl,cj.of (x3.sub _ _ h),w,λp hn=>q _ hu _ _ _ (x.trans (.new x3.sub hn)) (.tup ak ((tJ e l u).mono (aL (x3.sub.free hn) _)))⟩
theorem r8{P:Program}{w:World}{K:PySem.W.Frag}{mg:Str→Option Value}{base:Heap}{f:Addr}{fd:FuncData}{ps:List Str}:FnOk P w K mg base br 0 f fd ps (aC Z (λ_ _=>False)):=
 ⟨λvs H Q E h=>let ⟨_,_,_,_,_,z,_⟩:=h;z.elim,λA outer s H args us vs Q E _ _ _ _ h=>let ⟨_,_,_,_,_,z,_⟩:=h;z.elim⟩
end
end L2
namespace ZT
open PySem PyProof.Rows
structure NX (prog:Program) (w:World) (it src:Addr) (st:Nat→Heap→Prop) (val:Nat→Option Value):Prop where
 at_:∀i h h',st i h→(∀o,h.get? it=some o→h'.get? it=some o)→(∀o,h.get? src=some o→h'.get? src=some o)→st i h'
 lt:∀i h,st i h→it<h.objs.size
 item:∀(A:Around)(E:Value→Shared→Prop)(s:Shared)(i:Nat)(x:Value)(Q:Value→Shared→Prop),val i=some x→src≠it→st i s.heap→
  (∀h',st (i+1) h'→Heap.SameBut it s.heap h'→Q x {s with heap:=h'})→wpAny (model prog w) A (Builtin.SmallTypes.nextOf (.ref it)) Q E s
 stop:∀(A:Around)(E:Value→Shared→Prop)(s:Shared)(i:Nat)(Q:Value→Shared→Prop),A.handled=none→val i=none→src≠it→st i s.heap→
  (∀h' e,Heap.ExtBut it s.heap h'→(∃o,h'.get? e=some o∧o.cls= .type "StopIteration")→E (.ref e) {s with heap:=h'})→wpAny (model prog w) A (Builtin.SmallTypes.nextOf (.ref it)) Q E s
section
variable {prog:Program} {w:World}
theorem vH(it l:Addr)(xs:Array Value):NX prog w it l (λi h=>h.IsListIter it l i∧h.IsList l xs) (λi=>xs[i]?) where
 at_:=λi h h' st a b=>⟨st.1.at a,st.2.at b⟩
 lt:=λi h st=>by obtain ⟨o,e,_⟩:=st.1;exact Heap.lt_size e
 item:=λA E s i x Q hv ne st hQ=>wpAny_nextOf_list_item st.1 st.2 hv λh' a sb=>hQ h' ⟨a,st.2.extBut sb.extBut ne⟩ sb
 stop:=λA E s i Q hh hv ne st hQ=>wpAny_nextOf_list_end hh st.1 st.2 hv hQ
theorem nextT{A:Around}{E:Value→Shared→Prop}{s:Shared}{it t:Addr}{i:Nat}{items:Array Value}{Q:Value→Shared→Prop}(hit:s.heap.IsTupleIter it t i)(ht:s.heap.IsTuple t items)
  (h1:∀x,items[i]? =some x→∀h',h'.IsTupleIter it t (i+1)→Heap.SameBut it s.heap h'→Q x {s with heap:=h'})
  (h2:items[i]? =none→A.handled=none∧∀h' e,Heap.ExtBut it s.heap h'→(∃o,h'.get? e=some o∧o.cls= .type "StopIteration")→E (.ref e) {s with heap:=h'}):
  wpAny (model prog w) A (Builtin.SmallTypes.nextOf (.ref it)) Q E s:=by
 have z0:=hit.typeIs;obtain ⟨o,ho,hc,hd⟩:=hit;obtain ⟨ot,Te,_,nt,SS⟩:=ht;unfold Builtin.SmallTypes.nextOf;refine wpAny_bind (wpAny_callSpecial?_slot (name:=Str.ofString "__next__") z0 F.slot_tuple_iterator_next (wpAny_call_entry F.slot_tuple_iterator_next z0 F.entry_tuple_iterator_next ?_ (F.args_tuple_iterator_next_1 _)));show wpAny _ _ (field (.ref it) 0>>=_) _ _ s;refine wpAny_bind (wpAny_field ho hd (x:= .ref t) rfl ?_);have no:¬((Value.ref t==Value.none)=true):=fF;show wpAny _ _ (if (Value.ref t==Value.none)=true then _ else _) _ _ s;rw [if_neg no];show wpAny _ _ (field (.ref it) 1>>=_) _ _ s;refine wpAny_bind (wpAny_field ho hd (x:= .int i 0) rfl ?_);show wpAny _ _ (seqItems? (.ref t)>>=_) _ _ s;refine wpAny_bind (wpAny_seqItems Te SS ?_);cases hx:items[i]? with
 |some x=>
  simp only [nq,hx];refine wpAny_bind (wpAny_setField ho hd (by simp) (wpAny_pure ⟨x,rfl,wpAny_pure (h1 x hx _ ?_ (Heap.SameBut.update ..))⟩))
  exact ⟨_,Heap.get?_update_self _ ho (Obj.isFreed_of_fields (Obj.data_mapFields hd _)),(Obj.cls_mapFields ..).trans hc,by
   rw [Obj.data_mapFields hd];simp [rawInt]⟩
 |none=>
  obtain ⟨hh,h2⟩:=h2 hx;simp only [nq,hx];refine wpAny_bind (wpAny_rule (wpAny_bind (wpAny_setField ho hd (by simp) ?_)))
  show wpAny _ _ (newExc (.type "StopIteration") []>>=_) _ _ _;refine wpAny_bind ?_;simp only [newExc,newTuple];refine wpAny_bind (wpAny_newObj_type ?_ (by size_fits))
  refine wpAny_bind (m:=firstArgMember _ _) (wpAny_of_eq (a:=Value.none) (by first|rfl| (simp only [firstArgMember];rfl)) ?_)
  refine wpAny_newObj_type ?_ (by size_fits)
  simp only [raiseNew];refine wpAny_bind (wpAny_handled ?_)
  first|rw [show A.in1.handled=none from hh]|rw [hh]
  refine wpAny_bind (wpAny_pure (wpAny_throw ?_));exact h2 _ _ (((Heap.SameBut.update ..).extBut.push _).push _) ⟨_,Heap.get?_push_size _ rfl,rfl⟩
theorem yN(it l:Addr)(xs:Array Value):NX prog w it l (λi h=>h.IsTupleIter it l i∧h.IsTuple l xs) (λi=>xs[i]?) where
 at_:=λi h h' st a b=>⟨st.1.at a,let ⟨o,ho,r⟩:=st.2;⟨o,b _ ho,r⟩⟩
 lt:=λi h st=>by obtain ⟨o,e,_⟩:=st.1;exact Heap.lt_size e
 item:=λA E s i x Q hv ne st hQ=>nextT st.1 st.2 (λy hy h' a sb=>by
  have hv:xs[i]? =some x:=hv;rw [hv] at hy;cases hy;exact hQ h' ⟨a,st.2.extBut sb.extBut ne⟩ sb) (λz=>by
  have hv:xs[i]? =some x:=hv;rw [hv] at z;cases z)
 stop:=λA E s i Q hh hv ne st hQ=>nextT st.1 st.2 (λy hy=>by
  have hv:xs[i]? =none:=hv;rw [hv] at hy;cases hy) (λz=>⟨hh,hQ⟩)
end
section
variable {prog:Program} {w:World} {A:Around} {E:Value→Shared→Prop} {s:Shared} {vR iT:Nat→Heap→Prop} {v1 v2:Nat→Option Value}
theorem hand{z TI TO:Addr}{x y:Value}{Q:Fin→Shared→Prop}{h:Heap}(X2:TO≠z)(hz:IsZip h z TI TO .ellipsis)(lb:IsPair h TO x y)
  (hQ:∀h',IsZip h' z TI TO (rawInt h.objs.size)→IsPair h' h.objs.size x y→h'.objs.size=h.objs.size+1→(∀c o,c≠z→h.get? c=some o→h'.get? c=some o)→Q (.done (.ret (.ref h.objs.size))) {s with heap:=h'}):
  wpAny (model prog w) A (newTuple [x,y]>>=λr=>Builtin.SmallTypes.ownedTupleHandOut (.ref z) r>>=λ_=>(ret r:Sem Fin)) Q E {s with heap:=h}:=by
 have lz:z<h.objs.size:=Heap.lt_size hz;refine wpAny_bind (wpAny_newTuple ?_);refine wpAny_bind ?_;unfold Builtin.SmallTypes.ownedTupleHandOut;have z1:IsZip (h.push {cls:= .type "tuple",data:= .seq #[x,y]}) z TI TO .ellipsis:=Heap.get?_push_of_some _ hz;refine wpAny_bind (wpAny_setField_rec z1 (by simp) λg1 z2 b1=>?_)
 replace z2:IsZip g1 z TI TO (rawInt h.objs.size):=z2
 refine wpAny_setField_rec z2 (by simp) λg2 z3 b2=>?_
 replace z3:IsZip g2 z TI TO (rawInt h.objs.size):=z3
 refine wpAny_pure (hQ g2 z3 ?_ ?_ λc o c1 e=>b2.extBut _ _ c1 (b1.extBut _ _ c1 (Heap.get?_push_of_some _ e)))
 ·exact b2.extBut _ _ (tq lz) (b1.extBut _ _ (tq lz) (Heap.get?_push_size _ rfl))
 ·rw [b2.1,b1.1,Heap.size_push]
theorem Qp{z TI TO i1 i2 l1 l2:Addr}{k:Nat}{a b:Value}{Q:Value→Shared→Prop}(N1:NX prog w i1 l1 vR v1)(N2:NX prog w i2 l2 iT v2)(D:ZipApart z TI TO i1 i2 l1 l2)
  (hz:IsZip s.heap z TI TO .none) (la:IsPair s.heap TI (.ref i1) (.ref i2)) (lb:IsPair s.heap TO a b) (h1:vR k s.heap) (h2:iT k s.heap)
  (hI:∀x y,v1 k=some x→v2 k=some y→∀h',IsZip h' z TI TO (rawInt s.heap.objs.size)→IsPair h' TO x y→vR (k+1) h'→iT (k+1) h'→IsPair h' s.heap.objs.size x y→h'.objs.size=s.heap.objs.size+1→
   (∀c o,c≠z→c≠TO→c≠i1→c≠i2→s.heap.get? c=some o→h'.get? c=some o)→Q (.ref s.heap.objs.size) {s with heap:=h'})
  (hE:v1 k=none∨v2 k=none→A.handled=none∧∀h' e,(∀c o,c≠z→c≠TO→c≠i1→c≠i2→s.heap.get? c=some o→h'.get? c=some o)→(∃o,h'.get? e=some o∧o.cls= .type "StopIteration")→E (.ref e) {s with heap:=h'}):
  wpAny (model prog w) A (Builtin.«zip.__next__» ⟨[.ref z],[]⟩) (λfin s'=>∃v,fin= .done (.ret v)∧Q v s') E s:=by
 show wpAny _ _ (field (.ref z) 2>>=_) _ _ _;refine wpAny_bind (wpAny_field hz rfl (x:= .bool false) rfl ?_);show wpAny _ _ (field (.ref z) 3>>=_) _ _ _;refine wpAny_bind (wpAny_field hz rfl (x:= .ref TI) rfl (wpAny_bind (wpAny_seqItems la rfl ?_)));show wpAny _ _ (Builtin.SmallTypes.ownedTupleIsFree (.ref z)>>=_) _ _ _;refine wpAny_bind ?_;unfold Builtin.SmallTypes.ownedTupleIsFree;refine wpAny_bind (wpAny_field hz rfl (x:= .none) rfl (wpAny_pure ?_));simp only [if_true];refine wpAny_bind (wpAny_rule (wpAny_bind (wpAny_field hz rfl (x:= .ref TO) rfl (wpAny_bind (wpAny_setField_rec hz (by simp) λg1 z1 b1=>?_)))))
 replace z1:IsZip g1 z TI TO .ellipsis:=z1
 refine wpAny_bind ?_;simp only [List.zipIdx_cons,List.zipIdx_nil,List.forIn_cons,List.forIn_nil];refine wpAny_bind (wpAny_bind (wpAny_onRaise ?_));have q1:vR k g1:=N1.at_ _ _ _ h1 (λo e=>b1.extBut _ _ D.i1z e) (λo e=>b1.extBut _ _ D.l1z e);have q2:iT k g1:=N2.at_ _ _ _ h2 (λo e=>b1.extBut _ _ D.i2z e) (λo e=>b1.extBut _ _ D.l2z e);show wpAny _ _ (Builtin.SmallTypes.nextOf (.ref i1)>>=_) _ _ _;cases hx:v1 k with
 |none=>
  obtain ⟨hh,hE⟩:=hE (.inl hx);refine wpAny_bind (N1.stop _ _ {s with heap:=g1} k _ hh hx D.l1i1 q1 λg2 e b2 he=>?_)
  obtain ⟨oe,xx,Ci⟩:=he;have z2:IsZip g2 z TI TO .ellipsis:=b2 _ _ D.i1z.symm z1;have ez:e≠z:=λx=>by subst x;rw [z2] at xx;cases xx;simp at Ci
  exact wpAny_setField_rec z2 (by simp) λg3 _ b3=>hE g3 e (λc o c1 _ c3 _ x=>b3.extBut _ _ c1 (b2 _ _ c3 (b1.extBut _ _ c1 x))) ⟨oe,b3.extBut _ _ ez xx,Ci⟩
 |some x=>
  refine wpAny_bind (N1.item _ _ {s with heap:=g1} k x _ hx D.l1i1 q1 λg2 p1 b2=>wpAny_pure ?_)
  have t2:IsPair g2 TO a b:=b2.extBut _ _ D.TOi1 (b1.extBut _ _ D.TOz lb);refine wpAny_bind (wpAny_seqItems t2 rfl (wpAny_bind (wpAny_updateSeq_pair t2 λg3 t3 b3=>wpAny_bind (wpAny_letGo (wpAny_pure ?_)))))
  replace t3:IsPair g3 TO x b:=t3
  have q3:iT k g3:=N2.at_ _ _ _ q2 (λo e=>b3.extBut _ _ D.TOi2.symm (b2.extBut _ _ D.i12.symm e)) (λo e=>b3.extBut _ _ D.l2TO (b2.extBut _ _ D.l2i1 e));refine wpAny_bind (wpAny_bind (wpAny_onRaise ?_));show wpAny _ _ (Builtin.SmallTypes.nextOf (.ref i2)>>=_) _ _ _;cases hy:v2 k with
  |none=>
   obtain ⟨hh,hE⟩:=hE (.inr hy);refine wpAny_bind (N2.stop _ _ {s with heap:=g3} k _ hh hy D.l2i2 q3 λg4 e b4 he=>?_)
   obtain ⟨oe,xx,Ci⟩:=he;have z4:IsZip g4 z TI TO .ellipsis:=b4 _ _ D.i2z.symm (b3.extBut _ _ D.TOz.symm (b2.extBut _ _ D.i1z.symm z1));have ez:e≠z:=λx=>by subst x;rw [z4] at xx;cases xx;simp at Ci
   exact wpAny_setField_rec z4 (by simp) λg5 _ b5=>hE g5 e (λc o c1 c2 c3 c4 x=>b5.extBut _ _ c1 (b4 _ _ c4 (b3.extBut _ _ c2 (b2.extBut _ _ c3 (b1.extBut _ _ c1 x))))) ⟨oe,b5.extBut _ _ ez xx,Ci⟩
  |some y=>
   refine wpAny_bind (N2.item _ _ {s with heap:=g3} k y _ hy D.l2i2 q3 λg4 p2 b4=>wpAny_pure ?_)
   have t4:IsPair g4 TO x b:=b4.extBut _ _ D.TOi2 t3;refine wpAny_bind (wpAny_seqItems t4 rfl (wpAny_bind (wpAny_updateSeq_pair t4 λg5 t5 b5=>wpAny_bind (wpAny_letGo (wpAny_pure (wpAny_pure ?_))))))
   replace t5:IsPair g5 TO x y:=t5
   refine wpAny_bind (wpAny_seqItems t5 rfl ?_);have sz:g5.objs.size=s.heap.objs.size:=by rw [b5.1,b4.1,b3.1,b2.1,b1.1]
   have z5:IsZip g5 z TI TO .ellipsis:=b5.extBut _ _ D.TOz.symm (b4.extBut _ _ D.i2z.symm (b3.extBut _ _ D.TOz.symm (b2.extBut _ _ D.i1z.symm z1)));have kp:∀c o,c≠z→c≠TO→c≠i1→c≠i2→s.heap.get? c=some o→g5.get? c=some o:=λc o c1 c2 c3 c4 e=>b5.extBut _ _ c2 (b4.extBut _ _ c4 (b3.extBut _ _ c2 (b2.extBut _ _ c3 (b1.extBut _ _ c1 e))));have r1:vR (k+1) g5:=N1.at_ _ _ _ p1 (λo e=>b5.extBut _ _ D.TOi1.symm (b4.extBut _ _ D.i12 (b3.extBut _ _ D.TOi1.symm e))) (λo e=>b5.extBut _ _ D.l1TO (b4.extBut _ _ D.l1i2 (b3.extBut _ _ D.l1TO e)));have r2:iT (k+1) g5:=N2.at_ _ _ _ p2 (λo e=>b5.extBut _ _ D.TOi2.symm e) (λo e=>b5.extBut _ _ D.l2TO e);refine hand (s:=s) D.TOz z5 t5 λg6 z6 t6 s6 k6=>?_;rw [sz] at z6 t6 s6 ⊢;exact ⟨_,rfl,hI x y hx hy g6 z6 (k6 _ _ D.TOz t5) (N1.at_ _ _ _ r1 (λo e=>k6 _ _ D.i1z e) (λo e=>k6 _ _ D.l1z e)) (N2.at_ _ _ _ r2 (λo e=>k6 _ _ D.i2z e) (λo e=>k6 _ _ D.l2z e)) t6 s6 λc o c1 c2 c3 c4 e=>k6 c o c1 (kp c o c1 c2 c3 c4 e)⟩
theorem qM{z TI TO i1 i2 l1 l2:Addr}{k:Nat}{a b:Value}{Q:Option Value→Shared→Prop}(N1:NX prog w i1 l1 vR v1)(N2:NX prog w i2 l2 iT v2)(D:ZipApart z TI TO i1 i2 l1 l2)
  (hz:IsZip s.heap z TI TO .none) (la:IsPair s.heap TI (.ref i1) (.ref i2)) (lb:IsPair s.heap TO a b) (h1:vR k s.heap) (h2:iT k s.heap)
  (hI:∀x y,v1 k=some x→v2 k=some y→∀h',IsZip h' z TI TO (rawInt s.heap.objs.size)→IsPair h' TO x y→vR (k+1) h'→iT (k+1) h'→IsPair h' s.heap.objs.size x y→h'.objs.size=s.heap.objs.size+1→
   (∀c o,c≠z→c≠TO→c≠i1→c≠i2→s.heap.get? c=some o→h'.get? c=some o)→Q (some (.ref s.heap.objs.size)) {s with heap:=h'})
  (hE:v1 k=none∨v2 k=none→A.handled=none∧∀h',(∀c o,c≠z→c≠TO→c≠i1→c≠i2→s.heap.get? c=some o→h'.get? c=some o)→Q none {s with heap:=h'}):wpAny (model prog w) A (pyNext (.ref z)) Q E s:=by
 have hT:s.TypeIs (.ref z) "zip":=⟨_,hz,rfl⟩;unfold pyNext
 refine wpAny_bind (wpAny_attempt (wpAny_callSpecial?_slot (name:=Str.ofString "__next__") hT F.slot_zip_next
  (wpAny_call_entry F.slot_zip_next hT F.entry_zip_next (Qp N1 N2 D hz la lb h1 h2 (λx y hx hy h' a1 a2 a3 a4 a5 a6 a7=>wpAny_pure (hI x y hx hy h' a1 a2 a3 a4 a5 a6 a7)) λn=>?_) (F.args_zip_next_1 _))))
 obtain ⟨hh,hE⟩:=hE n;refine ⟨hh,λh' e hk he=>?_⟩;obtain ⟨o,ho,hc⟩:=he;exact wpAny_bind (wpAny_isInstance (T:="StopIteration") (b:=true) ⟨o,ho,hc⟩ isSubtype_stop (wpAny_pure (hE _ hk)))
end
abbrev g1(h:Heap)(a:Addr):Heap:=h.push {cls:= .type "list_iterator",data:= .fields #[.ref a, .int 0 0]}
abbrev g2(h:Heap)(a b:Addr):Heap:=(g1 h a).push {cls:= .type "tuple_iterator",data:= .fields #[.ref b, .int 0 0]}
abbrev g3(h:Heap)(a b:Addr):Heap:=(g2 h a b).push {cls:= .type "tuple",data:= .seq #[.ref h.objs.size, .ref (g1 h a).objs.size]}
abbrev g4(h:Heap)(a b:Addr):Heap:=(g3 h a b).push {cls:= .type "tuple",data:= .seq #[.none, .none]}
abbrev g5(h:Heap)(a b:Addr):Heap:=(g4 h a b).push {cls:= .type "zip",data:= .fields #[.none, .bool false, .bool false, .ref (g2 h a b).objs.size, .ref (g3 h a b).objs.size]}
theorem NT(a b:Addr)(xs ys:Array Value):
  Meets (Builtin.«zip.__new__» ⟨[.type "zip", .ref a, .ref b],[]⟩) (λ_ R s=>s.heap.IsList a xs∧s.heap.IsTuple b ys∧R (.ok (.ret (.ref (g4 s.heap a b).objs.size))) {s with heap:=g5 s.heap a b}):=
 .of_wp λprog w A R s h=>by
  obtain ⟨hp,g,d,tk,os⟩:=s;obtain ⟨ha,hb,h⟩:=h;have Xj:=sub_zip;have h1:Heap.IsList (Shared.heap ⟨hp,g,d,tk,os⟩) a xs:=ha;have h2:Heap.IsTuple (Shared.heap ⟨hp.push {cls:= .type "list_iterator",data:= .fields #[.ref a, .int 0 0]},g,d,tk,os⟩) b ys:=Heap.IsTuple.push hb _
  wp_walk using wpAny_pyIter_list h1,wpAny_pyIter_tuple h2
  exact ⟨_,rfl,h⟩
section
variable {prog:Program} {w:World} {A:Around} {E:Value→Shared→Prop} {s:Shared}
theorem Hz{a b:Addr}{xs ys:Array Value}{Q:Value→Shared→Prop}(ha:s.heap.IsList a xs)(hb:s.heap.IsTuple b ys)
  (h:∀h' n,n=s.heap.objs.size→IsZip h' (n+4) (n+2) (n+3) .none→IsPair h' (n+2) (.ref n) (.ref (n+1))→IsPair h' (n+3) .none .none→h'.IsListIter n a 0→h'.IsTupleIter (n+1) b 0→
   (∀c o,s.heap.get? c=some o→h'.get? c=some o)→Q (.ref (n+4)) {s with heap:=h'}):
  wpAny (model prog w) A (call (.type "zip") [.ref a, .ref b]) Q E s:=by
 refine callType_new F.called_zip (by decide) (F.typeCall_zip_2 _ _) (F.newCall_zip_2 _ _) (λobj=>F.args_object_init_3 obj _ _) F.entry_zip_new (NT a b xs ys) ⟨ha,hb,?_⟩
 have z1:(g1 s.heap a).objs.size=s.heap.objs.size+1:=Heap.size_push ..;have z2:(g2 s.heap a b).objs.size=s.heap.objs.size+2:=by rw [Heap.size_push,z1]
 have z3:(g3 s.heap a b).objs.size=s.heap.objs.size+3:=by rw [Heap.size_push,z2]
 have z4:(g4 s.heap a b).objs.size=s.heap.objs.size+4:=by rw [Heap.size_push,z3]
 have up:∀{hh:Heap}{c:Addr}{o:Obj}(x:Obj),hh.get? c=some o→(hh.push x).get? c=some o:=λx e=>Heap.get?_push_of_some x e;have y5:(g5 s.heap a b).get? (g4 s.heap a b).objs.size=some _:=Heap.get?_push_size _ rfl;have y4:(g5 s.heap a b).get? (g3 s.heap a b).objs.size=some _:=up _ (Heap.get?_push_size _ rfl);have y3:(g5 s.heap a b).get? (g2 s.heap a b).objs.size=some _:=up _ (up _ (Heap.get?_push_size _ rfl));have y2:(g5 s.heap a b).get? (g1 s.heap a).objs.size=some _:=up _ (up _ (up _ (Heap.get?_push_size _ rfl)));have y1:(g5 s.heap a b).get? s.heap.objs.size=some _:=up _ (up _ (up _ (up _ (Heap.get?_push_size _ rfl))));show _∧_;rw [z2,z3,z4] at y5;rw [z1,z2] at y3;rw [z3] at y4;rw [z1] at y2;rw [z4];exact ⟨⟨_,y5,rfl⟩,h _ _ rfl y5 y3 y4 ⟨_,y1,rfl,rfl⟩ ⟨_,y2,rfl,rfl⟩ λc o x=>up _ (up _ (up _ (up _ (up _ x))))⟩
end
end ZT
namespace L2
open PySem PySem.Spec PyProof.Rows
def Bc(a b:Addr):It:=
 ⟨λi H=>∃xs ys x y,H a=some (.lst xs)∧H b=some (.tup ys)∧xs[i]? =some x∧ys[i]? =some y,
  λi H v H'=>∃t x y,v= .ref t∧H t=none∧H'=upd H t (.tup [x,y])∧(∀xs,H a=some (.lst xs)→xs[i]? =some x)∧∀ys,H b=some (.tup ys)→ys[i]? =some y,
  λi H=>∃xs ys,H a=some (.lst xs)∧H b=some (.tup ys)∧(xs.length≤i∨ys.length≤i)⟩
theorem ZN.apart{z TI TO i1 i2 l1 l2:Addr}(N:ZN z TI TO i1 i2)(h1:∀b∈ [z,TO,i1,i2,TI],l1≠b)(h2:∀b∈ [z,TO,i1,i2,TI],l2≠b):ZipApart z TI TO i1 i2 l1 l2:=
 ⟨N.TIz,N.TOz,N.i1z,N.i2z,N.TITO,N.TIi1,N.TIi2,N.TOi1,N.TOi2,N.i12,h1 z (by simp),h1 TO (by simp),h1 i1 (by simp),h1 i2 (by simp),h2 z (by simp),h2 TO (by simp),h2 i1 (by simp),h2 i2 (by simp)⟩
theorem yj{P:Program}{w:World}{K:PySem.W.Frag}{es:List Expr}{k1}{tp:Pos}(l1 l2 z TI TO i1 i2:Addr)(N:ZN z TI TO i1 i2):
  Turn P w K (.Tuple es k1 tp) (Bc l1 l2) [z,TO,i1,i2,TI] z (λi h=>IsZip h z TI TO .none∧IsPair h TI (.ref i1) (.ref i2)∧(∃a b,IsPair h TO a b)∧h.IsListIter i1 l1 i∧h.IsTupleIter i2 l2 i) where
 mem:=by simp
 obj:=λi h ⟨hz,la,⟨a,c,lb⟩,⟨o1,e1,_,d1⟩,⟨o2,e2,_,d2⟩⟩ b hb=>by
  simp only [eS,List.not_mem_nil,or_false] at hb
  rcases hb with rfl|rfl|rfl|rfl|rfl
  ·exact ⟨_,hz,λv w=>by cases w⟩
  ·exact ⟨_,lb,λv w=>by cases w⟩
  ·exact ⟨o1,e1,λv z=>by rw [d1] at z;cases z⟩
  ·exact ⟨o2,e2,λv z=>by rw [d2] at z;cases z⟩
  ·exact ⟨_,la,λv w=>by cases w⟩
 keep:=λi h h' ⟨hz,la,⟨a,c,lb⟩,h1,h2⟩ k=>
  ⟨k z (by simp) _ hz,k TI (by simp) _ la,⟨a,c,k TO (by simp) _ lb⟩,h1.at λo q=>k i1 (by simp) o q,h2.at λo q=>k i2 (by simp) o q⟩
 item:=by
  intro X hP hw hK hc i pins s σ H E I hf st hg;subst hP hw hK;obtain ⟨xs,ys,x,y,zX,zY,hx,hy⟩:=hg;obtain ⟨oE,FK,p1,MZ⟩:=I.list (bb.of zX);obtain ⟨f9,FL,p2,EN⟩:=I.tuple (cj.of zY);obtain ⟨u1,To,JM⟩:=FK.get hx;obtain ⟨u2,tW,JN⟩:=FL.get hy;obtain ⟨hz,la,⟨a,c,lb⟩,h1,h2⟩:=st;have nf:∀l u,H l=some u→∀b∈ [z,TO,i1,i2,TI],l≠b:=λl u e b hb q=>by rw [q,(hf b hb).1] at e;cases e
  have lt:∀b∈ [z,TO,i1,i2,TI],b<s.heap.objs.size:=λb hb=>by
   simp only [eS,List.not_mem_nil,or_false] at hb
   rcases hb with rfl|rfl|rfl|rfl|rfl
   ·exact Heap.lt_size hz
   ·exact Heap.lt_size lb
   ·obtain ⟨o,e,_⟩:=h1;exact Heap.lt_size e
   ·obtain ⟨o,e,_⟩:=h2;exact Heap.lt_size e
   ·exact Heap.lt_size la
  have t2:s.heap.IsTuple l2 f9.toArray:=p2;have w1:oE.toArray[i]? =some u1:=by simpa using To
  have w2:f9.toArray[i]? =some u2:=by simpa using tW
  refine ZT.qM (ZT.vH i1 l1 oE.toArray) (ZT.yN i2 l2 f9.toArray) (N.apart (nf _ _ zX) (nf _ _ zY)) hz la lb ⟨h1,p1.isList⟩ ⟨h2,t2⟩ (λx' y' e1 e2 h' Tt Mz IC ID xB MS kk=>?_) (λn=>?_)
  ·have e1:oE.toArray[i]? =some x':=e1
   have e2:f9.toArray[i]? =some y':=e2;rw [w1] at e1;cases e1;rw [w2] at e2;cases e2;have k2:∀b o,b∉ [z,TO,i1,i2,TI]→s.heap.get? b=some o→h'.get? b=some o:=λb o hb q=>kk b o (λz=>hb (by simp [z])) (λz=>hb (by simp [z])) (λz=>hb (by simp [z])) (λz=>hb (by simp [z])) q
   have I1:Inv X pins σ (upd H s.heap.objs.size (.tup [x,y])) {s with heap:=h',toks:=s.toks}:=
    I.vW hf k2 (bL _) ⟨by show 2≤sizeLine;decide,[u1,u2], .cons JM (.cons JN .nil),oB xB⟩
   refine ⟨_,rfl,wpAny_letOwnedTupleGo_zip Tt λh2 EN sb=>?_⟩;have Cr:∀b∈ [z,TO,i1,i2,TI],fm X pins (upd H s.heap.objs.size (.tup [x,y])) b:=λb hb=>⟨by rw [ah (bR (lt b hb))];exact (hf b hb).1,(hf b hb).2⟩
   refine ⟨.ref s.heap.objs.size,_,I1.ni (t':=s.toks) Cr (λb o hb q=>sb.extBut b o (λz=>hb (by simp [z])) q),rfl,⟨_,x,y,rfl,I.hok.fresh (bL _),rfl,λys hy=>?_,λys EM=>?_⟩,
    ⟨EN,sb.extBut _ _ N.TIz (kk TI _ N.TIz N.TITO N.TIi1 N.TIi2 la),⟨_,_,sb.extBut _ _ N.TOz Mz⟩,IC.1.extBut sb.extBut N.i1z,ID.1.extBut sb.extBut N.i2z⟩,λb hb=>(Cr b hb).1⟩
   ·rw [zX] at hy;cases hy;exact hx
   ·rw [zY] at EM;cases EM;exact hy
  ·rcases n with n|n
   ·have n:oE.toArray[i]? =none:=n
    rw [w1] at n;cases n
   ·have n:f9.toArray[i]? =none:=n
    rw [w2] at n;cases n
 done:=by
  intro X hP hw hK hc i pins s σ H E I hf st hg;subst hP hw hK;obtain ⟨xs,ys,zX,zY,hx⟩:=hg;obtain ⟨oE,FK,p1,MZ⟩:=I.list (bb.of zX);obtain ⟨f9,FL,p2,EN⟩:=I.tuple (cj.of zY);have MJ:=FK.length;have zW:=FL.length;obtain ⟨hz,la,⟨a,c,lb⟩,h1,h2⟩:=st;have nf:∀l u,H l=some u→∀b∈ [z,TO,i1,i2,TI],l≠b:=λl u e b hb q=>by rw [q,(hf b hb).1] at e;cases e
  have t2:s.heap.IsTuple l2 f9.toArray:=p2;refine ZT.qM (ZT.vH i1 l1 oE.toArray) (ZT.yN i2 l2 f9.toArray) (N.apart (nf _ _ zX) (nf _ _ zY)) hz la lb ⟨h1,p1.isList⟩ ⟨h2,t2⟩ (λx' y' e1 e2=>?_) (λn=>⟨I.ok.hd hc,λh' kk=>⟨rfl,I.ni (t':=s.toks) hf λb o hb q=>kk b o (λz=>hb (by simp [z])) (λz=>hb (by simp [z])) (λz=>hb (by simp [z])) (λz=>hb (by simp [z])) q⟩⟩)
  have e1:oE.toArray[i]? =some x':=e1;have e2:f9.toArray[i]? =some y':=e2;have m1:=(zc.mp e1).1;have m2:=(zc.mp e2).1;rw [cp] at m1 m2;omega
 self:=λ_ _ _ _ _ st h=>wpAny_pyIter_zip st.1 h
section
variable {X:Cx}
def Jt(ta:TA):TI:=λσ H R=>ta σ H λvs H1=>∃a b xs ys,vs= [.ref a, .ref b]∧H1 a=some (.lst xs)∧H1 b=some (.tup ys)∧R (Bc a b) H1
theorem Dm{a b:Expr}{ta:TA}{p pos:Pos}{es:List Expr}{k1}{tp:Pos}(hg:Gl X "zip")(hm:X.mg "zip"=none)(ha:PA X [a,b] ta)(hs:starEach [a,b] X.env= [(false,eval a X.env),(false,eval b X.env)]:=by rfl)(fL:starEach [b] X.env= [(false,eval b X.env)]:=by rfl):
  PI X (.Tuple es k1 tp) (.Call (.Name "zip" p) [a,b] [] pos) (Jt ta):=by
 intro pins s σ H R I h;refine Call_ (gT I hg hm (show bootBuiltins "zip"=some (.type "zip") by decide+kernel) (PyProof.Rows.callWith_type1 (thn (ha pos pins s σ H _ I h) λus s1 ⟨vs,H1,I1,r1,q1⟩=>?_) (by rw [hs,fL]) (by rw [fL];rfl)))
 obtain ⟨l1,l2,xs,ys,e,MJ,zW,q⟩:=q1;subst e;obtain ⟨u1,u2,rfl,JM,JN⟩:=r1.two;cases JM;cases JN;obtain ⟨oE,FK,p1,MZ⟩:=I1.list (bb.of MJ);obtain ⟨f9,FL,p2,EN⟩:=I1.tuple (cj.of zW);refine ZT.Hz p1.isList (show s1.heap.IsTuple l2 f9.toArray from p2) λh' n en hz la lb h1 h2 kk=>?_;refine wpAny_pyIter_zip hz ?_;refine ⟨_,_,_,_,H1,rfl,I1.kept (t':=s1.toks) kk,yj l1 l2 (n+4) (n+2) (n+3) n (n+1) ?_,⟨hz,la,⟨_,_,lb⟩,h1,h2⟩,λb hb=>?_,q⟩
 ·exact ⟨show n+2≠n+4 by omega,show n+3≠n+4 by omega,show n≠n+4 by omega,show n+1≠n+4 by omega,show n+2≠n+3 by omega,show n+2≠n by omega,show n+2≠n+1 by omega,show n+3≠n by omega,show n+3≠n+1 by omega,show n≠n+1 by omega⟩
 ·have oP:s1.heap.objs.size≤b:=by
   rw [←en];simp only [eS,List.not_mem_nil,or_false] at hb
   rcases hb with z|z|z|z|z<;>(rw [z];show n≤_;omega)
  exact I1.vc oP (I1.hok.fresh oP)
end
section
variable {Z:DC} {X:Cx} {a b:Expr} {t:dZ} {pos:Pos}
def Ew(t:dZ):gH:=λρ P=>t ρ λds=>match ds with
 | [.lst l, .tup m]=>P (nk l m)
 |_=>False
theorem CM{G:Hp}{a b:Addr}{xs ys:List V}{ds es:List D}(h:G a=some (.lst xs))(e:ao Z G xs ds)(h':G b=some (.tup ys))(e':ao Z G ys es):oh Z G (Bc a b) (nk ds es):=by
 intro G2 H2 s1 s2 i;have h2:=s2 _ _ (s1 _ _ h);have h3:=s2 _ _ (s1 _ _ h');have l:=e.length;have l':=e'.length;rw [show (nk ds es).length=min ds.length es.length by unfold nk;simp]
 refine ⟨λhi=>⟨xs,ys,xs[i]'(by omega),ys[i]'(by omega),h2,h3,cS (by omega),cS (by omega)⟩,λhi=>⟨xs,ys,h2,h3,by omega⟩,?_⟩
 rintro x H' hi ⟨t,y,z,rfl,ht,rfl,hx,hy⟩;obtain ⟨d,hd,dv⟩:=e.vd (hx _ h2);obtain ⟨d',gJ,ic⟩:=e'.vd (hy _ h3);refine ⟨_,_, .new s2 ht,by unfold nk;rw [List.getElem?_zipWith,hd,gJ],?_⟩
 have sn:=aL (s2.free ht) (.tup [y,z]);exact .tup ak (.cons ((dv.mono s1).mono sn) (.cons ((ic.mono s1).mono sn) .nil))
theorem BR{p:Pos}{es:List Expr}{k1}{tp:Pos}(hg:Gl X "zip")(hm:X.mg "zip"=none)(ha:DA Z X [a,b] t)(hs:starEach [a,b] X.env= [(false,eval a X.env),(false,eval b X.env)]:=by rfl)(fL:starEach [b] X.env= [(false,eval b X.env)]:=by rfl):DI Z X (.Tuple es k1 tp) (.Call (.Name "zip" p) [a,b] [] pos) (Ew t):=by
 refine (Dm hg hm ha hs fL).imp ?_;rintro σ H Q ⟨G,ρ,P,s,en,h,q⟩;refine ⟨G,ρ,_,s,en,h,λds hd vs G1 H1 x1 dv=>?_⟩
 split at hd
 ·obtain ⟨u1,u2,rfl,da,db⟩:=dv.C4
  obtain ⟨_,_,rfl,ha,e⟩:=da.eG;obtain ⟨_,_,rfl,hb,e'⟩:=db.ji;exact ⟨_,_,_,_,rfl,x1.sub _ _ ha,x1.sub _ _ hb,q _ hd _ G1 H1 x1 (CM ha e hb e')⟩
 ·exact hd.elim
end
section
variable {Z:DC} {X:Cx} {a:Expr} {ta:aR} {te:TE} {pos:Pos}
theorem Di(ha:PE X a te):PE X (.UnaryOp .Not a pos) (λσ H Q=>te σ H λx H'=>∃k,Bi X.K x H' k∧Q (.bl (!k)) H'):=by
 intro pins s σ H Q I h;refine UnaryOp_ (thn (ha pins s σ H _ I h) λv s1 ⟨x,H1,I1,r1,q1⟩=>?_);obtain ⟨k,hk,q⟩:=q1
 exact not_of (thn (za pins s1 σ H1 x v (λc H'=>c=k∧H'=H1) I1 r1 ⟨k,hk,rfl,rfl⟩) λc s2 ⟨H2,I2,e1,e2⟩=>by
  subst e1 e2;exact ⟨.bl (!c),H2,I2,rfl,q⟩)
def Ik(ta:aR):aR:=λρ P=>ta ρ λd=>GZ d=true∧P (.bl (!kO d))
theorem BL(ha:DE Z X a ta):DE Z X (.UnaryOp .Not a pos) (Ik ta):=by
 refine (Di ha).imp ?_;rintro σ H Q ⟨G,ρ,P,s,e,h,q⟩;refine ⟨G,ρ,_,s,e,h,?_⟩;rintro d ⟨hd,p⟩ v G1 H1 x1 dv;refine ⟨kO d,?_,q _ p _ G1 H1 x1 (.bl _)⟩;cases dv with
 |aN=>rfl
 |bl b=>rfl
 |int i=>rfl
 |lst h a=>exact .inl ⟨_,bb.of (x1.sub _ _ h),by rw [gS a];rfl⟩
 |tup h a=>exact .inr (.inl ⟨_,cj.of (x1.sub _ _ h),by rw [gS a];rfl⟩)
 |_=>cases hd
end
end L2
set_option maxHeartbeats 4000000
namespace kR
open PySem L2 Wb
variable {P:Program} {w:World} {mg:Str→Option Value} {base:Heap} {Z:DC} (T:Txt Z mg)
open Wy Ws
def bD:Option Int→D
 |none=> .aN
 |some d=> .int d
def jE(dy:Dy):D:= .lst (dy.map bD)
def cH(ls:List (List Int)):D:= .lst (ls.map λl=> .lst (au l))
mutual
def jt:iY→D
 | .full p=> .tup [.str "full",aw p]
 | .jC p ps=> .tup [.str "choose",aw p, .tup (jZ ps)]
def jZ:List (Option iY)→List D
 | []=> []
 |o::os=>qo o::jZ os
def qo:Option iY→D
 |none=> .aN
 |some q=>jt q
end
theorem qp:∀ps:List (Option iY),jZ ps=ps.map qo
 | []=>by rw [jZ];rfl
 |o::os=>by rw [jZ,qp os];rfl
structure Sz (w:W) (ls:List (List Int)) (dy:Dy):Prop where
 g:Good w
 n1:1≤w.length
 n8:w.length≤8
 ll:ls.length=w.length
 ld:dy.length=w.length
 lr:∀p,(lst ls p).length≤100
 rl:∀p,(row w p).length≤100
theorem mB{ls:List (List Int)}{p:Nat}(h:p<ls.length):(ls.map λl=>D.lst (au l))[p]? =some (.lst (au (lst ls p))):=by
 unfold lst;rw [dX,cS h,dW,cS h];rfl
theorem gP{dy:Dy}{p:Nat}(h:p<dy.length):(dy.map bD)[p]? =some (bD (bE dy p)):=by
 unfold bE;rw [dX,cS h,dW,cS h];rfl
theorem r6(l:List (Option Int)):(l.map bD).all fX=true:=by
 rw [List.all_map,List.all_eq_true];intro o _;cases o<;>rfl
theorem vm{l:List (Option Int)}{d:Int}:inD (.int d) (l.map bD)=decide (some d∈l):=by
 unfold inD;rw [List.any_map]
 have:((λy=>me y (.int d))∘bD)=λo:Option Int=>decide (o=some d):=by
  funext o
  cases o with
  |none=>simp [bD,me,Function.comp]
  |some e=>
   simp [bD,me,Function.comp]
   by_cases h:e=d<;>simp [h]
 rw [this];rw [Bool.eq_iff_iff];simp
theorem mn{l:List Int}{d:Int}:inD (.int d) (au l)=decide (d∈l):=by
 unfold inD au;rw [List.any_map]
 have:((λy=>me y (.int d))∘D.int)=λo:Int=>decide (o=d):=by
  funext o
  simp [me,Function.comp]
  by_cases h:o=d<;>simp [h]
 rw [this,Bool.eq_iff_iff];simp
theorem gQ(l:List Int):(au l).all fX=true:=by simp [au,fX]
def FQ:bN:=λds P=>∃(w:W)(ls:List (List Int))(dy:Dy)(p:Nat),ds= [aX w,cH ls,jE dy,aw p]∧Sz w ls dy∧p<w.length∧P (.lst (au (left w ls dy p)))
theorem fj:FnOk P w Z.K mg base br 1 T.d_dyes_left.f T.d_dyes_left.fd ["turns","lists","dyeing","p"] (aC Z FQ):=by
 have nd:=kL.nd;refine aO T.d_dyes_left.F kL [0,0,0,0,0] (by decide) (λds R h=>by obtain ⟨_,_,_,_,rfl,_⟩:=h;rfl) (λaW A outer s H E ds R hr h=>?_)
 have hu:=hr.units
 refine ⟨_,(ag (aS false 4 nd (i7 (NC:= ["q","dyeing"]) (src:= [none,some 2]) rfl (jD (aj eJ)) ⟨rfl,rfl,trivial⟩ (bx (aK (aa 0) (aa 3))) (λ_ _ _=>(bq 0 (show (["q","dyeing"]:List Str).Nodup from by decide+kernel))) (λ_ _ _=>cO) (λ_ _ _=>(aK (aa 1) (aa 0)))))
   (ai (ay (i7 (NC:= ["dye","taken"]) (src:= [none,some 4]) rfl (jD (aj eJ)) ⟨rfl,rfl,trivial⟩ (bx (aK (aa 1) (aa 3))) (λ_ _ _=>(bq 0 (show (["dye","taken"]:List Str).Nodup from by decide+kernel))) (λ_ _ _=>(lY (aD fP (aa 0) (aa 1) (by with_unfolding_all rfl)))) (λ_ _ _=>(aa 0)))))),?_⟩
 obtain ⟨w',ls,dy,p,rfl,z,hp,q⟩:=h;refine ⟨_,rfl,_,rfl,_,aV (cI hp),fM (ρ:= [none,some (jE dy)]) aw (λq=>bD (bE dy q)) (row w' p) _ (λy hy Y h=>?_) rfl (small (by have:=z.rl p;omega)) λaE=>⟨trivial,?_⟩⟩
 ·exact ⟨_,rfl,_,rfl,_,aV (gP (by rw [z.ld];exact z.g.rng _ _ hy)),h⟩
 have e0:(row w' p).map (λq=>bD (bE dy q))=((row w' p).map λq=>bE dy q).map bD:=by rw [jB];rfl
 rw [e0];refine ⟨_,rfl,_,rfl,_,aV (mB (by rw [z.ll];exact hp)),my (ρ:= [none,some (.lst (((row w' p).map λq=>bE dy q).map bD))]) D.int (λd=>!decide (some d∈(row w' p).map λq=>bE dy q)) D.int (lst ls p) _ [] _ (λy hy Y Nn t1 t2=>?_) ⟨none,rfl⟩ (by have:=z.lr p;simp;exact small (by omega)) λaE=>?_⟩
 ·refine ⟨_,rfl,_,rfl,rfl,r6 _,_,rfl,?_⟩
  rw [if_pos rfl,vm];exact bA (λe=>⟨_,rfl,t1 e⟩) (λe=>t2 e)
 ·rw [nv]
  exact q
def yc:bN:=λds P=>∃(dy:Dy)(p:Nat)(d:Int),ds= [jE dy,aw p, .int d]∧p<dy.length∧dy.length≤8∧P (jE (dy.set p (some d)))
theorem mM:FnOk P w Z.K mg base br 1 T.d_with_dye.f T.d_with_dye.fd ["dyeing","p","dye"] (aC Z yc):=by
 have nd:=m6.nd;refine aO T.d_with_dye.F m6 [0,0,0] (by decide) (λds R h=>by obtain ⟨_,_,_,rfl,_⟩:=h;rfl) (λaW A outer s H E ds R hr h=>?_)
 have hu:=hr.units;refine ⟨_,(ai (ay (az cf (az cf (nE (aa 0) lW (lX (aa 1))) (gN (ae (aa 2) af))) (nE (aa 0) (lX (az cf (aa 1) aq)) lW)))),?_⟩;obtain ⟨dy,p,d,rfl,hp,h8,q⟩:=h;have Iw:cutD (dy.map bD) none (some (p:Int))=(dy.take p).map bD:=by rw [pL _ _ (by simp;omega),List.map_take]
 have Me:cutD (dy.map bD) (some ((p:Int)+1)) none=(dy.drop (p+1)).map bD:=by
  have:=wJ (dy.map bD) (p+1) (by simp;omega)
  rw [List.map_drop,←this];rfl
 have l1:(dy.take p).length≤8:=by rw [wo];omega
 have l2:(dy.drop (p+1)).length≤8:=by rw [List.length_drop];omega
 refine ⟨_,rfl,_,rfl,_,rfl,by show 1≤sizeLine;decide,small ?_,_,rfl,_,rfl,small ?_,?_⟩
 ·rw [Iw,bV];show _+1≤1000;omega
 ·rw [Iw]
  refine (?_:_+(cutD (dy.map bD) (some ((p:Int)+1)) none).length≤1000);rw [Me,fw,bV,bV];show _+1+_≤1000;omega
 ·refine (?_:R (.lst (cutD (dy.map bD) none (some (p:Int))++ [.int d]++cutD (dy.map bD) (some ((p:Int)+1)) none)))
  rw [Iw,Me]
  have:(dy.take p).map bD++ [.int d]++(dy.drop (p+1)).map bD=(dy.set p (some d)).map bD:=by
   rw [←DK dy p (some d) hp,ny,ny];rfl
  rw [this];exact q
theorem BY(dy:Dy):ey (dy.map bD)=(List.range dy.length).map λ(p:Nat)=>D.tup [.int (p:Int),bD (bE dy p)]:=by
 refine wj λi=>?_;rw [dX]
 by_cases h:i<dy.length
 ·rw [List.getElem?_range h]
  have hl:i<(ey (dy.map bD)).length:=by rw [pP,bV];exact h
  rw [cS hl];obtain ⟨x,hx,e⟩:=jb (cS hl);rw [gP h] at hx;cases hx;rw [e];rfl
 ·rw [dR (by rw [pP,bV];omega),dR (by simpa using dU h)];rfl
def A1:bN:=λds P=>∃(w:W)(ls:List (List Int))(dy:Dy),ds= [aX w,cH ls,jE dy]∧Sz w ls dy∧((∀p,p<w.length→bE dy p≠none)→P .aN)∧∀p,p<w.length→bE dy p=none→P (aw p)
theorem nY:FnOk P w Z.K mg base br 2 T.d_chosen_point.f T.d_chosen_point.fd ["turns","lists","dyeing"] (aC Z A1):=by
 have nd:=iR.nd;refine aO T.d_chosen_point.F iR [0,0,0,0] (by decide) (λds R h=>by obtain ⟨_,_,_,rfl,_⟩:=h;rfl) (λaW A outer s H E ds R hr h=>?_)
 have hu:=hr.units
 refine ⟨_,(ag (kg 3 (NC:= ["p","dye","turns","lists","dyeing"]) (src:= [none,none,some 0,some 1,some 2]) rfl nd (jD (aj dM)) ⟨rfl,rfl,rfl,rfl,rfl,rfl,trivial⟩ (fo rfl T.B.enumerate (ae (aa 2) af)) (λ_ _ _=>(Es 2 rfl (rS (bq 0 (show (["p","dye","turns","lists","dyeing"]:List Str).Nodup from by decide+kernel)) (rS (bq 1 (show (["p","dye","turns","lists","dyeing"]:List Str).Nodup from by decide+kernel)) BO)))) (λ_ _ _=>(lY (aD lE (aa 1) bw (aM _)))) (λ_ _ _=>(cW (ae (aJ bg rfl T.B.len ba (ae (av T.d_dyes_left (fj T) hr (ae (aa 2) (ae (aa 3) (ae (aa 4) (ae (aa 0) af))))) af)) (ae (aa 0) af)))))
   (ai (ay (wN (bY (aa 3)) (aK (aJ (Bu rfl hu) rfl T.B.min Em (ae (aa 3) af)) aq) bw)))),?_⟩
 obtain ⟨w',ls,dy,rfl,z,q1,q2⟩:=h;refine ⟨_,rfl,?_⟩;refine (?_:ig _ _ _ (ey (dy.map bD)) _ _ _);rw [BY];refine mx (λρ=>∃o0 o1,ρ= [o0,o1,some (aX w'),some (cH ls),some (jE dy)]) (λ(p:Nat)=>D.tup [.int (p:Int),bD (bE dy p)]) (λp=>(bE dy p).isNone) (λp=>tupI [((left w' ls dy p).length:Int),(p:Int)]) _ _ [] _ ?_ ⟨_,_,rfl⟩ (by have:=z.ld;have:=z.n8;simp;exact small (by omega)) ?_
 ·rintro p hp _ ⟨o0,o1,rfl⟩ Y Nn hY hN
  have rk:p<w'.length:=by rw [←z.ld];simpa using hp
  refine ⟨rfl,rfl,?_⟩;refine ⟨_,rfl,_,rfl,?_⟩;have en:pW (bD (bE dy p))=(bE dy p).isNone:=by cases bE dy p<;>rfl
  rw [if_neg fF,en];refine bA (λe=>?_) (λe=>hN _ ⟨_,_,rfl⟩ e);refine ⟨_,rfl,_,rfl,_,rfl,_,rfl,w',ls,dy,p,rfl,z,rk,?_⟩;refine ⟨_,rfl,by show 2≤sizeLine;decide,?_⟩
  have:(D.tup [.int ((au (left w' ls dy p)).length:Int), .int (p:Int)])=tupI [((left w' ls dy p).length:Int),(p:Int)]:=by rw [bK];rfl
  refine (?_:Y _ (D.tup [.int ((au (left w' ls dy p)).length:Int), .int (p:Int)]));rw [this];exact hY _ ⟨_,_,rfl⟩ e
 ·rintro _ ⟨o0,o1,rfl⟩
  refine ⟨trivial,?_⟩;rw [nv];generalize hf:(List.range dy.length).filter (λp=>(bE dy p).isNone)=fs
  have mf:∀p,p∈fs→p<w'.length∧bE dy p=none:=λp hp=>by
   rw [←hf,wq,tj,z.ld] at hp;exact ⟨hp.1,by cases h:bE dy p with|none=>rfl|some _=>rw [h] at hp;cases hp.2⟩
  refine ⟨_,rfl,?_⟩;cases fs with
  |nil=>
   refine ⟨rfl,aI (q1 λp hp hn=>?_)⟩
   have:p∈(List.range dy.length).filter (λp=>(bE dy p).isNone):=by
    rw [wq,tj,z.ld];exact ⟨hp,by rw [hn];rfl⟩
   rw [hf] at this;cases this
  |cons f fs=>
   refine ⟨rfl,aU ⟨_,rfl,(f::fs).map (λp=> [((left w' ls dy p).length:Int),(p:Int)]),by rw [jB];rfl,by simp,λm hm _=>?_⟩⟩
   obtain ⟨p,hp,rfl⟩:=List.mem_map.mp hm;obtain ⟨a,b⟩:=mf p hp;exact ⟨.int (p:Int),rfl,q2 p a b⟩
def spS(m:Nat):bN:=λds P=>∃(w:W)(ls:List (List Int))(dy:Dy),ds= [aX w,cH ls,jE dy]∧Sz w ls dy∧Ok w ls dy∧gz dy<m∧(∀dz,Ok w ls dz→Full w dz→P (.tup [.str "dyed",jE dz]))∧∀q,jW w ls (gz dy) dy q→P (.tup [.str "none",jt q])
def P1(m:Nat):bN:=spS (m+1)
theorem Bx{a b:Str}{P:D→Prop}(h:P (.bl (decide (a=b)))):zB (.str a) (.str b) P:=⟨.str a, .str b,rfl,rfl,by simp [PyData.depth],by
 have:PyData.eqv (.str a) (.str b)=decide (a=b):=by
  rw [PyData.eqv]
  by_cases z:a=b<;>simp [z]
 rw [if_neg fF,this];exact h⟩
theorem Sz.put{w:W}{ls:List (List Int)}{dy:Dy}(z:Sz w ls dy)(p:Nat)(d:Int):Sz w ls (dy.set p (some d)):=⟨z.g,z.n1,z.n8,z.ll,by rw [dm];exact z.ld,z.lr,z.rl⟩
theorem BZ{i j:Int}{P:D→Prop}{ρ:DN}(h:P (.bl (decide (i=j)))):dC (.int j) ρ (λb=>zB (.int i) b P):=uV h
theorem oO{i j:Str}{P:D→Prop}{ρ:DN}(h:P (.bl (decide (i=j)))):dC (.str j) ρ (λb=>zB (.str i) b P):=Bx h
theorem sW{l:List Int}:kO (.lst (au l))= !l.isEmpty:=by cases l<;>rfl
def oZ(w:W)(ls:List (List Int))(dy:Dy)(p m i:Nat)(ps:List (Option iY)):Prop:=ps.length=i∧∀(k:Nat)(d:Int),k<i→(lst ls p)[k]? =some d→
 (d∈left w ls dy p→∃q,ps[k]? =some (some q)∧jW w ls m (dy.set p (some d)) q)∧(d∉left w ls dy p→ps[k]? =some none)
theorem oZ.snoc{w:W}{ls:List (List Int)}{dy:Dy}{p m i:Nat}{ps:List (Option iY)}(h:oZ w ls dy p m i ps){d:Int}(hd:(lst ls p)[i]? =some d){o:Option iY}
  (ho:(d∈left w ls dy p→∃q,o=some q∧jW w ls m (dy.set p (some d)) q)∧(d∉left w ls dy p→o=none)):oZ w ls dy p m (i+1) (ps++ [o]):=by
 refine ⟨by simp [h.1],λk e hk he=>?_⟩
 by_cases z:k<i
 ·rw [qN (by rw [h.1];exact z)]
  exact h.2 k e z he
 ·have:k=i:=by omega
  subst this;rw [hd] at he;cases he;rw [wb (by rw [h.1];exact bL _),h.1,Nat.sub_self]
  refine ⟨λa=>?_,λa=>?_⟩
  ·obtain ⟨q,e,hq⟩:=ho.1 a
   exact ⟨q,by rw [e];rfl,hq⟩
  ·rw [ho.2 a];rfl
theorem m9(m k:Nat)(hk:2≤k)(nH:FnOk P w Z.K mg base br k T.d_searched_from.f T.d_searched_from.fd ["turns","lists","dyeing"] (aC Z (spS m))):FnOk P w Z.K mg base br (k+1) T.d_searched_from.f T.d_searched_from.fd ["turns","lists","dyeing"] (aC Z (P1 m)):=by
 have nd:=hU.nd;refine aO T.d_searched_from.F hU [0,0,0,0,0,1,0,0] (by decide) (λds R h=>by obtain ⟨_,_,_,rfl,_⟩:=h;rfl) (λaW A outer s H E ds R hr h=>?_)
 have hu:=hr.units
 refine ⟨_,(ag (aS false 3 nd (av T.d_chosen_point (nY T) hr (ae (aa 0) (ae (aa 1) (ae (aa 2) af)))))
   (ag (aY (aD lE (aa 3) bw (aM _)) (ai (ay (cW (ae bF (ae (aa 2) af))))) aF)
   (ag (aS false 4 nd (av T.d_dyes_left (fj T) hr (ae (aa 0) (ae (aa 1) (ae (aa 2) (ae (aa 3) af))))))
   (ag (aY (cY (bY (aa 4))) (ai (ay (cW (ae bF (ae (cW (ae bF (ae (aa 3) af))) af))))) aF)
   (ag (pj 5 nd (lV af))
   (ag (dG rfl PassesOwn.never (bx (aK (aa 1) (aa 3))) (aT 6 nd) (ai (aY (aD ua (aa 6) (aa 4) (by with_unfolding_all rfl)) (ag (aS false 7 nd (av T.d_searched_from nH hr (ae (aa 0) (ae (aa 1) (ae (av T.d_with_dye (mM T) hr (ae (aa 2) (ae (aa 3) (ae (aa 6) af)))) af)))))
   (ag (aY (aD (eX hu) (aK (aa 7) aq) bF (aM _)) (ai (ay (aa 7))) aF)
   (ai (tM false 5 (aK (aa 7) aq))))) (ai (tM false 5 bw)))))
   (ai (ay (cW (ae bF (ae (cW (ae bF (ae (aa 3) (ae (b6 zx rfl T.B.tuple iC (ae (aa 5) af)) af)))) af))))))))))),?_⟩
 obtain ⟨w',ls,dy,rfl,z,ok,XF,q1,q2⟩:=h;refine ⟨_,rfl,_,rfl,_,rfl,w',ls,dy,rfl,z,λall=>?_,λp hp hn=>?_⟩
 ·refine ⟨trivial,?_⟩
  refine ⟨_,rfl,_,rfl,aU ?_⟩;exact ⟨_,rfl,by show 2≤sizeLine;decide,q1 dy ok all⟩
 ·refine ⟨trivial,?_⟩
  refine ⟨_,rfl,_,rfl,aI ?_⟩;have xA:p<dy.length:=by rw [z.ld];exact hp
  refine ⟨_,rfl,_,rfl,_,rfl,_,rfl,w',ls,dy,p,rfl,z,hp,trivial,?_⟩;obtain ⟨m',pT⟩:∃m',gz dy=m'+1:=⟨gz (dy.set p (some 0)),(iU xA hn).symm⟩;rw [pT] at q2;refine ⟨_,rfl,rfl,bA (λe=>?_) (λe=>?_)⟩
  ·have hl:left w' ls dy p= []:=by
    rw [sW] at e;simpa using e
   exact ⟨_,rfl,by show 2≤sizeLine;decide,by show 2≤sizeLine;decide,q2 (.full p) ⟨hp,hn,hl⟩⟩
  ·refine ⟨by show 0≤sizeLine;decide,?_⟩
   have zl:=z.lr p;refine ⟨_,rfl,_,rfl,_,aV (mB (by rw [z.ll];exact hp)),ck (λj ρ=>∃(ps:List (Option iY))(o6 o7:Option D),ρ= [some (aX w'),some (cH ls),some (jE dy),some (aw p),some (.lst (au (left w' ls dy p))),some (.lst (ps.map qo)),o6,o7]∧oZ w' ls dy p m' j ps) ⟨[],_,_,rfl,rfl,λk _ hk=>by omega⟩ ?_ ?_⟩
   ·rintro j x _ hx ⟨ps,o6,o7,rfl,up⟩ A' hA
    obtain ⟨d,hd,rfl⟩:=eF hx;have hj:j<(lst ls p).length:=(gF.mp hd).1;have lp:=up.1;have sm:(ps.map qo).length<sizeLine:=cD (by rw [bV];omega)
    refine ⟨_,rfl,_,rfl,rfl,gQ _,_,rfl,?_⟩;rw [if_neg fF,mn];refine bA (λe=>?_) (λe=>?_)
    ·have vi:d∈left w' ls dy p:=of_decide_eq_true e
     have us:=iU (d:=d) xA hn;refine ⟨_,rfl,_,rfl,_,rfl,_,rfl,_,rfl,dy,p,d,rfl,xA,by rw [z.ld];exact z.n8,w',ls,dy.set p (some d),rfl,z.put p d,ok.put z.g hp hn vi,by omega,λdz a b=>?_,λq hq=>?_⟩
     ·refine ⟨trivial,?_⟩
      refine ⟨_,rfl,_,rfl,oO ⟨true,congrArg D.bl (decide_eq_true rfl),aU ?_⟩⟩;exact ⟨_,rfl,q1 dz a b⟩
     ·refine ⟨trivial,?_⟩
      refine ⟨_,rfl,_,rfl,oO ⟨false,congrArg D.bl (by decide+kernel),aI ?_⟩⟩
      refine ⟨_,rfl,_,rfl,_,rfl,trivial,sm,hA _ ⟨ps++ [some q],some (.int d),some (.tup [.str "none",jt q]),?_,up.snoc hd ⟨λ_=>⟨q,rfl,?_⟩,λn=>absurd vi n⟩⟩⟩
      ·rw [ny];rfl
      ·rw [show gz (dy.set p (some d))=m' by omega] at hq;exact hq
    ·have vi:d∉left w' ls dy p:=of_decide_eq_false e
     refine ⟨_,rfl,trivial,sm,hA _ ⟨ps++ [none],some (.int d),o7,?_,up.snoc hd ⟨λn=>absurd n vi,λ_=>rfl⟩⟩⟩;rw [ny];rfl
   ·rintro _ ⟨ps,o6,o7,rfl,up⟩
    rw [bK] at up;refine ⟨_,rfl,_,rfl,by show 3≤sizeLine;decide,by show 2≤sizeLine;decide,?_⟩
    have:=q2 (.jC p ps) ⟨hp,hn,up.1,λi d hi=>up.2 i d (gF.mp hi).1 hi⟩
    rw [jt,qp] at this;exact this
theorem mL{P:Program}{w:World}{mg:Str→Option Value}{base:Heap}{Z:DC}(T:Txt Z mg):FnOk P w Z.K mg base br 11 T.d_searched_from.f T.d_searched_from.fd ["turns","lists","dyeing"] (aC Z (spS 9)):=by
 have all:∀m,FnOk P w Z.K mg base br (2+m) T.d_searched_from.f T.d_searched_from.fd ["turns","lists","dyeing"] (aC Z (spS m)):=by
  intro m
  induction m with
  |zero=>
   refine ((r8 (Z:=Z)).imp ?_).mono (iW _);rintro vs H Q E ⟨G,ds,R,s,dv,⟨w,ls,dy,_,_,_,h,_⟩,q⟩;exact absurd h (Nat.not_lt_zero _)
  |succ m ih=>exact m9 T m (2+m) (by omega) ih
 exact all 9
def oK:bN:=λds P=>∃(w:W)(ls:List (List Int)),ds= [.fb w,cH ls]∧Sz w ls (List.replicate w.length none)∧(∀dz,Ok w ls dz→Full w dz→P (.tup [.str "dyed",jE dz]))∧∀q,jW w ls w.length (List.replicate w.length none) q→P (.tup [.str "none",jt q])
theorem yu{n p:Nat}:bE (List.replicate n none) p=none:=by
 unfold bE;rw [dW,kQ]
 split<;>rfl
theorem Fe{w:W}{ls:List (List Int)}:Ok w ls (List.replicate w.length none):=⟨by simp,λp d h=>by rw [yu] at h;cases h⟩
theorem nj(n:Nat):gz (List.replicate n none)=n:=by
 unfold gz;rw [List.countP_replicate];rfl
theorem DD(n:Nat):(bp 0 n).map (λ_=>D.aN)=(List.replicate n none).map bD:=by
 unfold bp;rw [jB,List.map_replicate];refine wj λi=>?_;rw [dX,kQ]
 by_cases h:i<n
 ·rw [List.getElem?_range h,if_pos h];rfl
 ·rw [dR (by simpa using dU h),if_neg h];rfl
theorem vv{te:aR}{n:Nat}{N:DN→List D→Prop}(ht:te=dC .aN)(hz:n≤sizeLine)(h:∀aE,N aE ((List.replicate n none).map bD)):ig (eh 0) ou te (bp 0 n) [none] [] N:=by
 subst ht
 have:=fM (i:=0) (ρ:= [none]) (λd:D=>d) (λ_=>D.aN) (bp 0 n) N (λy hy Y h=>h) rfl (by unfold bp;simpa using hz) (λaE=>by rw [DD];exact h aE) (te:=dC .aN)
 simpa using this
theorem mK:FnOk P w Z.K mg base br 12 T.d_searched.f T.d_searched.fd ["web","lists"] (aC Z oK):=by
 have nd:=mZ.nd;refine aO T.d_searched.F mZ [0,0] (by decide) (λds R h=>by obtain ⟨_,_,rfl,_⟩:=h;rfl) (λaW A outer s H E ds R hr h=>?_)
 have hu:=hr.units
 refine ⟨_,(ag (BU (av T.d_need_at_most (nZ T) hr (ae (aa 0) (ae (nD rfl T.c_MOST_SEARCHED) af))))
   (ai (ay (av T.d_searched_from (mL T) hr (ae (iE T.W (aa 0) T.m_turns.m (kF T) (hr.mono (by decide)) T.m_turns.b) (ae (aa 1) (ae (i7 (NC:= ["p"]) (src:= [none]) rfl (jD (aj gZ)) trivial (kU rfl T.B.range (ae (iE T.W (aa 0) T.m_many.m (jj T) (hr.mono (by decide)) T.m_many.b) af)) (λ_ _ _=>(bq 0 (show (["p"]:List Str).Nodup from by decide+kernel))) (λ_ _ _=>cO) (λ_ _ _=>bw)) af))))))),?_⟩
 obtain ⟨w',ls,rfl,z,q1,q2⟩:=h;have n8:=z.n8;refine ⟨_,rfl,w',8,rfl,by omega,?_⟩
 refine ⟨_,rfl,w',rfl,w',rfl,by omega,_,rfl,_,rfl,w',rfl,w',rfl,⟨by omega,by omega⟩,?_⟩
 rw [show ((w'.length:Int)).toNat=w'.length by omega]
 refine vv rfl (small (by omega)) λaE=>?_
 exact ⟨w',ls,List.replicate w'.length none,rfl,z,Fe,by rw [nj];omega,q1,by rw [nj];exact q2⟩
end kR
namespace Wb
theorem bZ{u:W}{k o:Nat}(h:o<u.length):row (u++List.replicate k []) o=row u o:=by
 unfold row;rw [dW,qN h,←dW]
theorem fR{u:W}{k o:Nat}(h:u.length≤o):row (u++List.replicate k []) o= []:=by
 unfold row;rw [dW,wb h,kQ]
 split<;>rfl
theorem rZ{u v:W}(hl:u.length=v.length)(h:∀x,x<u.length→row u x=row v x):u=v:=by
 refine wj λi=>?_
 by_cases c:i<u.length
 ·rw [qw c,qw (by omega),h i c]
 ·rw [dR (by omega),dR (by omega)]
theorem A4{u:W}{k o q:Nat}(h:o<u.length):nh (u++List.replicate (k+1) []) o q u.length 0=leaf u o q++List.replicate k []:=by
 have l1:(u++List.replicate (k+1) ([]:List Nat)).length=u.length+(k+1):=by simp
 refine rZ (by rw [cR,l1,fw,cZ,fv];omega) λx hx=>?_
 rw [cR,l1] at hx;rw [j3 (by omega) (by omega)]
 by_cases c:u.length=x
 ·rw [if_pos c,fR (bL _),bZ (u:=leaf u o q) (by rw [cZ];omega),iO h,if_pos c.symm]
  unfold ins;simp
 ·rw [if_neg c]
  by_cases d:o=x
  ·rw [if_pos d,bZ h,bZ (u:=leaf u o q) (by rw [cZ];omega),iO h,if_neg (by omega),if_pos d]
  ·rw [if_neg d]
   by_cases e:x<u.length
   ·rw [bZ e,bZ (u:=leaf u o q) (by rw [cZ];omega),iO h,if_neg (by omega),if_neg d]
   ·rw [fR (by omega),fR (by rw [cZ];omega)]
theorem D7{u:W}{k o q p:Nat}(h:o<u.length)(hp:p<u.length):nh (u++List.replicate k []) o q p 0=nh u o q p 0++List.replicate k []:=by
 have l1:(u++List.replicate k ([]:List Nat)).length=u.length+k:=by simp
 refine rZ (by rw [cR,l1,fw,cR,fv]) λx hx=>?_
 rw [cR,l1] at hx;rw [j3 (by omega) (by omega)]
 by_cases e:x<u.length
 ·rw [bZ (u:=nh u o q p 0) (by rw [cR];exact e),j3 h hp,bZ h,bZ hp,bZ e]
 ·rw [if_neg (by omega),if_neg (by omega),fR (by omega),fR (by rw [cR];omega)]
end Wb
namespace kR
open PySem L2 Wb
variable {P:Program} {w:World} {mg:Str→Option Value} {base:Heap} {Z:DC} (T:Txt Z mg)
open Wy Ws
def A0:bN:=λds P=>∃(ns:List Int)(k:Nat),ds= [.jq ns,aw k]∧∀v:Int,P (.int v)
theorem de:FnOk P w Z.K mg base br 1 T.d__law_cell_at.f T.d__law_cell_at.fd ["_law_script","_law_k"] (aC Z A0):=by
 have nd:=iP.nd;refine aO T.d__law_cell_at.F iP [0,0] (by decide) (λds R h=>by obtain ⟨_,_,rfl,_⟩:=h;rfl) (λaW A outer s H E ds R hr h=>?_)
 have hu:=hr.units
 refine ⟨_,(ag (aY (aD ub (aa 1) (aJ bg rfl T.B.len ba (ae (aa 0) af)) (aM _)) (ai (ay (aK (aa 0) (aa 1)))) aF)
   (ai (ay aq))),?_⟩
 obtain ⟨ns,k,rfl,q⟩:=h;refine ⟨_,rfl,_,rfl,?_⟩;refine ⟨_,rfl,bA (λe=>?_) (λe=>?_)⟩
 ·have hk:k<ns.length:=by
   have:=of_decide_eq_true e
   omega
  exact ⟨_,rfl,_,rfl,_,uL (cS hk),q _⟩
 ·exact q 0
def DS:bN:=λds P=>∃(c:Int),ds= [.int c]∧∀v:Int,P (.int v)
theorem gj:FnOk P w Z.K mg base br 1 T.d__law_drawn.f T.d__law_drawn.fd ["_law_cell"] (aC Z DS):=by
 have nd:=j7.nd;refine aO T.d__law_drawn.F j7 [0,0] (by decide) (λds R h=>by obtain ⟨_,rfl,_⟩:=h;rfl) (λaW A outer s H E ds R hr h=>?_)
 have hu:=hr.units
 refine ⟨_,(ag (aY (DW.dt (jP (aD (eX hu) (aa 0) aq (aM _)) (ja (DW.dt (gO (aD (eX hu) (az bJ (aa 0) aq) aq (aM _)) (iG (aD nV (aa 0) (az uc aq aq) (aM _)))))))) (ai (ay (az bS (aa 0) aq))) aF)
   (ag (aS false 1 nd (az bJ (az cf (az yO (az bJ (aa 0) aq) aq) aq) aq))
   (ag (aS false 1 nd (az bJ (az cf (az yO (aa 1) (aa 1)) aq) aq))
   (ai (ay (az bS (az uc (az cf (aa 1) aq) aq) aq)))))),?_⟩
 obtain ⟨c,rfl,q⟩:=h;have m1:=ik (c%2147483629*48271+7919) 2147483647 (by decide)
 have m2:=ik ((c%2147483629*48271+7919)%2147483647*((c%2147483629*48271+7919)%2147483647)+104729) 2147483629 (by decide)
 have fin:∀v:Int,R (.int v):=q;refine ⟨_,rfl,BZ ⟨_,rfl,bA (λ_=>aU ⟨_,rfl,⟨by decide,by decide⟩,q _⟩) (λ_=>?_)⟩⟩
 refine ⟨_,rfl,(by show (0:Int)<2;decide),BZ ⟨_,rfl,bA (λ_=>⟨_,rfl,⟨by decide,by decide,by decide⟩,_,rfl,bA (λ_=>⟨_,rfl,⟨by decide,by decide⟩,q _⟩) (λ_=>?_)⟩) (λ_=>aI ?_)⟩⟩
 ·refine ⟨_,rfl,(by show (0:Int)<2147483629;decide), .inr ⟨by decide,by decide⟩,(by show (0:Int)<2147483647;decide),trivial,?_⟩
  refine ⟨_,rfl,_,rfl, .inl ⟨by dsimp only;omega,by dsimp only;omega⟩,(by show (0:Int)<2147483629;decide),trivial,?_⟩
  exact ⟨_,rfl,⟨by decide,by decide,by dsimp only;omega⟩,⟨by decide,by decide⟩,q _⟩
 ·refine ⟨_,rfl,(by show (0:Int)<2147483629;decide), .inr ⟨by decide,by decide⟩,(by show (0:Int)<2147483647;decide),trivial,?_⟩
  refine ⟨_,rfl,_,rfl, .inl ⟨by dsimp only;omega,by dsimp only;omega⟩,(by show (0:Int)<2147483629;decide),trivial,?_⟩
  exact ⟨_,rfl,⟨by decide,by decide,by dsimp only;omega⟩,⟨by decide,by decide⟩,q _⟩
theorem vt{i:Nat}:∀(items:List D)(ρ:DN)(acc:List D)(N:List D→Prop),acc.length+items.length≤sizeLine→N (acc++List.replicate items.length (.lst []))→tY (eh i) (GV eO) items ρ acc N
 | [],ρ,acc,N,_,h=>by
  show N acc;simpa using h
 |x::xs,ρ,acc,N,hz,h=>by
  rw [cJ] at hz;refine ⟨by show 0≤sizeLine;decide,by omega,?_⟩
  refine vt xs _ (acc++ [.lst []]) N (by simp;omega) ?_
  rw [List.append_assoc];exact h
theorem sX(w:W)(i:Nat)(r:List Nat):(w.map aQ).set i (aQ r)=(w.set i r).map aQ:=by rw [List.map_set]
theorem sq(r:List Nat)(i x:Nat):ins (r.map aw) i (aw x)=(ins r i x).map aw:=by
 unfold ins;simp [List.map_take,List.map_drop]
def DX:bN:=λds P=>∃(n:Nat)(m:Int),ds= [aw n, .int m]∧1≤n∧n≤14∧∀w,Good w→w.length=n→P (aX w)
theorem ky:FnOk P w Z.K mg base br 1 T.d__law_tied_turns.f T.d__law_tied_turns.fd ["_law_many","_law_number"] (aC Z DX):=by
 have nd:=fJ.nd;refine aO T.d__law_tied_turns.F fJ [0,0,2,0,0,0,0] (by decide) (λds R h=>by obtain ⟨_,_,rfl,_⟩:=h;rfl) (λaW A outer s H E ds R hr h=>?_)
 have hu:=hr.units
 refine ⟨_,(ag (i9 2 (NC:= ["_law_k"]) (src:= [none]) rfl nd (jD (aj cC)) trivial (kU rfl T.B.range (ae (aa 0) af)) (λ_ _ _=>(bq 0 (show (["_law_k"]:List Str).Nodup from by decide+kernel))) (λ_ _ _=>(lV af)))
   (ag (aS false 3 nd (az cf aq (az bJ (aa 1) aq)))
   (ag (aS false 1 nd (az bS (aa 1) aq))
   (ag (jN rfl PassesOwn.never (wR rfl T.B.range (ae aq (ae (aa 0) af))) (aT 4 nd) (ag (aS false 5 nd (az bJ (aa 1) (aa 4)))
   (ag (aS false 1 nd (az bS (aa 1) (aa 4)))
   (ai (jN rfl PassesOwn.never (i8 rfl T.B.range (ae (aa 4) af)) (aT 6 nd) (ag (aY (DW.dt (jP (aD (eX hu) (aa 6) (aa 5) (aM _)) (ja (aD (eX hu) (az bJ (aa 1) (aa 3)) aq (aM _))))) (ag (uY false 2 (aa 6) (az bJ (az bS (aa 1) (aa 3)) (az cf (aJ bg rfl T.B.len ba (ae (aK (aa 2) (aa 6)) af)) aq)) (aa 4))
   (ai (uY false 2 (aa 4) aq (aa 6)))) aF)
   (ai (aS true 1 nd (az bS (az bS (aa 1) (aa 3)) (az cf (aJ bg rfl T.B.len ba (ae (aK (aa 2) (aa 6)) af)) aq))))))))))
   (ai (ay (aa 2))))))),?_⟩
 obtain ⟨n,m,rfl,h1,h8,q⟩:=h;refine ⟨_,rfl,⟨by show-(2^62)≤(n:Int);omega,by show (n:Int)<2^62;omega⟩,?_⟩
 have lr:(bp 0 n).length=n:=by unfold bp;simp
 refine vt _ _ [] _ (by show 0+(bp 0 n).length≤_;rw [lr];exact small (by omega)) ?_
 have e0:D.lst ([]++List.replicate (bp 0 ((n:Int)).toNat).length (.lst []))=aX (List.replicate n []):=by
  unfold aX;rw [show ((n:Int)).toNat=n by omega,lr,List.map_replicate];rfl
 rw [e0];have tk:=ik m 4 (by decide)
 refine ⟨_,rfl,(by show (0:Int)<4;decide),trivial,?_⟩
 refine ⟨_,rfl,⟨by decide,by decide⟩,trivial,?_⟩
 refine ⟨_,rfl,⟨by decide,by decide,by show-(2^62)≤(n:Int);omega,by show (n:Int)<2^62;omega⟩,?_⟩
 rw [show ((n:Int)-1).toNat=n-1 by omega]
 generalize XB:1+m%4=th;have J0:0<th∧th<1073741824:=by omega
 refine vb (λj ρ=>∃(x:Int)(v:W)(o4 o5 o6:Option D),ρ= [some (aw n),some (.int x),some (aX (v++List.replicate (n-j-1) [])),some (.int th),o4,o5,o6]∧Good v∧v.length=j+1) ?_ ?_ ?_
 ·refine ⟨m / 4,[[]],none,none,none,?_,zS,rfl⟩
  have:List.replicate n ([]:List Nat)= [[]]++List.replicate (n-0-1) []:=by
   obtain ⟨k,rfl⟩:∃k,n=k+1:=⟨n-1,by omega⟩
   rfl
  rw [this];rfl
 ·rintro j _ hj ⟨x,v,o4,o5,o6,rfl,gv,lv⟩ A hA
  have Jh:(0:Int)<1+(j:Int):=by omega
  have fi:=ik x (1+(j:Int)) Jh;refine ⟨_,rfl,_,rfl,Jh,trivial,?_⟩;refine ⟨_,rfl,_,rfl,⟨Jh,by show 1+(j:Int)<1073741824;omega⟩,trivial,?_⟩
  refine ⟨_,rfl,⟨by show-(2^62)≤1+(j:Int);omega,by show 1+(j:Int)<2^62;omega⟩,?_⟩
  rw [show ((1:Int)+(j:Int)).toNat=j+1 by omega]
  obtain ⟨fs,MG⟩:∃fs,fs=x%(1+(j:Int)):=⟨_,rfl⟩;rw [←MG] at fi;refine kh (λo ρ=>∃(y:Int)(u:W)(o6:Option D)(k:Nat),ρ= [some (aw n),some (.int y),some (aX (u++List.replicate k [])),some (.int th),some (.int (1+(j:Int))),some (.int fs),o6]∧Good u∧u.length+k=n∧((u.length=j+1∧¬fs<o)∨(u.length=j+2∧∀a∈row u (j+1),a<o))) ?_ ?_ ?_
  ·exact ⟨x / (1+(j:Int)),v,o6,n-j-1,by rw [MG];rfl,gv,by omega, .inl ⟨lv,by omega⟩⟩
  ·rintro o _ ho ⟨y,u,o6,k,rfl,gu,lu,hs⟩ A' kZ
   have lo:o<u.length:=by omega
   have rl:∀x,(row u x).length≤14:=λx=>by have:=qy gu x;omega
   have fin:∀(E':bQ)(u':W)(k':Nat),E'.nx=A'→Good u'→u'.length+k'=n→((u'.length=j+1∧¬fs<((o+1:Nat):Int))∨(u'.length=j+2∧∀a∈row u' (j+1),a<o+1))→
     dSet [0,0,2,0,0,0,0] true 1 (gI lT (gI lT (cu 1) (cu 3)) (gI rR (fV fT (jM (gI zC (cu 2) (cu 6)) eO)) (dC (D.int 1)))) E' [some (aw n),some (.int y),some (aX (u'++List.replicate k' [])),some (.int th),some (.int (1+(j:Int))),some (.int fs),some (aw o)]:=by
    intro E' u' k' hE EF Jz Ji;have Vp:o<u'.length:=by omega
    have XU:(row u' o).length≤14:=by have:=qy EF o;omega
    have e1:cE ((u'++List.replicate k' []).map aQ) ((o:Nat):Int)=some (aQ (row u' o)):=by
     have:=aV (cI (w:=u'++List.replicate k' []) (p:=o) (by rw [fw];omega))
     rw [bZ Vp] at this;exact this
    refine ⟨_,rfl,_,rfl,J0,_,rfl,_,rfl,_,e1,?_⟩;dsimp only [eO,fT,aQ];refine ⟨⟨by show (0:Int)<(((row u' o).map aw).length:Int)+1;omega,by show (((row u' o).map aw).length:Int)+1<1073741824;rw [bV];omega⟩,rfl,?_⟩
    rw [hE];exact kZ _ ⟨_,u',_,k',rfl,EF,Jz,Ji⟩
   have l1:(u++List.replicate k ([]:List Nat)).length=n:=by rw [fw,fv];exact lu
   have lm:∀v:W,(v.map aQ).length=v.length:=λv=>bV _
   have put:∀(E':bQ),E'.nx=A'→yx (wL [0,0,2,0,0,0,0] false 2 (cu 6) (gI GN (gI lT (cu 1) (cu 3)) (gI rR (fV fT (jM (gI zC (cu 2) (cu 6)) eO)) (dC (D.int 1)))) (cu 4)) (wL [0,0,2,0,0,0,0] false 2 (cu 4) (dC (D.int 0)) (cu 6))
     {E' with nx:=dSet [0,0,2,0,0,0,0] true 1 (gI lT (gI lT (cu 1) (cu 3)) (gI rR (fV fT (jM (gI zC (cu 2) (cu 6)) eO)) (dC (D.int 1)))) E'} [some (aw n),some (.int y),some (aX (u++List.replicate k [])),some (.int th),some (.int (1+(j:Int))),some (.int fs),some (aw o)]:=by
    intro E' hE
    have e1:cE ((u++List.replicate k []).map aQ) ((o:Nat):Int)=some (aQ (row u o)):=by
     have:=aV (cI (w:=u++List.replicate k []) (p:=o) (by omega))
     rw [bZ lo] at this;exact this
    have e2:((u++List.replicate k []).map aQ)[o]? =some (.lst ((row u o).map aw)):=by
     have:=cI (w:=u++List.replicate k []) (p:=o) (by omega)
     rw [bZ lo] at this;exact this
    refine ⟨_,rfl,_,rfl,_,o,_,rfl,by rw [lm,l1];exact ki (by omega),e2,_,rfl,_,rfl,J0,_,rfl,_,rfl,_,e1,?_⟩
    dsimp only [eO,fT,aQ];have XX:=rl o;have lq:(((row u o).map aw).length:Int)=((row u o).length:Int):=by rw [bV]
    have mq:=ik (y / th) (((row u o).length:Int)+1) (by omega)
    refine ⟨by show (0:Int)<(((row u o).map aw).length:Int)+1;omega,_,rfl,_,rfl,trivial,⟨?_,?_,cD (by rw [bV];omega)⟩,?_⟩
    ·rw [lq];exact mq.1
    ·rw [lq];show y / th%(((row u o).length:Int)+1)≤_;omega
    generalize (((λi j=>i%j) (y / th) (((row u o).map aw).length+1:Int)).toNat)=iq;have l2:((u++List.replicate k ([]:List Nat)).set o (ins (row u o) iq (j+1))).length=n:=by rw [dm,l1]
    have es:((u++List.replicate k []).map aQ).set o (.lst (ins ((row u o).map aw) iq (.int (1+(j:Int)))))=((u++List.replicate k []).set o (ins (row u o) iq (j+1))).map aQ:=by
     rw [←sX]
     congr 1
     unfold aQ;rw [←sq];unfold aw;rw [show ((j+1:Nat):Int)=1+(j:Int) by omega]
    have er:row ((u++List.replicate k []).set o (ins (row u o) iq (j+1))) (j+1)=row (u++List.replicate k []) (j+1):=by
     rw [mU (by omega),if_neg (by omega)]
    have XW:(row (u++List.replicate k []) (j+1)).length≤14:=by
     by_cases c:j+1<u.length
     ·rw [bZ c];exact rl _
     ·rw [fR (by omega)];exact iW _
    refine ⟨((u++List.replicate k []).set o (ins (row u o) iq (j+1))).map aQ,by rw [←es];rfl,_,rfl,1+(j:Int),j+1,(row (u++List.replicate k []) (j+1)).map aw,rfl,?_,?_,0,rfl,_,rfl,trivial,⟨by decide,by omega,cD (by rw [bV];omega)⟩,?_⟩
    ·rw [lm,l2,show 1+(j:Int)=((j+1:Nat):Int) by omega];exact ki (by omega)
    ·have:=cI (w:=(u++List.replicate k []).set o (ins (row u o) iq (j+1))) (p:=j+1) (by omega)
     rw [er] at this;exact this
    have e3:D.lst ((((u++List.replicate k []).set o (ins (row u o) iq (j+1))).map aQ).set (j+1) (.lst (ins ((row (u++List.replicate k []) (j+1)).map aw) (0:Int).toNat (aw o))))=aX (nh (u++List.replicate k []) o iq (j+1) 0):=by
     have e5:=sX ((u++List.replicate k []).set o (ins (row u o) iq (j+1))) (j+1) (ins (row (u++List.replicate k []) (j+1)) 0 o)
     have e4:aQ (ins (row (u++List.replicate k []) (j+1)) 0 o)= .lst (ins ((row (u++List.replicate k []) (j+1)).map aw) 0 (aw o)):=by
      unfold aQ;rw [←sq]
     rw [e4] at e5;unfold nh aX;rw [bZ lo,←e5];rfl
    obtain ⟨u',k',eT,EF,Jz,Ji⟩:∃u' k',nh (u++List.replicate k []) o iq (j+1) 0=u'++List.replicate k' []∧Good u'∧u'.length+k'=n∧((u'.length=j+1∧¬fs<((o+1:Nat):Int))∨(u'.length=j+2∧∀a∈row u' (j+1),a<o+1)):=by
     rcases hs with ⟨h,hf⟩ | ⟨h,ha⟩
     ·obtain ⟨k',rfl⟩:∃k',k=k'+1:=⟨k-1,by omega⟩
      refine ⟨leaf u o iq,k',?_,xg gu lo,by rw [cZ];omega, .inr ⟨by rw [cZ];omega,λa ha=>?_⟩⟩
      ·have:=A4 (k:=k') (q:=iq) lo
       rw [h] at this;exact this
      ·rw [iO lo,if_pos h.symm] at ha
       have:a=o:=by simpa using ha
       omega
     ·have nt:j+1∉row u o:=λz=>absurd (ha o (gu.sym _ _ z)) (gE _)
      refine ⟨nh u o iq (j+1) 0,k,D7 lo (by omega),zT gu lo (by omega) (by omega) nt,by rw [cR];exact lu, .inr ⟨by rw [cR];exact h,λa hm=>?_⟩⟩
      rw [j3 lo (by omega),if_pos rfl,bH] at hm
      rcases hm with hm|hm
      ·omega
      ·have:=ha a hm;omega
    have:=fin E' u' k' hE EF Jz Ji
    rw [←eT,←e3] at this;exact this
   have WN:∀(E':bQ),E'.nx=A'→¬(o:Int)=fs→dSet [0,0,2,0,0,0,0] true 1 (gI lT (gI lT (cu 1) (cu 3)) (gI rR (fV fT (jM (gI zC (cu 2) (cu 6)) eO)) (dC (D.int 1)))) E' [some (aw n),some (.int y),some (aX (u++List.replicate k [])),some (.int th),some (.int (1+(j:Int))),some (.int fs),some (aw o)]:=λE' hE ne=>
    fin E' u k hE gu lu (by
     rcases hs with ⟨h,hf⟩ | ⟨h,ha⟩
     ·exact .inl ⟨h,by omega⟩
     ·exact .inr ⟨h,λa hm=>by have:=ha a hm;omega⟩)
   refine ⟨_,rfl,_,rfl,uV ⟨_,rfl,bA (λ_=>aU (put _ rfl)) (λe=>?_)⟩⟩;have ne:¬(o:Int)=fs:=of_decide_eq_false e;exact ⟨_,rfl,_,rfl,J0.1,BZ ⟨_,rfl,bA (λ_=>put _ rfl) (λ_=>WN _ rfl ne)⟩⟩
  ·rintro _ ⟨y,u,o6,k,rfl,gu,lu,hs⟩
   have:u.length=j+2:=by
    rcases hs with h|h
    ·exact absurd (show fs<((j+1:Nat):Int) by omega) h.2
    ·exact h.1
   refine hA _ ⟨y,u,some (.int (1+(j:Int))),some (.int fs),o6,?_,gu,by omega⟩
   rw [show n-(j+1)-1=k by omega]
 ·rintro _ ⟨x,v,o4,o5,o6,rfl,gv,lv⟩
  refine ⟨_,rfl,?_⟩;rw [show n-(n-1)-1=0 by omega,List.replicate_zero,iV]
  exact q v gv (by omega)
end kR
namespace L2
open PySem PySem.Spec PyProof.Rows PySem.MeetsSeq
section
variable {X:Cx}
def Dz:V→List V→Hp→VK→Prop:=λx vs H Q=>∃(l:Addr)(ns:List Int)(k:Int)(j:Nat),x= .ref l∧vs= [.int k]∧H l=some (.lst (ns.map V.int))∧ns[j]? =some k∧(∀m,m<j→ns[m]? ≠some k)∧Q .aN (upd H l (.lst ((ns.eraseIdx j).map V.int)))
def Ju(k:Int):Value→Bool
 | .int a _=>a==k
 |_=>false
theorem xK:Bd X "list.remove" Dz:=by
 intro pins s σ H x vs v us Q I rx rv h;obtain ⟨l,ns,k,j,rfl,rfl,hH,hj,CD,q⟩:=h;cases rx;obtain ⟨u,rfl,ru⟩:=rv.one;obtain ⟨tk,rfl⟩:=ru;obtain ⟨z,its,n,r,hl,e⟩:=I.mD hH;have len:=r.length;rw [bV] at len;have S7:j<ns.length:=(gF.mp hj).1
 have jX:∀(m:Nat)(hm:m<ns.length),∃t,its[m]? =some (.int ns[m] t):=λm hm=>by
  obtain ⟨w,hw,qz⟩:=r.get (i:=m) (x:= .int ns[m]) (by rw [dX,cS hm];rfl)
  obtain ⟨t,rfl⟩:=qz;exact ⟨t,hw⟩
 have he:∀y,y∈its.toArray→EqGives y (.int k tk) (Ju k y):=λy hy=>by
  have hy:y∈its:=by simpa using hy
  obtain ⟨m,hm,rfl⟩:=List.mem_iff_getElem.mp hy;obtain ⟨t,ht⟩:=jX m (by omega)
  have:its[m]= .int ns[m] t:=by
   rw [cS hm] at ht;exact Option.some.inj ht
  rw [this];exact EqGives.int _ _ _ _
 have val:∀(m:Nat)(hm:m<its.toArray.size),Ju k its.toArray[m]=decide (ns[m]? =some k):=λm hm=>by
  have pT:m<its.length:=by simpa using hm
  obtain ⟨t,ht⟩:=jX m (by omega)
  have e1:its.toArray[m]= .int (ns[m]'(by omega)) t:=by
   rw [cS pT] at ht;simpa using Option.some.inj ht
  rw [e1,cS (by omega)]
  show ((ns[m]'(by omega))==k)=_
  by_cases c:ns[m]'(by omega)=k
  ·simp [c]
  ·simp [c]
 have rq:its.toArray.size=ns.length:=by simp [len]
 refine call_meets F.slot_list_remove ⟨_,e,rfl⟩ F.entry_list_remove (F.args_list_remove_2 _ _) (list_remove l its.toArray n _ (Ju k) he j (by omega) (by rw [val _ (by omega),hj];simp) (λm hm Jc=>by rw [val m hm];exact decide_eq_false (CD m Jc)) (by rw [rq];simpa using z)) ⟨e,?_⟩
 refine ⟨.aN,_,I.vx (its':=its.eraseIdx j) (f:=λxs=>xs.eraseIdxIfInBounds j) hH e ?_ ?_ ?_,rfl,q⟩
 ·unfold Array.eraseIdxIfInBounds
  rw [dif_pos (by rw [rq];exact S7)]
  simp
 ·refine Vals.of_get (by rw [bV,List.length_eraseIdx,List.length_eraseIdx,len]) λm x u hx hu=>?_
  rw [dX,List.getElem?_eraseIdx] at hx;rw [List.getElem?_eraseIdx] at hu
  by_cases c:m<j
  ·rw [if_pos c] at hx hu
   have hm:m<ns.length:=by omega
   obtain ⟨t,ht⟩:=jX m hm;rw [ht] at hu;rw [cS hm] at hx;cases hx;cases hu;exact ⟨t,rfl⟩
  ·rw [if_neg c] at hx hu
   have hm:m+1<ns.length:=by
    by_cases c2:m+1<ns.length
    ·exact c2
    ·rw [dR (by omega)] at hx;cases hx
   obtain ⟨t,ht⟩:=jX (m+1) hm;rw [ht] at hu;rw [cS hm] at hx;cases hx;cases hu;exact ⟨t,rfl⟩
 ·have h1:(ns.eraseIdx j).length≤ns.length:=by rw [List.length_eraseIdx];split<;>omega
  rw [bV] at z ⊢;omega
end
section
variable {Z:DC} {X:Cx} {md:List Nat} {rn:Nat} {e k:Expr} {pos apos aZ:Pos} {te tp:aR}
def Io(i:Nat)(tp te:aR):bO:=λE ρ=>∃cX,ρ[i]? =some (some (.lst cX))∧tp ρ λpp=>∃p j ns,pp= .int p∧gc cX.length p=some j∧cX[j]? =some (.lst ((ns:List Int).map D.int))∧
 te ρ λd=>∃k q,d= .int k∧ns[q]? =some k∧(∀m,m<q→ns[m]? ≠some k)∧E.nx (ρ.set i (some (.lst (cX.set j (.lst ((ns.eraseIdx q).map D.int))))))
theorem uZ(i:Nat){x:Str}{px ps:Pos}(hp:DE Z X k tp)(he:DE Z X e te)(hm:md.getD i 0=2:=by rfl)(Jg:iA k:=by exact λ_ _=>rfl)(hi:X.N[i]? =some x:=by rfl)(hv:jJ X.env.scope x:=by first|exact Or.inl rfl|exact Or.inr (Or.inl rfl) |exact Or.inr (Or.inr rfl))(hd:(x==("__debug__":Str))=false:=by decide)(eB:(x==("__classdict__":Str))=false:=by decide)
  (cP:attributeBase (.Subscript (.Name x px) k ps) "remove" X.env (eval (.Subscript (.Name x px) k ps) X.env)=eval (.Subscript (.Name x px) k ps) X.env:=by rfl)
  (fZ:((backTo aZ (starEach [e] X.env)).all (λx=>!x.1)&&(backToKw aZ (keywordEach [] X.env)).all (λx=>x.1.isSome)&&decide (([e]:List Expr).length+([]:List Keyword).length+(if ([]:List Keyword).isEmpty then 0 else 1)<30))=true:=by rfl)
  (dk:(apos.endLine==aZ.line)=true:=by rfl) (hs:starEach [e] X.env=(false,eval e X.env)::starEach [] X.env:=by rfl) (eD:(backTo aZ (starEach [] X.env)).any (·.1)=false:=by rfl)
  (je:swapsWith (.Call (.Attribute (.Subscript (.Name x px) k ps) "remove" apos) [e] [] aZ) none pos.line X.env=pure false:=by rfl):
  DSt Z X md rn (.Expr (.Call (.Attribute (.Subscript (.Name x px) k ps) "remove" apos) [e] [] aZ) pos) (Io i tp te):=by
 refine (cQ (jl PySem.F.plainAttrs_list PySem.F.slot_list_remove PySem.F.type_list_remove xK (jm eE (pv i hi hv hd eB) hp Jg) (aG he bj hs) cP fZ dk hs eD) je).imp ?_;rintro D σ H ⟨B,ρ,E,⟨G,fp,S⟩,⟨cX,h1,h⟩,M⟩;obtain ⟨v0,jU,o⟩:=S.at_ i _ h1;refine ⟨_,jU,S.ev true h ?_⟩;rintro _ ⟨p,j,ns,rfl,hj,hd,h⟩;refine ⟨rfl,λv1 G1 H1 S1 x1 wW=>?_⟩;cases wW;obtain ⟨T,ys,l,xs,eu,e1,e2,e3,e4,e5,e6,bc,_⟩:=S1.two hm h1 hd;rw [e2] at jU;cases jU;refine ⟨T,ys,p, .ref l,rfl,rfl,bb.of e3,pd e4 hj e5,ty_list e6,S1.ev true h ?_⟩;rintro _ ⟨k,q,rfl,hq,CD,Tb⟩;refine ⟨rfl,λv G' H' S' x dv=>?_⟩;cases dv;obtain ⟨T',J7,l',fE,R9,Ir,fq,ma,Sg,BW,EA,u4,put⟩:=S'.two hm h1 hd;cases Ir;rw [e2] at fq;cases fq
 have:J7=ys:=by
  have:=x.hh _ _ e3
  rw [ma] at this;cases this;rfl
 rw [this,e5] at BW;cases BW;rw [lZ u4] at EA;exact ⟨l,ns,k,q,rfl,rfl,EA,hq,CD,M.nx _ Tb _ _ ⟨G',fp,put _ _ (.ints _)⟩⟩
end
end L2
namespace Ws
open Wb
inductive Pq where
 |full (p:Int)
 |jC (p:Int) (ps:List (Option Pq))
def Pq.pt:Pq→Int
 | .full p=>p
 | .jC p _=>p
def lG(dy:Dy)(p:Int):Bool:=decide (0≤p∧p<(dy.length:Int))&&(bE dy p.toNat).isNone
def b7(w:W)(ls:List (List Int)):Nat→Dy→Option Pq→Bool
 |0,_,_=>false
 |_+1,_,none=>false
 |_+1,dy,some (.full p)=>lG dy p&&(left w ls dy p.toNat).isEmpty
 |m+1,dy,some (.jC p ps)=>lG dy p&&(decide (ps.length=(lst ls p.toNat).length)&&((lst ls p.toNat).zip ps).all λt=>if t.1∈left w ls dy p.toNat then b7 w ls m (dy.set p.toNat (some t.1)) t.2 else t.2.isNone)
theorem w6{w:W}{ls:List (List Int)}(m:Nat)(dy:Dy):b7 w ls m dy none=false:=by cases m<;>rfl
theorem r0{w:W}{ls:List (List Int)}(m:Nat){dy:Dy}{q:Pq}(h:lG dy q.pt=false):b7 w ls m dy (some q)=false:=by
 cases m with
 |zero=>rfl
 |succ m=>
  cases q with
  |full p=>rw [b7];show (lG dy p&&_)=false;rw [show lG dy p=false from h];rfl
  |jC p ps=>rw [b7];show (lG dy p&&_)=false;rw [show lG dy p=false from h];rfl
theorem km{dy:Dy}{p:Int}(h:lG dy p=true):∃k:Nat,p=(k:Int)∧k<dy.length∧bE dy k=none:=by
 unfold lG at h;rw [jA] at h;obtain ⟨h1,h2⟩:=h;have h1:=of_decide_eq_true h1;refine ⟨p.toNat,by omega,by omega,?_⟩
 cases e:bE dy p.toNat with
 |none=>rfl
 |some d=>rw [e] at h2;cases h2
theorem pz{dy:Dy}{k:Nat}(h:k<dy.length)(hn:bE dy k=none):lG dy (k:Int)=true:=by
 unfold lG;rw [decide_eq_true ⟨by omega,by omega⟩,nq,hn];rfl
mutual
def rb:iY→Pq
 | .full p=> .full (p:Int)
 | .jC p ps=> .jC (p:Int) (oy ps)
def oy:List (Option iY)→List (Option Pq)
 | []=> []
 |o::os=>rW o::oy os
def rW:Option iY→Option Pq
 |none=>none
 |some q=>some (rb q)
end
theorem rY:∀ps:List (Option iY),oy ps=ps.map rW
 | []=>by rw [oy];rfl
 |o::os=>by rw [oy,rY os];rfl
theorem rX{w:W}{ls:List (List Int)}:∀(m:Nat)(dy:Dy)(q:iY),jW w ls m dy q→dy.length=w.length→b7 w ls m dy (some (rb q))=true
 |0,_,_,h,_=>h.elim
 |m+1,dy, .full p,⟨h1,h2,h3⟩,hl=>by
  rw [rb,b7,pz (by omega) h2,nq,h3];rfl
 |m+1,dy, .jC p ps,⟨h1,h2,h4,h3⟩,hl=>by
  rw [rb,b7,pz (by omega) h2,nq,rY,bV,decide_eq_true h4,tm,tm,List.all_eq_true]
  rintro ⟨d,o⟩ ht;obtain ⟨i,hi⟩:=we ht;rw [Ed,dX] at hi;obtain ⟨h5,h6⟩:=hi
  obtain ⟨o',h7,h8⟩:∃o',ps[i]? =some o'∧rW o'=o:=by
   cases e:ps[i]? with
   |none=>rw [e] at h6;cases h6
   |some o'=>rw [e] at h6;exact ⟨o',rfl,Option.some.inj h6⟩
  obtain ⟨a,b⟩:=h3 i d h5;subst h8;show (if d∈left w ls dy p then _ else _)=true
  by_cases c:d∈left w ls dy p
  ·rw [if_pos c]
   obtain ⟨q,hq,hp⟩:=a c;rw [h7] at hq;cases hq;exact rX m _ q hp (by rw [dm];exact hl)
  ·rw [if_neg c]
   have:=b c
   rw [h7] at this;cases this;rfl
end Ws
namespace kR
open PySem L2 Wb
variable {P:Program} {w:World} {mg:Str→Option Value} {base:Heap} {Z:DC} (T:Txt Z mg)
open Wy Ws
theorem z9(r:List Int)(i:Nat)(x:Int):ins (au r) i (.int x)=au (ins r i x):=by
 unfold ins au;simp [List.map_take,List.map_drop]
def FX:bN:=λds P=>∃(w:W),ds= [aX w]∧Good w∧1≤w.length∧w.length≤14∧P (.fb w)
theorem ue:FnOk P w Z.K mg base br 6 T.d__law_web.f T.d__law_web.fd ["_law_turns"] (aC Z FX):=by
 have nd:=mW.nd;refine aO T.d__law_web.F mW [0] (by decide) (λds R h=>by obtain ⟨_,rfl,_⟩:=h;rfl) (λaW A outer s H E ds R hr h=>?_)
 have hu:=hr.units;refine ⟨_,(ai (ay (BK T.mkW (iM T) (hr.mono (by decide)) rfl T.mC T.m___init__b (ae (i7 (NC:= ["_law_row"]) (src:= [none]) rfl (jD (aj gX)) trivial (bx (aa 0)) (λ_ _ _=>(bq 0 (show (["_law_row"]:List Str).Nodup from by decide+kernel))) (λ_ _ _=>cO) (λ_ _ _=>(b6 fU rfl T.B.list cF (ae (aa 0) af)))) af)))),?_⟩
 obtain ⟨w',rfl,g,h1,dq,q⟩:=h;exact ⟨_,rfl,fM (ρ:= [none]) aQ aQ w' _ (λy hy Y h=>⟨_,rfl,h⟩) rfl (small (by omega)) λaE=>⟨w',rfl,g,h1,dq,q⟩⟩
theorem Hv{t:bO}{E:bQ}{ρ:DN}(aE:DN)(e:ρ=aE)(h:t E aE):t E ρ:=by rw [e];exact h
theorem F4{x:Int}{a b:D}(h:x=0∨x=1):cE [a,b] x=some a∨cE [a,b] x=some b:=by
 rcases h with e|e
 ·left;rw [e];rfl
 ·right;rw [e];rfl
theorem Su{i j:Int}{P:D→Prop}{ρ:DN}(h:P (.bl (decide (j<i)))):dC (.int j) ρ (λb=>Ic (.int i) b P):=h
theorem Vr{i j:Int}{P:D→Prop}{ρ:DN}(h:P (.bl (decide (i<j)))):dC (.int j) ρ (λb=>Lz (.int i) b P):=h
def A2:bN:=λds P=>∃(n:Nat)(c v:Int),ds= [aw n, .int c, .int v]∧n≤14∧∀ls:List (List Int),ls.length=n→(∀l∈ls,l.length≤4)→P (cH ls)
theorem oU:FnOk P w Z.K mg base br 1 T.d__law_listed.f T.d__law_listed.fd ["_law_many","_law_cell","_law_number"] (aC Z A2):=by
 have nd:=ju.nd;refine aO T.d__law_listed.F ju [0,0,0,0,0,1,0,1,0] (by decide) (λds R h=>by obtain ⟨_,_,_,rfl,_⟩:=h;rfl) (λaW A outer s H E ds R hr h=>?_)
 have hu:=hr.units
 refine ⟨_,(ag (aS false 3 nd (aK (gN (ae aq (ae (az mE (az bJ (aa 1) (az mE (az uc aq aq) aq)) aq) af))) (az bS (az bJ (aa 1) aq) aq)))
   (ag (aS false 4 nd (az cf aq (az bJ (aa 2) aq)))
   (ag (aS false 2 nd (az bS (aa 2) aq))
   (ag (pj 5 nd (lV af))
   (ag (jN rfl PassesOwn.never (i8 rfl T.B.range (ae (aa 0) af)) (aT 6 nd) (ag (pj 7 nd (lV af))
   (ag (jN rfl PassesOwn.never (i8 rfl T.B.range (ae (aa 4) af)) (aT 8 nd) (ag (aY (DW.dt (gO (aD nV (az bJ (aa 2) aq) aq (aM _)) (iG (aD ub (aJ bg rfl T.B.len ba (ae (aa 7) af)) aq (aM _))))) (ag (Ex false 7 (az bJ (az bS (aa 2) aq) (az cf (aJ bg rfl T.B.len ba (ae (aa 7) af)) aq)) (az cf (aa 3) (aa 8)))
   (ai (aS true 2 nd (az bS (aa 2) (aJ bg rfl T.B.len ba (ae (aa 7) af)))))) aF)
   (ai (aS false 2 nd (az bS (aa 2) aq)))))
   (ai (BS 5 7)))))
   (ai (ay (aa 5)))))))),?_⟩
 obtain ⟨n,c,v,rfl,dq,q⟩:=h;have m3:=ik c 3 (by decide)
 have m5:=ik v 5 (by decide)
 obtain ⟨base,cP⟩:∃b:Int,cE [D.int 0, .int (c%(10^60-10)-9)] (c%3 / 2)=some (.int b):=by
  rcases F4 (x:=c%3 / 2) (a:=D.int 0) (b:= .int (c%(10^60-10)-9)) (by omega) with e|e
  ·exact ⟨_,e⟩
  ·exact ⟨_,e⟩
 refine ⟨_,rfl,⟨by decide,by decide,by decide⟩,(by show (0:Int)<10^60-10;decide),by show 2≤sizeLine;decide,_,rfl,(by show (0:Int)<3;decide),⟨by decide,by decide⟩,_,cP,trivial,?_⟩
 refine ⟨_,rfl,(by show (0:Int)<5;decide),trivial,?_⟩
 obtain ⟨k,hk,k5⟩:∃k:Nat,(1:Int)+v%5=(k:Int)∧k≤5:=⟨(1+v%5).toNat,by omega,by omega⟩
 have e1:D.int (1+v%5)=aw k:=by unfold aw;rw [hk]
 dsimp only;rw [e1];refine ⟨_,rfl,⟨by decide,by decide⟩,trivial,?_⟩
 refine ⟨by show 0≤sizeLine;decide,?_⟩
 refine ⟨_,rfl,⟨by show-(2^62)≤(n:Int);omega,by show (n:Int)<2^62;omega⟩,?_⟩
 rw [show ((n:Int)).toNat=n by omega]
 refine kh (λj ρ=>∃(x:Int)(ls:List (List Int))(o6 o7 o8:Option D),ρ= [some (aw n),some (.int c),some (.int x),some (.int base),some (aw k),some (cH ls),o6,o7,o8]∧ls.length=j∧∀l∈ls,l.length≤4) ?_ ?_ ?_
 ·exact ⟨v / 5,[],_,_,_,rfl,rfl,λl hl=>by cases hl⟩
 ·rintro j _ hj ⟨x,ls,o6,o7,o8,rfl,L,ll⟩ A hA
  refine ⟨by show 0≤sizeLine;decide,?_⟩
  refine ⟨_,rfl,⟨by show-(2^62)≤(k:Int);omega,by show (k:Int)<2^62;omega⟩,?_⟩
  rw [show ((k:Int)).toNat=k by omega]
  refine kh (λi ρ=>∃(y:Int)(l:List Int)(o8:Option D),ρ= [some (aw n),some (.int c),some (.int y),some (.int base),some (aw k),some (cH ls),some (aw j),some (.lst (au l)),o8]∧l.length≤4) ?_ ?_ ?_
  ·exact ⟨x,[],_,rfl,by decide⟩
  ·rintro i _ hi ⟨y,l,o8,rfl,hl⟩ A' kZ
   have fin:∀(E':bQ)(y':Int)(l':List Int),E'.nx=A'→l'.length≤4→dSet [0,0,0,0,0,1,0,1,0] false 2 (gI lT (cu 2) (dC (D.int 4))) E' [some (aw n),some (.int c),some (.int y'),some (.int base),some (aw k),some (cH ls),some (aw j),some (.lst (au l')),some (aw i)]:=λE' y' l' hE IZ=>by
    refine ⟨_,rfl,⟨by decide,by decide⟩,trivial,?_⟩
    rw [hE];exact kZ _ ⟨_,l',_,rfl,IZ⟩
   refine ⟨_,rfl,(by show (0:Int)<4;decide),Su ⟨_,rfl,bA (λ_=>⟨_,rfl,?_⟩) (λ_=>aI (fin _ y l rfl hl))⟩⟩
   dsimp only [eO,fT];refine Vr ⟨_,rfl,bA (λe=>?_) (λ_=>fin _ y l rfl hl)⟩;have l4:l.length<4:=by have:=of_decide_eq_true e;rw [bK] at this;omega
   have mq:=ik (y / 4) ((l.length:Int)+1) (by omega)
   refine ⟨_,rfl,_,rfl,⟨by decide,by decide⟩,_,rfl,?_⟩
   dsimp only [eO,fT];have lq:((au l).length:Int)=(l.length:Int):=by rw [bK]
   refine ⟨by show (0:Int)<((au l).length:Int)+1;omega,_,rfl,_,rfl,_,rfl,trivial,⟨?_,?_,cD (by rw [bK];omega)⟩,?_⟩
   ·rw [lq];exact mq.1
   ·rw [lq];show y / 4%((l.length:Int)+1)≤_;omega
   generalize ((λi j=>i%j) (y / 4) (((au l).length:Int)+1)).toNat=iq;refine Hv [some (aw n),some (.int c),some (.int y),some (.int base),some (aw k),some (cH ls),some (aw j),some (.lst (au (ins l iq (base+(i:Int))))),some (aw i)] (by rw [←z9];rfl) ?_
   refine ⟨_,rfl,_,rfl,?_⟩;dsimp only [eO,fT];refine ⟨⟨by show (0:Int)<((au (ins l iq (base+(i:Int)))).length:Int);rw [bK,mr];omega,by show ((au (ins l iq (base+(i:Int)))).length:Int)<1073741824;rw [bK,mr];omega⟩,rfl,?_⟩
   exact fin _ _ _ rfl (by rw [mr];omega)
  ·rintro _ ⟨y,l,o8,rfl,hl⟩
   refine ⟨_,_,rfl,rfl,cD (by rw [bV,L];omega),?_⟩
   refine hA _ ⟨y,ls++ [l],some (aw j),none,o8,?_,by rw [fw,L];rfl,λl' IZ=>?_⟩
   ·unfold cH
    rw [ny];rfl
   ·rcases sZ.mp IZ with h|h
    ·exact ll l' h
    ·rw [List.mem_singleton.mp h];exact hl
 ·rintro _ ⟨x,ls,o6,o7,o8,rfl,L,ll⟩
  exact ⟨_,rfl,q ls L ll⟩
def FR:bN:=λds P=>∃(ns:List Int)(m:Nat),ds= [.jq ns,aw m]∧1≤m∧m≤14∧∀(w:W)(ls:List (List Int)),Good w→1≤w.length→w.length≤m→ls.length=w.length→(∀l∈ls,l.length≤4)→P (.tup [aX w,cH ls])
theorem rA:FnOk P w Z.K mg base br 2 T.d__law_made.f T.d__law_made.fd ["_law_script","_law_most"] (aC Z FR):=by
 have nd:=kJ.nd;refine aO T.d__law_made.F kJ [0,0,0,0,0] (by decide) (λds R h=>by obtain ⟨_,_,rfl,_⟩:=h;rfl) (λaW A outer s H E ds R hr h=>?_)
 have hu:=hr.units
 refine ⟨_,(ag (aS false 2 nd (av T.d__law_drawn (gj T) hr (ae (av T.d__law_cell_at (de T) hr (ae (aa 0) (ae aq af))) af)))
   (ag (aS false 3 nd (az cf aq (az bJ (aa 2) (aa 1))))
   (ag (aS false 4 nd (av T.d__law_tied_turns (ky T) hr (ae (aa 3) (ae (az bS (aa 2) (aa 1)) af))))
   (ai (ay (cW (ae (aa 4) (ae (av T.d__law_listed (oU T) hr (ae (aa 3) (ae (av T.d__law_cell_at (de T) hr (ae (aa 0) (ae aq af))) (ae (av T.d__law_drawn (gj T) hr (ae (av T.d__law_cell_at (de T) hr (ae (aa 0) (ae aq af))) af)) af)))) af)))))))),?_⟩
 obtain ⟨ns,m,rfl,h1,h8,q⟩:=h;have m1:(0:Int)<(m:Int):=by omega
 refine ⟨_,rfl,ns,0,rfl,λv0=>⟨v0,rfl,λv=>⟨trivial,?_⟩⟩⟩;refine ⟨_,rfl,_,rfl,m1,trivial,?_⟩
 obtain ⟨n,hn,n1,nm⟩:∃n:Nat,(1:Int)+v%(m:Int)=(n:Int)∧1≤n∧n≤m:=by
  have:=ik v m m1
  exact ⟨(1+v%(m:Int)).toNat,by omega,by omega,by omega⟩
 have e1:D.int (1+v%(m:Int))=aw n:=by unfold aw;rw [hn]
 dsimp only;rw [e1];refine ⟨_,rfl,_,rfl,_,rfl,⟨m1,by show (m:Int)<1073741824;omega⟩,n,_,rfl,n1,by omega,λw' g lw=>⟨trivial,?_⟩⟩
 refine ⟨_,rfl,_,rfl,_,rfl,ns,2,rfl,λv2=>⟨_,rfl,ns,1,rfl,λv3=>⟨v3,rfl,λv4=>⟨n,v2,v4,rfl,by omega,λls l1 l2=>?_⟩⟩⟩⟩
 exact ⟨by show 2≤sizeLine;decide,q w' ls g (by omega) (by omega) (by omega) l2⟩
variable {P:Program} {w:World} {mg:Str→Option Value} {base:Heap} {Z:DC} (T:Txt Z mg)
mutual
def qD:Pq→D
 | .full p=> .tup [.str "full", .int p]
 | .jC p ps=> .tup [.str "choose", .int p, .tup (lM ps)]
def lM:List (Option Pq)→List D
 | []=> []
 |o::os=>qO o::lM os
def qO:Option Pq→D
 |none=> .aN
 |some q=>qD q
end
theorem mT:∀ps:List (Option Pq),lM ps=ps.map qO
 | []=>by rw [lM];rfl
 |o::os=>by rw [lM,mT os];rfl
mutual
theorem uo:∀q:iY,qD (rb q)=jt q
 | .full p=>by rw [rb,qD,jt];rfl
 | .jC p ps=>by rw [rb,qD,jt,sP ps];rfl
theorem sP:∀ps:List (Option iY),lM (oy ps)=jZ ps
 | []=>by rw [oy,lM,jZ]
 |o::os=>by rw [oy,lM,jZ,sP os,FG o]
theorem FG:∀o:Option iY,qO (rW o)=qo o
 |none=>by rw [rW,qO,qo]
 |some q=>by rw [rW,qO,qo,uo q]
end
def ee(w:W)(ls:List (List Int))(dy:Dy)(p:Nat)(t:Int×Option Pq):Bool:=if t.1∈left w ls dy p then b7 w ls (gz dy-1) (dy.set p (some t.1)) t.2 else t.2.isNone
theorem zo{w:W}{ls:List (List Int)}{dy:Dy}{p:Nat}{d:Int}{o:Option Pq}(hp:p<dy.length)(hn:bE dy p=none)(h:d∈left w ls dy p):ee w ls dy p (d,o)=b7 w ls (gz (dy.set p (some d))) (dy.set p (some d)) o:=by
 have us:=iU (d:=d) hp hn;unfold ee;rw [if_pos h,show gz dy-1=gz (dy.set p (some d)) by omega]
theorem wB{w:W}{ls:List (List Int)}{dy:Dy}{p:Nat}{d:Int}{o:Option Pq}(h:d∉left w ls dy p):ee w ls dy p (d,o)=o.isNone:=by
 unfold ee;rw [if_neg h]
theorem zL{w:W}{ls:List (List Int)}{dy:Dy}{k:Nat}{ps:List (Option Pq)}(hp:k<dy.length)(hn:bE dy k=none):b7 w ls (gz dy) dy (some (.jC (k:Int) ps))=(decide (ps.length=(lst ls k).length)&&((lst ls k).zip ps).all (ee w ls dy k)):=by
 obtain ⟨m,hm⟩:∃m,gz dy=m+1:=⟨gz (dy.set k (some 0)),(iU hp hn).symm⟩
 have e:ee w ls dy k=λt=>if t.1∈left w ls dy k then b7 w ls m (dy.set k (some t.1)) t.2 else t.2.isNone:=by
  funext t
  unfold ee;rw [hm];rfl
 rw [e,hm,b7,pz hp hn,nq,tm]
theorem w4{w:W}{ls:List (List Int)}{dy:Dy}{k:Nat}(hp:k<dy.length)(hn:bE dy k=none):b7 w ls (gz dy) dy (some (.full (k:Int)))=(left w ls dy k).isEmpty:=by
 obtain ⟨m,hm⟩:∃m,gz dy=m+1:=⟨gz (dy.set k (some 0)),(iU hp hn).symm⟩;rw [hm,b7,pz hp hn,nq,tm]
def PY(m:Nat):bN:=λds P=>∃(w:W)(ls:List (List Int))(dy:Dy)(p:Nat)(ps:List (Option Pq)),ds= [aX w,cH ls,jE dy,aw p, .tup (lM ps)]∧Sz w ls dy∧p<w.length∧bE dy p=none∧gz dy≤m∧P (.bl (decide (ps.length=(lst ls p).length)&&((lst ls p).zip ps).all (ee w ls dy p)))
def FP(m:Nat):bN:=λds P=>∃(w:W)(ls:List (List Int))(dy:Dy)(o:Option Pq),ds= [aX w,cH ls,jE dy,qO o]∧Sz w ls dy∧gz dy<m∧P (.bl (b7 w ls (gz dy) dy o))
theorem A9{l m:List D}{i:Nat}{d:D}(h:(nk l m)[i]? =some d):∃x y,l[i]? =some x∧m[i]? =some y∧d= .tup [x,y]:=by
 unfold nk at h;rw [List.getElem?_zipWith] at h;cases e1:l[i]? with
 |none=>rw [e1] at h;cases h
 |some x=>
  cases e2:m[i]? with
  |none=>rw [e1,e2] at h;cases h
  |some y=>rw [e1,e2] at h;exact ⟨x,y,rfl,rfl,(Option.some.inj h).symm⟩
theorem zk{α:Type}{l:List α}{f:α→Bool}{i:Nat}{x:α}(h:l[i]? =some x):(l.take (i+1)).all f=((l.take i).all f&&f x):=by
 rw [List.take_add_one,h,Option.toList_some,List.all_append,List.all_cons,List.all_nil,Bool.and_true]
theorem Bl{α:Type}{l:List α}{f:α→Bool}{i:Nat}{x:α}(h:l[i]? =some x)(hf:f x=false):l.all f=false:=by
 rw [List.all_eq_false];exact ⟨x,jz h,by rw [hf];exact fF⟩
def P0(m:Nat):bN:=FP (m+1)
theorem Aa(o:Option Pq):pW (qO o)=o.isNone:=by
 cases o with
 |none=>rw [qO];rfl
 |some q=>rw [qO];cases q<;>rw [qD]<;>rfl
theorem qF(m k:Nat)(hk:1≤k)(nG:FnOk P w Z.K mg base br k T.d_is_paper_from.f T.d_is_paper_from.fd ["turns","lists","dyeing","paper"] (aC Z (FP m))):FnOk P w Z.K mg base br (k+1) T.d_are_papers.f T.d_are_papers.fd ["turns","lists","dyeing","p","papers"] (aC Z (PY m)):=by
 have nd:=j9.nd;refine aO T.d_are_papers.F j9 [0,0,0,0,0,0,0,0] (by decide) (λds R h=>by obtain ⟨_,_,_,_,_,rfl,_⟩:=h;rfl) (λaW A outer s H E ds R hr h=>?_)
 have hu:=hr.units
 refine ⟨_,(ag (aY (DW.dt (jP (cY (bY (i6 "tuple" (aa 4) rfl T.B.isinstance rfl T.B.tuple iC))) (ja (aD (lF hu) (aJ bg rfl T.B.len ba (ae (aa 4) af)) (aJ bg rfl T.B.len ba (ae (aK (aa 1) (aa 3)) af)) (aM _))))) (ai (ay cw)) aF)
   (ag (aS false 5 nd (av T.d_dyes_left (fj T) hr (ae (aa 0) (ae (aa 1) (ae (aa 2) (ae (aa 3) af))))))
   (ag (dG rfl PassesOwn.never (BR rfl T.B.zip (ae (aK (aa 1) (aa 3)) (ae (aa 4) af))) (fg 2 rfl (bh (aT 6 nd) (bh (aT 7 nd) cK))) (ai (aY (aD fP (aa 6) (aa 5) (by with_unfolding_all rfl)) (ai (aY (aD kl (aa 7) bw (aM _)) (ai (ay cw)) aF)) (ai (aY (cY (bY (av T.d_is_paper_from nG hr (ae (aa 0) (ae (aa 1) (ae (av T.d_with_dye (mM T) hr (ae (aa 2) (ae (aa 3) (ae (aa 6) af)))) (ae (aa 7) af))))))) (ai (ay cw)) aF)))))
   (ai (ay cw))))),?_⟩
 obtain ⟨w',ls,dy,p,ps,rfl,z,hp,hn,hm,q⟩:=h;have xA:p<dy.length:=by rw [z.ld];exact hp
 have bU:p<ls.length:=by rw [z.ll];exact hp
 refine ⟨_,rfl,rfl,rfl,aI ⟨_,rfl,_,rfl,_,rfl,_,aV (mB bU),?_⟩⟩;dsimp only [eO,fT]
 have e0:decide (((lM ps).length:Int)=((au (lst ls p)).length:Int))=decide (ps.length=(lst ls p).length):=by
  rw [mT,bV,bK];exact decide_eq_decide.mpr ⟨λh=>by omega,λh=>by omega⟩
 refine uW ⟨_,rfl,bA (λe=>?_) (λe=>?_)⟩
 ·rw [e0] at e
  rw [show decide (ps.length=(lst ls p).length)=false by simpa using e] at q
  exact q
 rw [e0] at e;have e:decide (ps.length=(lst ls p).length)=true:=by simpa using e
 rw [e,tm] at q;refine ⟨_,rfl,_,rfl,_,rfl,_,rfl,w',ls,dy,p,rfl,z,hp,trivial,?_⟩;refine ⟨_,rfl,_,rfl,_,aV (mB bU),_,rfl,ck (λi ρ=>∃o6 o7,ρ= [some (aX w'),some (cH ls),some (jE dy),some (aw p),some (.tup (lM ps)),some (.lst (au (left w' ls dy p))),o6,o7]∧(((lst ls p).zip ps).take i).all (ee w' ls dy p)=true) ⟨_,_,rfl,rfl⟩ ?_ ?_⟩
 ·rintro i x _ hx ⟨o6,o7,rfl,sj⟩ A' hA
  obtain ⟨x1,x2,h1,h2,rfl⟩:=A9 hx;obtain ⟨d,hd,rfl⟩:=eF h1;rw [mT] at h2;obtain ⟨o,ho,rfl⟩:=eF h2;have hz:((lst ls p).zip ps)[i]? =some (d,o):=by rw [Ed];exact ⟨hd,ho⟩
  have uJ:=zk (f:=ee w' ls dy p) hz;rw [sj,tm] at uJ;have bad:=Bl (f:=ee w' ls dy p) hz;refine ⟨rfl,rfl,?_⟩;refine ⟨_,rfl,_,rfl,rfl,gQ _,_,rfl,?_⟩;rw [if_pos rfl,mn];refine bA (λe=>?_) (λe=>?_)
  ·have vi:d∉left w' ls dy p:=of_decide_eq_false (by simpa using e)
   rw [wB vi] at uJ bad;refine ⟨_,rfl,_,rfl,?_⟩;rw [if_pos rfl,Aa];refine bA (λe=>?_) (λe=>hA _ ⟨_,_,rfl,?_⟩)
   ·rw [bad (by simpa using e)] at q;exact q
   ·rw [uJ];simpa using e
  ·have vi:d∈left w' ls dy p:=of_decide_eq_true (by simpa using e)
   have us:=iU (d:=d) xA hn;rw [zo xA hn vi] at uJ bad;refine ⟨_,rfl,_,rfl,_,rfl,_,rfl,_,rfl,dy,p,d,rfl,xA,by rw [z.ld];exact z.n8,_,rfl,w',ls,dy.set p (some d),o,rfl,z.put p d,by omega,rfl,?_⟩
   refine bA (λe=>?_) (λe=>hA _ ⟨_,_,rfl,?_⟩)
   ·rw [bad (by simpa [kO] using e)] at q;exact q
   ·rw [uJ];simpa [kO] using e
 ·rintro _ ⟨o6,o7,rfl,sj⟩
  have lz:(nk (au (lst ls p)) (lM ps)).length=((lst ls p).zip ps).length:=by
   unfold nk;rw [List.length_zipWith,List.length_zip,bK,mT,bV]
  rw [lz,List.take_length] at sj;rw [sj] at q;exact q
theorem m8(m k:Nat)(hk:1≤k)(rf:FnOk P w Z.K mg base br k T.d_are_papers.f T.d_are_papers.fd ["turns","lists","dyeing","p","papers"] (aC Z (PY m))):FnOk P w Z.K mg base br (k+1) T.d_is_paper_from.f T.d_is_paper_from.fd ["turns","lists","dyeing","paper"] (aC Z (P0 m)):=by
 have nd:=g0.nd;refine aO T.d_is_paper_from.F g0 [0,0,0,0,0,0] (by decide) (λds R h=>by obtain ⟨_,_,_,_,rfl,_⟩:=h;rfl) (λaW A outer s H E ds R hr h=>?_)
 have hu:=hr.units
 refine ⟨_,(ag (aY (DW.dt (jP (cY (bY (i6 "tuple" (aa 3) rfl T.B.isinstance rfl T.B.tuple iC))) (ja (aD fP (aJ bg rfl T.B.len ba (ae (aa 3) af)) (cW (ae aq (ae aq af))) (by with_unfolding_all rfl))))) (ai (ay cw)) aF)
   (ag (yB (wQ (aa 3) lW (lX aq)) (fg 2 rfl (bh (aT 4 nd) (bh (aT 5 nd) cK))))
   (ag (aY (DW.dt (jP (cY (bY (av T.d_is_among (mG T) hr (ae (aa 5) (ae (aJ bg rfl T.B.len ba (ae (aa 2) af)) af))))) (ja (aD kl (aK (aa 2) (aa 5)) bw (aM _))))) (ai (ay cw)) aF)
   (ag (aY (aD (eX hu) (aJ bg rfl T.B.len ba (ae (aa 3) af)) aq (aM _)) (ai (ay (pf (lU (eX hu) (aa 4) bF (aM _)) (ph (BL (av T.d_dyes_left (fj T) hr (ae (aa 0) (ae (aa 1) (ae (aa 2) (ae (aa 5) af)))))))))) aF)
   (ai (ay (pf (lU (eX hu) (aa 4) bF (aM _)) (ph (av T.d_are_papers rf hr (ae (aa 0) (ae (aa 1) (ae (aa 2) (ae (aa 5) (ae (aK (aa 3) aq) af)))))))))))))),?_⟩
 obtain ⟨w',ls,dy,o,rfl,z,hm,q⟩:=h;have Au:((dy.map bD).length:Int)=(dy.length:Int):=by rw [bV]
 cases o with
 |none=>
  rw [w6] at q;exact ⟨_,rfl,rfl,rfl,aU q⟩
 |some pq=>
  have OP:∀p,lG dy p=false→¬(0≤p∧p<(dy.length:Int))∨(∃k:Nat,p=(k:Int)∧k<dy.length∧∃d,bE dy k=some d):=λp hp=>by
   by_cases c:0≤p∧p<(dy.length:Int)
   ·right
    refine ⟨p.toNat,by omega,by omega,?_⟩
    cases e:bE dy p.toNat with
    |some d=>exact ⟨d,rfl⟩
    |none=>
     unfold lG at hp;rw [decide_eq_true c,e] at hp;cases hp
   ·exact .inl c
  cases pq with
  |full p=>
   have ep:qO (some (.full p))= .tup [.str "full", .int p]:=by rw [qO,qD]
   rw [ep];refine ⟨_,rfl,rfl,rfl,aI ⟨_,rfl,by show 2≤sizeLine;decide,rfl,rfl,false,rfl,aI ?_⟩⟩
   refine ⟨_,rfl,?_⟩;have ec:cutD [D.str "full", .int p] none (some 2)= [.str "full", .int p]:=rfl;refine (?_:tL 2 _ (.tup (cutD [D.str "full", .int p] none (some 2))) _ _);rw [ec];refine ⟨rfl,rfl,?_⟩;refine ⟨_,rfl,_,rfl,_,_,rfl,?_⟩;refine ⟨rfl,?_⟩;cases ok:lG dy p with
   |false=>
    rw [r0 _ (q:= .full p) ok] at q
    rcases OP p ok with c| ⟨k,rfl,hk,d,hd⟩
    ·rw [decide_eq_false (by rw [Au];exact c)]
     exact aU q
    ·rw [decide_eq_true (by rw [Au];omega)]
     refine aI ⟨_,rfl,_,rfl,_,aV (gP hk),?_⟩;rw [hd];exact ⟨_,rfl,aU q⟩
   |true=>
    obtain ⟨k,rfl,hk,hn⟩:=km ok;rw [w4 hk hn] at q;have hp:k<w'.length:=by rw [←z.ld];exact hk
    rw [decide_eq_true (by rw [Au];omega)]
    refine aI ⟨_,rfl,_,rfl,_,aV (gP hk),?_⟩;rw [hn];refine ⟨_,rfl,aI ?_⟩;refine ⟨_,rfl,?_⟩;dsimp only [eO,fT];refine BZ ?_;refine ⟨true,rfl,aU ?_⟩;refine ⟨_,rfl,oO ⟨true,congrArg D.bl (decide_eq_true rfl),aU ?_⟩⟩;refine ⟨_,rfl,_,rfl,_,rfl,_,rfl,w',ls,dy,k,rfl,z,hp,rfl,?_⟩;rw [show (!kO (.lst (au (left w' ls dy k))))=(left w' ls dy k).isEmpty by rw [sW,Bool.not_not]]
    exact q
  |jC p ps=>
   have ep:qO (some (.jC p ps))= .tup [.str "choose", .int p, .tup (lM ps)]:=by rw [qO,qD]
   rw [ep];refine ⟨_,rfl,rfl,rfl,aI ⟨_,rfl,by show 2≤sizeLine;decide,rfl,rfl,false,rfl,aI ?_⟩⟩
   refine ⟨_,rfl,?_⟩;have ec:cutD [D.str "choose", .int p, .tup (lM ps)] none (some 2)= [.str "choose", .int p]:=rfl;refine (?_:tL 2 _ (.tup (cutD [D.str "choose", .int p, .tup (lM ps)] none (some 2))) _ _);rw [ec];refine ⟨rfl,rfl,?_⟩;refine ⟨_,rfl,_,rfl,_,_,rfl,?_⟩;refine ⟨rfl,?_⟩;cases ok:lG dy p with
   |false=>
    rw [r0 _ (q:= .jC p ps) ok] at q
    rcases OP p ok with c| ⟨k,rfl,hk,d,hd⟩
    ·rw [decide_eq_false (by rw [Au];exact c)]
     exact aU q
    ·rw [decide_eq_true (by rw [Au];omega)]
     refine aI ⟨_,rfl,_,rfl,_,aV (gP hk),?_⟩;rw [hd];exact ⟨_,rfl,aU q⟩
   |true=>
    obtain ⟨k,rfl,hk,hn⟩:=km ok;rw [zL hk hn] at q;have hp:k<w'.length:=by rw [←z.ld];exact hk
    rw [decide_eq_true (by rw [Au];omega)]
    refine aI ⟨_,rfl,_,rfl,_,aV (gP hk),?_⟩;rw [hn];refine ⟨_,rfl,aI ?_⟩;refine ⟨_,rfl,?_⟩;dsimp only [eO,fT];refine BZ ?_;refine ⟨false,rfl,aI ?_⟩;refine ⟨_,rfl,oO ⟨true,congrArg D.bl (decide_eq_true rfl),aU ?_⟩⟩;exact ⟨_,rfl,_,rfl,_,rfl,_,rfl,_,rfl,_,rfl,w',ls,dy,k,ps,rfl,z,hp,hn,by omega,q⟩
theorem mI{P:Program}{w:World}{mg:Str→Option Value}{base:Heap}{Z:DC}(T:Txt Z mg):FnOk P w Z.K mg base br 19 T.d_is_paper_from.f T.d_is_paper_from.fd ["turns","lists","dyeing","paper"] (aC Z (FP 9)):=by
 have all:∀m,FnOk P w Z.K mg base br (1+m+m) T.d_is_paper_from.f T.d_is_paper_from.fd ["turns","lists","dyeing","paper"] (aC Z (FP m)):=by
  intro m
  induction m with
  |zero=>
   refine ((r8 (Z:=Z)).imp ?_).mono (iW _);rintro vs H Q E ⟨G,ds,R,s,dv,⟨w,ls,dy,o,_,_,h,_⟩,_⟩;exact absurd h (Nat.not_lt_zero _)
  |succ m ih=>
   have:=m8 T m _ (by omega) (qF T m (1+m+m) (by omega) ih)
   rw [show 1+(m+1)+(m+1)=1+m+m+1+1 by omega]
   exact this
 exact all 9
def ya:bN:=λds P=>∃(w:W)(ls:List (List Int))(o:Option Pq),ds= [.fb w,cH ls,qO o]∧Sz w ls (List.replicate w.length none)∧P (.bl (b7 w ls w.length (List.replicate w.length none) o))
theorem mH:FnOk P w Z.K mg base br 20 T.d_is_paper.f T.d_is_paper.fd ["web","lists","paper"] (aC Z ya):=by
 have nd:=mY.nd;refine aO T.d_is_paper.F mY [0,0,0] (by decide) (λds R h=>by obtain ⟨_,_,_,rfl,_⟩:=h;rfl) (λaW A outer s H E ds R hr h=>?_)
 have hu:=hr.units;refine ⟨_,(ai (ay (av T.d_is_paper_from (mI T) hr (ae (iE T.W (aa 0) T.m_turns.m (kF T) (hr.mono (by decide)) T.m_turns.b) (ae (aa 1) (ae (i7 (NC:= ["p"]) (src:= [none]) rfl (jD (aj gY)) trivial (kU rfl T.B.range (ae (iE T.W (aa 0) T.m_many.m (jj T) (hr.mono (by decide)) T.m_many.b) af)) (λ_ _ _=>(bq 0 (show (["p"]:List Str).Nodup from by decide+kernel))) (λ_ _ _=>cO) (λ_ _ _=>bw)) (ae (aa 2) af))))))),?_⟩
 obtain ⟨w',ls,o,rfl,z,q⟩:=h;have n8:=z.n8;refine ⟨_,rfl,w',rfl,w',rfl,by omega,_,rfl,_,rfl,w',rfl,w',rfl,⟨by omega,by omega⟩,?_⟩
 rw [show ((w'.length:Int)).toNat=w'.length by omega]
 refine vv rfl (small (by omega)) λaE=>?_
 exact ⟨_,rfl,w',ls,List.replicate w'.length none,o,rfl,z,by rw [nj];omega,by rw [nj];exact q⟩
end kR
namespace kR
open PySem L2 Wb
variable {P:Program} {w:World} {mg:Str→Option Value} {base:Heap} {Z:DC} (T:Txt Z mg)
open Wy Ws
def FO:bN:=λds P=>∃(w:W)(ls:List (List Int))(dz:Dy),ds= [aX w,cH ls,jE dz]∧Sz w ls dz∧Ok w ls dz∧Full w dz∧P (.bl true)
theorem rz:FnOk P w Z.K mg base br 1 T.d__law_dyed.f T.d__law_dyed.fd ["_law_turns","_law_lists","_law_told"] (aC Z FO):=by
 have nd:=kI.nd;refine aO T.d__law_dyed.F kI [0,0,0,0,0] (by decide) (λds R h=>by obtain ⟨_,_,_,rfl,_⟩:=h;rfl) (λaW A outer s H E ds R hr h=>?_)
 have hu:=hr.units
 refine ⟨_,(ag (aY (DW.dt (jP (cY (bY (i6 "list" (aa 2) rfl T.B.isinstance rfl T.B.list cF))) (ja (aD (lF hu) (aJ bg rfl T.B.len ba (ae (aa 2) af)) (aJ bg rfl T.B.len ba (ae (aa 0) af)) (aM _))))) (ai (ay cw)) aF)
   (ag (dG rfl PassesOwn.never (fo rfl T.B.enumerate (ae (aa 0) af)) (fg 2 rfl (bh (aT 3 nd) (bh (aT 4 nd) cK))) (ag (aY (DW.dt (jP (cY (bY (i6 "int" (aK (aa 2) (aa 3)) rfl T.B.isinstance rfl T.B.int yw))) (jP (bY (i6 "bool" (aK (aa 2) (aa 3)) rfl T.B.isinstance rfl T.B.bool uN)) (ja (aD fP (aK (aa 2) (aa 3)) (aK (aa 1) (aa 3)) (by with_unfolding_all rfl)))))) (ai (ay cw)) aF)
   (ai (aY (aD ua (aK (aa 2) (aa 3)) (i7 (NC:= ["_law_other","_law_told"]) (src:= [none,some 2]) rfl (jD (aj fO)) ⟨rfl,rfl,trivial⟩ (bx (aa 4)) (λ_ _ _=>(bq 0 (show (["_law_other","_law_told"]:List Str).Nodup from by decide+kernel))) (λ_ _ _=>cO) (λ_ _ _=>(aK (aa 1) (aa 0)))) (by with_unfolding_all rfl)) (ai (ay cw)) aF))))
   (ai (ay cw)))),?_⟩
 obtain ⟨w',ls,dz,rfl,z,ok,f,q⟩:=h;refine ⟨_,rfl,rfl,rfl,aI ⟨_,rfl,_,rfl,?_⟩⟩;dsimp only [eO,fT];refine uW ?_;refine ⟨false,?_,aI ?_⟩
 ·have:decide (((dz.map bD).length:Int)=((w'.map aQ).length:Int))=true:=decide_eq_true (by rw [bV,bV,z.ld])
  exact congrArg D.bl (by rw [this];rfl)
 refine ⟨_,rfl,ck (λ_ ρ=>∃o3 o4,ρ= [some (aX w'),some (cH ls),some (jE dz),o3,o4]) ⟨_,_,rfl⟩ ?_ ?_⟩
 ·rintro j x _ hx ⟨o3,o4,rfl⟩ A' hA
  obtain ⟨hj,rfl⟩:=v5 hx
  obtain ⟨d,hd⟩:∃d,bE dz j=some d:=by
   cases e:bE dz j with
   |none=>exact absurd e (f j hj)
   |some d=>exact ⟨d,rfl⟩
  have ed:cE (dz.map bD) (j:Int)=some (.int d):=by
   have:=aV (gP (dy:=dz) (p:=j) (by rw [z.ld];exact hj))
   rw [hd] at this;exact this
  obtain ⟨o1,o2⟩:=ok.2 j d hd;refine ⟨rfl,rfl,?_⟩;refine ⟨_,rfl,_,rfl,_,ed,rfl,rfl,aI ?_⟩;refine ⟨_,rfl,_,rfl,_,ed,rfl,rfl,aI ?_⟩;refine ⟨_,rfl,_,rfl,_,ed,_,rfl,_,rfl,_,aV (mB (by rw [z.ll];exact hj)),rfl,gQ _,false,?_,aI ?_⟩
  ·rw [if_pos rfl,mn,decide_eq_true o1];rfl
  refine ⟨_,rfl,_,rfl,_,ed,_,rfl,fM (ρ:= [none,some (jE dz)]) aw (λq=>bD (bE dz q)) (row w' j) _ (λy hy Y h=>?_) rfl (small (by have:=z.rl j;omega)) λaE=>?_⟩
  ·exact ⟨_,rfl,_,rfl,_,aV (gP (by rw [z.ld];exact z.g.rng _ _ hy)),h⟩
  have e0:(row w' j).map (λq=>bD (bE dz q))=((row w' j).map λq=>bE dz q).map bD:=by rw [jB];rfl
  rw [e0];refine ⟨rfl,r6 _,false,?_,aI (hA _ ⟨_,_,rfl⟩)⟩;rw [if_neg fF,vm,decide_eq_false];intro m;obtain ⟨q,hq,e⟩:=List.mem_map.mp m;exact o2 q hq e
 ·rintro _ ⟨o3,o4,rfl⟩
  exact q
variable {P:Program} {w:World} {mg:Str→Option Value} {base:Heap} {Z:DC} (T:Txt Z mg)
def FW:bN:=λds P=>∃(l:List D),ds= [.lst l]∧l.length≤100∧(∀d∈l,kE d=true)∧P (.lst (((List.range l.length).filter λj=>nestD (l.getD j .aN)).map λ(j:Nat)=>aw j))
theorem mJ:FnOk P w Z.K mg base br 1 T.d_nested_places.f T.d_nested_places.fd ["holder"] (aC Z FW):=by
 have nd:=hJ.nd;refine aO T.d_nested_places.F hJ [0,0] (by decide) (λds R h=>by obtain ⟨_,rfl,_⟩:=h;rfl) (λaW A outer s H E ds R hr h=>?_)
 have hu:=hr.units
 refine ⟨_,(ag (aS false 1 nd (wN (bY (pM (aa 0) rfl T.B.isinstance rfl T.x_dict)) (b6 fU rfl T.B.list cF (ae (aa 0) af)) (b6 (zw rfl) rfl T.B.list cF (ae (b6 Bv rfl T.B.range zm (ae (aJ bg rfl T.B.len ba (ae (aa 0) af)) af)) af))))
   (ai (ay (i7 (NC:= ["place","holder"]) (src:= [none,some 0]) rfl (jD (aj df)) ⟨rfl,rfl,trivial⟩ (bx (aa 1)) (λ_ _ _=>(bq 0 (show (["place","holder"]:List Str).Nodup from by decide+kernel))) (λ_ _ _=>(lY (bY (wO (aK (aa 1) (aa 0)) rfl T.B.isinstance T.B.list T.B.tuple T.x_dict)))) (λ_ _ _=>(aa 0)))))),?_⟩
 obtain ⟨l,rfl,h1,h2,q⟩:=h;refine ⟨_,rfl,rfl,rfl,aI ?_⟩;refine ⟨_,rfl,(l.length:Int),rfl,0,(l.length:Int),rfl,⟨by decide,by decide,by omega,by omega,by omega⟩,trivial,?_⟩
 refine ⟨_,rfl,?_⟩;rw [show bp 0 ((l.length:Int)-0).toNat=(List.range l.length).map λ(j:Nat)=>aw j from by rw [show ((l.length:Int)-0).toNat=l.length by omega];unfold bp aw;simp]
 refine mx (λρ=>∃o,ρ= [o,some (.lst l)]) _ (λj=>nestD (l.getD j .aN)) (λj=>aw j) (List.range l.length) _ [] _ (λy hy aE hI Y Nn hY hN=>?_) ⟨none,rfl⟩ (by rw [ke,Nat.zero_add,List.length_range];exact small (by omega)) λaE _=>?_
 ·obtain ⟨o,rfl⟩:=hI
  have hy:=tj.mp hy;have ei:l[y]? =some l[y]:=cS hy;have eg:l.getD y .aN=l[y]:=by rw [dW,ei];rfl
  refine ⟨_,rfl,_,rfl,l[y],?_,h2 _ (nu hy),rfl,bA (λe=>⟨_,rfl,hY _ ⟨_,rfl⟩ (by rw [eg];exact e)⟩) (λe=>hN _ ⟨_,rfl⟩ (by rw [eg];exact e))⟩
  unfold cE;rw [show gc l.length (y:Int)=some y by unfold gc;rw [if_pos (by omega),if_pos (by omega)];exact congrArg some (by omega)]
  exact ei
 ·rw [nv];exact q
def JQ:bN:=λds P=>∃(l:List D)(n:Int),ds= [.tup l, .int n]∧0<n∧P (.lst l)
theorem xR:FnOk P w Z.K mg base br 1 T.d_own_of.f T.d_own_of.fd ["held","left"] (aC Z JQ):=by
 have nd:=qB.nd;refine aO T.d_own_of.F qB [0,0] (by decide) (λds R h=>by obtain ⟨_,_,rfl,_⟩:=h;rfl) (λaW A outer s H E ds R hr h=>?_)
 have hu:=hr.units
 refine ⟨_,(ag (aY (bY (pM (aa 0) rfl T.B.isinstance rfl T.x_dict)) wV aF)
   (ai (ay (wN (aD nV (aa 1) aq (aM _)) (b6 fU rfl T.B.list cF (ae (aa 0) af)) (gN af))))),?_⟩
 obtain ⟨l,n,rfl,h0,q⟩:=h;refine ⟨_,rfl,rfl,rfl,aI ?_⟩;refine ⟨_,rfl,true,?_,aU ⟨_,rfl,q⟩⟩;exact congrArg D.bl (decide_eq_true h0)
variable {P:Program} {w:World} {mg:Str→Option Value} {base:Heap} {Z:DC} (T:Txt Z mg)
theorem yr{α:Type}(x:α)(l:List α):cE (x::l) (0:Int)=some x:=by
 unfold cE;rw [show gc (x::l).length (0:Int)=some 0 by unfold gc;rw [if_pos (by decide),if_pos (by rw [cJ];omega)];rfl]
 rfl
def PZ(Z:DC):Sp:=λvs H Q _=>∃(a:Addr)(l:List V)(ds:List D),vs= [.ref a]∧H a=some (.tup l)∧ao Z H l ds∧(∀d∈ds,kE d=true∧nestD d=false)∧1≤ds.length∧ds.length≤50∧∀b zs H',H b=none→aH H H'→H' b=some (.tup zs)→ao Z H' zs ds→Q (.ref b) H'
theorem w9(ds:List D)(h:∀d∈ds,nestD d=false):((List.range ds.length).filter λj=>nestD (ds.getD j .aN))= []:=by
 rw [List.filter_eq_nil_iff];intro j hj;have hj:=tj.mp hj;rw [dW,cS hj];show ¬nestD ds[j]=true;rw [h _ (nu hj)];decide
theorem dg{H H':Hp}{b:Addr}{o:HO}(s:aH H H')(hb:H b=none):aH H (upd H' b o):=λc u e=>by rw [ah (ar e hb)];exact s _ _ e
theorem _root_.L2.ao.pk{Z:DC}{G G':Hp}:∀{vs:List V}{ds:List D},ao Z G vs ds→(∀d∈ds,kE d=true∧nestD d=false)→ao Z G' vs ds
 |_,_, .nil,_=> .nil
 |_,_, .cons a as,h=> .cons (by
   obtain ⟨f1,f2⟩:=h _ (di ..);cases a with
   |aN=>exact .aN
   |bl b=>exact .bl b
   |int i=>exact .int i
   |str x k=>exact .str x k
   |lst _ _=>exact Bool.noConfusion f2
   |tup _ _=>exact Bool.noConfusion f2
   |_=>exact Bool.noConfusion f1) (L2.ao.pk as λd hd=>h d (gK _ hd))
theorem xQ:FnOk P w Z.K mg base br 2 T.d_copied.f T.d_copied.fd ["thing"] (PZ Z):=by
 have nd:=qA.nd;refine T.d_copied.F.ok qA (λvs H Q E h=>?_) (λaW A outer s H vs Q E hr h=>?_)
 ·obtain ⟨a,l,ds,rfl,_⟩:=h;rfl
 obtain ⟨a,l,ds,rfl,ha,dv,fl,Xz,Xu,q⟩:=h;obtain ⟨tk,S8⟩:=T.c_MOST_COPIED
 refine ⟨_,(aP (cy (i:=1) nd rfl (Or.inl rfl) (mP (aG (pv 0) bj)))
  (aP (cy (i:=2) nd rfl (Or.inl rfl) (mP (aG (pv 1) bj)))
  (aP (cy (i:=3) nd rfl (Or.inl rfl) (mP bj))
  (aP (cy (i:=4) nd rfl (Or.inl rfl) (vJ rfl S8 (v:= .int 1000000) ⟨tk,rfl⟩))
  (aP (cy (i:=5) nd rfl (Or.inl rfl) mO)
  (aP (sO PassesOwn.never (vM De (pv 5) (eY ib rfl T.B.len ba (aG (pv 2) bj)) (aM _)) (aP (cy (i:=6) nd rfl (Or.inl rfl) (jm eE (pv 2) (pv 5) (λ_ _=>rfl)))
  (aP (cy (i:=7) nd rfl (Or.inl rfl) (mN (mJ T) (hr.mono (by decide)) rfl T.d_nested_places.m T.d_nested_places.F.kp T.d_nested_places.b .nil lI (aG (pv 6) bj)))
  (aP (pB PassesOwn.never rfl (vK (pv 7)) (j0 (i:=8) nd rfl (Or.inl rfl)) (aP (cy (i:=9) nd rfl (Or.inl rfl) (jm eE (pv 6) (pv 8) (λ_ _=>rfl)))
  (aP (cy (i:=10) nd rfl (Or.inl rfl) (mN (xR T) (hr.mono (by decide)) rfl T.d_own_of.m T.d_own_of.F.kp T.d_own_of.b .nil lI (aG (pv 9) (aG (pv 4) bj))))
  (aP (yS (i:=4) nd rfl (Or.inl rfl) (Dj yP mO (eY ib rfl T.B.len ba (aG (pv 10) bj))) ET)
  (aP (pA (pv 10) (ui (pv 6) (pv 8) set_list))
  (aP (cQ (jl PySem.F.plainAttrs_list PySem.F.slot_list_append PySem.F.type_list_append eW (pv 2) (aG (pv 10) bj)))
  (dD (um (FD (eY iZ rfl T.B.isinstance (by decide+kernel) (aG (pv 9) (aG (iN rfl T.B.tuple iC (v:= .ty "tuple") rfl) bj)))) (dD (cQ (jl PySem.F.plainAttrs_list PySem.F.slot_list_append PySem.F.type_list_append eW (pv 3) (aG (uh (aG (pv 6) (aG (pv 8) bj))) bj)))) mS))))))))
  (dD (yS (i:=5) nd rfl (Or.inl rfl) mO ES))))))
  (aP (pB PassesOwn.never rfl (Fy rfl T.B.reversed (aG (pv 3) bj)) (uj rfl (ko (j0 (i:=6) nd rfl (Or.inl rfl)) (ko (j0 (i:=8) nd rfl (Or.inl rfl)) qr))) (dD (pA (lJ jL rfl T.B.tuple iC (aG (jm eE (pv 6) (pv 8) (λ_ _=>rfl)) bj)) (ui (pv 6) (pv 8) set_list))))
  (dD (yT (jm eE (pv 1) mO (λ_ _=>rfl))))))))))),?_⟩
 refine ⟨_,rfl,by show 1≤sizeLine;decide,λl1 e1=>?_⟩
 refine ⟨_,rfl,by show 1≤sizeLine;decide,λl2 e2=>?_⟩
 refine ⟨by show 0≤sizeLine;decide,λl3 e3=>?_⟩
 have CU:l2≠l1:=λz=>by rw [z,ak] at e2;cases e2
 have fq:H l2=none:=by rw [ah CU] at e2;exact e2
 have E9:l3≠l2:=λz=>by rw [z,ak] at e3;cases e3
 have ma:upd H l1 (.lst [.ref a]) l3=none:=by rw [ah E9] at e3;exact e3
 have E8:l3≠l1:=λz=>by rw [z,ak] at ma;cases ma
 have GQ:H l3=none:=by rw [ah E8] at ma;exact ma
 refine (?_:Hk (y9 _ _) _ _ _ _)
 refine ⟨λm σ H1=>aH H H1∧
   ((m=2∧σ= [some (.ref a),some (.ref l1),some (.ref l2),some (.ref l3),some (.int 1000000),some (.int 0),none,none,none,none,none]∧H1 l1=some (.lst [.ref a])∧H1 l2=some (.lst [.ref l1])∧H1 l3=some (.lst []))∨
    (∃(k:Nat)(n:Int)(l5 t1:Addr)(zs:List V)(o6 o7 o8 o9 C2:Option V),m=2-k∧1≤k∧k≤2∧σ= [some (.ref a),some (.ref l1),some (.ref l2),some (.ref l3),some (.int n),some (.int k),o6,o7,o8,o9,C2]∧H1 l1=some (.lst [.ref l5])∧H1 l2=some (.lst [.ref l1, .ref l5])∧H1 l3=some (.lst [.ref t1])∧H1 t1=some (.tup [.ref l1, .int 0])∧H1 l5=some (.lst zs)∧ao Z H1 zs ds)),⟨2,?_⟩,?_⟩
 ·refine ⟨dg (dg (dg (.refl _) e1) fq) GQ, .inl ⟨rfl,rfl,?_,?_,ak⟩⟩
  ·rw [ah E8.symm,ah CU.symm,ak]
  ·rw [ah E9.symm,ak]
 have CZ:∀{G:Hp}{x:Addr}{xs:List V},¬ao Z G (.ref x::xs) ds:=λ {G x xs} z=>by
  cases ds with
  |nil=>cases z
  |cons d ds=>
   cases z with
   |cons y _=>
    obtain ⟨f1,f2⟩:=fl d (di ..);cases y<;>first|exact Bool.noConfusion f1|exact Bool.noConfusion f2
 rintro m σ H1 ⟨sH,⟨rfl,rfl,h1,h2,h3⟩ | ⟨k,n,l5,t1,zs,o6,o7,o8,o9,C2,rfl,k1,k2,rfl,h1,h2,h3,h4,h5,h6⟩⟩
 ·
  refine ⟨_,rfl,_,rfl,l2,[.ref l1],rfl, .inl (bb.of h2),?_⟩;refine ⟨_,_,rfl,rfl,_,rfl,aU ⟨_,λ_ _ z=>z,?_⟩⟩;refine ⟨_,rfl,_,rfl,l2,[.ref l1],0, .ref l1,rfl,rfl,bb.of h2,yr _ _,?_⟩;refine ⟨_,rfl,?_⟩;refine ⟨H1,[.lst [.tup ds]],λd=>d= .lst [aw 0], .refl _, .cons (.lst h1 (.cons (.tup (sH _ _ ha) (dv.mono sH)) .nil)) .nil,⟨[.tup ds],rfl,by show 1≤100;decide,λd hd=>by rw [List.mem_singleton.mp hd];rfl,rfl⟩,λd hd v G2 H2 x2 jO=>?_⟩
  subst hd;obtain ⟨l4,W9,rfl,g4,y4⟩:=jO.eG;obtain ⟨v4,rfl,z4⟩:=y4.ofOne;obtain rfl:=z4.ofInt;have h4:=x2.sub _ _ g4;have s2:=x2.hh
  refine ⟨_,rfl,l4,rfl,⟨_,bb.of h4⟩,sf (xs:= [.int 0]) (λi σ H3=>aH H H3∧H3 l4=some (.lst [.int 0])∧
   ((i=0∧σ= [some (.ref a),some (.ref l1),some (.ref l2),some (.ref l3),some (.int 1000000),some (.int 0),some (.ref l1),some (.ref l4),none,none,none]∧H3 l1=some (.lst [.ref a])∧H3 l2=some (.lst [.ref l1])∧H3 l3=some (.lst []))∨
    (i=1∧∃(n:Int)(l5 t1:Addr)(zs:List V)(o6 o7 o8 o9 C2:Option V),σ= [some (.ref a),some (.ref l1),some (.ref l2),some (.ref l3),some (.int n),some (.int 0),o6,o7,o8,o9,C2]∧H3 l1=some (.lst [.ref l5])∧H3 l2=some (.lst [.ref l1, .ref l5])∧H3 l3=some (.lst [.ref t1])∧H3 t1=some (.tup [.ref l1, .int 0])∧H3 l5=some (.lst zs)∧ao Z H3 zs ds))) ⟨sH.trans s2,h4, .inl ⟨rfl,rfl,s2 _ _ h1,s2 _ _ h2,s2 _ _ h3⟩⟩ (λi σ H3 _ z=>bb.of z.2.1) ?_ ?_⟩
  ·rintro i x σ H3 hx ⟨AX,k4,⟨rfl,rfl,k1,k2,k3⟩ | ⟨rfl,_⟩⟩
   ·cases hx
    refine ⟨_,rfl,_,rfl,l1,[.ref a],0, .ref a,rfl,rfl,bb.of k1,yr _ _,?_⟩;refine ⟨_,rfl,_,rfl,?_⟩;refine ⟨H3,[.tup ds, .int 1000000],λd=>d= .lst ds, .refl _, .cons (.tup (AX _ _ ha) (dv.mono AX)) (.cons (.int _) .nil),⟨ds,1000000,rfl,by decide,rfl⟩,λd hd v G4 H4 x4 BV=>?_⟩
    subst hd;obtain ⟨l5,zs,rfl,g5,y5⟩:=BV.eG;have k5:=x4.sub _ _ g5;have y5:=y5.mono x4.sub;have s4:=x4.hh;have NI:l5≠l1:=λz=>by rw [z,s4 _ _ k1] at k5;cases k5;exact CZ y5
    have NJ:l5≠l2:=λz=>by rw [z,s4 _ _ k2] at k5;cases k5;exact CZ y5
    have VN:l5≠l3:=λz=>by
     rw [z,s4 _ _ k3] at k5;cases k5
     have:=y5.length
     rw [ke] at this;omega
    have NG:l4≠l1:=λz=>by rw [z,k1] at k4;cases k4
    have NH:l4≠l2:=λz=>by rw [z,k2] at k4;cases k4
    have VM:l4≠l3:=λz=>by rw [z,k3] at k4;cases k4
    refine ⟨_,rfl,?_⟩;refine ⟨_,rfl,l5,zs,rfl, .inl (bb.of k5),_,_,rfl,rfl,_,_,rfl,rfl,?_⟩;refine ⟨_,rfl,_,rfl,_,rfl,l1,[.ref a],0,0,rfl,rfl,s4 _ _ k1,rfl,?_⟩;have m2:upd H4 l1 (.lst [.ref l5]) l2=some (.lst [.ref l1]):=by rw [ah CU];exact s4 _ _ k2
    refine ⟨_,rfl, .inl ⟨rfl,_,bb.of m2⟩,_,rfl,l2,[.ref l1], .ref l5,rfl,rfl,m2,by show 1<sizeLine;decide,?_⟩
    have a6:upd (upd H4 l1 (.lst [.ref l5])) l2 (.lst [.ref l1, .ref l5]) a=some (.tup l):=by
     rw [ah (ar ha fq),ah (ar ha e1)];exact s4 _ _ (AX _ _ ha)
    have d6:aH H (upd (upd H4 l1 (.lst [.ref l5])) l2 (.lst [.ref l1, .ref l5])):=dg (dg (AX.trans s4) e1) fq;obtain ⟨ty,ht,hk⟩:=yF (Z:=Z) (K:=Z.K) (n:="tuple") (d:= .tup ds) rfl rfl (.tup a6 (dv.mono d6));refine ⟨_,rfl, .ref a,"tuple",ty,_,rfl,ht,hk,_,rfl,aU ?_⟩;have m3:upd (upd H4 l1 (.lst [.ref l5])) l2 (.lst [.ref l1, .ref l5]) l3=some (.lst []):=by rw [ah E9,ah E8];exact s4 _ _ k3
    refine ⟨_,rfl, .inl ⟨rfl,_,bb.of m3⟩,_,rfl,_,rfl,by show 2≤sizeLine;decide,λt1 nI=>?_⟩
    have nI:upd (upd H4 l1 (.lst [.ref l5])) l2 (.lst [.ref l1, .ref l5]) t1=none:=nI;have NY:t1≠l3:=λz=>by rw [z,m3] at nI;cases nI
    have VW:t1≠l2:=λz=>by rw [z,ak] at nI;cases nI
    have VV:t1≠l1:=λz=>by rw [z,ah CU.symm,ak] at nI;cases nI
    have VY:t1≠l5:=λz=>by rw [z,ah NJ,ah NI,k5] at nI;cases nI
    have VX:t1≠l4:=λz=>by rw [z,ah NH,ah NG,s4 _ _ k4] at nI;cases nI
    have tH:H t1=none:=d6.free nI;refine ⟨l3,[], .ref t1,rfl,rfl,by rw [ah NY.symm];exact m3,by show 0<sizeLine;decide,?_⟩
    refine ⟨dg (dg d6 tH) GQ,?_, .inr ⟨rfl,_,l5,t1,zs,_,_,_,_,_,rfl,?_,?_,ak,?_,?_,?_⟩⟩
    ·rw [ah VM,ah VX.symm,ah NH,ah NG];exact s4 _ _ k4
    ·rw [ah E8.symm,ah VV.symm,ah CU.symm,ak];rfl
    ·rw [ah E9.symm,ah VW.symm,ak];rfl
    ·rw [ah NY,ak]
    ·rw [ah VN,ah VY.symm,ah NJ,ah NI];exact k5
    ·exact y5.pk fl
   ·cases hx
  ·rintro σ H3 ⟨AX,k4,⟨z,_⟩ | ⟨_,n,l5,t1,zs,o6,o7,o8,o9,C2,rfl,k1,k2,k3,k5,k6,k7⟩⟩
   ·cases z
   ·exact ⟨_,rfl,_,_,rfl,rfl,1,by decide,AX, .inr ⟨1,n,l5,t1,zs,_,_,_,_,_,rfl,by decide,by decide,rfl,k1,k2,k3,k5,k6,k7⟩⟩
 ·have wX:Dv Z H1 (.ref l5) (.lst ds):= .lst h5 h6
  refine ⟨_,rfl,_,rfl,l2,[.ref l1, .ref l5],rfl, .inl (bb.of h2),?_⟩;refine ⟨_,_,rfl,rfl,_,rfl,?_⟩
  rcases (by omega:k=1∨k=2) with rfl|rfl
  ·refine aU ⟨_,λ_ _ z=>z,?_⟩
   refine ⟨_,rfl,_,rfl,l2,[.ref l1, .ref l5],1, .ref l5,rfl,rfl,bb.of h2,rfl,?_⟩;refine ⟨_,rfl,?_⟩;refine ⟨H1,[.lst ds],λd=>d= .lst [], .refl _, .cons wX .nil,⟨ds,rfl,by omega,λd hd=>(fl d hd).1,by rw [w9 ds λd hd=>(fl d hd).2];rfl⟩,λd hd v G2 H2 x2 jO=>?_⟩
   subst hd;obtain ⟨l4,W9,rfl,g4,y4⟩:=jO.eG;obtain rfl:=y4.xN;have g4:=x2.sub _ _ g4;have s2:=x2.hh;refine ⟨_,rfl,l4,rfl,⟨_,bb.of g4⟩,sf (xs:= []) (λi σ H3=>H3=H2∧σ=_) ⟨rfl,rfl⟩ (λi σ H3 _ z=>by rw [z.1];exact bb.of g4) (λi x σ H3 hx _=>by cases hx) ?_⟩
   rintro σ H3 ⟨rfl,rfl⟩;exact ⟨_,rfl,_,_,rfl,rfl,0,by decide,sH.trans s2, .inr ⟨2,n,l5,t1,zs,_,_,_,_,_,rfl,by decide,by decide,rfl,s2 _ _ h1,s2 _ _ h2,s2 _ _ h3,s2 _ _ h4,s2 _ _ h5,h6.mono s2⟩⟩
  ·refine aI ?_
   refine ⟨_,rfl,l3,[.ref t1],rfl,bb.of h3,?_⟩;refine ⟨λi m σ H'=>(i=0∧m=1∧σ=_∧H'=H1)∨(i=1∧m=0∧∃b,σ[1]? =some (some (.ref l1))∧H' l1=some (.lst [.ref b])∧H b=none∧aH H H'∧H' b=some (.tup zs)∧ao Z H' zs ds),⟨1, .inl ⟨rfl,rfl,rfl,rfl⟩⟩,?_⟩;rintro i m σ H' (⟨rfl,rfl,rfl,rfl⟩ | ⟨rfl,rfl,b,q1,q2,q3,q4,q5,q6⟩)
   ·refine .inr ⟨⟨by show 0<1;decide,_,bb.of h3,rfl⟩,λax qV=>∃b,ax[1]? =some (some (.ref l1))∧qV l1=some (.lst [.ref b])∧H b=none∧aH H qV∧qV b=some (.tup zs)∧ao Z qV zs ds,λax qV z=>⟨0,by decide, .inr ⟨rfl,rfl,z⟩⟩,?_⟩
    rintro x qV ⟨rfl,hx⟩;have hx:=hx _ (bb.of h3);cases hx;refine ⟨t1,[.ref l1, .int 0],rfl,cj.of h4,rfl,?_⟩;refine ⟨_,_,rfl,_,_,rfl,rfl,?_⟩;refine ⟨_,rfl,_,rfl,l1,[.ref l5],0, .ref l5,rfl,rfl,bb.of h1,yr _ _,l5,zs,rfl, .inl ⟨bb.of h5,λb hb=>?_⟩⟩;have NL:b≠l1:=λz=>by rw [z,h1] at hb;cases hb
    refine ⟨_,rfl,_,rfl,l1,[.ref l5],0,0,rfl,rfl,by rw [ah NL.symm];exact h1,rfl,?_⟩
    refine ⟨b,rfl,ak,sH.free hb,dg (dg sH (sH.free hb)) e1,by rw [ah NL,ak],h6.pk fl⟩
   ·refine .inl ⟨bL _,?_⟩
    exact ⟨_,q1,l1,[.ref b],0, .ref b,rfl,rfl,bb.of q2,yr _ _,q b zs H' q3 q4 q5 q6⟩
variable {P:Program} {w:World} {mg:Str→Option Value} {base:Heap} {Z:DC} (T:Txt Z mg)
def C7(ds:List D):Prop:=∃l,ds= [D.tup l]∧(∀d∈l,kE d=true∧nestD d=false)∧1≤l.length∧l.length≤50
theorem xP:FnOk P w Z.K mg base br 3 T.j_NoWeb.f T.j_NoWeb.fd ["self","fault"] (DV Z T.e_NoWeb ["fault"] C7):=by
 have nd:=gw.nd;refine T.j_NoWeb.F.ok gw (λvs H Q E h=>?_) (λaW A outer s H vs Q E hr h=>?_)
 ·obtain ⟨a,ys,G,ds,rfl,_,_,_,dv,_,hl,_⟩:=h
  have:=dv.length
  simp at hl ⊢;omega
 obtain ⟨a,ys,G,ds,rfl,ha,ga,sG,dv,⟨l,rfl,fl,p1,Wo⟩,_,q⟩:=h;obtain ⟨y,rfl,dy⟩:=dv.ofOne;obtain ⟨b0,xs,rfl,gb,dx⟩:=dy.ji;refine ⟨_,aP (cQ (AL rfl T.xb.m T.xb.sg T.xb.rd T.xb.fc (aG (pv 0) (aG yQ bj)))) (dD (Ds (pv 0) (mN (xQ T) (hr.mono (by decide)) rfl T.d_copied.m T.d_copied.F.kp T.d_copied.b .nil lI (aG (pv 1) bj)) rfl)),?_⟩
 refine ⟨_,rfl,a,T.e_NoWeb,none,_,rfl,ha,T.q_NoWeb.obj,?_⟩;refine ⟨_,rfl,b0,xs,l,rfl,sG _ _ gb,dx.mono sG,fl,p1,Wo,λb zs H1 hb s1 Cc dz=>?_⟩;refine ⟨_,rfl,a,T.e_NoWeb,[],rfl,T.q_NoWeb.cls,T.n_NoWeb_fault, .inl ⟨rfl,s1 _ _ ha,λdx mj=>?_⟩⟩;have VP:b≠a:=(ar ha hb).symm;have NM:b≠dx:=ar Cc mj;have NK:a≠dx:=ar (s1 _ _ ha) mj;have hd:H dx=none:=s1.free mj;have Sr:G b=none:=sG.free hb;have Ms:G dx=none:=sG.free hd;refine q dx [.ref b] (upd G b (.tup zs)) _ (aL Sr _) (λc o e=>?_) (λc o nc e=>?_) (λc hc hg=>?_) ?_ hd ak ?_ (.cons (.tup ak (dz.pk fl)) .nil)
 ·by_cases z:c=b
  ·rw [z,ak] at e;cases e
   rw [z,ah NM,ah VP];exact Cc
  ·rw [ah z] at e
   have VQ:c≠a:=ar e ga;have VR:c≠dx:=ar e Ms;rw [ah VR,ah VQ];exact s1 _ _ (sG _ _ e)
 ·rw [ah (ar e hd),ah nc];exact s1 _ _ e
 ·rw [ah (λz=>hc (by rw [z];exact hb))];exact hg
 ·rw [ah NK,ak]
 ·rw [ah NM.symm];exact Ms
theorem mF:FnOk P w Z.K mg base (qT P w) 5 T.i_f T.i_fd ["self","turns"] (p9 Z (sU T.e_NoWeb)):=by
 have nd:=dh.nd;refine zO T.i_F dh [0,0,0,0] (by decide) (λds R Rx h=>by obtain ⟨_,_,rfl,_⟩:=h;rfl) (λaW A outer s H E ds R Rx hr h=>?_)
 have hu:=hr.units
 refine ⟨_,ag
   (aY (cY (rU qi qi aq (aJ bg rfl T.B.len ba (ae (aa 1) af)) (nD rfl T.c_MOST_POINTS))) (ai iF) aF)
  (ag
   (kg 2 (NC:= ["row"]) (src:= [none]) rfl nd (jD (aj bX)) trivial (bx (aa 1)) (λ_ _ _=>(bq 0 (show (["row"]:List Str).Nodup from by decide+kernel))) (λ_ _ _=>cO) (λ_ _ _=>(b6 fU rfl T.B.list cF (ae (aa 0) af))))
  (ag
   (aS false 3 nd (av T.d_first_fault (fA T) hr (ae (aa 2) af)))
  (ag
   (aY (aD kl (aa 3) bw (aM _)) (ai (wU rfl T.j_NoWeb (xP T) hr T.q_NoWeb T.g_NoWeb (ae (aa 3) af))) aF)
  (ai iF)))),?_⟩
 obtain ⟨p,w',rfl,n,ng,h1,dq,q⟩:=h;have lw:(w'.map aQ).length=w'.length:=bV _;have e1:D.bl (decide ((1:Int)≤((w'.map aQ).length:Int)))= .bl true:=congrArg D.bl (decide_eq_true (by rw [lw];omega))
 have e2:D.bl (decide (((w'.map aQ).length:Int)≤14))= .bl true:=congrArg D.bl (decide_eq_true (by rw [lw];omega))
 refine ⟨_,rfl,true,e1,aU ⟨true,e2,aI ?_⟩⟩;refine ⟨_,rfl,fM (ρ:= [none]) aQ aQ w' _ (λy hy Y h=>⟨_,rfl,h⟩) rfl (small (by omega)) λaE=>⟨trivial,?_⟩⟩
 refine ⟨_,rfl,w',rfl,n,h1,dq,λg=>absurd g ng,λ_ qq=>⟨trivial,?_⟩⟩;refine ⟨_,rfl,_,rfl,aU ?_⟩;refine ⟨_,rfl,⟨_,rfl,λd hd=>?_,by show 1≤3;decide,by show 3≤50;decide⟩,rfl,q qq⟩
 simp at hd
 rcases hd with rfl|rfl|rfl<;>exact ⟨rfl,rfl⟩
end kR
namespace Ws
open Wb
theorem oz{w:W}{ls:List (List Int)}:∀(m:Nat)(dy:Dy)(o:Option Pq),b7 w ls m dy o=true→dy.length=w.length→∀dz,Ok w ls dz→Full w dz→¬More dy dz
 |0,_,_,h,_=>by cases h
 |_+1,_,none,h,_=>by cases h
 |m+1,dy,some (.full p),h,hl=>λdz o f mo=>by
  rw [b7,jA] at h;obtain ⟨k,rfl,h1,h2⟩:=km h.1;have h3:=h.2;rw [nq] at h3;cases e:bE dz k with
  |none=>exact f k (by omega) e
  |some d=>
   obtain ⟨a,b⟩:=o.2 k d e
   have:d∈left w ls dy k:=iK.mpr ⟨a,λq hq z=>b q hq (mo q d z)⟩
   rw [List.isEmpty_iff.mp h3] at this;cases this
 |m+1,dy,some (.jC p ps),h,hl=>λdz o f mo=>by
  rw [b7,jA,jA] at h;obtain ⟨k,rfl,h1,h2⟩:=km h.1;obtain ⟨_,h4,h5⟩:=h;rw [nq] at h4 h5;have h4:=of_decide_eq_true h4;cases e:bE dz k with
  |none=>exact f k (by omega) e
  |some d=>
   obtain ⟨a,b⟩:=o.2 k d e;have hd:d∈left w ls dy k:=iK.mpr ⟨a,λq hq z=>b q hq (mo q d z)⟩;obtain ⟨i,hi⟩:=we a;have li:i<ps.length:=by rw [h4];exact (gF.mp hi).1
   have hz:(d,ps[i])∈(lst ls k).zip ps:=jz (i:=i) (by rw [Ed];exact ⟨hi,cS li⟩)
   have hf:=List.all_eq_true.mp h5 _ hz;rw [if_pos hd] at hf;refine oz m _ _ hf (by rw [dm];exact hl) dz o f λr c hr=>?_
   rw [lR h1] at hr
   by_cases e1:k=r
   ·rw [if_pos e1] at hr;cases hr;rw [←e1];exact e
   ·rw [if_neg e1] at hr;exact mo r c hr
def oi(ls nS:List (List Int)):Prop:=ls.length=nS.length∧∀p d,d∈lst ls p→d∈lst nS p
theorem oi.refl(ls:List (List Int)):oi ls ls:=⟨rfl,λ_ _ h=>h⟩
theorem oi.ok{w:W}{ls nS:List (List Int)}{dz:Dy}(l:oi ls nS)(o:Ok w ls dz):Ok w nS dz:=⟨o.1,λp d h=>⟨l.2 p d (o.2 p d h).1,(o.2 p d h).2⟩⟩
theorem sM{w v:W}{ls:List (List Int)}{dz:Dy}(hl:v.length=w.length)(h:∀p q,q∈row v p→q∈row w p)(o:Ok w ls dz):Ok v ls dz:=⟨by rw [hl];exact o.1,λp d e=>⟨(o.2 p d e).1,λq hq=>(o.2 p d e).2 q (h p q hq)⟩⟩
theorem yJ{ls:List (List Int)}{j:Nat}{l:List Int}(h:ls[j]? =some l):lst ls j=l:=by unfold lst;rw [dW,h];rfl
theorem vy{ls:List (List Int)}{j:Nat}{l:List Int}(hj:j<ls.length)(p:Nat):lst (ls.set j l) p=if j=p then l else lst ls p:=by
 unfold lst;rw [dW,gD]
 by_cases e:j=p
 ·rw [if_pos e,if_pos e,if_pos hj];rfl
 ·rw [if_neg e,if_neg e,dW]
theorem xM{w:W}(g:kz w){p q:Nat}(h:q∈row w p):kz ((w.set p ((row w p).erase q)).set q ((row w q).erase p))∧∀x y,y∈row ((w.set p ((row w p).erase q)).set q ((row w q).erase p)) x→y∈row w x:=by
 have hp:p<w.length:=yW h;have hq:q<w.length:=g.rng _ _ h;have mm:p≠q:=λe=>g.irr p (by rw [e] at h ⊢;exact h)
 have hr:∀x,row ((w.set p ((row w p).erase q)).set q ((row w q).erase p)) x=if q=x then (row w q).erase p else if p=x then (row w p).erase q else row w x:=by
  intro x;unfold row;rw [dW,gD]
  by_cases e:q=x
  ·rw [if_pos e,if_pos e,if_pos (by rw [dm];exact hq)];rfl
  ·rw [if_neg e,if_neg e,gD]
   by_cases e2:p=x
   ·rw [if_pos e2,if_pos e2,if_pos hp];rfl
   ·rw [if_neg e2,if_neg e2,dW]
 have sub:∀x y,y∈row ((w.set p ((row w p).erase q)).set q ((row w q).erase p)) x→y∈row w x:=λx y hy=>by
  rw [hr] at hy
  split at hy
  ·next e=>rw [←e];exact List.mem_of_mem_erase hy
  ·split at hy
   ·next e=>rw [←e];exact List.mem_of_mem_erase hy
   ·exact hy
 refine ⟨⟨λx y hy=>?_,λx hx=>g.irr x (sub x x hx),λx=>?_,λx y hy=>?_⟩,sub⟩
 ·rw [dm,dm];exact g.rng x y (sub x y hy)
 ·rw [hr]
  split
  ·exact (g.nod q).erase p
  ·split
   ·exact (g.nod p).erase q
   ·exact g.nod x
 ·have hs:=g.sym x y (sub x y hy)
  rw [hr] at hy ⊢
  by_cases e1:q=y
  ·rw [if_pos e1]
   have nx:x≠p:=by
    intro e;rw [if_neg (λz=>mm (by rw [←e,z])),if_pos e.symm,←e1] at hy
    exact absurd rfl ((List.Nodup.mem_erase_iff (g.nod p)).mp hy).1
   rw [←e1] at hs;exact (List.mem_erase_of_ne nx).mpr hs
  ·rw [if_neg e1]
   by_cases e2:p=y
   ·rw [if_pos e2]
    have nx:x≠q:=by
     intro e;rw [if_pos e.symm,←e2] at hy;exact absurd rfl ((List.Nodup.mem_erase_iff (g.nod q)).mp hy).1
    rw [←e2] at hs;exact (List.mem_erase_of_ne nx).mpr hs
   ·rw [if_neg e2];exact hs
end Ws
namespace L2
open PySem PySem.Spec PyProof.Rows
section
variable {Z:DC} {X:Cx} {B:Bs} {md:List Nat} {rn:Nat} {ρ:DN} {σ:St} {H G:Hp} {fp:Nat→List Addr} {k c e k1 k2 et:Expr} {tk te tt J1 J2:aR} {tc:cg} {pos:Pos}
theorem bW.as{σ:St}{ρ:DN}{i:Nat}{v:V}{o:Option D}{d:D}(e:bW Z G σ (ρ.set i o))(h:σ[i]? =some (some v))(dv:Dv Z G v d):bW Z G σ (ρ.set i (some d)):=by
 have:=e.set (i:=i) dv
 rw [List.set_set] at this
 have hs:σ.set i (some v)=σ:=by
  apply wj;intro j
  by_cases z:i=j
  ·subst z
   rw [gB (by
    apply Classical.byContradiction;intro q;rw [dR (dU q)] at h;cases h),h]
  ·rw [dF z]
 rw [hs] at this;exact this
variable {elt tg iter:Expr} {ifs:List Expr} {scope:Scope} {NC:List Str} {src:List (Option Nat)} {X1:cg} {wi:gH} {g:cT}
end
section
variable {Z:DC} {X:Cx} {B:Bs} {md:List Nat} {rn:Nat} {ρ:DN} {σ:St} {H G:Hp} {fp:Nat→List Addr} {k c e:Expr} {tk te tz:aR} {tc:cg} {pos:Pos}
theorem SIx.forget{i:Nat}{v:V}(S:SIx Z B md ρ σ H G fp):SIx Z B md (ρ.set i none) (σ.set i (some v)) H G fp where
 ex:=S.ex
 fl:=S.fl
 len:=by rw [dm,dm];exact S.len
 at_:=λj c h=>by
  by_cases z:i=j
  ·subst z
   by_cases hi:i<ρ.length
   ·rw [gB hi] at h;cases h
   ·rw [qP (dU hi),dR (dU hi)] at h;cases h
  ·rw [dF z] at h ⊢
   exact S.at_ j c h
 nd:=S.nd
 ap:=S.ap
 nw:=S.nw
def Ia(md:List Nat)(ix iy:Nat)(tk:aR)(tc:cg)(te:aR):bO:=λE ρ=>∃cX,ρ[ix]? =some (some (.lst cX))∧iy<ρ.length∧tk ρ λkd=>∃(n:Int)(j:Nat)(ds:List D),kd= .int n∧gc cX.length n=some j∧cX[j]? =some (.lst ds)∧
 ∀l:Addr,tc (ρ.set iy (some (.lst ds))) λb=>if b=true then te (ρ.set iy (some (.lst ds))) λd=>∃(m:Nat),d=aw m∧m<ds.length∧m<1000∧E.nx ((ρ.set iy (some (.obj l))).set ix (some (.lst (cX.set j (.lst (ds.eraseIdx m)))))) else E.nx (ρ.set iy (some (.obj l)))
theorem ao.erase:∀{vs:List V}{ds:List D}(n:Nat),ao Z G vs ds→ao Z G (vs.eraseIdx n) (ds.eraseIdx n)
 |_,_,_, .nil=> .nil
 |_,_,0, .cons a as=>as
 |_,_,n+1, .cons a as=> .cons a (ao.erase n as)
theorem zJ(ix iy:Nat){x y:Str}{px py ps qt pa pc pi pe:Pos}{rest:List Stmt}{u:bO}(hN:X.N.Nodup)(hk:DE Z X k tk)(hc:DT Z X c tc)(he:DE Z X e te)(hu:DSs Z X md rn rest u)
  (C1:ix≠iy:=by decide) (CA:md.getD ix 0=2:=by rfl) (Jd:md.getD iy 0=0:=by rfl)
  (IV:X.N[ix]? =some x:=by rfl) (Cw:X.N[iy]? =some y:=by rfl) (Jb:Loc X.env.scope y:=by first|exact Or.inl rfl|exact Or.inr rfl)
  (Jl:jJ X.env.scope x:=by first|exact Or.inl rfl|exact Or.inr (Or.inl rfl) |exact Or.inr (Or.inr rfl)) (Jm:jJ X.env.scope y:=by first|exact Or.inl rfl|exact Or.inr (Or.inl rfl) |exact Or.inr (Or.inr rfl))
  (mj:(x==("__debug__":Str))=false:=by decide) (IL:(x==("__classdict__":Str))=false:=by decide) (IS:(y==("__debug__":Str))=false:=by decide) (IM:(y==("__classdict__":Str))=false:=by decide)
  (hp:iA k:=by exact λ_ _=>rfl) (hs:swapsWith (.Subscript (.Name x px) k ps) (some (.Name y py)) pos.line X.env=pure false:=by rfl)
  (hf:X.fn y=true∨X.env.scope.names.lookup y=some .local:=by first|exact .inl rfl|exact .inr rfl|assumption)
  (IG:attributeBase (.Name y qt) "pop" X.env (eval (.Name y qt) X.env)=eval (.Name y qt) X.env:=by rfl) (fZ:((backTo pc (starEach [e] X.env)).all (λx=>!x.1)&&(backToKw pc (keywordEach [] X.env)).all (λx=>x.1.isSome)&&decide (([e]:List Expr).length+([]:List Keyword).length+(if ([]:List Keyword).isEmpty then 0 else 1)<30))=true:=by rfl) (I0:(pa.endLine==pc.line)=true:=by rfl) (iH:starEach [e] X.env=(false,eval e X.env)::starEach [] X.env:=by rfl) (bU:(backTo pc (starEach [] X.env)).any (·.1)=false:=by rfl)
  (Jj:swapsWith (.Call (.Attribute (.Name y qt) "pop" pa) [e] [] pc) none pe.line X.env=pure false:=by rfl):
  DSs Z X md rn (.Assign [.Name y py] (.Subscript (.Name x px) k ps) pos:: .If c [.Expr (.Call (.Attribute (.Name y qt) "pop" pa) [e] [] pc) pe] [] pi::rest) (yx (Ia md ix iy tk tc te) u):=by
 refine (aP (cy hN Cw Jb (jm eE (pv ix IV Jl mj IL) hk hp) hs hf) (aP (um hc (dD (cQ (jl PySem.F.plainAttrs_list PySem.F.slot_list_pop PySem.F.type_list_pop AA (pv iy Cw Jm IS IM) (aG he bj iH) IG fZ I0 iH bU) Jj)) mS) hu)).imp ?_;rintro Dn σ H ⟨B,ρ,E,⟨G,fp,S⟩,⟨cX,hx,ly,h⟩,M⟩;obtain ⟨v0,jU,o⟩:=S.at_ ix _ hx;refine ⟨_,jU,S.ev true h λkd IW=>?_⟩;obtain ⟨n,j,ds,rfl,hj,Cy,h⟩:=IW;refine ⟨rfl,λv G1 H1 S1 x1 dv=>?_⟩;cases dv;obtain ⟨Tl,ys,l,xs,eu,e1,e2,e3,e4,e5,e6,bc,_⟩:=S1.two CA hx Cy;cases e1;rw [e2] at jU;cases jU;refine ⟨Tl,ys,n, .ref l,rfl,rfl,bb.of e3,pd e4 hj e5,?_⟩;have h:=h l;have S2:=S1.oI (i:=iy) (v:= .ref l) (d:= .obj l) Jd (.obj l);have JA:iy<σ.length:=by rw [←S1.len];exact ly
 have gy:(σ.set iy (some (V.ref l)))[iy]? =some (some (.ref l)):=gB JA;have wX:Dv Z H1 (.ref l) (.lst ds):= .lst e6 (bc.mono S1.ex.sub);refine ⟨H1,_,_, .refl _,S2.pQ.as gy wX,h,λb hb G3 H3 x3=>?_⟩;have S3:=S2.grow (Ext.all S2.ex.sub x3);cases b with
 |false=>exact aI ⟨B,_,E,⟨_,_,S3⟩,(by simpa using hb),M⟩
 |true=>
  refine aU ?_;rw [if_pos rfl] at hb;have Md:Dv Z H3 (.ref l) (.lst ds):=wX.mono x3.hh;refine ⟨_,gy, .inl ⟨rfl,_,bb.of (x3.hh _ _ e6)⟩,H3,_,_, .refl _,S3.pQ.as gy Md,hb,?_⟩;rintro _ ⟨m,rfl,hm,Xy,hb⟩ v G4 H4 x4 BV;cases BV;have S4:=S3.grow (Ext.all S3.ex.sub x4);have Jo:(ρ.set iy (some (.obj l)))[ix]? =some (some (.lst cX)):=by rw [dF (Ne.symm C1)];exact hx
  have sx:(σ.set iy (some (V.ref l)))[ix]? =some (some (.ref Tl)):=by rw [dF (Ne.symm C1)];exact e2
  have Iu:H4 Tl=some (.lst ys):=x4.hh _ _ (x3.hh _ _ e3);obtain ⟨T6,Xa,l6,Ec,Sa,f1,f2,f3,f4,f5,f6,u5,put⟩:=S4.two CA Jo Cy;cases f1;rw [sx] at f2;cases f2;rw [Iu] at f3;cases f3;rw [e5] at f5;cases f5;have lm:m<Ec.length:=by rw [u5.length];exact hm
  refine ⟨l,Ec,m,m,Ec[m],rfl,rfl,f6,by omega,by omega,?_,cS lm,B,_,E,⟨_,_,put _ _ (u5.erase m)⟩,hb,M⟩
  unfold seqIndex?;simp;omega
def H0(md:List Nat)(ix iy iz:Nat)(tk tz:aR)(tc:cg)(te:aR):bO:=λE ρ=>∃cX,ρ[ix]? =some (some (.lst cX))∧(iy<ρ.length∧iz<ρ.length)∧tk ρ λkd=>∃(n:Int)(j:Nat)(ds:List D),kd= .int n∧gc cX.length n=some j∧cX[j]? =some (.lst ds)∧
 ∀l:Addr,tz (ρ.set iy (some (.lst ds))) λdz=>tc ((ρ.set iy (some (.lst ds))).set iz (some dz)) λb=>if b=true then te ((ρ.set iy (some (.lst ds))).set iz (some dz)) λd=>∃m,d= .int m∧ds.length<1000∧E.nx (((ρ.set iy (some (.obj l))).set iz none).set ix (some (.lst (cX.set j (.lst (ds++ [.int m])))))) else E.nx ((ρ.set iy (some (.obj l))).set iz none)
def Ge(Z:DC)(X:Cx)(i:Nat)(st:Stmt)(tz:aR):Prop:=PS X st (λD σ H=>cx Z tz σ H λv H'=>D.nx (σ.set i (some v)) H')
theorem E1(i:Nat){x:Str}{px hZ:Pos}{tg iter elt:Expr}{ifs:List Expr}{scope:Scope}{NC:List Str}{src:List (Option Nat)}{wi:gH}{g:cT}{tt:cg}(hc:X.calm=true)(hN:X.N.Nodup)(c:bz X scope)(eR:cv scope X.N src NC)(hi:DI Z X tg iter wi)
  (hg:∀ex s H,DG Z (dN X scope NC ex s H) tg g) (ht:∀ex s H,zh Z (dN X scope NC ex s H) ifs tt) (he:∀ex s H,DE Z (dN X scope NC ex s H) elt te)
  (je:swapsWith (.ListComp elt [⟨tg,iter,ifs,0⟩] scope pos) (some (.Name x px)) hZ.line X.env=pure true:=by rfl) (tT:X.N[i]? =some x:=by rfl) (hx:Loc X.env.scope x:=by first|exact Or.inl rfl|exact Or.inr rfl)
  (hf:X.fn x=true∨X.env.scope.names.lookup x=some .local:=by first|exact .inl rfl|exact .inr rfl|assumption)
  (hs:∀x,foldedSetIterable iter X.env x=pure x:=by intro _;rfl):Ge Z X i (.Assign [.Name x px] (.ListComp elt [⟨tg,iter,ifs,0⟩] scope pos) hZ) (BB wi g tt te src):=
 (kr hc hN tT hx c eR hi hg ht he je hf hs).imp λD σ H h=>t9 σ H _ h
theorem zI(ix iy iz:Nat){mid:Stmt}{x y:Str}{px py ps qt pa pc pi pe:Pos}{rest:List Stmt}{u:bO}(hN:X.N.Nodup)(hk:DE Z X k tk)(hz:Ge Z X iz mid tz)(hc:DT Z X c tc)(he:DE Z X e te)(hu:DSs Z X md rn rest u)
  (C1:ix≠iy:=by decide) (N0:ix≠iz:=by decide) (VZ:iy≠iz:=by decide) (CA:md.getD ix 0=2:=by rfl) (Jd:md.getD iy 0=0:=by rfl)
  (IV:X.N[ix]? =some x:=by rfl) (Cw:X.N[iy]? =some y:=by rfl) (Jb:Loc X.env.scope y:=by first|exact Or.inl rfl|exact Or.inr rfl)
  (Jl:jJ X.env.scope x:=by first|exact Or.inl rfl|exact Or.inr (Or.inl rfl) |exact Or.inr (Or.inr rfl)) (Jm:jJ X.env.scope y:=by first|exact Or.inl rfl|exact Or.inr (Or.inl rfl) |exact Or.inr (Or.inr rfl))
  (mj:(x==("__debug__":Str))=false:=by decide) (IL:(x==("__classdict__":Str))=false:=by decide) (IS:(y==("__debug__":Str))=false:=by decide) (IM:(y==("__classdict__":Str))=false:=by decide)
  (hp:iA k:=by exact λ_ _=>rfl) (hs:swapsWith (.Subscript (.Name x px) k ps) (some (.Name y py)) pos.line X.env=pure false:=by rfl)
  (hf:X.fn y=true∨X.env.scope.names.lookup y=some .local:=by first|exact .inl rfl|exact .inr rfl|assumption)
  (IG:attributeBase (.Name y qt) "append" X.env (eval (.Name y qt) X.env)=eval (.Name y qt) X.env:=by rfl) (fZ:((backTo pc (starEach [e] X.env)).all (λx=>!x.1)&&(backToKw pc (keywordEach [] X.env)).all (λx=>x.1.isSome)&&decide (([e]:List Expr).length+([]:List Keyword).length+(if ([]:List Keyword).isEmpty then 0 else 1)<30))=true:=by rfl) (I0:(pa.endLine==pc.line)=true:=by rfl) (iH:starEach [e] X.env=(false,eval e X.env)::starEach [] X.env:=by rfl) (bU:(backTo pc (starEach [] X.env)).any (·.1)=false:=by rfl)
  (Jj:swapsWith (.Call (.Attribute (.Name y qt) "append" pa) [e] [] pc) none pe.line X.env=pure false:=by rfl):
  DSs Z X md rn (.Assign [.Name y py] (.Subscript (.Name x px) k ps) pos::mid:: .If c [.Expr (.Call (.Attribute (.Name y qt) "append" pa) [e] [] pc) pe] [] pi::rest) (yx (H0 md ix iy iz tk tz tc te) u):=by
 refine (aP (cy hN Cw Jb (jm eE (pv ix IV Jl mj IL) hk hp) hs hf) (aP hz (aP (um hc (dD (cQ (jl PySem.F.plainAttrs_list PySem.F.slot_list_append PySem.F.type_list_append eW (pv iy Cw Jm IS IM) (aG he bj iH) IG fZ I0 iH bU) Jj)) mS) hu))).imp ?_;rintro Dn σ H ⟨B,ρ,E,⟨G,fp,S⟩,⟨cX,hx,⟨ly,lz⟩,h⟩,M⟩;obtain ⟨v0,jU,o⟩:=S.at_ ix _ hx;refine ⟨_,jU,S.ev true h λkd IW=>?_⟩;obtain ⟨n,j,ds,rfl,hj,Cy,h⟩:=IW;refine ⟨rfl,λv G1 H1 S1 x1 dv=>?_⟩;cases dv;obtain ⟨Tl,ys,l,xs,eu,e1,e2,e3,e4,e5,e6,bc,_⟩:=S1.two CA hx Cy;cases e1;rw [e2] at jU;cases jU;refine ⟨Tl,ys,n, .ref l,rfl,rfl,bb.of e3,pd e4 hj e5,?_⟩;have h:=h l;have S2:=S1.oI (i:=iy) (v:= .ref l) (d:= .obj l) Jd (.obj l);have JA:iy<σ.length:=by rw [←S1.len];exact ly
 have XQ:iz<σ.length:=by rw [←S1.len];exact lz
 have gy:(σ.set iy (some (V.ref l)))[iy]? =some (some (.ref l)):=gB JA;have wX:Dv Z H1 (.ref l) (.lst ds):= .lst e6 (bc.mono S1.ex.sub);refine ⟨H1,_,_, .refl _,S2.pQ.as gy wX,h,λdz hz vz G2 H2 x2 Sf=>?_⟩;have Kk:=S2.grow (Ext.all S2.ex.sub x2);have S3:=Kk.forget (i:=iz) (v:=vz);have Mc:Dv Z H2 (.ref l) (.lst ds):=wX.mono x2.hh;have GS:bW Z H2 ((σ.set iy (some (V.ref l))).set iz (some vz)) ((ρ.set iy (some (.lst ds))).set iz (some dz)):=(Kk.pQ.as gy Mc).set (Sf.mono x2.sub);have Sw:((σ.set iy (some (V.ref l))).set iz (some vz))[iy]? =some (some (.ref l)):=by rw [dF (Ne.symm VZ)];exact gy
 refine ⟨H2,_,_, .refl _,GS,hz,λb hb G3 H3 x3=>?_⟩;have S4:=S3.grow (Ext.all S3.ex.sub x3);cases b with
 |false=>exact aI ⟨B,_,E,⟨_,_,S4⟩,(by simpa using hb),M⟩
 |true=>
  refine aU ?_;rw [if_pos rfl] at hb;refine ⟨_,Sw, .inl ⟨rfl,_,bb.of (x3.hh _ _ (x2.hh _ _ e6))⟩,H3,_,_, .refl _,GS.mono x3.hh,hb,?_⟩;rintro _ ⟨m,rfl,hm,hb⟩ v G4 H4 x4 BV;cases BV;have S5:=S4.grow (Ext.all S4.ex.sub x4);have Jo:((ρ.set iy (some (.obj l))).set iz none)[ix]? =some (some (.lst cX)):=by rw [dF (Ne.symm N0),dF (Ne.symm C1)];exact hx
  have sx:((σ.set iy (some (V.ref l))).set iz (some vz))[ix]? =some (some (.ref Tl)):=by rw [dF (Ne.symm N0),dF (Ne.symm C1)];exact e2
  have Iu:H4 Tl=some (.lst ys):=x4.hh _ _ (x3.hh _ _ (x2.hh _ _ e3));obtain ⟨T6,Xa,l6,Ec,Sa,f1,f2,f3,f4,f5,f6,u5,put⟩:=S5.two CA Jo Cy;cases f1;rw [sx] at f2;cases f2;rw [Iu] at f3;cases f3;rw [e5] at f5;cases f5;exact ⟨l,Ec, .int m,rfl,rfl,f6,cD (by rw [u5.length];omega),B,_,E,⟨_,_,put _ _ (u5.snoc (.int m))⟩,hb,M⟩
end
section
variable {Z:DC} {X:Cx} {md:List Nat}
def BI(i:Nat)(t:bO):bO:=λE ρ=>(∃d,ρ[i]? =some (some d))∧t {nx:=λ_=>False,rt:=E.rt} ρ
theorem u0(i:Nat){qH:List Stmt}{t:bO}(h:DSs Z X (md.set i 0) 0 qH t):DSs Z X md 0 qH (BI i t):=by
 refine fS.imp h ?_;rintro Dn σ H ⟨B,ρ,E,⟨G,fp,S⟩,⟨⟨d,hd⟩,ht⟩,M⟩;obtain ⟨v,hv,dv,S'⟩:=S.yU hd;refine ⟨B,ρ,_,⟨_,_,⟨S'.ex,S'.fl,S.len,λj c hj=>?_,S'.nd,S'.ap,S'.nw⟩⟩,ht,⟨λ_ z=>z.elim,M.rt,λ_ z=>z.elim,λ_ z=>z.elim,λ_ _ z=>z.elim⟩⟩
 by_cases e:j=i
 ·subst e
  rw [hd] at hj;cases hj;refine ⟨v,hv,?_⟩
  have:(md.set j 0).getD j 0=0:=by
   rw [dW,gD]
   split<;>first| (split<;>rfl) |exact absurd rfl ‹_›
  rw [this,if_pos rfl];exact ⟨dv,rfl⟩
 ·obtain ⟨u,hu,ow⟩:=S'.at_ j c (by rw [dF (Ne.symm e)];exact hj)
  refine ⟨u,hu,?_⟩
  have:(md.set i 0).getD j 0=md.getD j 0:=by rw [dW,dW,dF (Ne.symm e)]
  rw [this];exact ow
end
section
variable {Z:DC} {X:Cx}
def Bz:dY:=λx y P=>match x,y with
 | .bl b, .bl c=>P (.bl (!(b==c)))
 |_,_=>False
theorem Dd:OpR X (compareOp .IsNot) (λx y H Q=>∃b c,x= .bl b∧y= .bl c∧Q (.bl (!(b==c))) H):=by
 intro pins s σ H x y v u Q I rx ry h;obtain ⟨b,c,rfl,rfl,q⟩:=h;cases rx;cases ry;exact isnot_bool (tQ I q rfl)
theorem vI:OpR X (compareOp .IsNot) (bu Z Bz):=by
 refine Dd.imp ?_;rintro x y H Q ⟨G,a,b,P,s,da,db,hr,q⟩;unfold Bz at hr
 split at hr
 ·exact ⟨_,_,da.Hc,db.Hc,q _ hr _ _ _ (.refl s) (.bl _)⟩
 ·exact hr.elim
end
end L2
namespace kR
open PySem L2 Wb
variable {P:Program} {w:World} {mg:Str→Option Value} {base:Heap} {Z:DC} (T:Txt Z mg)
open Wy Ws
theorem qu{α:Type}{f:α→D}{g:α→PyData}(h:∀a,(f a).py=some (g a)):∀l:List α,eZ (l.map f)=some (l.map g)
 | []=>rfl
 |a::l=>by
  have:=qu h l
  rw [List.map_cons,eZ,h a,this];rfl
theorem vF{l:List D}{ps:List PyData}(h:eZ l=some ps):PyData.eqv (.list ps) (.list [])=l.isEmpty:=by
 cases l with
 |nil=>
  have:ps= []:=(Option.some.inj h).symm
  rw [this];decide
 |cons a l=>
  cases ps with
  |nil=>
   rw [eZ] at h;cases e:a.py with
   |none=>rw [e] at h;cases h
   |some x=>
    rw [e] at h;cases e2:eZ l with
    |none=>rw [e2] at h;cases h
    |some y=>rw [e2] at h;cases h
  |cons b ps=>rw [PyData.eqv];rfl
theorem mv(l:List Int):eZ (au l)=some (l.map λi=>PyData.int i):=qu (g:=λi=>PyData.int i) (λi=>rfl) l
theorem vn(l:List Int):(PyData.list (l.map λi=>PyData.int i)).depth≤64:=by
 rw [PyData.depth]
 have:=kC (f:=λi:Int=>PyData.int i) (k:=1) (λt=>by simp [PyData.depth]) l
 omega
theorem CW{l:List Int}{P:D→Prop}(q:P (.bl (!l.isEmpty))):BD (.lst (au l)) (.lst []) P:=by
 refine ⟨.list (l.map λi=>PyData.int i), .list [],by rw [D.py,mv];rfl,rfl,vn l,?_⟩
 rw [if_pos rfl,vF (mv l)];unfold au;rw [List.isEmpty_map];exact q
theorem B0{l:List Int}{P:D→Prop}(q:P (.bl l.isEmpty)):zB (.lst (au l)) (.lst []) P:=by
 refine ⟨.list (l.map λi=>PyData.int i), .list [],by rw [D.py,mv];rfl,rfl,vn l,?_⟩
 rw [if_neg fF,vF (mv l)];unfold au;rw [List.isEmpty_map];exact q
theorem pw:∀(w2:List (List D))(o:Option D)(acc:List D)(N:List D→Prop),acc.length+w2.length≤sizeLine→N (acc++w2.map D.lst)→tY (eh 0) (B3 (cu 0)) (w2.map D.lst) [o] acc N
 | [],o,acc,N,_,h=>by
  show N acc;simpa using h
 |x::xs,o,acc,N,hz,h=>by
  rw [cJ] at hz;refine ⟨_,rfl,(by omega:acc.length<sizeLine),?_⟩
  refine pw xs _ (acc++ [D.lst x]) N (by simp;omega) ?_
  rw [List.append_assoc];exact h
theorem iL(v:Int){n:Nat}(h:1≤n):∃j:Nat,v%(n:Int)=(j:Int)∧j<n:=by
 have:=ik v (n:Int) (by omega)
 exact ⟨(v%(n:Int)).toNat,by omega,by omega⟩
theorem mw{n j:Nat}(h:j<n):gc n (j:Int)=some j:=by unfold gc;rw [if_pos (by omega),if_pos (by omega)];exact congrArg some (by omega)
theorem qb(ls:List (List Int)):cH ls= .lst ((ls.map au).map D.lst):=by unfold cH;rw [jB];rfl
theorem sR{ls:List (List Int)}{j:Nat}{l:List Int}(h:ls[j]? =some l):((ls.map au).map D.lst)[j]? =some (.lst (au l)):=by rw [jB,dX,h];rfl
theorem sS(ls:List (List Int))(j:Nat)(l:List Int):D.lst (((ls.map au).map D.lst).set j (.lst (au l)))=cH (ls.set j l):=by rw [qb,List.map_set,List.map_set]
theorem dQ(ls:List (List Int)):((ls.map au).map D.lst).length=ls.length:=by simp
theorem yG{ls:List (List Int)}{j:Nat}{l:List Int}(l4:∀l∈ls,l.length≤4)(h:l.length≤4):∀x∈ls.set j l,x.length≤4:=λx hx=>by
 rcases List.mem_or_eq_of_mem_set hx with h'|rfl
 ·exact l4 x h'
 ·exact h
theorem tP{α β:Type}{f:α→β}:∀(l:List α)(m:Nat),(l.map f).eraseIdx m=(l.eraseIdx m).map f
 | [],m=>by simp
 |a::l,0=>by simp
 |a::l,m+1=>by simp [tP l m]
def DU:bN:=λds P=>∃(ls:List (List Int))(v:Int),ds= [cH ls, .int v]∧1≤ls.length∧ls.length≤14∧(∀l∈ls,l.length≤4)∧∀nS,oi nS ls→(∀l∈nS,l.length≤4)→P (cH nS)
theorem qj:FnOk P w Z.K mg base br 1 T.d__law_fewer.f T.d__law_fewer.fd ["_law_lists","_law_number"] (aC Z DU):=by
 have nd:=j8.nd;refine aO T.d__law_fewer.F j8 [0,0,2,0] (by decide) (λds R h=>by obtain ⟨_,_,rfl,_⟩:=h;rfl) (λaW A outer s H E ds R hr h=>?_)
 have hu:=hr.units
 refine ⟨_,(ag (i9 2 (NC:= ["_law_row"]) (src:= [none]) rfl nd (jD (aj fk)) trivial (bx (aa 0)) (λ_ _ _=>(bq 0 (show (["_law_row"]:List Str).Nodup from by decide+kernel))) (λ_ _ _=>(pN rfl rfl T.B.list cF (aa 0))))
   (zJ 2 3 nd (az bJ (aa 1) (aJ bg rfl T.B.len ba (ae (aa 2) af))) (aD (lF hu) (aa 3) (gN af) (aM _)) (az bJ (az bS (aa 1) (aJ bg rfl T.B.len ba (ae (aa 2) af))) (aJ bg rfl T.B.len ba (ae (aa 3) af)))
   (ai (ay (aa 2))))),?_⟩
 obtain ⟨ls,v,rfl,h1,dq,l4,q⟩:=h;refine ⟨_,rfl,?_⟩;refine (?_:tY _ _ (ls.map λl=>D.lst (au l)) _ _ _);rw [show (ls.map λl=>D.lst (au l))=(ls.map au).map D.lst by rw [jB];rfl]
 refine pw (ls.map au) none [] _ (by rw [ke,Nat.zero_add,bV];exact small (by omega)) ?_
 rw [nv];obtain ⟨j,ej,lj⟩:=iL v h1;obtain ⟨l,hl⟩:∃l,ls[j]? =some l:=⟨_,cS lj⟩;have ML:=l4 l (jz hl);refine ⟨_,rfl,by show 3<4;decide,?_⟩
 refine ⟨_,rfl,_,rfl,?_⟩;refine (?_:(0:Int)<(((ls.map au).map D.lst).length:Int)∧∃(n:Int)(j:Nat)(ds:List D),D.int (v%(((ls.map au).map D.lst).length:Int))= .int n∧_);rw [dQ,ej];refine ⟨by omega,(j:Int),j,au l,rfl,mw lj,sR hl,λa=>?_⟩
 refine ⟨_,rfl,by show 0≤sizeLine;decide,CW ⟨_,rfl,bA (λe=>?_) (λe=>?_)⟩⟩
 ·have ne:l≠ []:=λz=>by rw [z] at e;cases e
  have lp:1≤l.length:=by cases l with|nil=>exact absurd rfl ne|cons a b=>rw [cJ];omega
  obtain ⟨m,em,lm⟩:=iL (v / (ls.length:Int)) lp;refine ⟨_,rfl,_,rfl,?_⟩;refine (?_:((0:Int)<(((ls.map au).map D.lst).length:Int)∧(((ls.map au).map D.lst).length:Int)<1073741824)∧_);refine ⟨⟨by rw [dQ];omega,by rw [dQ];omega⟩,_,rfl,?_⟩
  refine (?_:(0:Int)<((au l).length:Int)∧∃m':Nat,D.int (v / (((ls.map au).map D.lst).length:Int)%((au l).length:Int))=aw m'∧_);rw [dQ,bK,em];refine ⟨by omega,m,rfl,lm,by omega,?_⟩
  refine ⟨_,rfl,?_⟩;rw [show (au l).eraseIdx m=au (l.eraseIdx m) from tP _ _,sS];refine q _ ⟨by rw [dm],λp d hd=>?_⟩ (yG l4 (fz (List.length_eraseIdx_le ..) ML))
  rw [vy lj] at hd
  split at hd
  ·next e=>rw [←e,yJ hl];exact List.mem_of_mem_eraseIdx hd
  ·exact hd
 ·refine ⟨_,rfl,?_⟩
  rw [←qb];exact q ls (.refl ls) l4
def FU:bN:=λds P=>∃(ls:List (List Int))(v:Int),ds= [cH ls, .int v]∧1≤ls.length∧ls.length≤14∧(∀l∈ls,l.length≤4)∧∀nS,oi ls nS→(∀l∈nS,l.length≤4)→P (cH nS)
theorem rB:FnOk P w Z.K mg base br 1 T.d__law_more.f T.d__law_more.fd ["_law_lists","_law_number"] (aC Z FU):=by
 have nd:=kK.nd;refine aO T.d__law_more.F kK [0,0,2,0,0] (by decide) (λds R h=>by obtain ⟨_,_,rfl,_⟩:=h;rfl) (λaW A outer s H E ds R hr h=>?_)
 have hu:=hr.units
 refine ⟨_,(ag (i9 2 (NC:= ["_law_row"]) (src:= [none]) rfl nd (jD (aj eI)) trivial (bx (aa 0)) (λ_ _ _=>(bq 0 (show (["_law_row"]:List Str).Nodup from by decide+kernel))) (λ_ _ _=>(pN rfl rfl T.B.list cF (aa 0))))
   (zI 2 3 4 nd (az bJ (aa 1) (aJ bg rfl T.B.len ba (ae (aa 2) af))) (E1 4 (NC:= ["_law_dye","_law_row"]) (src:= [none,some 3]) rfl nd (jD (aj eI)) ⟨rfl,rfl,trivial⟩ (bx (aK (aa 0) (az bJ (az bS (aa 1) (aJ bg rfl T.B.len ba (ae (aa 2) af))) (aJ bg rfl T.B.len ba (ae (aa 2) af))))) (λ_ _ _=>(bq 0 (show (["_law_dye","_law_row"]:List Str).Nodup from by decide+kernel))) (λ_ _ _=>(lY (aD fP (aa 0) (aa 1) (by with_unfolding_all rfl)))) (λ_ _ _=>(aa 0))) (aD ub (aJ bg rfl T.B.len ba (ae (aa 3) af)) aq (aM _)) (aK (az cf (aa 4) (gN (ae (az cf (aJ (Bt rfl) rfl T.B.max El (ae (az cf (gN (ae aq af)) (aa 3)) af)) aq) af))) aq)
   (ai (ay (aa 2))))),?_⟩
 obtain ⟨ls,v,rfl,h1,dq,l4,q⟩:=h;refine ⟨_,rfl,?_⟩;refine (?_:tY _ _ (ls.map λl=>D.lst (au l)) _ _ _);rw [show (ls.map λl=>D.lst (au l))=(ls.map au).map D.lst by rw [jB];rfl]
 refine pw (ls.map au) none [] _ (by rw [ke,Nat.zero_add,bV];exact small (by omega)) ?_
 rw [nv];obtain ⟨j,ej,lj⟩:=iL v h1;obtain ⟨l,hl⟩:∃l,ls[j]? =some l:=⟨_,cS lj⟩;have ML:=l4 l (jz hl);refine ⟨_,rfl,⟨by show 3<5;decide,by show 4<5;decide⟩,?_⟩
 refine ⟨_,rfl,_,rfl,?_⟩;refine (?_:(0:Int)<(((ls.map au).map D.lst).length:Int)∧∃(n:Int)(j:Nat)(ds:List D),D.int (v%(((ls.map au).map D.lst).length:Int))= .int n∧_);rw [dQ,ej];refine ⟨by omega,(j:Int),j,au l,rfl,mw lj,sR hl,λa=>?_⟩
 obtain ⟨j2,Sh,Vo⟩:=iL (v / (ls.length:Int)) h1;obtain ⟨l2,zW⟩:∃l,ls[j2]? =some l:=⟨_,cS Vo⟩;have Xi:=l4 l2 (jz zW);refine ⟨_,rfl,_,rfl,_,rfl,?_⟩;refine (?_:((0:Int)<(((ls.map au).map D.lst).length:Int)∧(((ls.map au).map D.lst).length:Int)<1073741824)∧_);refine ⟨⟨by rw [dQ];omega,by rw [dQ];omega⟩,_,rfl,?_⟩
 refine (?_:(0:Int)<(((ls.map au).map D.lst).length:Int)∧∃d,cE (ls.map λl=>D.lst (au l)) (v / (((ls.map au).map D.lst).length:Int)%(((ls.map au).map D.lst).length:Int))=some d∧_);rw [dQ,Sh];refine ⟨by omega, .lst (au l2),aV (by rw [dX,zW];rfl),?_⟩
 refine (?_:ig _ _ _ (l2.map λi=>D.int i) _ _ _);refine mx (λρ=>∃o,ρ= [o,some (.lst (au l))]) _ (λd=>!decide (d∈l)) (λi=>D.int i) l2 _ [] _ (λy hy aE hI Y Nn hY hN=>?_) ⟨none,rfl⟩ (by rw [ke,Nat.zero_add];exact small (by omega)) λaE _=>?_
 ·obtain ⟨o,rfl⟩:=hI
  refine ⟨_,rfl,_,rfl,rfl,gQ _,_,rfl,?_⟩;rw [if_pos rfl,mn];exact bA (λe=>⟨_,rfl,hY _ ⟨_,rfl⟩ e⟩) (λe=>hN _ ⟨_,rfl⟩ e)
 rw [nv];have ho:(l2.filter (λd=>!decide (d∈l))).length≤1000:=fz (List.length_filter_le ..) (by omega)
 generalize l2.filter (λd=>!decide (d∈l))=xT at ho;refine ⟨_,rfl,?_⟩;refine (?_:∃k,D.bl (decide (((au l).length:Int)<4))= .bl k∧_);rw [bK];refine ⟨_,rfl,bA (λe=>?_) (λe=>?_)⟩
 ·have e:l.length<4:=by have:=of_decide_eq_true e;omega
  have lo:(xT.map λi=>D.int i).length≤1000:=by rw [bV];exact ho
  refine ⟨_,rfl,by show 1≤sizeLine;decide,_,rfl,small (by show 1+(au l).length≤_;rw [bK];omega),0::l,rfl,by simp,λn _ _=>?_⟩
  refine ⟨by show 1≤sizeLine;decide,by rw [sizeLine_eq];show (xT.map λi=>D.int i).length+1≤_;omega,?_⟩
  obtain ⟨m,hm⟩:∃m:Int,(xT++ [n+1])[0]? =some m:=by
   cases xT with
   |nil=>exact ⟨_,rfl⟩
   |cons x xs=>exact ⟨_,rfl⟩
  refine ⟨.int m,?_,m,rfl,by omega,?_⟩
  ·show cE ((xT.map λi=>D.int i)++ [D.int (n+1)]) ((0:Nat):Int)=_
   exact aV (by rw [show (xT.map λi=>D.int i)++ [D.int (n+1)]=(xT++ [n+1]).map λi=>D.int i by rw [ny];rfl,dX,hm];rfl)
  ·refine ⟨_,rfl,?_⟩
   rw [show au l++ [D.int m]=au (l++ [m]) by unfold au;rw [ny];rfl,sS]
   refine q _ ⟨by rw [dm],λp d hd=>?_⟩ (yG l4 (by rw [fw,List.length_singleton];omega))
   rw [vy lj]
   split
   ·next e=>rw [←e,yJ hl] at hd;exact kc _ hd
   ·exact hd
 ·refine ⟨_,rfl,?_⟩
  rw [←qb];exact q ls (.refl ls) l4
theorem yK{x:Nat}:∀(ns:List Nat)(m:Nat),m<ns.idxOf x→ns[m]? ≠some x
 | [],m,h=>by simp at h
 |a::ns,m,h=>by
  rw [List.idxOf_cons] at h
  by_cases e:(a==x)=true
  ·rw [e] at h;simp at h
  ·rw [Bool.eq_false_iff.mpr e] at h
   cases m with
   |zero=>intro z;simp at z;exact e (by simp [z])
   |succ m=>rw [wc];exact yK ns m (by simpa using h)
theorem yV{r:List Nat}{q:Nat}(h:q∈r):(r.map λ(n:Nat)=>(n:Int))[r.idxOf q]? =some (q:Int)∧(∀m,m<r.idxOf q→(r.map λ(n:Nat)=>(n:Int))[m]? ≠some (q:Int))∧D.lst (((r.map λ(n:Nat)=>(n:Int)).eraseIdx (r.idxOf q)).map D.int)=aQ (r.erase q):=by
 have lt:=List.idxOf_lt_length_of_mem h;refine ⟨by rw [dX,cS lt,List.getElem_idxOf lt];rfl,λm hm z=>?_,?_⟩
 ·rw [dX] at z
  cases e:r[m]? with
  |none=>rw [e] at z;cases z
  |some y=>
   rw [e] at z
   have:(y:Int)=(q:Int):=Option.some.inj z
   exact yK r m hm (by rw [e];exact congrArg some (by omega))
 ·rw [tP,jB,←List.erase_eq_eraseIdx_of_idxOf rfl];rfl
theorem v7(w:W)(p:Nat)(r:List Nat):(w.map aQ).set p (aQ r)=(w.set p r).map aQ:=by rw [List.map_set]
def yd:bN:=λds P=>∃(w:W)(v:Int),ds= [aX w, .int v]∧Good w∧1≤w.length∧w.length≤14∧P .aN∧∀w',Good w'→w'.length=w.length→(∀p q,q∈row w' p→q∈row w p)→P (.fb w')
theorem nX:FnOk P w Z.K mg base br 7 T.d__law_without.f T.d__law_without.fd ["_law_turns","_law_number"] (aC Z yd):=by
 have nd:=iQ.nd;refine aO T.d__law_without.F iQ [0,0,0,0,2,0] (by decide) (λds R h=>by obtain ⟨_,_,rfl,_⟩:=h;rfl) (λaW A outer s H E ds R hr h=>?_)
 have hu:=hr.units
 refine ⟨_,(ag (aS false 2 nd (az bJ (aa 1) (aJ bg rfl T.B.len ba (ae (aa 0) af))))
   (ag (aY (aD (eX hu) (aK (aa 0) (aa 2)) (gN af) (aM _)) (ai (ay bw)) aF)
   (ag (aS false 3 nd (aK (aK (aa 0) (aa 2)) (az bJ (az bS (aa 1) (aJ bg rfl T.B.len ba (ae (aa 0) af))) (aJ bg rfl T.B.len ba (ae (aK (aa 0) (aa 2)) af)))))
   (ag (i9 4 (NC:= ["_law_row"]) (src:= [none]) rfl nd (jD (aj dJ)) trivial (bx (aa 0)) (λ_ _ _=>(bq 0 (show (["_law_row"]:List Str).Nodup from by decide+kernel))) (λ_ _ _=>(pN rfl rfl T.B.list cF (aa 0))))
   (ag (uZ 4 (aa 2) (aa 3))
   (ag (uZ 4 (aa 3) (aa 2))
   (u0 4
   (ag (aS false 5 nd bw)
   (ai (Ez (λ_ _=>by exact (ai (tN 5 nd T.mkW ((iM T).mono (by decide)) (mF T) hr T.mC T.m___init__b (ae (aa 4) af)))) (ai (ay (aa 5))) (BP T.g_NoWeb T.q_NoWeb (λ_=>by exact (ai (ay bw))) Et))))))))))),?_⟩
 obtain ⟨w',v,rfl,g,h1,dq,q1,q2⟩:=h;have lw:(w'.map aQ).length=w'.length:=bV _;have ri:∀r:List Nat,aQ r= .lst (au (r.map λ(n:Nat)=>(n:Int))):=λr=>by unfold aQ au;rw [jB];rfl
 obtain ⟨p,ep,lp⟩:=iL v h1;refine ⟨_,rfl,_,rfl,?_⟩;refine (?_:(0:Int)<((w'.map aQ).length:Int)∧jc false (D.int (v%((w'.map aQ).length:Int)))∧bQ.nx _ (List.set _ _ (some (D.int (v%((w'.map aQ).length:Int))))));rw [lw,ep];refine ⟨by omega,trivial,?_⟩
 refine ⟨_,rfl,_,rfl,_,aV (cI lp),by show 0≤sizeLine;decide,?_⟩
 rw [ri];refine B0 ⟨_,rfl,bA (λe=>q1) (λe=>?_)⟩;have ne:row w' p≠ []:=λz=>by rw [z] at e;cases e
 have rp:1≤(row w' p).length:=by cases h:row w' p with|nil=>exact absurd h ne|cons a b=>rw [cJ];omega
 obtain ⟨k,ek,lk⟩:=iL (v / (w'.length:Int)) rp;obtain ⟨x,hx⟩:∃x,(row w' p)[k]? =some x:=⟨_,cS lk⟩;have z7:=jz hx;have lx:=g.rng _ _ z7;have VT:p≠x:=λe=>g.irr p (by rw [e] at z7 ⊢;exact z7)
 refine ⟨_,rfl,_,rfl,_,aV (cI lp),_,rfl,_,rfl,?_⟩;refine (?_:((0:Int)<((w'.map aQ).length:Int)∧((w'.map aQ).length:Int)<1073741824)∧_);refine ⟨⟨by rw [lw];omega,by rw [lw];omega⟩,_,rfl,_,rfl,_,aV (cI lp),?_⟩
 refine (?_:(0:Int)<(((row w' p).map aw).length:Int)∧∃d,cE ((row w' p).map aw) (v / ((w'.map aQ).length:Int)%(((row w' p).map aw).length:Int))=some d∧_);rw [lw,bV,ek];refine ⟨by omega,aw x,aV (by rw [dX,hx];rfl),trivial,?_⟩
 refine ⟨_,rfl,?_⟩;refine (?_:tY _ _ (w'.map aQ) _ _ _);rw [show w'.map aQ=(w'.map λr=>r.map aw).map D.lst by rw [jB];rfl]
 refine pw _ none [] _ (by rw [ke,Nat.zero_add,bV];exact small (by omega)) ?_
 rw [nv,show (w'.map λr=>r.map aw).map D.lst=w'.map aQ by rw [jB];rfl]
 obtain ⟨r1,r2,r3⟩:=yV z7;refine ⟨_,rfl,_,rfl,(p:Int),p,_,rfl,by rw [lw];exact mw lp,(cI lp).trans (congrArg some (ri _)),_,rfl,(x:Int),_,rfl,r1,r2,?_⟩
 rw [r3,v7];have gx:=g.sym _ _ z7;obtain ⟨s1,s2,s3⟩:=yV gx;have wx:((w'.set p ((row w' p).erase x)).map aQ)[x]? =some (aQ (row w' x)):=by rw [dX,dF VT,←dX];exact cI lx
 refine ⟨_,rfl,_,rfl,(x:Int),x,_,rfl,by rw [bV,dm];exact mw lx,wx.trans (congrArg some (ri _)),_,rfl,(p:Int),_,rfl,s1,s2,?_⟩
 rw [s3,v7];obtain ⟨n,sb⟩:=xM g.near z7;refine ⟨⟨_,rfl⟩,trivial,?_⟩;refine ⟨_,rfl,_,rfl,n,by rw [dm,dm];exact h1,by rw [dm,dm];exact dq,λg2=>⟨_,rfl,q2 _ g2 (by rw [dm,dm]) sb⟩,λ_ qq=>⟨T.q_NoWeb.obj,true,T.m_NoWeb_NoWeb,aU q1⟩⟩
variable {P:Program} {w:World} {mg:Str→Option Value} {base:Heap} {Z:DC} (T:Txt Z mg)
def Told(w:W)(L:List (List Int))(d:D):Prop:=(∃dz,Ok w L dz∧Full w dz∧d= .tup [.str "dyed",jE dz])∨(∃q,jW w L w.length (List.replicate w.length none) q∧d= .tup [.str "none",jt q])
theorem BE{a b:Str}{P:D→Prop}(h:P (.bl (!decide (a=b)))):BD (.str a) (.str b) P:=⟨.str a, .str b,rfl,rfl,by simp [PyData.depth],by
 have:PyData.eqv (.str a) (.str b)=decide (a=b):=by
  rw [PyData.eqv]
  by_cases z:a=b<;>simp [z]
 rw [if_pos rfl,this];exact h⟩
theorem vE{i j:Str}{P:D→Prop}{ρ:DN}(h:P (.bl (!decide (i=j)))):dC (.str j) ρ (λb=>BD (.str i) b P):=BE h
theorem kD{i j:Int}{P:D→Prop}{ρ:DN}(h:P (.bl (decide (j<i)))):dC (.int j) ρ (λb=>Ic (.int i) b P):=h
theorem D0{w:W}{L:List (List Int)}(g:Good w)(w1:1≤w.length)(w8:w.length≤8)(hl:L.length=w.length)(l4:∀l∈L,l.length≤4)(dz:Dy)(hd:dz.length=w.length):Sz w L dz:=⟨g,w1,w8,hl,hd,λp=>by
  unfold lst;rw [dW];cases e:L[p]? with
  |none=>exact iW _
  |some l=>have:=l4 l (jz e);simp;omega,λp=>by have:=qy g p;omega⟩
theorem qg{w:W}{L:List (List Int)}{dz:Dy}(hd:dz.length=w.length):More (List.replicate w.length none) dz:=λp d h=>by rw [yu] at h;cases h
theorem pX{te:aR}{x:D}{xs:List D}{ρ:DN}{acc:List D}{N:DN→List D→Prop}(h:te (ρ.set 0 (some x)) λd=>acc.length<sizeLine∧ig (eh 0) ou te xs (ρ.set 0 (some x)) (acc++ [d]) N):ig (eh 0) ou te (x::xs) ρ acc N:=by
 exact aU (B:=ig (eh 0) ou te xs (ρ.set 0 (some x)) acc N) h
theorem Fd:FnOk P w Z.K mg base br 21 T.d_law.f T.d_law.fd ["_law_script"] (aC Z y6):=by
 have nd:=yY.nd;refine aO T.d_law.F yY [0,0,0,0,0,0,0,0,0] (by decide) (λds R h=>by obtain ⟨_,rfl,_⟩:=h;rfl) (λaW A outer s H E ds R hr h=>?_)
 have hu:=hr.units
 refine ⟨_,(ag (yB (av T.d__law_made (rA T) hr (ae (aa 0) (ae aq af))) (fg 2 rfl (bh (aT 1 nd) (bh (aT 2 nd) cK))))
   (ag (aS false 3 nd (av T.d__law_drawn (gj T) hr (ae (av T.d__law_cell_at (de T) hr (ae (aa 0) (ae aq af))) af)))
   (ag (aS false 4 nd (av T.d__law_web (ue T) hr (ae (aa 1) af)))
   (ag (aS false 5 nd (gN (ae (av T.d__law_fewer (qj T) hr (ae (aa 2) (ae (aa 3) af))) (ae (aa 2) (ae (av T.d__law_more (rB T) hr (ae (aa 2) (ae (az bS (aa 3) aq) af))) af)))))
   (ag (kg 6 (NC:= ["_law_one","_law_web_here"]) (src:= [none,some 4]) rfl nd (jD (aj ur)) ⟨rfl,rfl,trivial⟩ (bx (aa 5)) (λ_ _ _=>(bq 0 (show (["_law_one","_law_web_here"]:List Str).Nodup from by decide+kernel))) (λ_ _ _=>cO) (λ_ _ _=>(av T.d_searched (mK T) hr (ae (aa 1) (ae (i7 (NC:= ["_law_row"]) (src:= [none]) rfl K4 trivial (bx (aa 0)) (λ_ _ _=>(bq 0 (show (["_law_row"]:List Str).Nodup from by decide+kernel))) (λ_ _ _=>cO) (λ_ _ _=>(b6 fU rfl T.B.list cF (ae (aa 0) af)))) af)))))
   (ag (jN rfl PassesOwn.never (i8 rfl T.B.range (ae aq af)) (aT 7 nd) (ag (aY (DW.dt (gO (aD (eX hu) (aK (aK (aa 6) (aa 7)) aq) bF (aM _)) (iG (cY (bY (av T.d__law_dyed (rz T) hr (ae (aa 1) (ae (aK (aa 5) (aa 7)) (ae (aK (aK (aa 6) (aa 7)) aq) af))))))))) (ai (ay cw)) aF)
   (ag (aY (DW.dt (gO (aD (lF hu) (aK (aK (aa 6) (aa 7)) aq) bF (aM _)) (iG (aD vI (av T.d_is_paper (mH T) hr (ae (aa 4) (ae (aK (aa 5) (aa 7)) (ae (aK (aK (aa 6) (aa 7)) aq) af)))) cw (aM _))))) (ai (ay cw)) aF)
   (ag (aY (DW.dt (gO (aD nV (aa 7) aq (aM _)) (gO (aD (eX hu) (aK (aK (aa 6) (az mE (aa 7) aq)) aq) bF (aM _)) (iG (aD (lF hu) (aK (aK (aa 6) (aa 7)) aq) bF (aM _)))))) (ai (ay cw)) aF)
   (ai (aY (DW.dt (gO (aD nV (aa 7) aq (aM _)) (gO (aD (lF hu) (aK (aK (aa 6) (az mE (aa 7) aq)) aq) bF (aM _)) (iG (aD (eX hu) (aK (aK (aa 6) (aa 7)) aq) bF (aM _)))))) (ai (aY (aD vI (av T.d_is_paper (mH T) hr (ae (aa 4) (ae (aK (aa 5) (aa 7)) (ae (aK (aK (aa 6) (az mE (aa 7) aq)) aq) af)))) cw (aM _)) (ai (ay cw)) aF)) aF))))))
   (ag (aS false 8 nd (av T.d__law_without (nX T) hr (ae (aa 1) (ae (az bS (aa 3) aq) af))))
   (ai (ay (BM (lU lE (aa 8) bw (aM _)) (BM (lU (lF hu) (aK (aK (aa 6) aq) aq) bF (aM _)) (ph (lU (eX hu) (aK (av T.d_searched (mK T) hr (ae (aa 8) (ae (aa 2) af))) aq) bF (aM _)))))))))))))),?_⟩
 obtain ⟨ns,rfl,xv,q⟩:=h;refine ⟨_,rfl,ns,7,rfl,by decide,by decide,λw' ls g w1 w7 l0 l4=>?_⟩
 refine ⟨rfl,rfl,?_⟩;refine ⟨_,rfl,ns,3,rfl,λv3=>⟨v3,rfl,λv=>⟨trivial,?_⟩⟩⟩;refine ⟨_,rfl,w',rfl,g,w1,by omega,trivial,?_⟩
 refine ⟨_,rfl,_,rfl,ls,v,rfl,by omega,by omega,l4,λxH hA Mu=>?_⟩
 refine ⟨_,rfl,_,rfl,_,rfl,⟨by decide,by decide⟩,ls,v / 64,rfl,by omega,by omega,l4,λAx hB Mv=>⟨by show 3≤sizeLine;decide,trivial,?_⟩⟩
 have sz:=λ(L:List (List Int))(hl:L.length=w'.length)(h4:∀l∈L,l.length≤4)=>D0 g w1 (by omega) hl h4
 have el:∀(L:List (List Int)),L.length=w'.length→(∀l∈L,l.length≤4)→∀(Y:D→Prop),(∀d,Told w' L d→Y d)→fV oK (jM (cu 1) (jM (BB (BQ (cu 0)) (eh 0) ou (fV wA (jM (cu 0) eO)) [none]) eO)) [some (cH L),some (.fb w')] Y:=λL hl h4 Y hY=>by
  refine ⟨_,rfl,_,rfl,?_⟩;refine fM (ρ:= [none]) (λl=>D.lst (au l)) (λl=>D.lst (au l)) L _ (λy hy Y h=>⟨_,rfl,h⟩) rfl (small (by omega)) λaE=>?_
  exact ⟨w',L,rfl,sz L hl h4 _ (fv ..),λdz o f=>hY _ (.inl ⟨dz,o,f,rfl⟩),λq hq=>hY _ (.inr ⟨q,hq,rfl⟩)⟩
 have lA:xH.length=w'.length:=hA.1.trans l0;have lB:Ax.length=w'.length:=hB.1.symm.trans l0;refine ⟨_,rfl,?_⟩;refine (?_:ig _ _ _ [cH xH,cH ls,cH Ax] [none,some (.fb w')] [] _);refine pX (el xH lA Mu _ λdA tA=>⟨by show 0<sizeLine;decide,pX (el ls l0 l4 _ λd1 t1=>⟨by show 1<sizeLine;decide,pX (el Ax lB Mv _ λdB tB=>⟨by show 2<sizeLine;decide,?_⟩)⟩)⟩)
 refine ⟨trivial,⟨by decide,by decide⟩,?_⟩
 refine (?_:jR _ _ _ (bp 0 3) _)
 have step:∀j:Nat,j<3→∃L d,cE [cH xH,cH ls,cH Ax] (j:Int)=some (cH L)∧cE [dA,d1,dB] (j:Int)=some d∧L.length=w'.length∧(∀l∈L,l.length≤4)∧Told w' L d∧(0<j→∃L0 d0,cE [dA,d1,dB] ((j:Int)-1)=some d0∧Told w' L0 d0∧oi L0 L):=by
  intro j hj
  rcases (by omega:j=0∨j=1∨j=2) with rfl|rfl|rfl
  ·exact ⟨xH,dA,rfl,rfl,lA,Mu,tA,λz=>absurd z (by decide)⟩
  ·exact ⟨ls,d1,rfl,rfl,l0,l4,t1,λ_=>⟨xH,dA,rfl,tA,hA⟩⟩
  ·exact ⟨Ax,dB,rfl,rfl,lB,Mv,tB,λ_=>⟨ls,d1,rfl,t1,hB⟩⟩
 refine kh (λ_ ρ=>∃o,ρ= [some (.jq ns),some (aX w'),some (cH ls),some (.int v),some (.fb w'),some (.lst [cH xH,cH ls,cH Ax]),some (.lst [dA,d1,dB]),o,none]) ⟨none,rfl⟩ ?_ ?_
 ·rintro j _ hj ⟨o,rfl⟩ A kZ
  obtain ⟨L,d,hs,hd,lL,L4,td,prev⟩:=step j hj;have hp:∀{a b:D},cE [a,b] (0:Int)=some a∧cE [a,b] (1:Int)=some b:=λ {a b}=>⟨rfl,rfl⟩
  have key:0<j→∃L0 s0 y0,cE [dA,d1,dB] ((j:Int)-1)=some (.tup [.str s0,y0])∧oi L0 L∧((s0="dyed"∧∃dz,Ok w' L0 dz∧Full w' dz)∨(s0="none"∧∃q,y0=jt q)):=λz=>by
   obtain ⟨L0,d0,h0,t0,less⟩:=prev z
   rcases t0 with ⟨dz,ok,fu,rfl⟩ | ⟨q,hq,rfl⟩
   ·exact ⟨L0,"dyed",_,h0,less, .inl ⟨rfl,dz,ok,fu⟩⟩
   ·exact ⟨L0,"none",_,h0,less, .inr ⟨rfl,q,rfl⟩⟩
  have ng:("none":Str)≠"dyed":=by decide
  rcases td with ⟨dz,ok,fu,rfl⟩ | ⟨pq,hq,rfl⟩
  ·refine ⟨_,rfl,_,rfl,_,hd, .str "dyed",hp.1,oO ⟨true,congrArg D.bl (decide_eq_true rfl),aU ?_⟩⟩
   refine ⟨_,rfl,_,rfl,_,rfl,_,hs,_,rfl,_,rfl,_,hd,jE dz,hp.2,w',L,dz,rfl,sz L lL L4 dz ok.1,ok,fu,rfl,aI ?_⟩;refine ⟨_,rfl,_,rfl,_,hd, .str "dyed",hp.1,vE ⟨false,congrArg D.bl (by rw [decide_eq_true rfl];rfl),aI (aI ?_)⟩⟩
   by_cases z:0<j
   ·obtain ⟨L0,s0,y0,h0,less,c⟩:=key z
    have zt:D.bl (decide ((0:Int)<(j:Int)))= .bl true:=congrArg D.bl (decide_eq_true (by omega))
    rcases c with ⟨rfl,_⟩ | ⟨rfl,q0,rfl⟩
    ·refine ⟨_,rfl,kD ⟨true,zt,aU ⟨_,rfl,_,rfl,_,h0, .str "dyed",hp.1,oO ⟨true,congrArg D.bl (decide_eq_true rfl),aU ⟨_,rfl,_,rfl,_,hd, .str "dyed",hp.1,vE ⟨false,congrArg D.bl (by rw [decide_eq_true rfl];rfl),aI ?_⟩⟩⟩⟩⟩⟩
     exact ⟨_,rfl,kD ⟨true,zt,aU ⟨_,rfl,_,rfl,_,h0, .str "dyed",hp.1,vE ⟨false,congrArg D.bl (by rw [decide_eq_true rfl];rfl),aI (aI (kZ _ ⟨_,rfl⟩))⟩⟩⟩⟩
    ·refine ⟨_,rfl,kD ⟨true,zt,aU ⟨_,rfl,_,rfl,_,h0, .str "none",hp.1,oO ⟨false,congrArg D.bl (decide_eq_false ng),aI (aI ?_)⟩⟩⟩⟩
     refine ⟨_,rfl,kD ⟨true,zt,aU ⟨_,rfl,_,rfl,_,h0, .str "none",hp.1,vE ⟨true,congrArg D.bl (by rw [decide_eq_false ng];rfl),aU ⟨_,rfl,_,rfl,_,hd, .str "dyed",hp.1,oO ⟨true,congrArg D.bl (decide_eq_true rfl),aU ?_⟩⟩⟩⟩⟩⟩
     refine ⟨_,rfl,_,rfl,_,rfl,_,hs,_,rfl,_,rfl,_,h0,jt q0,hp.2,w',L,some (rb q0),by rw [←uo];rfl,sz L lL L4 _ (fv ..),false,?_,aI (kZ _ ⟨_,rfl⟩)⟩
     have:b7 w' L w'.length (List.replicate w'.length none) (some (rb q0))=false:=by
      apply Bool.eq_false_iff.mpr;intro zz;exact oz _ _ _ zz (fv ..) dz ok fu (qg (L:=L) ok.1)
     rw [this];rfl
   ·have zf:D.bl (decide ((0:Int)<(j:Int)))= .bl false:=congrArg D.bl (decide_eq_false (by omega))
    exact ⟨_,rfl,kD ⟨false,zf,aI (aI ⟨_,rfl,kD ⟨false,zf,aI (aI (kZ _ ⟨_,rfl⟩))⟩⟩)⟩⟩
  ·refine ⟨_,rfl,_,rfl,_,hd, .str "none",hp.1,oO ⟨false,congrArg D.bl (decide_eq_false ng),aI (aI ?_)⟩⟩
   refine ⟨_,rfl,_,rfl,_,hd, .str "none",hp.1,vE ⟨true,congrArg D.bl (by rw [decide_eq_false ng];rfl),aU ?_⟩⟩
   refine ⟨_,rfl,_,rfl,_,rfl,_,hs,_,rfl,_,rfl,_,hd,jt pq,hp.2,w',L,some (rb pq),by rw [←uo];rfl,sz L lL L4 _ (fv ..),false,by rw [rX _ _ _ hq (fv ..)];rfl,aI ?_⟩
   by_cases z:0<j
   ·obtain ⟨L0,s0,y0,h0,less,c⟩:=key z
    have zt:D.bl (decide ((0:Int)<(j:Int)))= .bl true:=congrArg D.bl (decide_eq_true (by omega))
    rcases c with ⟨rfl,dz,ok,fu⟩ | ⟨rfl,q0,rfl⟩
    ·exact absurd (qg (L:=L) ok.1) (n0 _ _ _ hq (fv ..) dz (less.ok ok) fu)
    ·refine ⟨_,rfl,kD ⟨true,zt,aU ⟨_,rfl,_,rfl,_,h0, .str "none",hp.1,oO ⟨false,congrArg D.bl (decide_eq_false ng),aI (aI ?_)⟩⟩⟩⟩
     exact ⟨_,rfl,kD ⟨true,zt,aU ⟨_,rfl,_,rfl,_,h0, .str "none",hp.1,vE ⟨true,congrArg D.bl (by rw [decide_eq_false ng];rfl),aU ⟨_,rfl,_,rfl,_,hd, .str "none",hp.1,oO ⟨false,congrArg D.bl (decide_eq_false ng),aI (kZ _ ⟨_,rfl⟩)⟩⟩⟩⟩⟩⟩
   ·have zf:D.bl (decide ((0:Int)<(j:Int)))= .bl false:=congrArg D.bl (decide_eq_false (by omega))
    exact ⟨_,rfl,kD ⟨false,zf,aI (aI ⟨_,rfl,kD ⟨false,zf,aI (aI (kZ _ ⟨_,rfl⟩))⟩⟩)⟩⟩
 ·rintro _ ⟨o,rfl⟩
  have hp:∀{a b:D},cE [a,b] (0:Int)=some a∧cE [a,b] (1:Int)=some b:=λ {a b}=>⟨rfl,rfl⟩;have ng:("none":Str)≠"dyed":=by decide
  refine ⟨_,rfl,_,rfl,⟨by decide,by decide⟩,w',v / 4096,rfl,g,w1,by omega,⟨trivial,_,rfl,true,rfl,aU q⟩,λw2 g2 l2 sub=>⟨trivial,_,rfl,false,rfl,aI ?_⟩⟩
  rcases t1 with ⟨dz,ok,fu,rfl⟩ | ⟨pq,hq,rfl⟩
  ·refine ⟨_,rfl,_,rfl, .str "dyed",hp.1,vE ⟨false,congrArg D.bl (by rw [decide_eq_true rfl];rfl),aI ?_⟩⟩
   refine ⟨_,rfl,_,rfl,w2,ls,rfl,D0 g2 (by omega) (by omega) (by omega) l4 _ (fv ..),λdz o f=>?_,λq' f7=>?_⟩
   ·refine ⟨.str "dyed",hp.1,oO ?_⟩
    rw [decide_eq_true rfl];exact q
   ·exact absurd (qg (L:=ls) (sM l2 sub ok).1) (n0 _ _ _ f7 (fv ..) dz (sM l2 sub ok) λp hp=>fu p (by omega))
  ·exact ⟨_,rfl,_,rfl, .str "none",hp.1,vE ⟨true,congrArg D.bl (by rw [decide_eq_false ng];rfl),aU q⟩⟩
theorem all_mk{l:PySem.W.OpenLaw}{w:World}{K:PySem.W.Frag}{h:Heap}{mg:Str→Option Value}{fa C:Addr}{Qi:Tok}{J1:Tok}{J2:Tok}(X:K.In h)(G:h.Ns mainGlobals mg)(SY:mg "law"=some (.ref fa)){Qk:Tok}
  {d0:Addr} {Wa Q5:Option Addr} {WQ:Array (Option Value)} {V0 UR RY Wr KQ RH:Value}
  {d1:Addr} {Wc Q6:Option Addr} {WR:Array (Option Value)} {V1 US RZ Wt KR RJ:Value}
  {d2:Addr} {Wd Q7:Option Addr} {vP:Array (Option Value)} {V2 UT R0 Wu KS RK:Value}
  {d3:Addr} {We Q8:Option Addr} {WS:Array (Option Value)} {V3 UU R1 Wv KU RL:Value}
  {d4:Addr} {Wf Q9:Option Addr} {WT:Array (Option Value)} {V4 UW R3 Ww KW RM:Value}
  {d5:Addr} {Wg Ra:Option Addr} {WU:Array (Option Value)} {V5 UX R4 Wx KY RN:Value}
  {d6:Addr} {Wh Rb:Option Addr} {WV:Array (Option Value)} {V6 UY R5 Wz KZ RO:Value}
  {d7:Addr} {Wi Rc:Option Addr} {WW:Array (Option Value)} {V7 UZ R6 WA K0 RP:Value}
  {d8:Addr} {Wj Rf:Option Addr} {WX:Array (Option Value)} {V8 U0 R7 WB K1 RQ:Value}
  {d9:Addr} {Wk Rg:Option Addr} {WY:Array (Option Value)} {V9 U1 R8 WC K2 RS:Value}
  {HB:Addr} {Ot Kq:Option Addr} {Pp:Array (Option Value)} {N3 Nc LL OR Gk K6:Value}
  {HC:Addr} {Ou Kr:Option Addr} {Pr:Array (Option Value)} {N4 Nd LM OS Gm K7:Value}
  {HD:Addr} {Ov Ks:Option Addr} {Pt:Array (Option Value)} {N5 Nf LN OT Gn K8:Value}
  {HE:Addr} {Ow Kt:Option Addr} {Pu:Array (Option Value)} {N6 Ng LO OU Gp K9:Value}
  {HF:Addr} {Ox Ku:Option Addr} {Pw:Array (Option Value)} {N7 Nh LP OV Gq La:Value}
  {HG:Addr} {Oy Kv:Option Addr} {Px:Array (Option Value)} {N8 Ni LQ OW Gr Lb:Value}
  {HH:Addr} {Oz Kw:Option Addr} {Py:Array (Option Value)} {N9 Nj LR OX Gs Lc:Value}
  {HI:Addr} {OA Kx:Option Addr} {Pz:Array (Option Value)} {Oa Nk LS OY Gu Ld:Value}
  {HJ:Addr} {OB Ky:Option Addr} {PB:Array (Option Value)} {Ob Nl LU OZ Gv Le:Value}
  {HK:Addr} {OC Kz:Option Addr} {PC:Array (Option Value)} {Oc Nm LV O0 Gw Lf:Value}
  {HL:Addr} {OD KA:Option Addr} {PD:Array (Option Value)} {Od Np LW O1 Gx Lg:Value}
  {HM:Addr} {OE KC:Option Addr} {PF:Array (Option Value)} {Oe Nq LX O2 Gy Lh:Value}
  {HN:Addr} {OF KD:Option Addr} {PJ:Array (Option Value)} {Of Nr LY O3 Gz Li:Value}
  {HP:Addr} {OG KG:Option Addr} {PK:Array (Option Value)} {Og Nt LZ O4 GA Lj:Value}
  {HQ:Addr} {OH KH:Option Addr} {PL:Array (Option Value)} {Oh Nu L1 O5 GB Lk:Value}
  {HR:Addr} {OI KI:Option Addr} {PM:Array (Option Value)} {Oi Nv L5 O6 GC Ll:Value}
  {HS:Addr} {OJ KJ:Option Addr} {PN:Array (Option Value)} {Oj Nw L6 O7 GD Lm:Value}
  {HU:Addr} {OK KL:Option Addr} {PQ:Array (Option Value)} {Ol Nx L7 O8 GF Ln:Value}
  {HV:Addr} {OL KN:Option Addr} {PR:Array (Option Value)} {Om Ny L8 O9 GG Lo:Value}
  {HW:Addr} {OM KO:Option Addr} {PU:Array (Option Value)} {Oo Nz L9 Pa GH Lp:Value}
  {HX:Addr} {ON KP:Option Addr} {PV:Array (Option Value)} {Oq NA Ma Pb GI Lq:Value}
  {i0:Addr} {TC TX:Option Addr} {Ui:Array (Option Value)} {Tu TM T4 Ub M6 Up:Value}
  {i1:Addr} {TF TY:Option Addr} {Uj:Array (Option Value)} {Tv TN T5 Uc M7 Uq:Value}
  {i2:Addr} {TH TZ:Option Addr} {Uk:Array (Option Value)} {Tw TQ T7 Ud M8 Ur:Value}
  {i3:Addr} {TJ T1:Option Addr} {Ul:Array (Option Value)} {Tx TR T8 Ue M9 Us:Value}
  {i4:Addr} {TK T2:Option Addr} {Um:Array (Option Value)} {Tz TU T9 Ug Na Ut:Value}
  {i5:Addr} {TL T3:Option Addr} {Uo:Array (Option Value)} {TB TV Ua Uh Nb Uu:Value}
  {cM:Addr}
  {bB:Addr}
  {Bf:Addr} {rM:ClassData} {AB q_NoWeb:Str} {zq rK ye:List Value} {vh zj:Bool} {AY:List Str} {wI:Option Bool} {zE:Option Addr} {Ak Al Am An Ao:Option Value}
  {jI:Addr} {Ac Af:Option Addr} {Ai:Array (Option Value)} {Ab Ae Ag Ah sA Aj:Value}
  (gC:PySem.W.nsIn K mainGlobals "Web"=some (some (.ref C)))
  (a0:dn K "nested_places" d0)
  (l0:cn K "nested_places" "nested_places" df d0 Wa Q5 WQ V0 UR RY Wr KQ RH)
  (c0:PySem.W.codeIn K KQ "nested_places"=true)
  (k0:PySem.W.keepIn K (.ref d0)=true)
  (a1:dn K "own_of" d1)
  (l1:cn K "own_of" "own_of" n6 d1 Wc Q6 WR V1 US RZ Wt KR RJ)
  (c1:PySem.W.codeIn K KR "own_of"=true)
  (k1:PySem.W.keepIn K (.ref d1)=true)
  (a2:dn K "copied" d2)
  (l2:cn K "copied" "copied" n5 d2 Wd Q7 vP V2 UT R0 Wu KS RK)
  (c2:PySem.W.codeIn K KS "copied"=true)
  (k2:PySem.W.keepIn K (.ref d2)=true)
  (a3:dn K "is_among" d3)
  (l3:cn K "is_among" "is_among" j5 d3 We Q8 WS V3 UU R1 Wv KU RL)
  (c3:PySem.W.codeIn K KU "is_among"=true)
  (k3:PySem.W.keepIn K (.ref d3)=true)
  (a4:dn K "alien_fault" d4)
  (l4:cn K "alien_fault" "alien_fault" gm d4 Wf Q9 WT V4 UW R3 Ww KW RM)
  (c4:PySem.W.codeIn K KW "alien_fault"=true)
  (k4:PySem.W.keepIn K (.ref d4)=true)
  (a5:dn K "self_fault" d5)
  (l5:cn K "self_fault" "self_fault" iw d5 Wg Ra WU V5 UX R4 Wx KY RN)
  (c5:PySem.W.codeIn K KY "self_fault"=true)
  (k5:PySem.W.keepIn K (.ref d5)=true)
  (a6:dn K "twice_fault" d6)
  (l6:cn K "twice_fault" "twice_fault" gr d6 Wh Rb WV V6 UY R5 Wz KZ RO)
  (c6:PySem.W.codeIn K KZ "twice_fault"=true)
  (k6:PySem.W.keepIn K (.ref d6)=true)
  (a7:dn K "lone_fault" d7)
  (l7:cn K "lone_fault" "lone_fault" iu d7 Wi Rc WW V7 UZ R6 WA K0 RP)
  (c7:PySem.W.codeIn K K0 "lone_fault"=true)
  (k7:PySem.W.keepIn K (.ref d7)=true)
  (a8:dn K "reached_from_first" d8)
  (l8:cn K "reached_from_first" "reached_from_first" bT d8 Wj Rf WX V8 U0 R7 WB K1 RQ)
  (c8:PySem.W.codeIn K K1 "reached_from_first"=true)
  (k8:PySem.W.keepIn K (.ref d8)=true)
  (a9:dn K "apart_fault" d9)
  (l9:cn K "apart_fault" "apart_fault" gn d9 Wk Rg WY V9 U1 R8 WC K2 RS)
  (c9:PySem.W.codeIn K K2 "apart_fault"=true)
  (k9:PySem.W.keepIn K (.ref d9)=true)
  (QK:dn K "first_fault" HB)
  (U3:cn K "first_fault" "first_fault" gq HB Ot Kq Pp N3 Nc LL OR Gk K6)
  (Rh:PySem.W.codeIn K Gk "first_fault"=true)
  (Uv:PySem.W.keepIn K (.ref HB)=true)
  (QL:dn K "need_at_most" HC)
  (U4:cn K "need_at_most" "need_at_most" fC HC Ou Kr Pr N4 Nd LM OS Gm K7)
  (Ri:PySem.W.codeIn K Gm "need_at_most"=true)
  (Uw:PySem.W.keepIn K (.ref HC)=true)
  (QM:dn K "dyes_left" HD)
  (U5:cn K "dyes_left" "dyes_left" eJ HD Ov Ks Pt N5 Nf LN OT Gn K8)
  (Rj:PySem.W.codeIn K Gn "dyes_left"=true)
  (Ux:PySem.W.keepIn K (.ref HD)=true)
  (QN:dn K "with_dye" HE)
  (U6:cn K "with_dye" "with_dye" j6 HE Ow Kt Pu N6 Ng LO OU Gp K9)
  (Rk:PySem.W.codeIn K Gp "with_dye"=true)
  (Uy:PySem.W.keepIn K (.ref HE)=true)
  (QO:dn K "chosen_point" HF)
  (U7:cn K "chosen_point" "chosen_point" dM HF Ox Ku Pw N7 Nh LP OV Gq La)
  (Rl:PySem.W.codeIn K Gq "chosen_point"=true)
  (Uz:PySem.W.keepIn K (.ref HF)=true)
  (QP:dn K "searched_from" HG)
  (U8:cn K "searched_from" "searched_from" e9 HG Oy Kv Px N8 Ni LQ OW Gr Lb)
  (Rm:PySem.W.codeIn K Gr "searched_from"=true)
  (UA:PySem.W.keepIn K (.ref HG)=true)
  (QQ:dn K "searched" HH)
  (U9:cn K "searched" "searched" gZ HH Oz Kw Py N9 Nj LR OX Gs Lc)
  (Rn:PySem.W.codeIn K Gs "searched"=true)
  (UB:PySem.W.keepIn K (.ref HH)=true)
  (QR:dn K "are_papers" HI)
  (Va:cn K "are_papers" "are_papers" ip HI OA Kx Pz Oa Nk LS OY Gu Ld)
  (Ro:PySem.W.codeIn K Gu "are_papers"=true)
  (UC:PySem.W.keepIn K (.ref HI)=true)
  (QS:dn K "is_paper_from" HJ)
  (Vb:cn K "is_paper_from" "is_paper_from" e8 HJ OB Ky PB Ob Nl LU OZ Gv Le)
  (Rp:PySem.W.codeIn K Gv "is_paper_from"=true)
  (UD:PySem.W.keepIn K (.ref HJ)=true)
  (QT:dn K "is_paper" HK)
  (Vc:cn K "is_paper" "is_paper" gY HK OC Kz PC Oc Nm LV O0 Gw Lf)
  (Rq:PySem.W.codeIn K Gw "is_paper"=true)
  (UE:PySem.W.keepIn K (.ref HK)=true)
  (QU:dn K "_law_cell_at" HL)
  (Vd:cn K "_law_cell_at" "_law_cell_at" fB HL OD KA PD Od Np LW O1 Gx Lg)
  (Rr:PySem.W.codeIn K Gx "_law_cell_at"=true)
  (UG:PySem.W.keepIn K (.ref HL)=true)
  (QV:dn K "_law_drawn" HM)
  (Ve:cn K "_law_drawn" "_law_drawn" il HM OE KC PF Oe Nq LX O2 Gy Lh)
  (Rt:PySem.W.codeIn K Gy "_law_drawn"=true)
  (UH:PySem.W.keepIn K (.ref HM)=true)
  (QW:dn K "_law_tied_turns" HN)
  (Vf:cn K "_law_tied_turns" "_law_tied_turns" cC HN OF KD PJ Of Nr LY O3 Gz Li)
  (Ru:PySem.W.codeIn K Gz "_law_tied_turns"=true)
  (UI:PySem.W.keepIn K (.ref HN)=true)
  (QX:dn K "_law_listed" HP)
  (Vg:cn K "_law_listed" "_law_listed" gk HP OG KG PK Og Nt LZ O4 GA Lj)
  (Rv:PySem.W.codeIn K GA "_law_listed"=true)
  (UJ:PySem.W.keepIn K (.ref HP)=true)
  (QY:dn K "_law_made" HQ)
  (Vh:cn K "_law_made" "_law_made" jo HQ OH KH PL Oh Nu L1 O5 GB Lk)
  (Rw:PySem.W.codeIn K GB "_law_made"=true)
  (UK:PySem.W.keepIn K (.ref HQ)=true)
  (QZ:dn K "_law_web" HR)
  (Vi:cn K "_law_web" "_law_web" gX HR OI KI PM Oi Nv L5 O6 GC Ll)
  (Ry:PySem.W.codeIn K GC "_law_web"=true)
  (UL:PySem.W.keepIn K (.ref HR)=true)
  (Q0:dn K "_law_dyed" HS)
  (Vj:cn K "_law_dyed" "_law_dyed" fO HS OJ KJ PN Oj Nw L6 O7 GD Lm)
  (Rz:PySem.W.codeIn K GD "_law_dyed"=true)
  (UM:PySem.W.keepIn K (.ref HS)=true)
  (Q1:dn K "_law_fewer" HU)
  (Vk:cn K "_law_fewer" "_law_fewer" fk HU OK KL PQ Ol Nx L7 O8 GF Ln)
  (RA:PySem.W.codeIn K GF "_law_fewer"=true)
  (UN:PySem.W.keepIn K (.ref HU)=true)
  (Q2:dn K "_law_more" HV)
  (Vl:cn K "_law_more" "_law_more" eI HV OL KN PR Om Ny L8 O9 GG Lo)
  (RB:PySem.W.codeIn K GG "_law_more"=true)
  (UO:PySem.W.keepIn K (.ref HV)=true)
  (Q3:dn K "_law_without" HW)
  (Vm:cn K "_law_without" "_law_without" dJ HW OM KO PU Oo Nz L9 Pa GH Lp)
  (RC:PySem.W.codeIn K GH "_law_without"=true)
  (UP:PySem.W.keepIn K (.ref HW)=true)
  (Ko:dn K "law" HX)
  (Vn:cn K "law" "law" ur HX ON KP PV Oq NA Ma Pb GI Lq)
  (RD:PySem.W.codeIn K GI "law"=true)
  (UQ:PySem.W.keepIn K (.ref HX)=true)
  (m0:PySem.W.findIn K (.ref C) "__init__"=some (some (.ref i0)))
  (f0:PySem.W.isFn K (.ref i0)=true)
  (VF:cn K "__init__" "Web.__init__" bX i0 TC TX Ui Tu TM T4 Ub M6 Up)
  (Vs:PySem.W.codeIn K M6 "Web.__init__"=true)
  (Vy:PySem.W.keepIn K (.ref i0)=true)
  (m1:PySem.W.findIn K (.ref C) "many"=some (some (.ref i1)))
  (f1:PySem.W.isFn K (.ref i1)=true)
  (VG:cn K "many" "Web.many" j4 i1 TF TY Uj Tv TN T5 Uc M7 Uq)
  (Vt:PySem.W.codeIn K M7 "Web.many"=true)
  (Vz:PySem.W.keepIn K (.ref i1)=true)
  (m2:PySem.W.findIn K (.ref C) "turns"=some (some (.ref i2)))
  (f2:PySem.W.isFn K (.ref i2)=true)
  (VH:cn K "turns" "Web.turns" fN i2 TH TZ Uk Tw TQ T7 Ud M8 Ur)
  (Vu:PySem.W.codeIn K M8 "Web.turns"=true)
  (VA:PySem.W.keepIn K (.ref i2)=true)
  (m3:PySem.W.findIn K (.ref C) "ties"=some (some (.ref i3)))
  (f3:PySem.W.isFn K (.ref i3)=true)
  (VI:cn K "ties" "Web.ties" oH i3 TJ T1 Ul Tx TR T8 Ue M9 Us)
  (Vv:PySem.W.codeIn K M9 "Web.ties"=true)
  (VB:PySem.W.keepIn K (.ref i3)=true)
  (m4:PySem.W.findIn K (.ref C) "tied"=some (some (.ref i4)))
  (f4:PySem.W.isFn K (.ref i4)=true)
  (VJ:cn K "tied" "Web.tied" oG i4 TK T2 Um Tz TU T9 Ug Na Ut)
  (Vw:PySem.W.codeIn K Na "Web.tied"=true)
  (VC:PySem.W.keepIn K (.ref i4)=true)
  (m5:PySem.W.findIn K (.ref C) "behind"=some (some (.ref i5)))
  (f5:PySem.W.isFn K (.ref i5)=true)
  (VL:cn K "behind" "Web.behind" kG i5 TL T3 Uo TB TV Ua Uh Nb Uu)
  (Vx:PySem.W.codeIn K Nb "Web.behind"=true)
  (VD:PySem.W.keepIn K (.ref i5)=true)
  (Wq:PySem.W.plainGet K C Str.empty=true)
  (EI:PySem.W.hasDictIn K C=true)
  (WD:PySem.W.plainOver K C=true)
  (WL:PySem.W.findIn K (.ref C) "__setattr__"=some (some (.builtin "object.__setattr__")))
  (VE:PySem.W.makesIn K C=true)
  (U2:PySem.W.keepIn K (.ref C)=true)
  (nR:PySem.W.findIn K (.ref C) "rows"=some none)
  (xn:PySem.W.specialIn K (.builtin "object.__class__") "__get__"=some (some (.builtin "getset_descriptor.__get__")))
  (xt:PySem.W.takesIn K (.builtin "object.__class__")=some true)
  (mi:PySem.W.nsIn K mainGlobals "MapError"=some (some (.ref cM)))
  (zP:PySem.W.nsIn K mainGlobals "NoWeb"=some (some (.ref bB)))
  (so:PySem.W.hasDictIn K bB=true)
  (sh:PySem.W.findIn K (.ref bB) "__getattribute__"=some (some (.builtin "BaseException.__getattribute__")))
  (si:PySem.W.findIn K (.ref bB) "__getattr__"=some none)
  (sT:PySem.W.findIn K (.ref bB) "__setattr__"=some (some (.builtin "object.__setattr__")))
  (rO:PySem.W.findIn K (.ref bB) "__class__"=some (some (.builtin "object.__class__")))
  (rQ:PySem.W.clsIn K bB=some rM)
  (rP:rM.mro= .ref bB:: [.ref cM, .type "ValueError", .type "Exception", .type "BaseException", .type "object"])
  (sF:K.lookup bB=some (excClassObj AB q_NoWeb bB Bf zq rK vh AY ye zj wI zE Ak Al Am An Ao "ValueError.__new__"))
  (rL:rK= [.ref cM, .type "ValueError", .type "Exception", .type "BaseException", .type "object"])
  (WM:PySem.W.specialIn K (.ref cM) "__getattribute__"=some (some (.builtin "type.__getattribute__")))
  (WI:PySem.W.readsIn K cM (.type "type")=true)
  (Sk:PySem.W.findCls K (.ref cM) (.type "type") "__init__"=some (.val (.builtin "ValueError.__init__")))
  (zu:PySem.W.specialIn K (.ref bB) "__call__"=some (some (.builtin "type.__call__")))
  (A7:PySem.W.instIn K (.ref bB) (.type "type")=some true)
  (z8:PySem.W.findIn K (.ref bB) "__init__"=some (some (.ref jI)))
  (Ar:PySem.W.keepIn K (.ref bB)=true)
  (zM:PySem.W.isFn K (.ref jI)=true)
  (sv:cn K "__init__" "NoWeb.__init__" eH jI Ac Af Ai Ab Ae Ag Ah sA Aj)
  (sy:PySem.W.codeIn K sA "NoWeb.__init__"=true)
  (su:PySem.W.keepIn K (.ref jI)=true)
  (n_NoWeb_fault:PySem.W.findIn K (.ref bB) "fault"=some none)
  (m_NoWeb_NoWeb:PySem.W.mroIn K bB (.ref bB)=some true)
  (K5:PySem.W.nsIn K mainGlobals "__name__"=some (some (.str "law_mapdye_k64_whole_more_and_fewer" Qk)))
  (RE:PySem.W.nsIn K mainGlobals "MOST_COPIED"=some (some (.int 1000000 Qi)))
  (RF:PySem.W.nsIn K mainGlobals "MOST_POINTS"=some (some (.int 14 J1)))
  (RG:PySem.W.nsIn K mainGlobals "MOST_SEARCHED"=some (some (.int 8 J2)))
  (Qq:PySem.W.nsIn K mainGlobals "len"=some none)
  (F9:PySem.W.nsIn K mainGlobals "range"=some none)
  (Qr:PySem.W.nsIn K mainGlobals "max"=some none)
  (Qs:PySem.W.nsIn K mainGlobals "min"=some none)
  (wa:PySem.W.nsIn K mainGlobals "enumerate"=some none)
  (Qu:PySem.W.nsIn K mainGlobals "zip"=some none)
  (Ee:PySem.W.nsIn K mainGlobals "sorted"=some none)
  (Qn:PySem.W.nsIn K mainGlobals "all"=some none)
  (uC:PySem.W.nsIn K mainGlobals "isinstance"=some none)
  (Qo:PySem.W.nsIn K mainGlobals "int"=some none)
  (J8:PySem.W.nsIn K mainGlobals "bool"=some none)
  (Ka:PySem.W.nsIn K mainGlobals "list"=some none)
  (Ga:PySem.W.nsIn K mainGlobals "tuple"=some none)
  (Qt:PySem.W.nsIn K mainGlobals "sum"=some none)
  (ym:PySem.W.nsIn K mainGlobals "reversed"=some none)
  (J9:PySem.W.nsIn K mainGlobals "dict"=some none)
  :∃fd:FuncData,(∀(s:Shared)(v:Value),BindsTo s fd ⟨[v],[]⟩ [("_law_script",v)])∧∀base:Heap,K.In base→base.Ns mainGlobals mg→FnOk l.prog w K mg base br 40 fa fd ["_law_script"] (L2.m7 K):=by
 have e:=SY.symm.trans (PySem.W.mg_of X G Ko);cases e;have E0:=jd (st:=bX) VF Vs Vy;have e0:=E0.binds (ps:= ["self","turns"]) (λ_ _ _ _ _ _ _ hl=>by obtain ⟨_,_,rfl⟩:=L2.iI hl;rfl)
 let Z:DC:=⟨K,C⟩
 let T:Txt Z mg:=⟨⟨PySem.W.mg_none_of X G Qq,PySem.W.mg_none_of X G F9,PySem.W.mg_none_of X G Qr,PySem.W.mg_none_of X G Qs,PySem.W.mg_none_of X G wa,PySem.W.mg_none_of X G Qu,PySem.W.mg_none_of X G Ee,PySem.W.mg_none_of X G Qn,PySem.W.mg_none_of X G uC,PySem.W.mg_none_of X G Qo,PySem.W.mg_none_of X G J8,PySem.W.mg_none_of X G Ka,PySem.W.mg_none_of X G Ga,PySem.W.mg_none_of X G Qt,PySem.W.mg_none_of X G ym⟩,PySem.W.mg_none_of X G J9, .of X G a0 l0 c0 k0 (λ_ _ _ _ _ _ _ hl=>by obtain ⟨_,rfl⟩:=L2.fI hl;rfl), .of X G a1 l1 c1 k1 (λ_ _ _ _ _ _ _ hl=>by obtain ⟨_,_,rfl⟩:=L2.iI hl;rfl), .of X G a2 l2 c2 k2 (λ_ _ _ _ _ _ _ hl=>by obtain ⟨_,rfl⟩:=L2.fI hl;rfl), .of X G a3 l3 c3 k3 (λ_ _ _ _ _ _ _ hl=>by obtain ⟨_,_,rfl⟩:=L2.iI hl;rfl), .of X G a4 l4 c4 k4 (λ_ _ _ _ _ _ _ hl=>by obtain ⟨_,rfl⟩:=L2.fI hl;rfl), .of X G a5 l5 c5 k5 (λ_ _ _ _ _ _ _ hl=>by obtain ⟨_,rfl⟩:=L2.fI hl;rfl), .of X G a6 l6 c6 k6 (λ_ _ _ _ _ _ _ hl=>by obtain ⟨_,rfl⟩:=L2.fI hl;rfl), .of X G a7 l7 c7 k7 (λ_ _ _ _ _ _ _ hl=>by obtain ⟨_,rfl⟩:=L2.fI hl;rfl), .of X G a8 l8 c8 k8 (λ_ _ _ _ _ _ _ hl=>by obtain ⟨_,rfl⟩:=L2.fI hl;rfl), .of X G a9 l9 c9 k9 (λ_ _ _ _ _ _ _ hl=>by obtain ⟨_,rfl⟩:=L2.fI hl;rfl), .of X G QK U3 Rh Uv (λ_ _ _ _ _ _ _ hl=>by obtain ⟨_,rfl⟩:=L2.fI hl;rfl), .of X G QL U4 Ri Uw (λ_ _ _ _ _ _ _ hl=>by obtain ⟨_,_,rfl⟩:=L2.iI hl;rfl), .of X G QM U5 Rj Ux (λ_ _ _ _ _ _ _ hl=>by obtain ⟨_,_,_,_,rfl⟩:=L2.CO hl;rfl), .of X G QN U6 Rk Uy (λ_ _ _ _ _ _ _ hl=>by obtain ⟨_,_,_,rfl⟩:=L2.mz hl;rfl), .of X G QO U7 Rl Uz (λ_ _ _ _ _ _ _ hl=>by obtain ⟨_,_,_,rfl⟩:=L2.mz hl;rfl), .of X G QP U8 Rm UA (λ_ _ _ _ _ _ _ hl=>by obtain ⟨_,_,_,rfl⟩:=L2.mz hl;rfl), .of X G QQ U9 Rn UB (λ_ _ _ _ _ _ _ hl=>by obtain ⟨_,_,rfl⟩:=L2.iI hl;rfl), .of X G QR Va Ro UC (λ_ _ _ _ _ _ _ hl=>by obtain ⟨_,_,_,_,_,rfl⟩:=L2.ND hl;rfl), .of X G QS Vb Rp UD (λ_ _ _ _ _ _ _ hl=>by obtain ⟨_,_,_,_,rfl⟩:=L2.CO hl;rfl), .of X G QT Vc Rq UE (λ_ _ _ _ _ _ _ hl=>by obtain ⟨_,_,_,rfl⟩:=L2.mz hl;rfl), .of X G QU Vd Rr UG (λ_ _ _ _ _ _ _ hl=>by obtain ⟨_,_,rfl⟩:=L2.iI hl;rfl), .of X G QV Ve Rt UH (λ_ _ _ _ _ _ _ hl=>by obtain ⟨_,rfl⟩:=L2.fI hl;rfl), .of X G QW Vf Ru UI (λ_ _ _ _ _ _ _ hl=>by obtain ⟨_,_,rfl⟩:=L2.iI hl;rfl), .of X G QX Vg Rv UJ (λ_ _ _ _ _ _ _ hl=>by obtain ⟨_,_,_,rfl⟩:=L2.mz hl;rfl), .of X G QY Vh Rw UK (λ_ _ _ _ _ _ _ hl=>by obtain ⟨_,_,rfl⟩:=L2.iI hl;rfl), .of X G QZ Vi Ry UL (λ_ _ _ _ _ _ _ hl=>by obtain ⟨_,rfl⟩:=L2.fI hl;rfl), .of X G Q0 Vj Rz UM (λ_ _ _ _ _ _ _ hl=>by obtain ⟨_,_,_,rfl⟩:=L2.mz hl;rfl), .of X G Q1 Vk RA UN (λ_ _ _ _ _ _ _ hl=>by obtain ⟨_,_,rfl⟩:=L2.iI hl;rfl), .of X G Q2 Vl RB UO (λ_ _ _ _ _ _ _ hl=>by obtain ⟨_,_,rfl⟩:=L2.iI hl;rfl), .of X G Q3 Vm RC UP (λ_ _ _ _ _ _ _ hl=>by obtain ⟨_,_,rfl⟩:=L2.iI hl;rfl), .of X G Ko Vn RD UQ (λ_ _ _ _ _ _ _ hl=>by obtain ⟨_,rfl⟩:=L2.fI hl;rfl),⟨⟨Wq,EI,WD,WL⟩,nR⟩,PySem.W.mg_of X G gC,i0,_,E0,⟨VE,m0,f0,U2⟩,e0, .of m1 f1 VG Vt Vz (λ_ _ _ _ _ _ _ hl=>by obtain ⟨_,rfl⟩:=L2.fI hl;rfl), .of m2 f2 VH Vu VA (λ_ _ _ _ _ _ _ hl=>by obtain ⟨_,rfl⟩:=L2.fI hl;rfl), .of m3 f3 VI Vv VB (λ_ _ _ _ _ _ _ hl=>by obtain ⟨_,rfl⟩:=L2.fI hl;rfl), .of m4 f4 VJ Vw VC (λ_ _ _ _ _ _ _ hl=>by obtain ⟨_,_,_,rfl⟩:=L2.mz hl;rfl), .of m5 f5 VL Vx VD (λ_ _ _ _ _ _ _ hl=>by obtain ⟨_,_,_,rfl⟩:=L2.mz hl;rfl),⟨xn,xt⟩,cM,PySem.W.mg_of X G mi,bB,PySem.W.mg_of X G zP,Eb so sh si sT rO rQ rP sF rL rfl,⟨PySem.W.mg_of X G mi,WM,WI,Sk⟩,⟨jI,_,jd sv sy su,(jd sv sy su).binds (ps:= ["self","fault"]) (λ_ _ _ _ _ _ _ hl=>by obtain ⟨_,_,rfl⟩:=L2.iI hl;rfl),⟨(Eb so sh si sT rO rQ rP sF rL rfl).obj,zu,A7,z8,Ar⟩,zM⟩,n_NoWeb_fault,m_NoWeb_NoWeb,⟨Qk,PySem.W.mg_of X G K5⟩,⟨Qi,PySem.W.mg_of X G RE⟩,⟨J1,PySem.W.mg_of X G RF⟩,⟨J2,PySem.W.mg_of X G RG⟩⟩
 exact ⟨_,λs v=> .of_eq rfl,λbase _ _=>(((Fd (P:=l.prog) (w:=w) (base:=base) T).mono (by decide)).imp (L2.EZ (Z:=Z)))⟩
theorem walk{l:PySem.W.OpenLaw}{q:Program}{loose:List Str}{XP:(Str→Option Value)→Heap→Prop}{YP:World→Heap→Prop}{d:DefRec}{K:Params→PySem.W.Frag}(hn:l.most=some 63)(xj:d.params.defaults= [])
  (hY:∀(w:World)(h:Heap),YP w h→(K w.params).In h)
  (F:∀(w:World)(mg:Str→Option Value)(fa:Addr)(h:Heap),(K w.params).In h→h.Ns mainGlobals mg→mg d.name=some (.ref fa)→
   ∃fd:FuncData,(∀(s:Shared)(u:Value),BindsTo s fd ⟨[u],[]⟩ [("_law_script",u)])∧∀base:Heap,(K w.params).In base→base.Ns mainGlobals mg→FnOk l.prog w (K w.params) mg base br 40 fa fd ["_law_script"] (m7 (K w.params))):
  PySem.W.WalkO q loose XP YP l.row.toRowW d [] (λf vs=>PySem.call f vs):=L2.J3 40 (by decide) hn xj hY F
end kR
def PySem.W.Fast.tw3497506193015134506:Nat:=0
def PySem.W.Fast.tw9666918308477115766:Nat:=0
def PySem.W.Fast.tw2098804886254337889:Nat:=0
def PySem.W.Fast.tw10695044414540755965:Nat:=0
def PySem.W.Fast.tw7422445569405994623:Nat:=0
def PySem.W.Fast.tw13546621455455736230:Nat:=0
def PySem.W.Fast.tw10967212683385297762:Nat:=0
def PySem.W.Fast.tw1624974230591208890:Nat:=0
def PySem.W.Fast.tw13336796204264431000:Nat:=0
def PySem.W.Fast.tw11805631715135435982:Nat:=0
def PySem.W.Fast.tw5314116469917259731:Nat:=0
def PySem.W.Fast.tw509183135044841969:Nat:=0
def PySem.W.Fast.tw7104803688364989160:Nat:=0
def PySem.W.Fast.tw12203369080811182014:Nat:=0
def PySem.W.Fast.tw11275391959454665073:Nat:=0
def PySem.W.Fast.tw2395268462134505564:Nat:=0
def PySem.W.Fast.tw711948587129896947:Nat:=0
def PySem.W.Fast.tw6986027710542435074:Nat:=0
def PySem.W.Fast.tw3022165716205880699:Nat:=0
def PySem.W.Fast.tw15434365350562106352:Nat:=0
def PySem.W.Fast.tw18092141921670281538:Nat:=0
def PySem.W.Fast.tw16727566662697694690:Nat:=0
def PySem.W.Fast.tw6839709976364106339:Nat:=0
def PySem.W.Fast.tw6953063167857837370:Nat:=0
def PySem.W.Fast.tw7219979815421314372:Nat:=0
def PySem.W.Fast.tw17185049841061844662:Nat:=0
def PySem.W.Fast.tw1270370659872010660:Nat:=0
def PySem.W.Fast.tw5429797006461713074:Nat:=0
def PySem.W.Fast.tw12927202197097677345:Nat:=0
def PySem.W.Fast.tw12806914057608975069:Nat:=0
def PySem.W.Fast.tw7560325815475370073:Nat:=0
def PySem.W.Fast.tw2167228000799099131:Nat:=0
def PySem.W.Fast.tw2441682368282893866:Nat:=0
def PySem.W.Fast.tw10443604748974783497:Nat:=0
def PySem.W.Fast.tw228097324890724076:Nat:=0
def PySem.W.Fast.tw13448971844467880419:Nat:=0
def PySem.W.Fast.tw17358797475016752217:Nat:=0
def PySem.W.Fast.tw2662067900840596855:Nat:=0
def PySem.W.Fast.tw5400959046770256731:Nat:=0
def PySem.W.Fast.tw8144130614531160533:Nat:=0
def PySem.W.Fast.tw9727482813739418641:Nat:=0
def PySem.W.Fast.tw4372314601920961376:Nat:=0
def PySem.W.Fast.tw3280075295750128687:Nat:=0
def PySem.W.Fast.tw12420178768128150685:Nat:=0
def PySem.W.Fast.tw9333373394131363958:Nat:=0
def PySem.W.Fast.tw12295247717852986741:Nat:=0
def PySem.W.Fast.tw6030097730179528006:Nat:=0
def PySem.W.Fast.tw18417469620482808164:Nat:=0
def PySem.W.Fast.tw14333618045670429422:Nat:=0
def PySem.W.Fast.tw11875530494719574436:Nat:=0
def PySem.W.Fast.tw11759219112955110047:Nat:=0
def PySem.W.Fast.tw11861134237418269732:Nat:=0
def PySem.W.Fast.tw13341914266837651585:Nat:=0
def PySem.W.Fast.tw855988369310637621:Nat:=0
def PySem.W.Fast.tw17156081181105351325:Nat:=0
def PySem.W.Fast.tw15211028221765715005:Nat:=0
def PySem.W.Fast.tw7473500170397611414:Nat:=0
def PySem.W.Fast.tw573446299696099260:Nat:=0
def PySem.W.Fast.tw16641982998360449043:Nat:=0
def PySem.W.Fast.tw692123535488428636:Nat:=0
def PySem.W.Fast.tw3857197006918115469:Nat:=0
def PySem.W.Fast.tw14958759711606059394:Nat:=0
def PySem.W.Fast.tw9571473593990343504:Nat:=0
def PySem.W.Fast.tw10449777208309134650:Nat:=0
def PySem.W.Fast.tw4629657914015212083:Nat:=0
def PySem.W.Fast.tw3980521488262683055:Nat:=0
def PySem.W.Fast.tw8170276214101824424:Nat:=0
def PySem.W.Fast.tw3896560685622828042:Nat:=0
def PySem.W.Fast.tw3189486819273737292:Nat:=0
def PySem.W.Fast.tw15545816493444750267:Nat:=0
def PySem.W.Fast.tw7071203349129946365:Nat:=0
def PySem.W.Fast.tw8947708633485059057:Nat:=0
def PySem.W.Fast.tw15420195512021857410:Nat:=0
def PySem.W.Fast.tw14050183648509685365:Nat:=0
def PySem.W.Fast.tw562040548353627530:Nat:=0
def PySem.W.Fast.tw4268280544236094897:Nat:=0
def PySem.W.Fast.tw6402094063464371515:Nat:=0
def PySem.W.Fast.tw7806101644090868096:Nat:=0
def PySem.W.Fast.tw15825687428116081288:Nat:=0
def PySem.W.Fast.tw7560602888638910721:Nat:=0
def PySem.W.Fast.tw9261481644064717270:Nat:=0
def PySem.W.Fast.tw7203856510089343628:Nat:=0
def PySem.W.Fast.tw13092266081337249368:Nat:=0
def PySem.W.Fast.tw5422775612165084752:Nat:=0
def PySem.W.Fast.tw8041894804936573642:Nat:=0
def PySem.W.Fast.tw10259176415306428653:Nat:=0
def PySem.W.Fast.tw16772131683116016751:Nat:=0
def PySem.W.Fast.tw18418012287638487983:Nat:=0
def PySem.W.Fast.tw5821491888653892763:Nat:=0
def PySem.W.Fast.tw2976676667693764999:Nat:=0
def PySem.W.Fast.tw12395132854027843900:Nat:=0
def PySem.W.Fast.tw447307438348129425:Nat:=0
def PySem.W.Fast.tw9174410855232883037:Nat:=0
def PySem.W.Fast.tw1950783956007507629:Nat:=0
def PySem.W.Fast.tw5200281909261173462:Nat:=0
def PySem.W.Fast.tw16080513406844407910:Nat:=0
def PySem.W.Fast.tw1473534312994279539:Nat:=0
def PySem.W.Fast.tw9453411845275233593:Nat:=0
def PySem.W.Fast.tw10812842319922670142:Nat:=0
def PySem.W.Fast.tw9818580041834288904:Nat:=0
def PySem.W.Fast.tw388528391656504863:Nat:=0
def PySem.W.Fast.tw8858042235648200536:Nat:=0
def PySem.W.Fast.tw15878462092519885223:Nat:=0
def PySem.W.Fast.tw7494480900116725627:Nat:=0
def PySem.W.Fast.tw12151899338257185469:Nat:=0
def PySem.W.Fast.tw12231751523753543228:Nat:=0
def PySem.W.Fast.tw4033282991438037942:Nat:=0
def PySem.W.Fast.tw9527371812934971687:Nat:=0
def PySem.W.Fast.tw17757166429942513862:Nat:=0
def PySem.W.Fast.tw1950785233483022499:Nat:=0
def PySem.W.Fast.tw1116675724775254945:Nat:=0
def PySem.W.Fast.tw18149608091747215803:Nat:=0
def PySem.W.Fast.tw16747653074179801776:Nat:=0
def PySem.W.Fast.tw1895690454257587881:Nat:=0
def PySem.W.Fast.tw8484581002669667115:Nat:=0
def PySem.W.Fast.tw11193540048858306728:Nat:=0
def PySem.W.Fast.tw5311891131827181477:Nat:=0
def PySem.W.Fast.tw4177413669164338074:Nat:=0
def PySem.W.Fast.tw18032182224567139290:Nat:=0
def PySem.W.Fast.tw9063514929110596733:Nat:=0
def PySem.W.Fast.tw7599074630751308045:Nat:=0
def PySem.W.Fast.tw2245945147449253858:Nat:=0
def PySem.W.Fast.tw18074901086367583145:Nat:=0
def PySem.W.Fast.tw2972300653064640064:Nat:=0
def PySem.W.Fast.tw8952257608638068391:Nat:=0
def PySem.W.Fast.tw12969590718578173646:Nat:=0
def PySem.W.Fast.tw10170958144892253189:Nat:=0
def PySem.W.Fast.tw34917728087336104:Nat:=0
def PySem.W.Fast.tw14412276977627890393:Nat:=0
def PySem.W.Fast.tw14887084431417336581:Nat:=0
def PySem.W.Fast.tw13376120331927392567:Nat:=0
def PySem.W.Fast.tw15335584040967897783:Nat:=0
def PySem.W.Fast.tw2163536778211983251:Nat:=0
def PySem.W.Fast.tw18094097766111848117:Nat:=0
def PySem.W.Fast.tw13372906111193860573:Nat:=0
def PySem.W.Fast.tw15506784660732343350:Nat:=0
def PySem.W.Fast.tw8721901300857122400:Nat:=0
def PySem.W.Fast.tw14831287573493407816:Nat:=0
def PySem.W.Fast.tw1386639425259295933:Nat:=0
def PySem.W.Fast.tw15542292001205388374:Nat:=0
def PySem.W.Fast.tw2481602223801408808:Nat:=0
def PySem.W.Fast.tw10216424633935768182:Nat:=0
def PySem.W.Fast.tw8669089582378724854:Nat:=0
def PySem.W.Fast.tw18073976834427516919:Nat:=0
def PySem.W.Fast.tw17411717600970718579:Nat:=0
def PySem.W.Fast.tw15807776805947457892:Nat:=0
def PySem.W.Fast.tw7920742437518300267:Nat:=0
def PySem.W.Fast.tw6541661127438068668:Nat:=0
def PySem.W.Fast.tw4900390038024663226:Nat:=0
def PySem.W.Fast.tw4908576588349267567:Nat:=0
def PySem.W.Fast.tw16826381040594086396:Nat:=0
def PySem.W.Fast.tw8216773247587259489:Nat:=0
def PySem.W.Fast.tw3665685743932577535:Nat:=0
def PySem.W.Fast.tw16040569047545429910:Nat:=0
def PySem.W.Fast.tw17840410656684792137:Nat:=0
def PySem.W.Fast.tw5455327953718845936:Nat:=0
def PySem.W.Fast.tw3706948590360023222:Nat:=0
def PySem.W.Fast.tw13656287842342625462:Nat:=0
def PySem.W.Fast.tw17483802659770842978:Nat:=0
def PySem.W.Fast.tw7040520143867616730:Nat:=0
def PySem.W.Fast.tw6803010320438038347:Nat:=0
def PySem.W.Fast.tw14680357164740614793:Nat:=0
def PySem.W.Fast.tw620754219794526613:Nat:=0
def PySem.W.Fast.tw16034296024809628523:Nat:=0
def PySem.W.Fast.tw15208038253883269791:Nat:=0
def PySem.W.Fast.tw7111595769954689210:Nat:=0
def PySem.W.Fast.tw16070934210334367855:Nat:=0
def PySem.W.Fast.tw6574852312374430734:Nat:=0
open PySem PySem.W PyProof.Rows
set_option maxRecDepth 100000 in
set_option maxHeartbeats 0 in
theorem PySem.Challenge.cw_mapdye_k64_whole_more_and_fewer_holds : PySem.Challenge.rw_mapdye_k64_whole_more_and_fewer.Holds := by
 w_on;o_law;k_head;(case hw=>w_witness2)
 k_fill
 refine kR.walk (l:=PySem.Challenge.rw_mapdye_k64_whole_more_and_fewer) rfl rfl (λw h Y=>PySem.W.kIn_of Y) ?F
 case F=>
  intro w mg fa h KX G Cz
  refine' kR.all_mk KX G Cz ?_ ?_ ?_ ?_ ?_ ?_ ?_ ?_ ?_ ?_ ?_ ?_ ?_ ?_ ?_ ?_ ?_ ?_ ?_ ?_ ?_ ?_ ?_ ?_ ?_ ?_ ?_ ?_ ?_ ?_ ?_ ?_ ?_ ?_ ?_ ?_ ?_ ?_ ?_ ?_ ?_ ?_ ?_ ?_ ?_ ?_ ?_ ?_ ?_ ?_ ?_ ?_ ?_ ?_ ?_ ?_ ?_ ?_ ?_ ?_ ?_ ?_ ?_ ?_ ?_ ?_ ?_ ?_ ?_ ?_ ?_ ?_ ?_ ?_ ?_ ?_ ?_ ?_ ?_ ?_ ?_ ?_ ?_ ?_ ?_ ?_ ?_ ?_ ?_ ?_ ?_ ?_ ?_ ?_ ?_ ?_ ?_ ?_ ?_ ?_ ?_ ?_ ?_ ?_ ?_ ?_ ?_ ?_ ?_ ?_ ?_ ?_ ?_ ?_ ?_ ?_ ?_ ?_ ?_ ?_ ?_ ?_ ?_ ?_ ?_ ?_ ?_ ?_ ?_ ?_ ?_ ?_ ?_ ?_ ?_ ?_ ?_ ?_ ?_ ?_ ?_ ?_ ?_ ?_ ?_ ?_ ?_ ?_ ?_ ?_ ?_ ?_ ?_ ?_ ?_ ?_ ?_ ?_ ?_ ?_ ?_ ?_ ?_ ?_ ?_ ?_ ?_ ?_ ?_ ?_ ?_ ?_ ?_ ?_ ?_ ?_ ?_ ?_ ?_ ?_ ?_ ?_ ?_ ?_ ?_ ?_ ?_ ?_ ?_ ?_ ?_ ?_ ?_ ?_ ?_ ?_ ?_ ?_ ?_ ?_ ?_ ?_ ?_ ?_ ?_ ?_ ?_ ?_
  all_goals (try (first| (show _=_;k_is) | (refine' L2.Qw ?_ ?_ ?_ ?_ ?_ ?_ ?_<;>first| (show _=_;k_is) |rfl) | (refine' L2.Qx ?_ ?_ ?_ ?_<;>first| (show _=_;k_is) |rfl) |rfl))
