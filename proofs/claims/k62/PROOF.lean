import PyProof.Rows.All
import Wide.All
import OpenK.AllK
import Wide.FinOn
import Lean
import PyProof.EqAt
import PyProof.EqKinds
import PyProof.TupleCall
import PyProof.RaisesMany
import KE.KSortTup
import PyProof.NeKinds
import PyProof.SetKind
import PyProof.SetRoads
import PyProof.SetNew
import PyProof.WalksS
import PyProof.CollectWalk
import PyProof.TupleKey
import PyProof.IsRules
import PyProof.InstEq
import KE.KRevIter
import PyProof.FitsBits
import PyProof.P3Eq
import PyProof.ListRange
import PyProof.RulesAs
import PyProof.NsDelKeeps
import PyProof.PassesOwn
import PyProof.FString
import PyProof.MinMaxWalk
import PySem.Challenge.RW_mapdye_k62_too_many_to_search
set_option Elab.async false
set_option linter.all false
set_option maxRecDepth 100000
abbrev cc:= @List.size_toArray
abbrev fZ:= @List.getD_eq_getElem?_getD
abbrev f6:= @List.getElem?_eq_some_iff
abbrev cQ:= @List.length_map
abbrev fu:= @List.mem_cons_of_mem
abbrev eV:= @Nat.lt_of_lt_of_le
abbrev bW:= @Nat.le_refl
abbrev fI:= @List.mem_cons_self
abbrev fJ:= @Bool.false_ne_true
abbrev iU:= @List.getElem?_eq_getElem
abbrev dq:= @List.getElem?_eq_none
abbrev bA:= @Nat.ne_of_lt
abbrev dQ:= @List.mem_append_right
abbrev cP:= @List.getElem?_map
abbrev cR:= @List.length_cons
abbrev cS:= @Nat.le_of_not_lt
abbrev dR:= @List.length_append
abbrev gn:= @List.getElem?_set_self
abbrev dS:= @List.length_set
abbrev jJ:= @List.getElem?_append_left
abbrev iA:= @List.length_replicate
abbrev jK:= @List.getElem?_replicate
abbrev iB:= @List.mem_append_left
abbrev iC:= @List.getElem?_set_ne
abbrev eS:= @Nat.lt_irrefl
abbrev eU:= @List.mem_cons
abbrev gq:= @List.append_nil
abbrev fH:= @Nat.le_trans
abbrev n4:= @List.getElem?_append_right
abbrev jL:= @List.getElem?_set
abbrev jM:= @List.lookup_cons
abbrev n5:= @List.set_eq_of_length_le
abbrev jN:= @List.nodup_cons
abbrev mF:= @List.replicate_succ
abbrev jO:= @List.nodup_nil
abbrev n6:= @List.mem_of_getElem?
abbrev mG:= @Bool.and_eq_true
abbrev iD:= @Nat.zero_le
abbrev mH:= @List.map_append
abbrev n9:= @List.flatten_cons
abbrev oa:= @List.getElem_mem
abbrev uZ:= @List.getElem?_cons_succ
abbrev og:= @List.mem_append
abbrev sg:= @Bool.false_eq_true
abbrev u0:= @List.drop_eq_nil_of_le
abbrev sh:= @List.length_take
abbrev oh:= @List.map_cons
abbrev si:= @List.nil_append
abbrev sj:= @List.mem_filter
abbrev sk:= @List.mem_range
namespace L2
open PySem PySem.Spec PyProof.Rows
abbrev Key:=Sum Int Str
def yg:Key→Value→Bool
 | .inl k,v=>Value.isInt k v
 | .inr x,v=>Value.isStrOf x v
def GH(w:World):Key→Int
 | .inl k=>hashInt k
 | .inr x=>hashStr w x
theorem bf:∀{k:Key}{v:Value},yg k v=true→(∃i t,k=Sum.inl i∧v=Value.int i t)∨(∃x t,k=Sum.inr x∧v=Value.str x t)
 | .inl i,v,h=>by
  obtain ⟨t,e⟩:=Value.isInt_shape (k:=i) (v:=v) h;exact .inl ⟨i,t,rfl,e⟩
 | .inr x,v,h=>by
  obtain ⟨t,e⟩:=Value.isStrOf_shape (x:=x) (v:=v) h;exact .inr ⟨x,t,rfl,e⟩
theorem zZ(a b:Int):decide ((Sum.inl a:Key)=Sum.inl b)=(a==b):=by
 by_cases e:a=b
 ·subst e;simp
 ·have h:¬(Sum.inl a:Key)=Sum.inl b:=λq=>e (Sum.inl.inj q)
  rw [decide_eq_false h];exact (beq_eq_false_iff_ne.mpr e).symm
theorem z6(a b:Str):decide ((Sum.inr a:Key)=Sum.inr b)=decide (a=b):=by
 by_cases e:a=b
 ·subst e;simp
 ·have h:¬(Sum.inr a:Key)=Sum.inr b:=λq=>e (Sum.inr.inj q)
  rw [decide_eq_false h,decide_eq_false e]
theorem z0(a:Int)(b:Str):decide ((Sum.inl a:Key)=Sum.inr b)=false:=decide_eq_false (λq=>nomatch q)
theorem z5(a:Str)(b:Int):decide ((Sum.inr a:Key)=Sum.inl b)=false:=decide_eq_false (λq=>nomatch q)
def ma(prog:Program)(w:World):PySem.KeyKind prog w Key where
 is:=yg
 hash:=GH w
 inj:=λv a b ha hb=>by
  rcases bf ha with ⟨i,t,rfl,rfl⟩ | ⟨x,t,rfl,rfl⟩
  ·rcases bf hb with ⟨j,u,rfl,e⟩ | ⟨y,u,rfl,e⟩
   ·injection e with e1 _;rw [e1]
   ·exact nomatch e
  ·rcases bf hb with ⟨j,u,rfl,e⟩ | ⟨y,u,rfl,e⟩
   ·exact nomatch e
   ·injection e with e1 _;rw [e1]
 byValue:=λk v h=>by
  rcases bf h with ⟨i,t,rfl,rfl⟩ | ⟨x,t,rfl,rfl⟩<;>rfl
 pyHash:=λhv h=>by
  rcases bf hv with ⟨i,t,rfl,rfl⟩ | ⟨x,t,rfl,rfl⟩
  ·exact wpAny_pyHash_int h
  ·exact wpAny_pyHash_str h
 eqBool:=λhu hv h=>by
  rcases bf hu with ⟨i,t,rfl,rfl⟩ | ⟨x,t,rfl,rfl⟩
  ·rcases bf hv with ⟨j,u,rfl,rfl⟩ | ⟨y,u,rfl,rfl⟩
   ·rw [zZ] at h;exact wpAny_eqBool_int h
   ·rw [z0] at h;exact SeqAt.EqAt.int_str i t y u _ _ _ _ h
  ·rcases bf hv with ⟨j,u,rfl,rfl⟩ | ⟨y,u,rfl,rfl⟩
   ·rw [z5] at h;exact SeqAt.EqAt.str_int x t j u _ _ _ _ h
   ·rw [z6] at h;exact wpAny_eqBool_str h
 «strs»:=λk x t v h=>by
  rcases bf h with ⟨i,u,rfl,e⟩ | ⟨y,u,rfl,e⟩
  ·exact nomatch e
  ·injection e with e1 _
   subst e1;cases v<;>rfl
inductive V where
 |aC|bl (b:Bool) |int (i:Int) |str (x:Str) |va (b:Array UInt8) |sQ (b:UInt64) |ref (a:Addr) |ty (n:String)
 deriving DecidableEq
def RelV:V→Value→Prop
 | .aC,u=>u=Value.none
 | .bl b,u=>u=Value.bool b
 | .int i,u=>∃t,u=Value.int i t
 | .str x,u=>∃t,u=Value.str x t
 | .va b,u=>∃t,u=Value.bytes b t
 | .sQ b,u=>∃t,u=Value.float b t
 | .ref a,u=>u=Value.ref a
 | .ty n,u=>u=Value.type n
abbrev Vals:List V→List Value→Prop:=Paired RelV
theorem Vals.length{xs:List V}{us:List Value}(r:Vals xs us):xs.length=us.length:=Paired.length r
theorem Vals.get:∀{xs:List V}{us:List Value}{i:Nat}{x:V},Vals xs us→xs[i]? =some x→∃u,us[i]? =some u∧RelV x u
 |_,_,_,_, .nil,e=>by simp at e
 |_,_,0,_, .cons r _,e=>by simp at e;subst e;exact ⟨_,rfl,r⟩
 |_,_,i+1,x, .cons _ t,e=>by
  obtain ⟨u,h1,h2⟩:=Vals.get (i:=i) (x:=x) t (by simpa using e)
  exact ⟨u,by simpa using h1,h2⟩
theorem Vals.set{x:V}{u:Value}(r:RelV x u):∀{xs:List V}{us:List Value}(i:Nat),Vals xs us→Vals (xs.set i x) (us.set i u)
 |_,_,_, .nil=> .nil
 |_,_,0, .cons _ t=> .cons r t
 |_,_,i+1, .cons q t=> .cons q (Vals.set r i t)
theorem Vals.append:∀{xs ys:List V}{us ws:List Value},Vals xs us→Vals ys ws→Vals (xs++ys) (us++ws)
 |_,_,_,_, .nil,s=>s
 |_,_,_,_, .cons r t,s=> .cons r (Vals.append t s)
theorem Vals.take:∀{xs:List V}{us:List Value}(n:Nat),Vals xs us→Vals (xs.take n) (us.take n)
 |_,_,0,_=> .nil
 |_,_,_+1, .nil=> .nil
 |_,_,n+1, .cons r t=> .cons r (Vals.take n t)
theorem Vals.drop:∀{xs:List V}{us:List Value}(n:Nat),Vals xs us→Vals (xs.drop n) (us.drop n)
 |_,_,0,r=>r
 |_,_,_+1, .nil=> .nil
 |_,_,n+1, .cons _ t=>Vals.drop n t
def f9:Option V→Option Value→Prop
 |some v,some u=>RelV v u
 |none,none=>True
 |_,_=>False
def KV{κ:Type}:List (κ×V)→List (κ×Value)→Prop:=Paired λ(p:κ×V)(q:κ×Value)=>p.1=q.1∧RelV p.2 q.2
def kV:Key→V
 | .inl i=> .int i
 | .inr x=> .str x
inductive HO where
 |lst (xs:List V)
 |tup (xs:List V)
 |dK (bK:List (Key×V)) |dT (bK:List (List Key×V))
 |set (S:Int→Bool) (n:Nat)
 |ins (C dx:Addr) (fs:List (Str×V))
 |own (x:Addr)
 |xd (fs:List (Str×V))
 |met (f x:Addr)
 |rng (lo hi:Int)
 |jh (o:Obj) (u:HO)
 |t7 (ps:Array Value)
 |ext (φ:Heap→Prop)
abbrev Hp:=Addr→Option HO
def upd(H:Hp)(a:Addr)(o:HO):Hp:=λb=>if b=a then some o else H b
theorem ak{H:Hp}{a:Addr}{o:HO}:upd H a o a=some o:=by unfold upd;rw [if_pos rfl]
theorem ar{H:Hp}{a b:Addr}{o:HO}(h:b≠a):upd H a o b=H b:=by unfold upd;rw [if_neg h]
theorem aE{H:Hp}{a b:Addr}{o:HO}(h:H a=some o)(h':H b=none):a≠b:=by
 intro e;subst e;rw [h] at h';cases h'
section
variable (P:Program) (w:World)
def bh(H:Hp)(h:Heap)(a:Addr):HO→Prop
 | .lst xs=>xs.length≤sizeLine∧∃(its:List Value)(n:Nat),Vals xs its∧h.get? a=some {cls:= .type "list",data:= .seq its.toArray n}
 | .tup xs=>xs.length≤sizeLine∧∃its:List Value,Vals xs its∧IsTup h a its.toArray
 | .dK bK=>bK.length≤sizeLine∧(a==sysModules)=false∧∃vs,KV bK vs∧h.DictOf (ma P w) a vs
 | .dT bK=>bK.length≤sizeLine∧(a==sysModules)=false∧∃xs:List (List Key×Addr×Value),
   Paired (λ(p:List Key×V)(q:List Key×Addr×Value)=>p.1=q.1∧H q.2.1=some (.tup (p.1.map kV))∧RelV p.2 q.2.2) bK xs∧
   ∃o es ep,h.get? a=some o∧o.ExactDict∧o.data= .dict es ep∧es.toList=xs.map (entryOfKey (tupleKind (ma P w)))∧(xs.map (·.1)).Nodup
 | .set S n=>h.SetOf (intKind P w) a S n
 | .ins C dx fs=>H dx=some (.own a)∧fs.length≤1000∧dx≠a∧h.get? a=some (PySem.W.instObj C dx)∧
   ∃mA,h.Ns1 dx mA∧(∀f,f9 (fs.lookup f) (mA f))∧PySem.Within mA (fs.map (·.1))
 | .own _=>∃o,h.get? a=some o
 | .xd fs=>∃mA,h.Ns1 a mA∧∀f,f9 (fs.lookup f) (mA f)
 | .rng lo hi=>∃t u v,h.get? a=some {cls:= .type "range",data:= .fields #[.int lo t, .int hi u, .int 1 v]}
 | .jh o u=>h.get? a=some o∧bh H h a u
 | .t7 ps=>h.get? a=some {cls:= .none,data:= .fields ps}
 | .met f x=>h.get? a=some (PySem.W.methodObj (.ref f) (.ref x))
 | .ext φ=>φ h∧(∃o,h.get? a=some o)∧∀h1 h2:Heap,φ h1→(∀o,h1.get? a=some o→h2.get? a=some o)→φ h2
def cw(H:Hp)(h:Heap):Prop:=∀a o,H a=some o→bh P w H h a o
end
section
variable {P:Program} {w:World} {H H':Hp} {h h':Heap} {a:Addr} {o:HO}
theorem bh.lt(x:bh P w H h a o):a<h.objs.size:=by
 cases o with
 |lst xs=>obtain ⟨_,_,_,_,e⟩:=x;exact Heap.lt_size e
 |tup xs=>obtain ⟨_,_,_,p⟩:=x;exact p.lt
 |dK bK=>obtain ⟨_,_,_,_,o,_,_,e,_⟩:=x;exact Heap.lt_size e
 |dT bK=>obtain ⟨_,_,_,_,o,_,_,e,_⟩:=x;exact Heap.lt_size e
 |set S n=>obtain ⟨o,_,_,_,e,_⟩:=x;exact Heap.lt_size e
 |ins C dx fs=>obtain ⟨_,_,_,e,_⟩:=x;exact Heap.lt_size e
 |own y=>obtain ⟨_,e⟩:=x;exact Heap.lt_size e
 |xd fs=>obtain ⟨_,⟨_,_,_,e,_⟩,_⟩:=x;exact Heap.lt_size e
 |rng lo hi=>obtain ⟨_,_,_,e⟩:=x;exact Heap.lt_size e
 |jh ob u=>obtain ⟨e,_⟩:=x;exact Heap.lt_size e
 |t7 ps=>exact Heap.lt_size (show h.get? a=some _ from x)
 |met f y=>exact Heap.lt_size (show h.get? a=some _ from x)
 |ext φ=>obtain ⟨_,⟨_,e⟩,_⟩:=x;exact Heap.lt_size e
theorem Paired.BI{α β:Type}{F G:α→β→Prop}:∀{BG:List α}{BH:List β},Paired F BG BH→(∀a b,F a b→G a b)→Paired G BG BH
 |_,_, .nil,_=> .nil
 |_,_, .cons r t,f=> .cons (f _ _ r) (Paired.BI t f)
theorem bh.iy(x:bh P w H h a o)(k:∀b u,(b=a∨H b=some (.own a))→h.get? b=some u→h'.get? b=some u)
  (ho:∀b,H b=some (.own a)→H' b=some (.own a)) (ht:∀b xs,H b=some (.tup xs)→H' b=some (.tup xs)):bh P w H' h' a o:=by
 induction o with
 |lst xs=>obtain ⟨z,its,n,r,e⟩:=x;exact ⟨z,its,n,r,k _ _ (.inl rfl) e⟩
 |tup xs=>obtain ⟨z,its,r,ob,e,c⟩:=x;exact ⟨z,its,r,ob,k _ _ (.inl rfl) e,c⟩
 |dK bK=>obtain ⟨z,y,vs,r,ob,es,ep,e,c⟩:=x;exact ⟨z,y,vs,r,ob,es,ep,k _ _ (.inl rfl) e,c⟩
 |dT bK=>
  obtain ⟨z,y,xs,r,ob,es,ep,e,c⟩:=x;exact ⟨z,y,xs,Paired.BI r λp q z=>⟨z.1,ht _ _ z.2.1,z.2.2⟩,ob,es,ep,k _ _ (.inl rfl) e,c⟩
 |set S n=>obtain ⟨ob,es,ep,t,e,c⟩:=x;exact ⟨ob,es,ep,t,k _ _ (.inl rfl) e,c⟩
 |ins C dx fs=>
  obtain ⟨d,z,ne,e,mA,⟨od,es,ep,e2,c⟩,r⟩:=x;exact ⟨ho _ d,z,ne,k _ _ (.inl rfl) e,mA,⟨od,es,ep,k _ _ (.inr d) e2,c⟩,r⟩
 |own y=>obtain ⟨ob,e⟩:=x;exact ⟨ob,k _ _ (.inl rfl) e⟩
 |xd fs=>obtain ⟨mA,⟨od,es,ep,e,c⟩,r⟩:=x;exact ⟨mA,⟨od,es,ep,k _ _ (.inl rfl) e,c⟩,r⟩
 |rng lo hi=>obtain ⟨t,u,v,e⟩:=x;exact ⟨t,u,v,k _ _ (.inl rfl) e⟩
 |jh ob u ih=>obtain ⟨e,q⟩:=x;exact ⟨k _ _ (.inl rfl) e,ih q⟩
 |t7 ps=>
  have e:h.get? a=some {cls:= .none,data:= .fields ps}:=x;show h'.get? a=some {cls:= .none,data:= .fields ps};exact k a _ (.inl rfl) e
 |met f y=>
  have e:h.get? a=some (PySem.W.methodObj (.ref f) (.ref y)):=x;show h'.get? a=some (PySem.W.methodObj (.ref f) (.ref y));exact k a _ (.inl rfl) e
 |ext φ=>obtain ⟨p,⟨o,e⟩,st⟩:=x;exact ⟨st _ _ p λo q=>k _ _ (.inl rfl) q,⟨o,k _ _ (.inl rfl) e⟩,st⟩
theorem cw.lt(x:cw P w H h)(e:H a=some o):a<h.objs.size:=(x a o e).lt
theorem cw.fresh(x:cw P w H h)(e:h.objs.size≤a):H a=none:=by
 cases q:H a with
 |none=>rfl
 |some u=>exact absurd (eV (x.lt q) e) (eS _)
theorem cw.kept(x:cw P w H h)(k:∀b u,h.get? b=some u→h'.get? b=some u):cw P w H h':=λa o e=>
 (x a o e).iy (λb u _ q=>k b u q) (λ_ q=>q) λ_ _ q=>q
theorem cw.laid(x:cw P w H h)(k:∀b u,h.get? b=some u→h'.get? b=some u)(hp:h.objs.size≤a)(new:bh P w (upd H a o) h' a o):cw P w (upd H a o) h':=λb u e=>by
 have hn:=x.fresh hp
 by_cases hb:b=a
 ·subst hb;rw [ak] at e;cases e;exact new
 ·rw [ar hb] at e
  exact (x b u e).iy (λc v _ q=>k c v q) (λc q=>by rw [ar (aE q hn)];exact q) λc xs q=>by rw [ar (aE q hn)];exact q
end
def Rd(H:Hp)(a:Addr)(u:HO):Prop:=H a=some u∨∃o,H a=some (.jh o u)
theorem Rd.ok{P:Program}{w:World}{H:Hp}{h:Heap}{a:Addr}{u:HO}(r:Rd H a u)(x:cw P w H h):bh P w H h a u:=by
 rcases r with r| ⟨o,r⟩
 ·exact x a u r
 ·obtain ⟨_,q⟩:=x a _ r
  exact q
def zq:Option HO→Prop
 |some (.lst _)=>True
 |some (.dK _)=>True
 |some (.dT _)=>True
 |some (.set _ _)=>True
 |some (.ins _ _ _)=>True
 |some (.ext _)=>True
 |_=>False
section
variable {P:Program} {w:World} {H:Hp} {h h':Heap} {x e:Addr} {o':HO}
theorem cw.write(ok:cw P w H h)(mu:zq (H x))(he:e=x∨H e=some (.own x))(k:∀b u,b≠e→h.get? b=some u→h'.get? b=some u)(vC:∃u,h'.get? e=some u)
  (new:bh P w (upd H x o') h' x o'):cw P w (upd H x o') h':=λb u q=>by
 have BK:∀c y,H c=some (.own y)→c≠x:=λc y r z=>by subst z;rw [r] at mu;exact mu
 have GQ:∀c xs,H c=some (.tup xs)→c≠x:=λc xs r z=>by subst z;rw [r] at mu;exact mu
 by_cases hb:b=x
 ·subst hb;rw [ak] at q;cases q;exact new
 ·rw [ar hb] at q
  by_cases iJ:b=e
  ·have q':H b=some (.own x):=by
    rcases he with z|z
    ·exact absurd (iJ.trans z) hb
    ·rw [iJ];exact z
   rw [q] at q';cases q';obtain ⟨v,hv⟩:=vC;exact ⟨v,by rw [iJ];exact hv⟩
  ·refine (ok b u q).iy (λc v hc r=>k c v ?_ r) (λc r=>by rw [ar (BK c b r)];exact r) λc xs r=>by rw [ar (GQ c xs r)];exact r
   rcases hc with rfl|hc
   ·exact iJ
   ·rintro rfl
    rcases he with z|z
    ·exact BK c b hc z
    ·rw [hc] at z;cases z;exact hb rfl
end
structure Un (fs ex:List Addr) (H H':Hp) (h h':Heap):Prop where
 keep:∀b o,h.get? b=some o→H b=none→b∉fs→b∉ex→h'.get? b=some o
 slot:∀b o,h.get? b=some o→H b=none→b∈fs→b∉ex→∃sl,h'.get? b=some {o with slots:=sl}
 free:∀b o,h.get? b=some o→H b=none→b∉ex→H' b=none
 there:∀b o,h.get? b=some o→b∉ex→∃o',h'.get? b=some o'
 tups:∀b xs,H b=some (.tup xs)→H' b=some (.tup xs)
 frzs:∀b o u,H b=some (.jh o u)→H' b=some (.jh o u)
 tbls:∀b ps,H b=some (.t7 ps)→∃more,H' b=some (.t7 (ps++more))
section
variable {fs Ko ex OJ:List Addr} {H H1 H2:Hp} {h h1 h2 h':Heap} {a x e:Addr} {o:HO}
theorem Un.any(u:Un fs ex H H1 h h1){b:Addr}{ob:Obj}(q:h.get? b=some ob)(n:H b=none)(hx:b∉ex):∃sl,h1.get? b=some {ob with slots:=sl}:=by
 by_cases hb:b∈fs
 ·exact u.slot b ob q n hb hx
 ·exact ⟨ob.slots,u.keep b ob q n hb hx⟩
theorem Un.kept(k:∀b u,h.get? b=some u→h'.get? b=some u):Un fs ex H H h h':=
 ⟨λb ob q _ _ _=>k b ob q,λb ob q _ _ _=>⟨ob.slots,k b ob q⟩,λ_ _ _ n _=>n,λb ob q _=>⟨ob,k b ob q⟩,λ_ _ q=>q,λ_ _ _ q=>q,λ_ ps q=>⟨#[],by rw [q];simp⟩⟩
theorem Un.refl:Un fs ex H H h h:=Un.kept λ_ _ q=>q
theorem Un.laid(k:∀b u,h.get? b=some u→h'.get? b=some u)(hp:h.objs.size≤a)(hn:H a=none):Un fs ex H (upd H a o) h h' where
 keep:=λb u q _ _ _=>k b u q
 slot:=λb u q _ _ _=>⟨u.slots,k b u q⟩
 free:=λb u q n _=>by rw [ar (bA (eV (Heap.lt_size q) hp))];exact n
 there:=λb u q _=>⟨u,k b u q⟩
 tups:=λb xs q=>by rw [ar (aE q hn)];exact q
 frzs:=λb u xs q=>by rw [ar (aE q hn)];exact q
 tbls:=λb ps q=>⟨#[],by rw [ar (aE q hn),q];simp⟩
theorem Un.write(mu:zq (H x))(he:e=x∨H e=some (.own x))(k:∀b u,b≠e→h.get? b=some u→h'.get? b=some u)(vC:∃u,h'.get? e=some u):Un fs ex H (upd H x o) h h':=by
 have hx:∀b,H b=none→b≠x:=λb n z=>by subst z;rw [n] at mu;exact mu
 have hb:∀b,H b=none→b≠e:=λb n z=>by
  subst z
  rcases he with r|r
  ·exact hx b n r
  ·rw [n] at r;cases r
 have hm:∀b u,H b=some u→¬zq (some u)→b≠x:=λb u q nm z=>by subst z;rw [q] at mu;exact nm mu
 refine ⟨λb u q n _ _=>k b u (hb b n) q,λb u q n _ _=>⟨u.slots,k b u (hb b n) q⟩,λb u q n _=>by rw [ar (hx b n)];exact n,λb u q _=>?_,
  λb xs q=>by rw [ar (hm b _ q λz=>z)];exact q,λb u xs q=>by rw [ar (hm b _ q λz=>z)];exact q,λb ps q=>⟨#[],by rw [ar (hm b _ q λz=>z),q];simp⟩⟩
 by_cases iJ:b=e
 ·subst iJ;exact vC
 ·exact ⟨u,k b u iJ q⟩
end
def A2(h:Heap)(H:Hp):List Addr:=(List.range h.objs.size).filter λa=>(H a).isSome
def jl(h:Heap)(H:Hp):Heap:=PySem.W.hideAll h (A2 h H)
theorem tm(h:Heap)(H:Hp):(jl h H).objs.size=h.objs.size:=PySem.W.hideAll_size _ _
theorem vD{h:Heap}{H:Hp}{b:Addr}{o:Obj}(e:h.get? b=some o)(n:H b=none):(jl h H).get? b=some o:=
 PySem.W.hideAll_get _ e λhm=>by
  have q:(H b).isSome=true:=(sj.mp hm).2;rw [n] at q;simp at q
theorem yr{h:Heap}{H:Hp}{b:Addr}{o:Obj}(e:(jl h H).get? b=some o):h.get? b=some o∧H b=none:=by
 have e':h.get? b=some o:=PySem.W.of_hideAll (A2 h H) e;refine ⟨e',?_⟩;cases q:H b with
 |none=>rfl
 |some x=>
  have hm:b∈A2 h H:=sj.mpr ⟨sk.mpr (Heap.lt_size e'),by simp [q]⟩
  have z:(jl h H).get? b=none:=PySem.W.hideAll_none (A2 h H) hm;rw [z] at e;cases e
structure Mod (K:PySem.W.Frag) (mg:Str→Option Value) (base:Heap):Prop where
 kin:K.In base
 glob:base.Ns mainGlobals mg
 blt:∃mb,base.Ns builtinsNs mb∧∀x:Str,x≠"__name__"→mb x=bootBuiltins x
 nolimit:base.NoLimit
structure Cx where
 prog:Program
 w:World
 K:PySem.W.Frag
 mg:Str→Option Value
 base:Heap
 A:Around
 N:List Str
 s₀:Shared
 H₀:Hp
 env:Env
 outer:List Env
 stack:List Env
 ex:List Addr
 fn:Str→Bool
 calm:Bool
 pn:List (Addr×Obj)
 xe:Value→Shared→Prop
def jg(l:List Env):List Addr:=l.filterMap (·.frame)
abbrev Cx.fs(X:Cx):List Addr:=jg X.outer
def lj(sc:Scope)(x:Str):Prop:=sc.names.lookup x=some .local∨sc.names.lookup x=some .cell∨sc.names.lookup x=some .free
def Loc(sc:Scope)(x:Str):Prop:=sc.names.lookup x=some .local∨sc.names.lookup x=some .cell
def Look(env:Env)(h:Heap)(m:Str→Option Value)(x:Str)(u:Value):Prop:=
 (env.kindOf x=some .local∧m x=some u)∨((env.kindOf x=some .cell∨env.kindOf x=some .free)∧∃c,env.cells.lookup x=some c∧h.IsCell c (some u))
structure Cx.Ok (X:Cx):Prop where
 mod:Mod X.K X.mg X.base
 kind:X.env.scope.kind= .function
 glob:X.env.globals=mainGlobals
 blt:X.env.builtins=builtinsNs
 above:X.s₀.heap.objs.size≤X.env.locals
 inj:∀x y c,X.env.cells.lookup x=some c→X.env.cells.lookup y=some c→x=y
 has:∀x,(X.env.kindOf x=some .cell∨X.env.kindOf x=some .free)→∃c,X.env.cells.lookup x=some c
 cab:∀x c,X.fn x=true→X.env.cells.lookup x=some c→X.s₀.heap.objs.size≤c
 hd:X.calm=true→X.A.handled=none
 frames:X.A.frames=some X.stack
 stk:X.stack=X.outer∨(X.stack=X.env::X.outer∧X.env.frame=some X.env.locals)
 exf:∀b∈X.ex,b≠X.env.locals∧∀x c,X.env.cells.lookup x=some c→c≠b
 bs:∀b o,X.base.get? b=some o→X.s₀.heap.get? b=some o∧X.H₀ b=none
 bsz:X.base.objs.size≤X.s₀.heap.objs.size
 noex:∀b o,X.base.get? b=some o→b∉X.ex
 exfs:∀b∈X.ex,b∉X.fs
 funs:X.s₀.heap.FunFrames X.base X.outer
 frf:∀b∈X.fs,X.H₀ b=none
structure Inv (X:Cx) (pins:List (Addr×Obj)) (σ:List (Option V)) (H:Hp) (s:Shared):Prop where
 ok:X.Ok
 os:s.os=X.s₀.os
 bare:AllBare s.gens
 base:Un X.fs X.ex X.H₀ H X.s₀.heap s.heap
 loc:∃m,s.heap.Ns X.env.locals m∧∀(i:Nat)(x:Str)(v:V),X.N[i]? =some x→σ[i]? =some (some v)→lj X.env.scope x→∃u,RelV v u∧Look X.env s.heap m x u
 cell:∀x c,X.env.cells.lookup x=some c→∃v,s.heap.IsCell c v
 free:H X.env.locals=none
 freeC:∀x c,X.env.cells.lookup x=some c→H c=none
 pin:∀p∈X.pn++pins,s.heap.get? p.1=some p.2∧H p.1=none∧p.1≠X.env.locals∧p.1∉X.fs∧∀v,p.2.data≠ .cell v
 hok:cw X.prog X.w H s.heap
 len:σ.length=X.N.length
section
variable {X:Cx} {pins:List (Addr×Obj)} {σ:List (Option V)} {H H':Hp} {s:Shared} {h':Heap}
theorem Cx.Ok.GP(ok:X.Ok){b:Addr}{o:Obj}(e:X.base.get? b=some o):b∉X.fs:=λhb=>by
 have:=(ok.funs.mem hb).1
 rw [e] at this;cases this
theorem Inv.bs(I:Inv X pins σ H s):∀b o,X.base.get? b=some o→s.heap.get? b=some o∧H b=none:=λb o e=>
 ⟨I.base.keep b o (I.ok.bs b o e).1 (I.ok.bs b o e).2 (I.ok.GP e) (I.ok.noex b o e),I.base.free b o (I.ok.bs b o e).1 (I.ok.bs b o e).2 (I.ok.noex b o e)⟩
theorem Inv.bk(I:Inv X pins σ H s):∀b o,X.base.get? b=some o→s.heap.get? b=some o:=λb o e=>(I.bs b o e).1
theorem Inv.mod(I:Inv X pins σ H s):Mod X.K X.mg X.base:=I.ok.mod
theorem Inv.bO(I:Inv X pins σ H s):X.K.In s.heap:=I.ok.mod.kin.keeps I.bk
theorem Inv.lt(I:Inv X pins σ H s):X.env.locals<s.heap.objs.size:=let ⟨_,hn,_⟩:=I.loc;hn.lt
theorem Inv.sz(I:Inv X pins σ H s):X.s₀.heap.objs.size≤s.heap.objs.size:=fH I.ok.above (Nat.le_of_lt I.lt)
theorem Inv.BJ(I:Inv X pins σ H s){a:Addr}(h:s.heap.objs.size≤a):a∉X.fs:=λhb=>by
 obtain ⟨_,o,ho,_⟩:=I.ok.funs.mem hb;exact absurd (eV (Heap.lt_size ho) (fH I.sz h)) (eS _)
theorem Inv.lF(I:Inv X pins σ H s):∀x c,X.env.cells.lookup x=some c→c≠X.env.locals:=λx c e z=>by
 obtain ⟨v,o,ho,hd⟩:=I.cell x c e;obtain ⟨m,⟨o',es,ep,iK,gr,_⟩,_⟩:=I.loc;rw [z,iK] at ho;cases ho;rw [gr] at hd;cases hd
theorem Inv.funs(I:Inv X pins σ H s):s.heap.FunFrames X.base X.outer:=by
 have all:∀(l:List Env),(∀b∈jg l,b∈X.fs)→X.s₀.heap.FunFrames X.base l→s.heap.FunFrames X.base l:=by
  intro l
  induction l with
  |nil=>intro _ _;trivial
  |cons env r ih=>
   intro hs hl;obtain ⟨hk,⟨L,o,hf,hn,ho,hd⟩,hr⟩:=hl;have hL:L∈X.fs:=hs L (by unfold jg;rw [List.filterMap_cons,hf];exact fI)
   obtain ⟨sl,e⟩:=I.base.slot L o ho (I.ok.frf L hL) hL λz=>I.ok.exfs L z hL;exact ⟨hk,⟨L,_,hf,hn,e,hd⟩,ih (λb hb=>hs b (by unfold jg;rw [List.filterMap_cons,hf];exact fu _ hb)) hr⟩
 exact all X.outer (λ_ hb=>hb) I.ok.funs
theorem Inv.stack(I:Inv X pins σ H s):s.heap.FunFrames X.base X.stack:=by
 rcases I.ok.stk with e| ⟨e,hf⟩
 ·rw [e];exact I.funs
 ·rw [e]
  obtain ⟨m,hn,_⟩:=I.loc;refine .cons (by rw [I.ok.kind];decide) hf hn ?_ I.funs
  exact Heap.get?_none_of_le (fH I.ok.bsz I.ok.above)
theorem Inv.pY(I:Inv X pins σ H s):∀b∈jg X.stack,b∈X.env.locals::X.fs:=λb hb=>by
 rcases I.ok.stk with e| ⟨e,hf⟩
 ·rw [e] at hb;exact fu _ hb
 ·rw [e] at hb
  unfold jg at hb;rw [List.filterMap_cons,hf] at hb;exact hb
theorem Inv.mz(I:Inv X pins σ H s):∀b∈jg X.stack,H b=none:=λb hb=>by
 rcases eU.mp (I.pY b hb) with e|hb
 ·rw [e];exact I.free
 ·obtain ⟨_,o,ho,_⟩:=I.ok.funs.mem hb
  exact I.base.free b o ho (I.ok.frf b hb) λz=>I.ok.exfs b z hb
theorem Inv.step{g':Array GenState}{t':Nat}{d':Drawn}{ch:List Addr}(I:Inv X pins σ H s)
  (mV:∀b∈ch,(b∈X.ex∨X.s₀.heap.objs.size≤b)∧b≠X.env.locals∧(∀x c,X.env.cells.lookup x=some c→c≠b)∧∀p∈X.pn++pins,p.1≠b)
  (keep:∀b o,b≠X.env.locals→b∉X.fs→b∉ch→s.heap.get? b=some o→H b=none→h'.get? b=some o)
  (slot:∀b o,b≠X.env.locals→b∈X.fs→b∉ch→s.heap.get? b=some o→H b=none→∃sl,h'.get? b=some {o with slots:=sl}) (free:∀b o,b∉ch→s.heap.get? b=some o→H b=none→H' b=none)
  (there:∀b o,b∉ch→s.heap.get? b=some o→∃o',h'.get? b=some o')
  (tups:∀b xs,H b=some (.tup xs)→H' b=some (.tup xs)) (frzs:∀b o u,H b=some (.jh o u)→H' b=some (.jh o u)) (tbls:∀b ps,H b=some (.t7 ps)→∃more,H' b=some (.t7 (ps++more)))
  (ns:∀m,s.heap.Ns X.env.locals m→h'.Ns X.env.locals m) (hok:cw X.prog X.w H' h') (hg:AllBare g'):
  Inv X pins σ H' {s with heap:=h',gens:=g',drawn:=d',toks:=t'}:=by
 have GN:∀b o,X.s₀.heap.get? b=some o→b≠X.env.locals:=λb o e=>bA (eV (Heap.lt_size e) I.ok.above)
 have Af:∀b o,X.s₀.heap.get? b=some o→b∉X.ex→b∉ch:=λb o e hx hb=>by
  rcases (mV b hb).1 with z|z
  ·exact hx z
  ·exact absurd (eV (Heap.lt_size e) z) (eS _)
 have cellK:∀x c,X.env.cells.lookup x=some c→∀v,s.heap.IsCell c v→h'.IsCell c v:=λx c e v ⟨o,ho,hd⟩=>by
  have yn:c∉ch:=λz=>(mV c z).2.2.1 x c e rfl
  by_cases hc:c∈X.fs
  ·obtain ⟨sl,q⟩:=slot c o (I.lF x c e) hc yn ho (I.freeC x c e)
   exact ⟨_,q,hd⟩
  ·exact ⟨o,keep c o (I.lF x c e) hc yn ho (I.freeC x c e),hd⟩
 refine ⟨I.ok,I.os,hg,⟨λb o e n hb hx=>?_,λb o e n hb hx=>?_,λb o e n hx=>?_,λb o e hx=>?_,λb xs e=>tups b xs (I.base.tups b xs e),λb o xs e=>frzs b o xs (I.base.frzs b o xs e),λb ps e=>?_⟩,?_,λx c e=>?_,?_,λx c e=>?_,λp hp=>?_,hok,I.len⟩
 ·exact keep b o (GN b o e) hb (Af b o e hx) (I.base.keep b o e n hb hx) (I.base.free b o e n hx)
 ·obtain ⟨sl,e1⟩:=I.base.slot b o e n hb hx
  obtain ⟨DP,e2⟩:=slot b _ (GN b o e) hb (Af b o e hx) e1 (I.base.free b o e n hx);exact ⟨DP,e2⟩
 ·obtain ⟨o',e1⟩:=I.base.there b o e hx
  exact free b o' (Af b o e hx) e1 (I.base.free b o e n hx)
 ·obtain ⟨o',e1⟩:=I.base.there b o e hx
  exact there b o' (Af b o e hx) e1
 ·obtain ⟨m1,e1⟩:=I.base.tbls b ps e
  obtain ⟨m2,e2⟩:=tbls b _ e1;exact ⟨m1++m2,by rw [e2,Array.append_assoc]⟩
 ·obtain ⟨m,hn,hl⟩:=I.loc
  refine ⟨m,ns m hn,λi x v e1 e2 e3=>?_⟩;obtain ⟨u,r,l⟩:=hl i x v e1 e2 e3;refine ⟨u,r,?_⟩
  rcases l with l| ⟨k,c,e,z⟩
  ·exact .inl l
  ·exact .inr ⟨k,c,e,cellK x c e _ z⟩
 ·obtain ⟨v,z⟩:=I.cell x c e
  exact ⟨v,cellK x c e v z⟩
 ·obtain ⟨m,⟨o,_,_,ho,_⟩,_⟩:=I.loc
  exact free _ o (λz=>(mV _ z).2.1 rfl) ho I.free
 ·obtain ⟨v,o,ho,hd⟩:=I.cell x c e
  exact free c o (λz=>(mV c z).2.2.1 x c e rfl) ho (I.freeC x c e)
 ·obtain ⟨e,n,ne,nf,d⟩:=I.pin p hp
  have yn:p.1∉ch:=λz=>(mV p.1 z).2.2.2 p hp rfl;exact ⟨keep p.1 p.2 ne nf yn e n,free p.1 p.2 yn e n,ne,nf,d⟩
theorem Inv.un{t':Nat}(I:Inv X pins σ H s)(u:Un X.fs [] H H' s.heap h')(hok:cw X.prog X.w H' h'):Inv X pins σ H' {s with heap:=h',toks:=t'}:=by
 obtain ⟨m,⟨o,es,ep,ho,r⟩,_⟩:=id I.loc;obtain ⟨sl,hL⟩:=u.any ho I.free (by simp)
 exact I.step (g':=s.gens) (d':=s.drawn) (ch:= []) (λ_ z=>nomatch z) (λb o _ hb _ e n=>u.keep b o e n hb (by simp)) (λb o _ hb _ e n=>u.slot b o e n hb (by simp)) (λb o _ e n=>u.free b o e n (by simp)) (λb o _ e=>u.there b o e (by simp)) u.tups u.frzs u.tbls (λm' hm=>by
  obtain ⟨o',CJ,CH,iK,r'⟩:=hm;rw [ho] at iK;cases iK;exact ⟨_,CJ,CH,hL,r'⟩) hok I.bare
theorem Inv.call{g':Array GenState}{t':Nat}{d':Drawn}{ch:List Addr}(I:Inv X pins σ H s)(u:Un (jg X.stack) ch H H' s.heap h')(hok:cw X.prog X.w H' h')(hg:AllBare g')
  (mV:∀b∈ch,(b∈X.ex∨X.s₀.heap.objs.size≤b)∧b≠X.env.locals∧(∀x c,X.env.cells.lookup x=some c→c≠b)∧∀p∈X.pn++pins,p.1≠b):
  Inv X pins σ H' {s with heap:=h',gens:=g',drawn:=d',toks:=t'}:=by
 obtain ⟨m,⟨o,es,ep,ho,r⟩,_⟩:=id I.loc;obtain ⟨sl,hL⟩:=u.any ho I.free λz=>(mV _ z).2.1 rfl
 exact I.step (ch:=ch) mV (λb o hL hb hc e n=>u.keep b o e n (λz=>(eU.mp (I.pY b z)).elim hL hb) hc) (λb o _ _ hc e n=>u.any e n hc) (λb o hc e n=>u.free b o e n hc) (λb o hc e=>u.there b o e hc) u.tups u.frzs u.tbls (λm' hm=>by
  obtain ⟨o',CJ,CH,iK,r'⟩:=hm;rw [ho] at iK;cases iK;exact ⟨_,CJ,CH,hL,r'⟩) hok hg
theorem Inv.turned{t':Nat}{it:Addr}(I:Inv X pins σ H s)(k:∀b o,b≠it→s.heap.get? b=some o→h'.get? b=some o)(hn:H it=none)(hL:it≠X.env.locals)
  (h1:it∈X.ex∨X.s₀.heap.objs.size≤it) (h2:∀x c,X.env.cells.lookup x=some c→c≠it) (h3:∀p∈X.pn++pins,p.1≠it):Inv X pins σ H {s with heap:=h',toks:=t'}:=by
 have GO:∀b u,H b=some u→b≠it:=λb u e z=>by rw [z,hn] at e;cases e
 refine I.step (g':=s.gens) (d':=s.drawn) (ch:= [it]) (λb hb=>?_) (λb o _ _ hc e _=>k b o (λz=>hc (by simp [z])) e) (λb o _ _ hc e _=>⟨o.slots,k b o (λz=>hc (by simp [z])) e⟩) (λ_ _ _ _ n=>n)
  (λb o hc e=>⟨o,k b o (λz=>hc (by simp [z])) e⟩) (λ_ _ e=>e) (λ_ _ _ e=>e) (λb ps e=>⟨#[],by rw [e];simp⟩) (λm hm=>?_) (λb u e=>?_) I.bare
 ·have e:b=it:=by simpa using hb
  subst e;exact ⟨h1,hL,h2,h3⟩
 ·obtain ⟨o,es,ep,ho,r⟩:=hm
  exact ⟨o,es,ep,k _ o (Ne.symm hL) ho,r⟩
 ·refine (I.hok b u e).iy (λc v hc q=>k c v ?_ q) (λ_ q=>q) λ_ _ q=>q
  rcases hc with z|z
  ·rw [z];exact GO b u e
  ·exact GO c _ z
theorem Inv.tok(I:Inv X pins σ H s)(t:Nat):Inv X pins σ H {s with toks:=t}:=I.un (h':=s.heap) (t':=t) Un.refl I.hok
theorem Inv.kept{t':Nat}(I:Inv X pins σ H s)(k:∀b u,s.heap.get? b=some u→h'.get? b=some u):Inv X pins σ H {s with heap:=h',toks:=t'}:=I.un (Un.kept k) (I.hok.kept k)
theorem Inv.laid{a:Addr}{o:HO}{t':Nat}(I:Inv X pins σ H s)(k:∀b u,s.heap.get? b=some u→h'.get? b=some u)(hp:s.heap.objs.size≤a)(new:bh X.prog X.w (upd H a o) h' a o):
  Inv X pins σ (upd H a o) {s with heap:=h',toks:=t'}:=I.un (Un.laid k hp (I.hok.fresh hp)) (I.hok.laid k hp new)
theorem Inv.write{x e:Addr}{o:HO}{t':Nat}(I:Inv X pins σ H s)(mu:zq (H x))(he:e=x∨H e=some (.own x))(k:∀b u,b≠e→s.heap.get? b=some u→h'.get? b=some u)(vC:∃u,h'.get? e=some u)
  (new:bh X.prog X.w (upd H x o) h' x o):Inv X pins σ (upd H x o) {s with heap:=h',toks:=t'}:=I.un (Un.write mu he k vC) (I.hok.write mu he k vC new)
theorem Inv.jy{pS:List (Addr×Obj)}(I:Inv X pins σ H s)(h:∀p∈pS,s.heap.get? p.1=some p.2∧H p.1=none∧p.1≠X.env.locals∧p.1∉X.fs∧∀v,p.2.data≠ .cell v):Inv X pS σ H s:=
 ⟨I.ok,I.os,I.bare,I.base,I.loc,I.cell,I.free,I.freeC,λp hp=>(og.mp hp).elim (λz=>I.pin p (iB _ z)) (h p),I.hok,I.len⟩
theorem j6{N:List Str}(hN:N.Nodup){i j:Nat}{x:Str}(a:N[i]? =some x)(b:N[j]? =some x):i=j:=by
 obtain ⟨h1,e1⟩:=f6.mp a;obtain ⟨h2,e2⟩:=f6.mp b;exact (List.getElem_inj hN).mp (e1.trans e2.symm)
theorem store_ok2{M:Model}{A:Around}{E:Value→Shared→Prop}{i:Nat}{x:Str}{v:V}{u:Value}{Q:Unit→Shared→Prop}(I:Inv X pins σ H s)(hN:X.N.Nodup)(hi:X.N[i]? =some x)(hx:Loc X.env.scope x)(r:RelV v u)
  (h:∀s',Inv X pins (σ.set i (some v)) H s'→(∃a,Heap.SameBut a s.heap s'.heap∧(a=X.env.locals∨X.env.cells.lookup x=some a))→Q () s') (hf:X.fn x=true∨X.env.scope.names.lookup x=some .local:=by first|exact .inl rfl|exact .inr rfl|assumption):wpAny M A (storeName X.env x u) Q E s:=by
 obtain ⟨m,hn,hl⟩:=id I.loc;have qR:(X.env.scope.kind== .class|| (X.env.scope.kind== .module&&X.env.locals !=X.env.globals))=false:=by rw [I.ok.kind];rfl
 have uE:i<σ.length:=by rw [I.len];exact (f6.mp hi).1
 have lF:=I.lF
 have tracked:∀{a:Addr}{h':Heap},(∃o,s.heap.get? a=some o∧H a=none)→Heap.SameBut a s.heap h'→cw X.prog X.w H h':=λ {a h'} ha hs b ob e=>by
  obtain ⟨_,_,xW⟩:=ha;refine (I.hok b ob e).iy (λc w' hc q=>(hs.2 c ?_).trans q) (λ_ q=>q) λ_ _ q=>q;rintro rfl
  rcases hc with rfl|hc
  ·rw [xW] at e;cases e
  ·rw [xW] at hc;cases hc
 rcases hx with hk|hk
 ·refine wpAny_storeName_local hk hn (λh' CY hs=>?_) qR
  obtain ⟨oL,_,_,F8,_⟩:=id hn;refine h _ ⟨I.ok,I.os,I.bare,⟨λb o e n hb hx=>?_,λb o e n hb hx=>?_,I.base.free,λb o e hx=>?_,I.base.tups,I.base.frzs,I.base.tbls⟩,⟨_,CY,λj y v' e1 e2 e3=>?_⟩,λy c e=>?_,I.free,I.freeC,λp hp=>?_,tracked ⟨oL,F8,I.free⟩ hs,by simpa using I.len⟩ ⟨_,hs, .inl rfl⟩
  ·exact (hs.2 b (bA (eV (Heap.lt_size e) I.ok.above))).trans (I.base.keep b o e n hb hx)
  ·obtain ⟨sl,e1⟩:=I.base.slot b o e n hb hx
   exact ⟨sl,(hs.2 b (bA (eV (Heap.lt_size e) I.ok.above))).trans e1⟩
  ·obtain ⟨o',e1⟩:=I.base.there b o e hx
   exact ⟨o',(hs.2 b (bA (eV (Heap.lt_size e) I.ok.above))).trans e1⟩
  ·by_cases hj:j=i
   ·subst hj
    rw [hi] at e1;cases e1;rw [gn uE] at e2;cases e2;exact ⟨u,r, .inl ⟨hk,by simp⟩⟩
   ·rw [iC (Ne.symm hj)] at e2
    obtain ⟨u',r',q⟩:=hl j y v' e1 e2 e3;refine ⟨u',r',?_⟩
    rcases q with ⟨k,e⟩ | ⟨k,c,e,z⟩
    ·refine .inl ⟨k,?_⟩
     have:y≠x:=λe=>hj (j6 hN e1 (e▸hi))
     simp [this,e]
    ·exact .inr ⟨k,c,e,z.sameBut hs (lF y c e)⟩
  ·obtain ⟨w',z⟩:=I.cell y c e
   exact ⟨w',z.sameBut hs (lF y c e)⟩
  ·obtain ⟨e,n,ne,nf,d⟩:=I.pin p hp
   exact ⟨(hs.2 p.1 ne).trans e,n,ne,nf,d⟩
 ·have CT:X.fn x=true:=by
   rcases hf with z|z
   ·exact z
   ·rw [z] at hk;cases hk
  obtain ⟨c,hc⟩:=I.ok.has x (.inl hk);obtain ⟨w',z⟩:=I.cell x c hc;refine wpAny_storeName_cell I.ok.kind hk hc z (λh' xN hs=>?_);obtain ⟨oc,F9,Ga⟩:=id z;refine h {s with heap:=h'} ⟨I.ok,I.os,I.bare,⟨λb o e n hb hx=>?_,λb o e n hb hx=>?_,I.base.free,λb o e hx=>?_,I.base.tups,I.base.frzs,I.base.tbls⟩,⟨m,hn.sameBut hs (Ne.symm (lF x c hc)),λj y v' e1 e2 e3=>?_⟩,λy c' e=>?_,I.free,I.freeC,λp hp=>?_,tracked ⟨oc,F9,I.freeC x c hc⟩ hs,by simpa using I.len⟩ ⟨c,hs, .inr hc⟩
  ·exact (hs.2 b (bA (eV (Heap.lt_size e) (I.ok.cab x c CT hc)))).trans (I.base.keep b o e n hb hx)
  ·obtain ⟨sl,e1⟩:=I.base.slot b o e n hb hx
   exact ⟨sl,(hs.2 b (bA (eV (Heap.lt_size e) (I.ok.cab x c CT hc)))).trans e1⟩
  ·obtain ⟨o',e1⟩:=I.base.there b o e hx
   exact ⟨o',(hs.2 b (bA (eV (Heap.lt_size e) (I.ok.cab x c CT hc)))).trans e1⟩
  ·by_cases hj:j=i
   ·subst hj
    rw [hi] at e1;cases e1;rw [gn uE] at e2;cases e2;exact ⟨u,r, .inr ⟨.inl hk,c,hc,xN⟩⟩
   ·rw [iC (Ne.symm hj)] at e2
    obtain ⟨u',r',q⟩:=hl j y v' e1 e2 e3;refine ⟨u',r',?_⟩
    rcases q with q| ⟨k,c',e,z'⟩
    ·exact .inl q
    ·refine .inr ⟨k,c',e,z'.sameBut hs ?_⟩
     rintro rfl;exact hj (j6 hN e1 (I.ok.inj _ _ _ e hc▸hi))
  ·by_cases FW:c'=c
   ·subst FW;exact ⟨_,xN⟩
   ·obtain ⟨w2,z2⟩:=I.cell y c' e
    exact ⟨w2,z2.sameBut hs FW⟩
  ·obtain ⟨e,n,ne,nf,d⟩:=I.pin p hp
   refine ⟨(hs.2 p.1 ?_).trans e,n,ne,nf,d⟩;intro q;rw [q,F9] at e;have q':oc=p.2:=Option.some.inj e;exact d w' (by rw [←q'];exact Ga)
theorem hV{M:Model}{A:Around}{E:Value→Shared→Prop}{i:Nat}{x:Str}{v:V}{u:Value}{Q:Unit→Shared→Prop}(I:Inv X pins σ H s)(hN:X.N.Nodup)(hi:X.N[i]? =some x)(hx:Loc X.env.scope x)(r:RelV v u)
  (h:∀s',Inv X pins (σ.set i (some v)) H s'→Q () s') (hf:X.fn x=true∨X.env.scope.names.lookup x=some .local:=by first|exact .inl rfl|exact .inr rfl|assumption):wpAny M A (storeName X.env x u) Q E s:=
 store_ok2 I hN hi hx r (λs' I' _=>h s' I') hf
theorem Inv.sC{s':Shared}{ch:List Addr}(I:Inv X pins σ H s)(ho:s'.os=s.os)(u:Un (jg X.stack) ch H H' s.heap s'.heap)(hok:cw X.prog X.w H' s'.heap)(hg:AllBare s'.gens)
  (mV:∀b∈ch,(b∈X.ex∨X.s₀.heap.objs.size≤b)∧b≠X.env.locals∧(∀x c,X.env.cells.lookup x=some c→c≠b)∧∀p∈X.pn++pins,p.1≠b):Inv X pins σ H' s':=by
 obtain ⟨h',g',d',t',o'⟩:=s';have e:o'=s.os:=ho;subst e;exact I.call (g':=g') (t':=t') (d':=d') u hok hg mV
end
abbrev XK:=Value→Option Addr→Hp→Prop
abbrev St:=List (Option V)
abbrev VK:=V→Hp→Prop
abbrev TE:=St→Hp→VK→Prop
abbrev TT:=St→Hp→(Bool→Hp→Prop)→Prop
abbrev TA:=St→Hp→(List V→Hp→Prop)→Prop
structure Ends where
 nx:St→Hp→Prop
 rt:VK
 bk:St→Hp→Prop:=λ_ _=>False
 ct:St→Hp→Prop:=λ_ _=>False
abbrev TS:=Ends→St→Hp→Prop
def EP(X:Cx)(pins:List (Addr×Obj))(σ:St)(Q:VK)(u:Value)(s':Shared):Prop:=∃v H',Inv X pins σ H' s'∧RelV v u∧Q v H'
def TP(X:Cx)(pins:List (Addr×Obj))(σ:St)(Q:Bool→Hp→Prop)(b:Bool)(s':Shared):Prop:=∃H',Inv X pins σ H' s'∧Q b H'
def AP(X:Cx)(pins:List (Addr×Obj))(σ:St)(Q:List V→Hp→Prop)(us:List Value)(s':Shared):Prop:=∃vs H',Inv X pins σ H' s'∧Vals vs us∧Q vs H'
def SP(X:Cx)(pins:List (Addr×Obj))(D:Ends)(f:Flow)(s':Shared):Prop:=
 match f with
 | .next=>∃aq H',Inv X pins aq H' s'∧D.nx aq H'
 | .brk=>∃aq H',Inv X pins aq H' s'∧D.bk aq H'
 | .cont=>∃aq H',Inv X pins aq H' s'∧D.ct aq H'
 | .ret u=>∃v aq H',Inv X pins aq H' s'∧RelV v u∧D.rt v H'
def PE(X:Cx)(e:Expr)(t:TE):Prop:=
 ∀(pins:List (Addr×Obj))(s:Shared)(σ:St)(H:Hp)(Q:VK),Inv X pins σ H s→t σ H Q→wpAny (model X.prog X.w) X.A (eval e X.env) (EP X pins σ Q) X.xe s
def PT(X:Cx)(e:Expr)(t:TT):Prop:=
 ∀(pins:List (Addr×Obj))(s:Shared)(σ:St)(H:Hp)(Q:Bool→Hp→Prop),Inv X pins σ H s→t σ H Q→wpAny (model X.prog X.w) X.A (isTrue e X.env (eval e X.env)) (TP X pins σ Q) X.xe s
def PW(X:Cx)(e:Expr)(t:TT):Prop:=
 ∀(whole:Sem Value)(pins:List (Addr×Obj))(s:Shared)(σ:St)(H:Hp)(Q:Bool→Hp→Prop),Inv X pins σ H s→t σ H Q→wpAny (model X.prog X.w) X.A (isTrue e X.env whole) (TP X pins σ Q) X.xe s
theorem PW.pt{X:Cx}{e:Expr}{t:TT}(h:PW X e t):PT X e t:=h _
def PA(X:Cx)(es:List Expr)(t:TA):Prop:=
 ∀(pos:Pos)(pins:List (Addr×Obj))(s:Shared)(σ:St)(H:Hp)(Q:List V→Hp→Prop),Inv X pins σ H s→t σ H Q→wpAny (model X.prog X.w) X.A (spliced (backTo pos (starEach es X.env))) (AP X pins σ Q) X.xe s
def PS(X:Cx)(st:Stmt)(t:TS):Prop:=
 ∀(pins:List (Addr×Obj))(s:Shared)(σ:St)(H:Hp)(D:Ends),Inv X pins σ H s→t D σ H→wpAny (model X.prog X.w) X.A (exec st X.env) (SP X pins D) X.xe s
def eY(X:Cx)(st:List Stmt)(t:TS):Prop:=
 ∀(pins:List (Addr×Obj))(s:Shared)(σ:St)(H:Hp)(D:Ends),Inv X pins σ H s→t D σ H→wpAny (model X.prog X.w) X.A (execs st X.env) (SP X pins D) X.xe s
theorem thn{α:Type}{t:Sem α}{Q Q':α→Shared→Prop}{M:Model}{A:Around}{E:Value→Shared→Prop}{s:Shared}(h:wpAny M A t Q E s)(hQ:∀a s,Q a s→Q' a s):wpAny M A t Q' E s:=wpAny_mono h hQ λ_ _ x=>x
section
variable {X:Cx}
def BU(i:Nat):TE:=λσ H Q=>∃v,σ[i]? =some (some v)∧Q v H
def tC(v:V):TE:=λ_ H Q=>Q v H
theorem uP{i:Nat}{x:Str}{pos:Pos}(hN:X.N[i]? =some x)(hv:lj X.env.scope x)(hd:(x==("__debug__":Str))=false:=by decide)(cL:(x==("__classdict__":Str))=false:=by decide):PE X (.Name x pos) (BU i):=by
 intro pins s σ H Q I h;obtain ⟨v,e,h⟩:=h;obtain ⟨m,hn,hl⟩:=I.loc;obtain ⟨u,r,l⟩:=hl i x v hN e hv;have fin:EP X pins σ Q u s:=⟨v,H,I,r,h⟩
 rcases l with ⟨hk,hm⟩ | ⟨hk,c,hc,xP⟩
 ·exact wpAny_Name (wpAny_loadName_local I.ok.kind hk hn hm fin) hd
 ·rcases hk with hk|hk
  ·exact wpAny_Name (wpAny_loadName_cell I.ok.kind hk hc xP fin) hd
  ·exact wpAny_Name (wpAny_loadName_free I.ok.kind hk hc xP fin cL) hd
theorem Ay{i j pos}:PE X (.Constant (.int i) j pos) (tC (.int i)):=λ_ _ _ H _ I h=>wpAny_Constant_int ⟨.int i,H,I.tok _,⟨_,rfl⟩,h⟩
theorem Dt{b j pos}:PE X (.Constant (.bool b) j pos) (tC (.bl b)):=λ_ _ _ H _ I h=>Constant_bool ⟨.bl b,H,I,rfl,h⟩
theorem Az{j pos}:PE X (.Constant .none j pos) (tC .aC):=λ_ _ _ H _ I h=>Constant_none ⟨.aC,H,I,rfl,h⟩
theorem pR{x j pos}:PE X (.Constant (.str x) j pos) (tC (.str x)):=λ_ _ _ H _ I h=>Calls.Constant_str ⟨.str x,H,I.tok _,⟨_,rfl⟩,h⟩
def Gl(X:Cx)(x:Str):Prop:=X.env.kindOf x=some .globalImplicit
theorem eF{E:Value→Shared→Prop}{pins:List (Addr×Obj)}{s:Shared}{σ:St}{H:Hp}{x:Str}{u:Value}{pos:Pos}{Q:Value→Shared→Prop}(I:Inv X pins σ H s)(hg:Gl X x)(hm:X.mg x=some u)(h:Q u s)
  (hd:(x==("__debug__":Str))=false:=by decide):wpAny (model X.prog X.w) X.A (eval (.Name x pos) X.env) Q E s:=
 Calls.Name_function_global I.ok.kind hg (Calls.loadGlobal_global (by rw [I.ok.glob];exact I.mod.glob.keeps I.bk) hm h) hd
theorem g7{E:Value→Shared→Prop}{pins:List (Addr×Obj)}{s:Shared}{σ:St}{H:Hp}{x:Str}{u:Value}{pos:Pos}{Q:Value→Shared→Prop}(I:Inv X pins σ H s)(hg:Gl X x)(hm:X.mg x=none)(hv:bootBuiltins x=some u)(h:Q u s)
  (hn:x≠"__name__":=by decide) (hd:(x==("__debug__":Str))=false:=by decide):wpAny (model X.prog X.w) X.A (eval (.Name x pos) X.env) Q E s:=by
 obtain ⟨mb,h1,h2⟩:=I.mod.blt;exact Calls.Name_function_global I.ok.kind hg (Calls.loadGlobal_builtin (by rw [I.ok.glob];exact I.mod.glob.keeps I.bk) hm (by rw [I.ok.blt];exact h1.keeps I.bk) ((h2 x hn).trans hv) h) hd
theorem rH{x:Str}{v:V}{u:Value}{pos:Pos}(hg:Gl X x)(hm:X.mg x=some u)(r:RelV v u)(hd:(x==("__debug__":Str))=false:=by decide):PE X (.Name x pos) (tC v):=
 λ_ _ _ H _ I h=>eF I hg hm ⟨v,H,I,r,h⟩ hd
theorem rG{x:Str}{v:V}{u:Value}{pos:Pos}(hg:Gl X x)(hm:X.mg x=none)(hv:bootBuiltins x=some u)(r:RelV v u)(hn:x≠"__name__":=by decide)(hd:(x==("__debug__":Str))=false:=by decide):PE X (.Name x pos) (tC v):=
 λ_ _ _ H _ I h=>g7 I hg hm hv ⟨v,H,I,r,h⟩ hn hd
variable {a b:Expr} {ta tb:TE} {pos:Pos}
variable {tA p0:TT} {rest:List Expr}
def Ih(t u:TT):TT:=λσ H Q=>t σ H λc H1=>if c=true then u σ H1 Q else Q false H1
def Ob(t u:TT):TT:=λσ H Q=>t σ H λc H1=>if c=true then Q true H1 else u σ H1 Q
def Ip(t:TT):TT:=λσ H Q=>t σ H λc H1=>Q (!c) H1
theorem yK(ha:PT X a tA):PW X (.BoolOp .And [a] pos) tA:=by
 intro wh pins s σ H Q I h;refine isTrue_and (thn (ha pins s σ H Q I h) λc s1 e=>?_);cases c with
 |true=>exact isTrue_and_nil e
 |false=>exact e
theorem AL(ha:PT X a tA):PW X (.BoolOp .Or [a] pos) tA:=by
 intro wh pins s σ H Q I h;refine isTrue_or (thn (ha pins s σ H Q I h) λc s1 e=>?_);cases c with
 |false=>exact isTrue_or_nil e
 |true=>exact e
theorem AK(ha:PT X a tA)(hb:PW X (.BoolOp .And (b::rest) pos) p0):PW X (.BoolOp .And (a::b::rest) pos) (Ih tA p0):=by
 intro wh pins s σ H Q I h;refine isTrue_and (thn (ha pins s σ H _ I h) λc s1 ⟨H1,I1,q1⟩=>?_);cases c with
 |true=>exact hb wh pins s1 σ H1 Q I1 q1
 |false=>exact ⟨H1,I1,q1⟩
theorem DH(ha:PT X a tA)(hb:PW X (.BoolOp .Or (b::rest) pos) p0):PW X (.BoolOp .Or (a::b::rest) pos) (Ob tA p0):=by
 intro wh pins s σ H Q I h;refine isTrue_or (thn (ha pins s σ H _ I h) λc s1 ⟨H1,I1,q1⟩=>?_);cases c with
 |true=>exact ⟨H1,I1,q1⟩
 |false=>exact hb wh pins s1 σ H1 Q I1 q1
theorem AJ(ha:PT X a tA):PT X (.UnaryOp .Not a pos) (Ip tA):=by
 intro pins s σ H Q I h;exact isTrue_not (ha pins s σ H (λc H1=>Q (!c) H1) I h)
def DR(ta tb:TE):TE:=λσ H Q=>ta σ H λx H1=>∃c,x= .bl c∧if c=true then tb σ H1 Q else Q (.bl false) H1
def Iq(ta tb:TE):TE:=λσ H Q=>ta σ H λx H1=>∃c,x= .bl c∧if c=true then Q (.bl true) H1 else tb σ H1 Q
def DZ(ta:TE):TE:=λσ H Q=>ta σ H λx H1=>∃c,x= .bl c∧Q (.bl (!c)) H1
theorem AB{op}{t:TE}(h:PE X a t):PE X (.BoolOp op [a] pos) t:=λpins s σ H Q I hw=>BoolOp_one (h pins s σ H Q I hw)
theorem Av(ha:PE X a ta)(hb:PE X (.BoolOp .And (b::rest) pos) tb):PE X (.BoolOp .And (a::b::rest) pos) (DR ta tb):=by
 intro pins s σ H Q I h;refine BoolOp_and (thn (ha pins s σ H _ I h) λv s1 ⟨x,H1,I1,r1,q1⟩=>?_);obtain ⟨c,rfl,q1⟩:=q1;cases r1;refine wpAny_truthy_bool ?_;cases c with
 |true=>exact hb pins s1 σ H1 Q I1 q1
 |false=>exact ⟨.bl false,H1,I1,rfl,q1⟩
theorem Dz(ha:PE X a ta)(hb:PE X (.BoolOp .Or (b::rest) pos) tb):PE X (.BoolOp .Or (a::b::rest) pos) (Iq ta tb):=by
 intro pins s σ H Q I h;refine BoolOp_or (thn (ha pins s σ H _ I h) λv s1 ⟨x,H1,I1,r1,q1⟩=>?_);obtain ⟨c,rfl,q1⟩:=q1;cases r1;refine wpAny_truthy_bool ?_;cases c with
 |false=>exact hb pins s1 σ H1 Q I1 q1
 |true=>exact ⟨.bl true,H1,I1,rfl,q1⟩
theorem AA(ha:PE X a ta):PE X (.UnaryOp .Not a pos) (DZ ta):=by
 intro pins s σ H Q I h;refine UnaryOp_ (thn (ha pins s σ H _ I h) λv s1 ⟨x,H1,I1,r1,q1⟩=>?_);obtain ⟨c,rfl,q1⟩:=q1;cases r1;exact not_of (wpAny_truthy_bool ⟨.bl (!c),H1,I1,rfl,q1⟩)
def Oa(t:TT)(ta tb:TE):TE:=λσ H Q=>t σ H λc H1=>if c=true then ta σ H1 Q else tb σ H1 Q
theorem vX{c:Expr}(hc:PT X c tA)(ha:PE X a ta)(hb:PE X b tb):PE X (.IfExp c a b pos) (Oa tA ta tb):=by
 intro pins s σ H Q I h;refine wpAny_IfExp (thn (hc pins s σ H _ I h) λd s1 ⟨H1,I1,q1⟩=>?_);cases d with
 |true=>exact ha pins s1 σ H1 Q I1 q1
 |false=>exact hb pins s1 σ H1 Q I1 q1
end
def bq(K:PySem.W.Frag)(H:Hp)(a:Addr)(xs:List V):Prop:=
 Rd H a (.lst xs)∨
  ∃(o:Obj)(its:Array Value)(n:Nat),K.lookup a=some o∧o.cls= .type "list"∧o.dict=none∧o.data= .seq its n∧its.size≤sizeLine∧Vals xs its.toList
def cg(K:PySem.W.Frag)(H:Hp)(a:Addr)(xs:List V):Prop:=
 Rd H a (.tup xs)∨
  ∃(o:Obj)(its:Array Value)(n:Nat),K.lookup a=some o∧o.cls= .type "tuple"∧o.data= .seq its n∧its.size≤sizeLine∧Vals xs its.toList
def Ek:Value→Option V
 | .none=>some .aC
 | .bool b=>some (.bl b)
 | .int i _=>some (.int i)
 | .str x _=>some (.str x)
 | .bytes b _=>some (.va b)
 | .float b _=>some (.sQ b)
 | .ref a=>some (.ref a)
 | .type n=>some (.ty n)
 |_=>none
theorem RelV.abs{x:V}{u:Value}(r:RelV x u):Ek u=some x:=by
 cases x with
 |aC=>cases r;rfl
 |bl _=>cases r;rfl
 |int _=>obtain ⟨t,rfl⟩:=r;rfl
 |str _=>obtain ⟨t,rfl⟩:=r;rfl
 |va _=>obtain ⟨t,rfl⟩:=r;rfl
 |sQ _=>obtain ⟨t,rfl⟩:=r;rfl
 |ref _=>cases r;rfl
 |ty _=>cases r;rfl
theorem RelV.inj{x y:V}{u:Value}(r:RelV x u)(q:RelV y u):x=y:=Option.some.inj (r.abs.symm.trans q.abs)
theorem Vals.inj:∀{xs ys:List V}{us:List Value},Vals xs us→Vals ys us→xs=ys
 |_,_,_, .nil, .nil=>rfl
 |_,_,_, .cons r t, .cons r' t'=>by rw [r.inj r',Vals.inj t t']
section
variable {X:Cx} {pins:List (Addr×Obj)} {σ:St} {H:Hp} {s:Shared} {a:Addr} {xs ys:List V}
theorem bq.of{K:PySem.W.Frag}(h:H a=some (.lst xs)):bq K H a xs:= .inl (.inl h)
theorem cg.of{K:PySem.W.Frag}(h:H a=some (.tup xs)):cg K H a xs:= .inl (.inl h)
theorem Inv.list(I:Inv X pins σ H s)(h:bq X.K H a xs):∃its:List Value,Vals xs its∧PlainL s.heap a its.toArray∧xs.length≤sizeLine:=by
 rcases h with h| ⟨o,its,n,hk,hc,hd,hs,hz,r⟩
 ·obtain ⟨z,its,n,r,e⟩:=h.ok I.hok
  exact ⟨its,r,⟨_,n,e,rfl,rfl,rfl⟩,z⟩
 ·refine ⟨its.toList,r,⟨o,n,I.bO a o hk,hc,hd,by simpa using hs⟩,?_⟩
  have e:=r.length;simp only [Array.length_toList] at e;omega
theorem Inv.tuple(I:Inv X pins σ H s)(h:cg X.K H a xs):∃its:List Value,Vals xs its∧IsTup s.heap a its.toArray∧xs.length≤sizeLine:=by
 rcases h with h| ⟨o,its,n,hk,hc,hs,hz,r⟩
 ·obtain ⟨z,its,r,p⟩:=h.ok I.hok
  exact ⟨its,r,p,z⟩
 ·refine ⟨its.toList,r,⟨o,I.bO a o hk,hc,n,by simpa using hs⟩,?_⟩
  have e:=r.length;simp only [Array.length_toList] at e;omega
theorem Inv.nU(I:Inv X pins σ H s)(h:bq X.K H a xs)(h':bq X.K H a ys):xs=ys:=by
 obtain ⟨its,r,⟨o,n,e,_,_,d⟩,_⟩:=I.list h;obtain ⟨its',r',⟨o',n',e',_,_,d'⟩,_⟩:=I.list h';rw [e] at e';cases e';rw [d] at d'
 injection d' with d1 _
 have:its=its':=by simpa using congrArg Array.toList d1
 subst this;exact r.inj r'
end
abbrev Cx.iz(X:Cx)(E:Value→Shared→Prop):Cx:={X with xe:=E}
abbrev Cx.mj(X:Cx):Cx:=X.iz λ_ _=>False
theorem Cx.Ok.iz{X:Cx}(ok:X.Ok)(E:Value→Shared→Prop):(X.iz E).Ok:=
 ⟨ok.mod,ok.kind,ok.glob,ok.blt,ok.above,ok.inj,ok.has,ok.cab,ok.hd,ok.frames,ok.stk,ok.exf,ok.bs,ok.bsz,ok.noex,ok.exfs,ok.funs,ok.frf⟩
theorem Cx.Ok.fj{X:Cx}{E:Value→Shared→Prop}(ok:(X.iz E).Ok):X.Ok:=
 ⟨ok.mod,ok.kind,ok.glob,ok.blt,ok.above,ok.inj,ok.has,ok.cab,ok.hd,ok.frames,ok.stk,ok.exf,ok.bs,ok.bsz,ok.noex,ok.exfs,ok.funs,ok.frf⟩
section
variable {X:Cx} {pins:List (Addr×Obj)} {σ:St} {H:Hp} {s:Shared} {E:Value→Shared→Prop}
theorem Inv.iz(I:Inv X pins σ H s)(E:Value→Shared→Prop):Inv (X.iz E) pins σ H s:=⟨I.ok.iz E,I.os,I.bare,I.base,I.loc,I.cell,I.free,I.freeC,I.pin,I.hok,I.len⟩
theorem Inv.fj(I:Inv (X.iz E) pins σ H s):Inv X pins σ H s:=⟨I.ok.fj,I.os,I.bare,I.base,I.loc,I.cell,I.free,I.freeC,I.pin,I.hok,I.len⟩
theorem SP.fj{D:Ends}{f:Flow}{s':Shared}(h:SP (X.iz E) pins D f s'):SP X pins D f s':=by
 cases f with
 |next=>obtain ⟨aq,H',I,q⟩:=h;exact ⟨aq,H',I.fj,q⟩
 |brk=>obtain ⟨aq,H',I,q⟩:=h;exact ⟨aq,H',I.fj,q⟩
 |cont=>obtain ⟨aq,H',I,q⟩:=h;exact ⟨aq,H',I.fj,q⟩
 |ret u=>obtain ⟨v,aq,H',I,r,q⟩:=h;exact ⟨v,aq,H',I.fj,r,q⟩
theorem eY.mj{st:List Stmt}{t:TS}(h:eY X.mj st t):eY X st t:=λpins s σ H D I hw=>
 wpAny_mono (h pins s σ H D (I.iz _) hw) (λ_ _ q=>q.fj) λ_ _ z=>False.elim z
end
section
variable {X:Cx} {st:Stmt} {rest:List Stmt} {t u:TS} {e:Expr} {te:TE} {pos:Pos}
def DY:TS:=λD σ H=>D.nx σ H
def Iu(t u:TS):TS:=λD σ H=>t {D with nx:=u D} σ H
theorem yH:eY X [] DY:=λ_ _ σ H _ I h=>wpAny_execs_nil ⟨σ,H,I,h⟩
theorem fA(h1:PS X st t)(h2:eY X rest u):eY X (st::rest) (Iu t u):=by
 intro pins s σ H D I h;refine wpAny_execs_cons (thn (h1 pins s σ H {D with nx:=u D} I h) λf s1 q=>?_)
 cases f with
 |next=>
  obtain ⟨aq,H',I',q⟩:=q;exact h2 pins s1 aq H' D I' q
 |ret v=>exact q
 |brk=>exact q
 |cont=>exact q
theorem rM(h1:PS X st t):eY X [st] t:=by
 intro pins s σ H D I h;refine wpAny_execs_cons (thn (h1 pins s σ H D I h) λf s1 q=>?_);cases f with
 |next=>exact wpAny_execs_nil q
 |ret v=>exact q
 |brk=>exact q
 |cont=>exact q
theorem Inv.quiet{pins:List (Addr×Obj)}{σ:St}{H:Hp}{s:Shared}(I:Inv X pins σ H s):interactive X.env=false:=by simp [interactive,I.ok.kind]
def DV(te:TE):TS:=λD σ H=>te σ H λ_ H1=>D.nx σ H1
theorem gL(he:PE X e te)(hs:swapsWith e none pos.line X.env=pure false:=by rfl):PS X (.Expr e pos) (DV te):=by
 intro pins s σ H D I h;exact wpAny_Expr_any (thn (he pins s σ H _ I h) λv s1 ⟨x,H1,I1,r1,q1⟩=>⟨σ,H1,I1,q1⟩) I.quiet hs
def Ir(te:TE):TS:=λD σ H=>te σ H D.rt
theorem AH(he:PE X e te):PS X (.Return (some e) pos) (Ir te):=by
 intro pins s σ H D I h;exact wpAny_Return_some (thn (he pins s σ H _ I h) λv s1 ⟨x,H1,I1,r1,q1⟩=>⟨x,σ,H1,I1,r1,q1⟩)
def Im(c:TT)(t u:TS):TS:=λD σ H=>c σ H λb H1=>if b=true then t D σ H1 else u D σ H1
theorem DD{c:Expr}{a b:List Stmt}{tc:TT}(hc:PT X c tc)(ha:eY X a t)(hb:eY X b u):PS X (.If c a b pos) (Im tc t u):=by
 intro pins s σ H D I h;refine wpAny_If (thn (hc pins s σ H _ I h) λd s1 ⟨H1,I1,q1⟩=>?_);cases d with
 |true=>exact ha pins s1 σ H1 D I1 q1
 |false=>exact hb pins s1 σ H1 D I1 q1
def AZ:TS:=λ_ _ _=>False
theorem v7:PS X st AZ:=λ_ _ _ _ _ _ h=>h.elim
end
abbrev TG:=V→St→Hp→(St→Hp→Prop)→Prop
abbrev mN:=List V→St→Hp→(St→Hp→Prop)→Prop
def PG(X:Cx)(target:Expr)(t:TG):Prop:=
 ∀(pins:List (Addr×Obj))(s:Shared)(σ:St)(H:Hp)(v:V)(u:Value)(Q:St→Hp→Prop),Inv X pins σ H s→RelV v u→t v σ H Q→
  wpAny (model X.prog X.w) X.A (assign target X.env u) (λ_ s'=>∃aq H',Inv X pins aq H' s'∧Q aq H') X.xe s
def om(X:Cx)(ts:List Expr)(t:mN):Prop:=
 ∀(pins:List (Addr×Obj))(s:Shared)(σ:St)(H:Hp)(vs:List V)(us:List Value)(Q:St→Hp→Prop),Inv X pins σ H s→Vals vs us→t vs σ H Q→
  wpAny (model X.prog X.w) X.A (assignInOrder ((assignEach ts X.env).map (·.2)) us) (λ_ s'=>∃aq H',Inv X pins aq H' s'∧Q aq H') X.xe s
abbrev wI:=V→V→V→Hp→(Hp→Prop)→Prop
def Bc(X:Cx)(t:wI):Prop:=
 ∀(pins:List (Addr×Obj))(s:Shared)(σ:St)(H:Hp)(o i v:V)(ov iv u:Value)(Q:Hp→Prop),Inv X pins σ H s→RelV o ov→RelV i iv→RelV v u→t o i v H Q→
  wpAny (model X.prog X.w) X.A (setItem ov iv u) (λ_ s'=>∃H',Inv X pins σ H' s'∧Q H') X.xe s
section
variable {X:Cx} {pos:Pos}
def xF(i:Nat):TG:=λv σ H Q=>Q (σ.set i (some v)) H
theorem rJ{i:Nat}{x:Str}(hN:X.N.Nodup)(hi:X.N[i]? =some x)(hx:Loc X.env.scope x)(hf:X.fn x=true∨X.env.scope.names.lookup x=some .local:=by first|exact .inl rfl|exact .inr rfl|assumption):PG X (.Name x pos) (xF i):=by
 intro pins s σ H v u Q I r h;exact wpAny_assign_Name (hV I hN hi hx r (λs' I'=>⟨_,H,I',h⟩) hf)
def FI:mN:=λvs σ H Q=>vs= []∧Q σ H
def CK(t:TG)(u:mN):mN:=λvs σ H Q=>∃v r,vs=v::r∧t v σ H λaq H'=>u r aq H' Q
theorem rK:om X [] FI:=by
 intro pins s σ H vs us Q I r h;obtain ⟨e,h⟩:=h;subst e;cases r;exact assignInOrder_nil ⟨σ,H,I,h⟩
theorem nX{e:Expr}{es:List Expr}{t:TG}{u:mN}(h1:PG X e t)(h2:om X es u)
  (hs:(assignEach (e::es) X.env).map (·.2)=assign e X.env::(assignEach es X.env).map (·.2):=by rfl):om X (e::es) (CK t u):=by
 intro pins s σ H vs us Q I r h;obtain ⟨v,vr,e1,h⟩:=h;subst e1;cases r with
 |cons r rr=>
  rw [hs];refine assignInOrder_cons (thn (h1 pins s σ H _ _ _ I r h) λ_ s1 ⟨uf,H1,I1,q1⟩=>?_);exact h2 pins s1 uf H1 _ _ Q I1 rr q1
def FK(K:PySem.W.Frag)(n:Nat)(t:mN):TG:=λv σ H Q=>∃a xs,v= .ref a∧cg K H a xs∧xs.length=n∧t xs σ H Q
theorem uQ{es:List Expr}{k:Nat}{t:mN}{n:Nat}(hc:X.calm=true)(h:om X es t)
  (hn:(assignEach es X.env).length=n:=by rfl) (jm:(assignEach es X.env).findIdx? (·.1)=none:=by rfl):PG X (.Tuple es k pos) (FK X.K n t):=by
 intro pins s σ H v u Q I r hw;obtain ⟨a,xs,e1,hq,hl,hw⟩:=hw;subst e1;cases r;obtain ⟨its,rv,ht,hz⟩:=I.tuple hq;refine assign_Tuple_tuple (I.ok.hd hc) ht (by simp [hn,←hl,rv.length]) jm λh' hx=>?_
 have I1:Inv X pins σ H {s with heap:=h'}:=I.kept (t':=s.toks) λb o e=>hx b o (bA (Heap.lt_size e)) e
 exact h pins _ σ H xs _ Q I1 (by simpa using rv) hw
def FJ(to ti:TE)(t:wI):TG:=λv σ H Q=>to σ H λo H1=>ti σ H1 λi H2=>t o i v H2 λH3=>Q σ H3
theorem AE{o i:Expr}{to ti:TE}{t:wI}(ho:PE X o to)(hi:PE X i ti)(hs:Bc X t)
  (ha:∀v,assign (.Subscript o i pos) X.env v=(do
   let ov ←holding [v] (eval o X.env)
   let iv ←holding [v,ov] (eval i X.env)
   standAt pos
   holding [v,ov,iv] (setItem ov iv v)
   release [v,ov,iv] []):=by intro _;rfl):PG X (.Subscript o i pos) (FJ to ti t):=by
 intro pins s σ H v u Q I r h;rw [ha];refine wpAny_bind (wpAny_holding (thn (ho pins s σ H _ I h) λov s1 ⟨x,H1,I1,r1,q1⟩=>?_));refine wpAny_bind (wpAny_holding (thn (hi pins s1 σ H1 _ I1 q1) λiv s2 ⟨y,H2,I2,r2,q2⟩=>?_));refine wpAny_bind (wpAny_standAt (wpAny_bind (wpAny_holding (thn (hs pins s2 σ H2 x y v ov iv u _ I2 r1 r2 r q2) λ_ s3 ⟨H3,I3,q3⟩=>?_))));exact wpAny_release ⟨σ,H3,I3,q3⟩
def BR(te:TE)(g:TG):TS:=λD σ H=>te σ H λx H1=>g x σ H1 D.nx
theorem uR{tg e:Expr}{te:TE}{g:TG}(he:PE X e te)(hg:PG X tg g)(hs:swapsWithSole [tg] e pos.line X.env=pure false:=by rfl)(hw:swappedStores [tg] e X.env=pure none:=by rfl)
  (h1:(assignEach [tg] X.env).map (·.2)= [assign tg X.env]:=by rfl):PS X (.Assign [tg] e pos) (BR te g):=by
 intro pins s σ H D I h;refine wpAny_Assign_stores (thn (he pins s σ H _ I h) λv s1 ⟨x,H1,I1,r1,q1⟩=>?_) hs hw;rw [h1];exact thn (hg pins s1 σ H1 x v _ I1 r1 q1) λ_ s2 q=>q
theorem pT{i:Nat}{x:Str}{e:Expr}{te:TE}{pos':Pos}(hN:X.N.Nodup)(hi:X.N[i]? =some x)(hx:Loc X.env.scope x)(he:PE X e te)(hs:swapsWith e (some (.Name x pos')) pos.line X.env=pure false:=by rfl)(hf:X.fn x=true∨X.env.scope.names.lookup x=some .local:=by first|exact .inl rfl|exact .inr rfl|assumption):
  PS X (.Assign [.Name x pos'] e pos) (BR te (xF i)):=by
 intro pins s σ H D I h;refine wpAny_Assign_Name (thn (he pins s σ H _ I h) λv s1 ⟨y,H1,I1,r1,q1⟩=>?_) hs;exact hV I1 hN hi hx r1 (λs2 I2=>⟨_,H1,I2,q1⟩) hf
end
section
variable {X:Cx} {pos:Pos}
def A1(c:TT)(tb:TS):TS:=λD σ H=>∃W:Nat→St→Hp→Prop,(∃m,W m σ H)∧∀m σ H,W m σ H→
 c σ H λb H1=>if b=true then ∃N:St→Hp→Prop,(∀aq H',N aq H'→∃m',m'<m∧W m' aq H')∧tb {D with nx:=N,ct:=N,bk:=D.nx} σ H1 else D.nx σ H1
theorem v9{c:Expr}{body:List Stmt}{tc:TT}{tb:TS}(hp:PassesOwn (model X.prog X.w) X.A X.env X.xe)(hc:PT X c tc)(hb:eY X body tb):PS X (.While c body [] pos) (A1 tc tb):=by
 intro pins s σ H D I h;obtain ⟨W,⟨m0,w0⟩,turn⟩:=h;refine wpAny_While (codeAny_whileLoop (λn s'=>∃aq H',Inv X pins aq H' s'∧W n aq H') ?_ m0 ⟨σ,H,I,w0⟩);rintro n s1 ⟨uf,H1,I1,w1⟩;refine wpAny_passesOwn hp (thn (hc pins s1 uf H1 _ I1 (turn n uf H1 w1)) λb s2 ⟨H2,I2,q2⟩=>?_);cases b with
 |true=>
  obtain ⟨N,hN,q2⟩:=q2;rw [if_pos rfl];refine wpAny_passesOwn hp (thn (hb pins s2 uf H2 _ I2 q2) λf s3 q3=>?_);cases f with
  |next=>
   obtain ⟨kQ,H3,I3,n3⟩:=q3;obtain ⟨m',hm,w3⟩:=hN kQ H3 n3;exact ⟨m',hm,kQ,H3,I3,w3⟩
  |cont=>
   obtain ⟨kQ,H3,I3,n3⟩:=q3;obtain ⟨m',hm,w3⟩:=hN kQ H3 n3;exact ⟨m',hm,kQ,H3,I3,w3⟩
  |brk=>exact q3
  |ret v=>exact q3
 |false=>
  rw [if_neg fJ];exact wpAny_execs_nil ⟨uf,H2,I2,q2⟩
end
structure It where
 go:Nat→Hp→Prop
 yld:Nat→Hp→V→Hp→Prop
 stop:Nat→Hp→Prop
def dJ(X:Cx)(pins:List (Addr×Obj))(H:Hp)(b:Addr):Prop:=
 H b=none∧b≠X.env.locals∧b∉X.fs∧(b∈X.ex∨X.s₀.heap.objs.size≤b)∧(∀x c,X.env.cells.lookup x=some c→c≠b)∧∀p∈X.pn++pins,p.1≠b
theorem Inv.xE{X:Cx}{pins:List (Addr×Obj)}{σ:St}{H H':Hp}{s:Shared}{b:Addr}(I:Inv X pins σ H s)(hb:s.heap.objs.size≤b)(hn:H' b=none):dJ X pins H' b:=by
 refine ⟨hn,Nat.ne_of_gt (eV I.lt hb),I.BJ hb, .inr (fH I.sz hb),λx c e z=>?_,λp hp z=>?_⟩
 ·obtain ⟨v,q⟩:=I.cell x c e
  exact absurd (eV q.lt (by rw [z];exact hb)) (eS _)
 ·exact absurd (eV (Heap.lt_size (I.pin p hp).1) (by rw [z];exact hb)) (eS _)
structure Turn (P:Program) (w:World) (K:PySem.W.Frag) (tg:Expr) (J:It) (fp:List Addr) (it:Addr) (tn:Nat→Heap→Prop):Prop where
 mem:it∈fp
 obj:∀i h,tn i h→∀b∈fp,∃o,h.get? b=some o∧∀v,o.data≠ .cell v
 keep:∀i h h',tn i h→(∀b∈fp,∀o,h.get? b=some o→h'.get? b=some o)→tn i h'
 item:∀(X:Cx),X.prog=P→X.w=w→X.K=K→X.calm=true→∀(i:Nat)(pins:List (Addr×Obj))(s:Shared)(σ:St)(H:Hp)(E:Value→Shared→Prop),Inv X pins σ H s→(∀b∈fp,dJ X pins H b)→tn i s.heap→J.go i H→
  wpAny (model P w) X.A (pyNext (.ref it)) (λr s1=>∃u,r=some u∧
   wpAny (model P w) X.A (letOwnedTupleGo tg (.ref it) u) (λ_ s2=>∃x H',Inv X pins σ H' s2∧RelV x u∧J.yld i H x H'∧tn (i+1) s2.heap∧∀b∈fp,H' b=none) E s1) E s
 done:∀(X:Cx),X.prog=P→X.w=w→X.K=K→X.calm=true→∀(i:Nat)(pins:List (Addr×Obj))(s:Shared)(σ:St)(H:Hp)(E:Value→Shared→Prop),Inv X pins σ H s→(∀b∈fp,dJ X pins H b)→tn i s.heap→J.stop i H→
  wpAny (model P w) X.A (pyNext (.ref it)) (λr s1=>r=none∧Inv X pins σ H s1) E s
 self:∀(A:Around)(i:Nat)(s:Shared)(Q:Value→Shared→Prop)(E:Value→Shared→Prop),tn i s.heap→Q (.ref it) s→wpAny (model P w) A (pyIter (.ref it)) Q E s
abbrev TI:=St→Hp→(It→Hp→Prop)→Prop
def Ee(X:Cx)(pins:List (Addr×Obj))(σ:St)(tg:Expr)(R:It→Hp→Prop)(rb:Value)(s2:Shared):Prop:=
 ∃(it:Addr)(fp:List Addr)(tn:Nat→Heap→Prop)(J:It)(H':Hp),rb= .ref it∧Inv X pins σ H' s2∧Turn X.prog X.w X.K tg J fp it tn∧tn 0 s2.heap∧(∀b∈fp,dJ X pins H' b)∧R J H'
def PI(X:Cx)(tg iter:Expr)(wi:TI):Prop:=
 ∀(pins:List (Addr×Obj))(s:Shared)(σ:St)(H:Hp)(R:It→Hp→Prop),Inv X pins σ H s→wi σ H R→
  wpAny (model X.prog X.w) X.A (eval iter X.env) (λv s1=>wpAny (model X.prog X.w) X.A (pyIter v) (Ee X pins σ tg R) X.xe s1) X.xe s
theorem xI{M:Model}{A:Around}{E:Value→Shared→Prop}{s:Shared}{tg:Expr}{it:Addr}{u:Value}{o:Obj}{n:String}{vs:Array Value}{Q:Unit→Shared→Prop}(ho:s.heap.get? it=some o)(hc:o.cls= .type n)(hd:o.data= .fields vs)
  (hn: ["enumerate","zip","dict_itemiterator","dict_reverseitemiterator","odict_iterator","itertools.zip_longest","itertools.pairwise"].contains n=false) (hQ:Q () s):wpAny M A (letOwnedTupleGo tg (.ref it) u) Q E s:=by
 unfold letOwnedTupleGo
 cases tg<;>first
  |exact wpAny_pure hQ
  | (cases u<;>first
    |exact wpAny_pure hQ
    | (refine wpAny_bind (wpAny_load ho ?_)
       rw [hc,hd];show wpAny M A (if (["enumerate","zip","dict_itemiterator","dict_reverseitemiterator","odict_iterator","itertools.zip_longest","itertools.pairwise"].contains n&&vs[0]? ==some (rawInt _))=true then _ else _) Q E s;rw [if_neg (by intro h;rw [hn,Bool.false_and] at h;cases h)]
       exact wpAny_pure hQ))
def B0(K:PySem.W.Frag)(a:Addr):It:=
 ⟨λi H=>∃xs x,bq K H a xs∧xs[i]? =some x,λi H x H'=>H'=H∧∀xs,bq K H a xs→xs[i]? =some x,λi H=>∃xs,bq K H a xs∧xs.length≤i⟩
def wG(lo:Int)(n:Nat):It:=⟨λi _=>i<n,λi H x H'=>H'=H∧x= .int (lo+i),λi _=>n≤i⟩
theorem t9{P:Program}{w:World}{K:PySem.W.Frag}{tg:Expr}(a it:Addr):Turn P w K tg (B0 K a) [it] it (λi h=>h.IsListIter it a i) where
 mem:=by simp
 obj:=λi h st b hb=>by
  have e:b=it:=by simpa using hb
  subst e;obtain ⟨o,e,c,d⟩:=st;exact ⟨o,e,λv z=>by rw [d] at z;cases z⟩
 keep:=λi h h' st k=>st.at λo e=>k it (by simp) o e
 item:=by
  intro X hP hw hK hc i pins s σ H E I hf st hg;subst hP hw hK;obtain ⟨xs,x,hq,hx⟩:=hg;obtain ⟨its,rv,p,hz⟩:=I.list hq;obtain ⟨u,hu,ru⟩:=rv.get hx;obtain ⟨f0,f1,f2,f3,f4,f5⟩:=hf it (by simp)
  refine wpAny_pyNext_list_item st p.isList (x:=u) (by simpa using hu) λh' y0 sb=>?_
  have I1:Inv X pins σ H {s with heap:=h'}:=I.turned (t':=s.toks) (λb o hb e=>(sb.2 b hb).trans e) f0 f1 f3 f4 f5
  obtain ⟨o,e,c,d⟩:=id y0;exact ⟨u,rfl,xI (s:={s with heap:=h'}) e c d (by decide) ⟨x,H,I1,ru,⟨rfl,λys hy=>by rw [I.nU hy hq];exact hx⟩,y0,λb hb=>(hf b hb).1⟩⟩
 done:=by
  intro X hP hw hK hc i pins s σ H E I hf st hg;subst hP hw hK;obtain ⟨xs,hq,hx⟩:=hg;obtain ⟨its,rv,p,hz⟩:=I.list hq;obtain ⟨f0,f1,f2,f3,f4,f5⟩:=hf it (by simp)
  have hl:=rv.length;exact wpAny_pyNext_list_end (I.ok.hd hc) st p.isList (by simp;omega) λh' eb=>⟨rfl,I.turned (t':=s.toks) (λb o hb e=>eb b o hb e) f0 f1 f3 f4 f5⟩
 self:=λ_ _ _ _ _ st h=>wpAny_pyIter_listiter st h
theorem rX{P:Program}{w:World}{K:PySem.W.Frag}{tg:Expr}(it:Addr)(lo:Int)(n:Nat):Turn P w K tg (wG lo n) [it] it (λi h=>IsRangeIter h it (lo+(i:Nat)*1) ((n:Int)-(i:Nat)) 1) where
 mem:=by simp
 obj:=λi h st b hb=>by
  have e:b=it:=by simpa using hb
  subst e
  exact ⟨_,st,λv z=>by
   have z':Data.fields _=Data.cell v:=z;cases z'⟩
 keep:=λi h h' st k=>k it (by simp) _ st
 item:=by
  intro X hP hw hK hc i pins s σ H E I hf st hg;subst hP hw hK;obtain ⟨f0,f1,f2,f3,f4,f5⟩:=hf it (by simp)
  have W:=Walks.range (prog:=X.prog) (w:=X.w) (I.ok.hd hc) it lo 1 n;refine W.item i s _ _ hg st λv h' tk hv y0 kk=>?_;obtain ⟨t,rfl⟩:=hv;have I1:Inv X pins σ H {s with heap:=h',toks:=tk}:=I.turned (λb o hb e=>kk b o (by simpa using hb) e) f0 f1 f3 f4 f5
  refine ⟨_,rfl,xI (s:={s with heap:=h',toks:=tk}) (n:="range_iterator") y0 rfl rfl (by decide) ⟨.int (lo+i),H,I1,⟨t,?_⟩,⟨rfl,rfl⟩,y0,λb hb=>(hf b hb).1⟩⟩
  rw [Int.mul_one]
 done:=by
  intro X hP hw hK hc i pins s σ H E I hf st hg;subst hP hw hK;obtain ⟨f0,f1,f2,f3,f4,f5⟩:=hf it (by simp)
  exact wpAny_pyNext_range_end (I.ok.hd hc) st (by have:n≤i:=hg;omega) λh' eb=>⟨rfl,I.turned (t':=s.toks) (λb o hb e=>eb b o hb e) f0 f1 f3 f4 f5⟩
 self:=λ_ _ _ _ _ st h=>wpAny_pyIter_rangeiter st h
section
variable {X:Cx} {tg:Expr}
def C9(K:PySem.W.Frag)(tl:TE):TI:=λσ H R=>tl σ H λx H1=>∃a,x= .ref a∧(∃xs,bq K H1 a xs)∧R (B0 K a) H1
theorem yE{l:Expr}{tl:TE}(hl:PE X l tl):PI X tg l (C9 X.K tl):=by
 intro pins s σ H R I h;refine thn (hl pins s σ H _ I h) λv s1 ⟨x,H1,I1,r1,q1⟩=>?_;obtain ⟨a,e,⟨xs,hq⟩,q⟩:=q1;subst e;cases r1;obtain ⟨its,rv,p,hz⟩:=I1.list hq;refine wpAny_pyIter_list p.isList ?_;refine ⟨s1.heap.objs.size,[s1.heap.objs.size],_,_,H1,rfl,I1.kept (t':=s1.toks) λb o e=>Heap.get?_push_of_some _ e,t9 a _,⟨_,Heap.get?_push_size _ rfl,rfl,rfl⟩,λb hb=>?_,q⟩;have e:b=s1.heap.objs.size:=by simpa using hb
 subst e;exact I1.xE (bW _) (I1.hok.fresh (bW _))
theorem nY{pins:List (Addr×Obj)}{σ:St}{H:Hp}{s:Shared}{R:It→Hp→Prop}{E:Value→Shared→Prop}{lo hi:Int}{t u v:Tok}{tk:Nat}(I:Inv X pins σ H s)(h1: -(2^62)≤lo)(h2:lo<2^62)(h3: -(2^62)≤hi)(h4:hi<2^62)
  (q:R (wG lo (hi-lo).toNat) H):wpAny (model X.prog X.w) X.A (pyIter (.ref s.heap.objs.size)) (Ee X pins σ tg R) E {s with heap:=s.heap.push {cls:= .type "range",data:= .fields #[.int lo t, .int hi u, .int 1 v]},toks:=tk}:=by
 refine wpAny_pyIter_range (IsRange.new ..) (small_one h1 h2 h3 h4) ?_;have I1:Inv X pins σ H {s with heap:=s.heap.push {cls:= .type "range",data:= .fields #[.int lo t, .int hi u, .int 1 v]},toks:=tk}:=I.kept λb o e=>Heap.get?_push_of_some _ e
 refine ⟨(s.heap.push {cls:= .type "range",data:= .fields #[.int lo t, .int hi u, .int 1 v]}).objs.size,[(s.heap.push {cls:= .type "range",data:= .fields #[.int lo t, .int hi u, .int 1 v]}).objs.size],_,_,H,rfl,
  I1.kept (t':=tk) λb o e=>Heap.get?_push_of_some _ e,rX _ lo (hi-lo).toNat,?_,λb hb=>?_,q⟩
 ·have e1:lo+((0:Nat):Int)*1=lo:=by simp
  have e2:(((hi-lo).toNat:Nat):Int)-((0:Nat):Int)=Builtin.Range.rangeSize lo hi 1:=by rw [rangeSize_one];split<;>omega
  show IsRangeIter _ _ (lo+((0:Nat):Int)*1) ((((hi-lo).toNat:Nat):Int)-((0:Nat):Int)) 1;rw [e1,e2];exact Heap.get?_push_size _ rfl
 ·have e:b=(s.heap.push {cls:= .type "range",data:= .fields #[.int lo t, .int hi u, .int 1 v]}).objs.size:=by simpa using hb
  subst e;exact I1.xE (bW _) (I1.hok.fresh (bW _))
def Dc(ta:TA):TI:=λσ H R=>ta σ H λvs H1=>∃j:Int,vs= [.int j]∧-(2^62)≤j∧j<2^62∧R (wG 0 j.toNat) H1
def Dd(ta:TA):TI:=λσ H R=>ta σ H λvs H1=>∃i j:Int,vs= [.int i, .int j]∧(-(2^62)≤i∧i<2^62∧-(2^62)≤j∧j<2^62)∧R (wG i (j-i).toNat) H1
theorem mv{a:Expr}{ta:TA}{p pos:Pos}(hg:Gl X "range")(hm:X.mg "range"=none)(ha:PA X [a] ta)(hs:starEach [a] X.env= [(false,eval a X.env)]:=by rfl):PI X tg (.Call (.Name "range" p) [a] [] pos) (Dc ta):=by
 intro pins s σ H R I h;refine Call_ (g7 I hg hm boot_range (PyProof.Rows.callWith_type1 (thn (ha pos pins s σ H _ I h) λus s1 ⟨vs,H1,I1,r1,q1⟩=>?_) hs rfl));obtain ⟨j,e,q1,q2,q⟩:=q1;subst e;cases r1 with
 |cons r rr=>
  cases rr;obtain ⟨t,rfl⟩:=r;exact call_range_1 (nY I1 (by omega) (by omega) q1 q2 (by simpa using q))
theorem tT{a b:Expr}{ta:TA}{p pos:Pos}(hg:Gl X "range")(hm:X.mg "range"=none)(ha:PA X [a,b] ta)(hs:starEach [a,b] X.env= [(false,eval a X.env),(false,eval b X.env)]:=by rfl)(iL:starEach [b] X.env= [(false,eval b X.env)]:=by rfl):
  PI X tg (.Call (.Name "range" p) [a,b] [] pos) (Dd ta):=by
 intro pins s σ H R I h;refine Call_ (g7 I hg hm boot_range (PyProof.Rows.callWith_type1 (thn (ha pos pins s σ H _ I h) λus s1 ⟨vs,H1,I1,r1,q1⟩=>?_) (by rw [hs,iL]) (by rw [iL];rfl)))
 obtain ⟨i,j,e,⟨q1,q2,q3,q4⟩,q⟩:=q1;subst e;cases r1 with
 |cons r rr=>
  cases rr with
  |cons r' rr=>
   cases rr;obtain ⟨t,rfl⟩:=r;obtain ⟨t',rfl⟩:=r';exact call_range_2 (nY I1 q1 q2 q3 q4 q)
def Il(wi:TI)(g:TG)(tb:TS):TS:=λD σ H=>wi σ H λJ H1=>∃W:Nat→Nat→St→Hp→Prop,(∃m,W 0 m σ H1)∧∀i m σ H,W i m σ H→
 (J.stop i H∧D.nx σ H)∨(J.go i H∧∃N:St→Hp→Prop,(∀aq H',N aq H'→∃m',m'<m∧W (i+1) m' aq H')∧∀x H',J.yld i H x H'→g x σ H' λeX H2=>tb {D with nx:=N,ct:=N,bk:=D.nx} eX H2)
def jx(fp:List Addr)(h:Heap):List (Addr×Obj):=fp.filterMap λb=>(h.get? b).map λo=>(b,o)
theorem fc{fp:List Addr}{h:Heap}{b:Addr}{o:Obj}(hb:b∈fp)(e:h.get? b=some o):(b,o)∈jx fp h:=List.mem_filterMap.mpr ⟨b,hb,by rw [e];rfl⟩
theorem tO{fp:List Addr}{h:Heap}{p:Addr×Obj}(hp:p∈jx fp h):p.1∈fp∧h.get? p.1=some p.2:=by
 obtain ⟨b,hb,e⟩:=List.mem_filterMap.mp hp;cases q:h.get? b with
 |none=>rw [q] at e;cases e
 |some o=>
  rw [q] at e;have e':(b,o)=p:=Option.some.inj e;subst e';exact ⟨hb,q⟩
theorem Inv.pinned{pins:List (Addr×Obj)}{σ:St}{H:Hp}{s:Shared}{fp:List Addr}(I:Inv X pins σ H s)(hf:∀b∈fp,dJ X pins H b)(ho:∀b∈fp,∃o,s.heap.get? b=some o∧∀v,o.data≠ .cell v):Inv X (pins++jx fp s.heap) σ H s:=
 I.jy λp hp=>(og.mp hp).elim (λz=>I.pin p (dQ _ z)) λz=>by
  obtain ⟨hb,e⟩:=tO z;obtain ⟨f0,f1,f2,_⟩:=hf p.1 hb;obtain ⟨o,e',d⟩:=ho p.1 hb;rw [e] at e';cases e';exact ⟨e,f0,f1,f2,d⟩
theorem Inv.hZ{pins pl:List (Addr×Obj)}{σ:St}{H:Hp}{s:Shared}(I:Inv X (pins++pl) σ H s):Inv X pins σ H s:=I.jy λp hp=>I.pin p (dQ _ (iB _ hp))
theorem uS{iter:Expr}{body:List Stmt}{wi:TI}{g:TG}{tb:TS}{pos:Pos}(hp:PassesOwn (model X.prog X.w) X.A X.env X.xe)(hc:X.calm=true)(hi:PI X tg iter wi)(hg:PG X tg g)(hb:eY X body tb)
  (hs:∀x,foldedSetIterable iter X.env x=pure x:=by intro _;rfl):PS X (.For tg iter body [] pos) (Il wi g tb):=by
 intro pins s σ H D I h;refine wpAny_For (thn (hi pins s σ H _ I h) λv s1 h1=>thn h1 λrb s2 h2=>?_) hs;obtain ⟨it,fp,tn,J,H2,e,I2,T,nh,f2,W,⟨m0,w0⟩,turn⟩:=h2;subst e;have stat:∀{H':Hp},(∀b∈fp,H' b=none)→∀b∈fp,dJ X pins H' b:=λhn b hb=>⟨hn b hb,(f2 b hb).2⟩;refine codeAny_forLoop_any (λn s'=>∃i aq H',Inv X pins aq H' s'∧tn i s'.heap∧(∀b∈fp,H' b=none)∧W i n aq H') ?_ m0 ⟨0,σ,H2,I2,nh,λb hb=>(f2 b hb).1,w0⟩;rintro n s3 ⟨i,kQ,H3,I3,y2,FH,w3⟩
 rcases turn i n kQ H3 w3 with ⟨stop,qn⟩ | ⟨go,N,hN,step⟩
 ·refine wpAny_passesOwn hp (thn (T.done X rfl rfl rfl hc i pins s3 kQ H3 X.xe I3 (stat FH) y2 stop) λr s4 ⟨hr,I4⟩=>?_)
  subst hr;exact wpAny_execs_nil ⟨kQ,H3,I4,qn⟩
 ·refine wpAny_passesOwn hp (thn (T.item X rfl rfl rfl hc i pins s3 kQ H3 X.xe I3 (stat FH) y2 go) λr s4 ⟨u,hr,h4⟩=>?_)
  subst hr;refine wpAny_passesOwn hp (thn h4 λ_ s5 ⟨x,H5,I5,r5,y5,wu,zO⟩=>?_);have BX:=I5.pinned (stat zO) (T.obj _ _ wu);refine wpAny_passesOwn hp (thn (hg _ s5 kQ H5 x u _ BX r5 (step x H5 y5)) λ_ s6 ⟨Om,H6,I6,q6⟩=>?_);refine wpAny_passesOwn hp (thn (hb _ s6 Om H6 _ I6 q6) λf s7 q7=>?_)
  have again:∀{mJ:St}{H7:Hp},Inv X (pins++jx fp s5.heap) mJ H7 s7→N mJ H7→∃m,m<n∧∃i aq H',Inv X pins aq H' s7∧tn i s7.heap∧(∀b∈fp,H' b=none)∧W i m aq H':=λ {mJ H7} I7 n7=>by
   obtain ⟨m',hm,w7⟩:=hN mJ H7 n7;refine ⟨m',hm,i+1,mJ,H7,I7.hZ,T.keep _ _ _ wu λb hb o e=>(I7.pin (b,o) (dQ _ (dQ _ (fc hb e)))).1,λb hb=>?_,w7⟩;obtain ⟨o,e,d⟩:=T.obj _ _ wu b hb;exact (I7.pin (b,o) (dQ _ (dQ _ (fc hb e)))).2.1
  cases f with
  |next=>obtain ⟨mJ,H7,I7,n7⟩:=q7;exact again I7 n7
  |cont=>obtain ⟨mJ,H7,I7,n7⟩:=q7;exact again I7 n7
  |brk=>obtain ⟨mJ,H7,I7,q7⟩:=q7;exact ⟨mJ,H7,I7.hZ,q7⟩
  |ret v=>obtain ⟨x7,mJ,H7,I7,r7,q7⟩:=q7;exact ⟨x7,mJ,H7,I7.hZ,r7,q7⟩
end
abbrev R2:=V→V→Hp→VK→Prop
def OpR(X:Cx)(f:Value→Value→Sem Value)(r:R2):Prop:=
 ∀(pins:List (Addr×Obj))(s:Shared)(σ:St)(H:Hp)(x y:V)(v u:Value)(Q:VK),Inv X pins σ H s→RelV x v→RelV y u→r x y H Q→
  wpAny (model X.prog X.w) X.A (f v u) (EP X pins σ Q) X.xe s
def CallR(X:Cx)(f:Value)(r:List V→Hp→VK→Prop):Prop:=
 ∀(pins:List (Addr×Obj))(s:Shared)(σ:St)(H:Hp)(xs:List V)(us:List Value)(Q:VK),Inv X pins σ H s→Vals xs us→r xs H Q→
  wpAny (model X.prog X.w) X.A (call f us) (EP X pins σ Q) X.xe s
def Eh(X:Cx)(r:V→Hp→(Bool→Hp→Prop)→Prop):Prop:=
 ∀(pins:List (Addr×Obj))(s:Shared)(σ:St)(H:Hp)(x:V)(v:Value)(Q:Bool→Hp→Prop),Inv X pins σ H s→RelV x v→r x H Q→
  wpAny (model X.prog X.w) X.A (truthy v) (TP X pins σ Q) X.xe s
def zc(r:R2)(ta tb:TE):TE:=λσ H Q=>ta σ H λx H1=>tb σ H1 λy H2=>r x y H2 Q
def rI(C:Int→Int→Prop)(g:Int→Int→V):R2:=λx y H Q=>∃i j,x= .int i∧y= .int j∧C i j∧Q (g i j) H
def pU(g:Int→Int→V):R2:=λx y H Q=>∃i j,x= .int i∧y= .int j∧Q (g i j) H
section
variable {X:Cx} {a b c:Expr} {ta tb tc:TE} {pos:Pos}
theorem wU(ha:PE X a ta)(hb:PE X b tb){pins:List (Addr×Obj)}{s:Shared}{σ:St}{H:Hp}{R:V→V→Hp→Prop}(I:Inv X pins σ H s)
  (h:ta σ H λx H1=>tb σ H1 λy H2=>R x y H2) {Q:Value→Shared→Prop} {f:Value→Value→Sem Value}
  (hf:∀v u s2 x y H2,Inv X pins σ H2 s2→RelV x v→RelV y u→R x y H2→wpAny (model X.prog X.w) X.A (f v u) Q X.xe s2):
  wpAny (model X.prog X.w) X.A (eval a X.env) (λv s₁=>wpAny (model X.prog X.w) X.A (eval b X.env) (λu y4=>wpAny (model X.prog X.w) X.A (f v u) Q X.xe y4) X.xe s₁) X.xe s:=by
 refine thn (ha pins s σ H _ I h) λv s1 ⟨x,H1,I1,r1,q1⟩=>?_;refine thn (hb pins s1 σ H1 _ I1 q1) λu s2 ⟨y,H2,I2,r2,q2⟩=>?_;exact hf v u s2 x y H2 I2 r1 r2 q2
theorem Dx{op:Operator}{r:R2}(ho:OpR X (binaryOp op) r)(ha:PE X a ta)(hb:PE X b tb):PE X (.BinOp a op b pos) (zc r ta tb):=by
 intro pins s σ H Q I h;exact wpAny_BinOp (wU ha hb I h λv u s2 x y H2 I2 rx ry q=>ho pins s2 σ H2 x y v u Q I2 rx ry q)
theorem Ak{f:Value→Value→Sem Value}{C:Int→Int→Prop}{g:Int→Int→Int}
  (rule:∀(i j:Int)(t u:Tok)(s:Shared)(Q:Value→Shared→Prop)(E:Value→Shared→Prop),C i j→Q (.int (g i j) s.toks) {s with toks:=s.toks+1}→wpAny (model X.prog X.w) X.A (f (.int i t) (.int j u)) Q E s):
  OpR X f (rI C λi j=> .int (g i j)):=by
 intro pins s σ H x y v u Q I rx ry h;obtain ⟨i,j,rfl,rfl,hc,q⟩:=h;obtain ⟨t,rfl⟩:=rx;obtain ⟨t',rfl⟩:=ry;exact rule i j t t' s _ _ hc ⟨.int (g i j),H,I.tok _,⟨_,rfl⟩,q⟩
theorem BN{f:Value→Value→Sem Value}{g:Int→Int→Int}
  (rule:∀(i j:Int)(t u:Tok)(s:Shared)(Q:Value→Shared→Prop)(E:Value→Shared→Prop),Q (.int (g i j) s.toks) {s with toks:=s.toks+1}→wpAny (model X.prog X.w) X.A (f (.int i t) (.int j u)) Q E s):
  OpR X f (pU λi j=> .int (g i j)):=by
 intro pins s σ H x y v u Q I rx ry h;obtain ⟨i,j,rfl,rfl,q⟩:=h;obtain ⟨t,rfl⟩:=rx;obtain ⟨t',rfl⟩:=ry;exact rule i j t t' s _ _ ⟨.int (g i j),H,I.tok _,⟨_,rfl⟩,q⟩
theorem yu{f:Value→Value→Sem Value}{g:Int→Int→Bool}
  (rule:∀(i j:Int)(t u:Tok)(s:Shared)(Q:Value→Shared→Prop)(E:Value→Shared→Prop),Q (.bool (g i j)) s→wpAny (model X.prog X.w) X.A (f (.int i t) (.int j u)) Q E s):
  OpR X f (pU λi j=> .bl (g i j)):=by
 intro pins s σ H x y v u Q I rx ry h;obtain ⟨i,j,rfl,rfl,q⟩:=h;obtain ⟨t,rfl⟩:=rx;obtain ⟨t',rfl⟩:=ry;exact rule i j t t' s _ _ ⟨.bl (g i j),H,I,rfl,q⟩
def Ba(i j:Int):Prop:=0<j∧j<1073741824
def Bb(i j:Int):Prop:=0≤j∧j≤1000000∧i.natAbs<2^64
def qa(i j:Int):Prop:=(-(2^64)<i∧i<2^64)∨(-(2^64)<j∧j<2^64)
theorem qa.ok{i j:Int}(h:qa i j):IntMulOk i j:=by
 rcases h with ⟨h1,h2⟩ | ⟨h1,h2⟩
 ·exact .of_left (intBits_le_64 h1 h2)
 ·exact .of_right (intBits_le_64 h1 h2)
theorem Al:OpR X (binaryOp .Add) (pU λi j=> .int (i+j)):=BN λ_ _ _ _ _ _ _ q=>add_int q
theorem Au:OpR X (binaryOp .Sub) (pU λi j=> .int (i-j)):=BN λ_ _ _ _ _ _ _ q=>sub_int q
theorem Aq:OpR X (binaryOp .Mult) (rI qa λi j=> .int (i*j)):=Ak λ_ _ _ _ _ _ _ hc q=>mul_int q hc.ok
theorem yw:OpR X (binaryOp .FloorDiv) (rI Ba λi j=> .int (i / j)):=Ak λi j _ _ _ _ _ hc q=>by
 have h1:(0:Int)<j:=hc.1;have h2:j<1073741824:=hc.2;exact floordiv_int (by omega) (by rw [Int.fdiv_eq_ediv_of_nonneg i (by omega)];exact q) (.inl (PyProof.noPylong_small (by omega)))
theorem Ap:OpR X (binaryOp .Mod) (rI (λ_ j=>0<j) λi j=> .int (i%j)):=Ak λi j _ _ _ _ _ hc q=>by
 have h1:(0:Int)<j:=hc;exact mod_int' (by omega) (by rw [Int.fmod_eq_emod_of_nonneg i (by omega)];exact q)
theorem Ar:OpR X (binaryOp .Pow) (rI Bb λi j=> .int (i^j.toNat)):=Ak λ_ _ _ _ _ _ _ hc q=>pow_int_small hc.1 hc.2.1 hc.2.2 q
end
section
variable {X:Cx} {a b c:Expr} {ta tb tc:TE} {pos:Pos}
theorem uD{pins:List (Addr×Obj)}{σ:St}{H:Hp}{s:Shared}{Q:VK}{k k':Bool}(I:Inv X pins σ H s)(q:Q (.bl k) H)(e:k=k'):EP X pins σ Q (.bool k') s:=by
 subst e;exact ⟨.bl k,H,I,rfl,q⟩
theorem Dr:OpR X (compareOp .Lt) (pU λi j=> .bl (decide (i<j))):=yu λ_ _ _ _ _ _ _ q=>lt_int q
theorem Dq:OpR X (compareOp .LtE) (pU λi j=> .bl (decide (i≤j))):=yu λ_ _ _ _ _ _ _ q=>le_int q
theorem Dm:OpR X (compareOp .Gt) (pU λi j=> .bl (decide (j<i))):=yu λ_ _ _ _ _ _ _ q=>gt_int q
theorem Ao:OpR X (compareOp .Is) (λx y H Q=>y= .aC∧Q (.bl (decide (x= .aC))) H):=by
 intro pins s σ H x y v u Q I rx ry h;obtain ⟨rfl,q⟩:=h;cases ry;refine is_none_gen (uD I q ?_)
 cases x<;>first
  | (cases rx;rfl)
  | (obtain ⟨t,rfl⟩:=rx;rfl)
theorem yx:OpR X (compareOp .IsNot) (λx y H Q=>y= .aC∧Q (.bl (!decide (x= .aC))) H):=by
 intro pins s σ H x y v u Q I rx ry h;obtain ⟨rfl,q⟩:=h;cases ry;refine isnot_none_gen (uD I q ?_)
 cases x<;>first
  | (cases rx;rfl)
  | (obtain ⟨t,rfl⟩:=rx;rfl)
theorem OpR.or{f:Value→Value→Sem Value}{r r':R2}(h:OpR X f r)(h':OpR X f r'):OpR X f (λx y H Q=>r x y H Q∨r' x y H Q):=by
 intro pins s σ H x y v u Q I rx ry q
 rcases q with q|q
 ·exact h pins s σ H x y v u Q I rx ry q
 ·exact h' pins s σ H x y v u Q I rx ry q
theorem bg(b:Expr){op:CmpOp}(h:op≠ .In:=by decide)(h2:op≠ .NotIn:=by decide):behindInMarks op b=false:=by
 have e1:(op==CmpOp.In)=false:=by cases op<;>first|rfl|exact absurd rfl h
 have e2:(op==CmpOp.NotIn)=false:=by cases op<;>first|rfl|exact absurd rfl h2
 cases b<;>simp [behindInMarks,e1,e2]
theorem yA{op:CmpOp}{r:R2}(ho:OpR X (compareOp op) r)(ha:PE X a ta)(hb:PE X b tb)(hm:behindInMarks op b=false):PE X (.Compare a [op] [b] pos) (zc r ta tb):=by
 intro pins s σ H Q I h;exact wpAny_Compare1 (wU ha hb I h λv u s2 x y H2 I2 rx ry q=>ho pins s2 σ H2 x y v u Q I2 rx ry q) hm
def t6(t:TE):TT:=λσ H Q=>t σ H λx H'=>∃k,x= .bl k∧Q k H'
theorem yI{op:CmpOp}{r:R2}(ho:OpR X (compareOp op) r)(ha:PE X a ta)(hb:PE X b tb)(hm:behindInMarks op b=false):PT X (.Compare a [op] [b] pos) (t6 (zc r ta tb)):=by
 intro pins s σ H Q I h
 refine wpAny_isTrue_Compare1 (thn (ha pins s σ H _ I h) λv s1 ⟨x,H1,I1,r1,q1⟩=>thn (hb pins s1 σ H1 _ I1 q1) λu s2 ⟨y,H2,I2,r2,q2⟩=>
  thn (ho pins s2 σ H2 x y v u _ I2 r1 r2 q2) λc s3 ⟨z,H3,I3,r3,k,e,q3⟩=>?_) hm
 subst e;cases r3;exact wpAny_truthy_bool ⟨H3,I3,q3⟩
def p6(r r':R2)(ta tb tc:TE):TE:=λσ H Q=>ta σ H λx H1=>tb σ H1 λy H2=>r x y H2 λz H3=>∃k,z= .bl k∧
 (if k=true then tc σ H3 λw' H4=>r' y w' H4 Q else Q (.bl false) H3)
theorem vW{op iR:CmpOp}{r r':R2}(ho:OpR X (compareOp op) r)(iK:OpR X (compareOp iR) r')(ha:PE X a ta)(hb:PE X b tb)(hc:PE X c tc)
  (hm:lastMarks [op,iR] [b,c]=false:=by with_unfolding_all rfl):PE X (.Compare a [op,iR] [b,c] pos) (p6 r r' ta tb tc):=by
 intro pins s σ H Q I h
 refine Compare_chain (thn (ha pins s σ H _ I h) λv s1 ⟨x,H1,I1,r1,q1⟩=>chain_link (thn (hb pins s1 σ H1 _ I1 q1) λu s2 ⟨y,H2,I2,r2,q2⟩=>
  thn (ho pins s2 σ H2 x y v u _ I2 r1 r2 q2) λd s3 ⟨z,H3,I3,r3,k,e,q3⟩=>?_)) hm
 subst e;cases r3;refine wpAny_truthy_bool ?_;cases k with
 |false=>exact ite_ff ⟨.bl false,H3,I3,rfl,q3⟩
 |true=>exact ite_tt (chain_last (thn (hc pins s3 σ H3 _ I3 q3) λw' s4 ⟨z',H4,I4,r4,q4⟩=>iK pins s4 σ H4 y z' u w' Q I4 r2 r4 q4))
theorem wa{op iR:CmpOp}{r r':R2}(ho:OpR X (compareOp op) r)(iK:OpR X (compareOp iR) r')(ha:PE X a ta)(hb:PE X b tb)(hc:PE X c tc)
  (hm:lastMarks [op,iR] [b,c]=false:=by with_unfolding_all rfl):PT X (.Compare a [op,iR] [b,c] pos) (t6 (p6 r r' ta tb tc)):=by
 intro pins s σ H Q I h
 refine isTrue_chain (thn (ha pins s σ H _ I h) λv s1 ⟨x,H1,I1,r1,q1⟩=>test_link (thn (hb pins s1 σ H1 _ I1 q1) λu s2 ⟨y,H2,I2,r2,q2⟩=>
  thn (ho pins s2 σ H2 x y v u _ I2 r1 r2 q2) λd s3 ⟨z,H3,I3,r3,k,e,q3⟩=>?_)) hm
 subst e;cases r3;refine wpAny_truthy_bool ?_;cases k with
 |false=>
  obtain ⟨k',e',q'⟩:=q3;cases e';exact ite_ff ⟨H3,I3,q'⟩
 |true=>
  refine ite_tt (test_last (thn (hc pins s3 σ H3 _ I3 q3) λw' s4 ⟨z',H4,I4,r4,q4⟩=>thn (iK pins s4 σ H4 y z' u w' _ I4 r2 r4 q4) λd' s5 ⟨z2,H5,I5,r5,k2,e2,q5⟩=>?_));subst e2;cases r5;exact wpAny_truthy_bool ⟨H5,I5,q5⟩
def Bf(K:PySem.W.Frag)(x:V)(H:Hp)(k:Bool):Prop:=
 match x with
 | .aC=>k=false
 | .bl b=>k=b
 | .int i=>k=(i !=0)
 | .str y=>y.length≤sizeLine∧k=((y.length:Int) !=0)
 | .va y=>y.size≤sizeLine∧k=((y.size:Int) !=0)
 | .ref p=>(∃xs,bq K H p xs∧k= !xs.isEmpty)∨(∃xs,cg K H p xs∧k= !xs.isEmpty)∨∃bK,H p=some (.dK bK)∧k= !bK.isEmpty
 |_=>False
theorem qY{κ:Type}{bK:List (κ×V)}{vs:List (κ×Value)}(r:KV bK vs):(!vs.isEmpty)= !bK.isEmpty:=by
 cases r<;>rfl
theorem kB{xs:List V}{its:List Value}(r:Vals xs its):(!its.toArray.isEmpty)= !xs.isEmpty:=by
 cases r<;>simp
theorem g9:(sizeLine:Nat)<2^63:=by rw [sizeLine_eq];decide
theorem A3:Eh X (λx H Q=>∃k,Bf X.K x H k∧Q k H):=by
 intro pins s σ H x v Q I rx h;obtain ⟨k,e,q⟩:=h;have hl:=g9;have hs:sizeLine=16777216:=sizeLine_eq;cases x with
 |aC=>
  cases rx;have e':k=false:=e;subst e';exact truthy_none ⟨H,I,q⟩
 |bl b=>
  cases rx;have e':k=b:=e;subst e';exact wpAny_truthy_bool ⟨H,I,q⟩
 |int i=>
  obtain ⟨t,rfl⟩:=rx;have e':k=(i !=0):=e;subst e';exact PySem.P.truthy_int ⟨H,I,q⟩
 |str y=>
  obtain ⟨t,rfl⟩:=rx;obtain ⟨hy,e'⟩:y.length≤sizeLine∧k=((y.length:Int) !=0):=e;subst e';exact PySem.P.truthy_str (by omega) ⟨H,I.tok _,q⟩
 |va y=>
  obtain ⟨t,rfl⟩:=rx;obtain ⟨hy,e'⟩:y.size≤sizeLine∧k=((y.size:Int) !=0):=e;subst e';exact PySem.W.truthy_bytes (by omega) ⟨H,I.tok _,q⟩
 |ref p=>
  cases rx;have e':(∃xs,bq X.K H p xs∧k= !xs.isEmpty)∨(∃xs,cg X.K H p xs∧k= !xs.isEmpty)∨∃bK,H p=some (.dK bK)∧k= !bK.isEmpty:=e
  rcases e' with ⟨xs,hx,e'⟩ | ⟨xs,hx,e'⟩ | ⟨bK,hx,e'⟩
  ·subst e'
   obtain ⟨its,r,pl,hz⟩:=I.list hx;have hlen:=r.length;exact wpAny_truthy_list pl.isList (by simp only [cc];omega) ⟨H,I.tok _,by rw [kB r];exact q⟩
  ·subst e'
   obtain ⟨its,r,pl,hz⟩:=I.tuple hx;have hlen:=r.length;exact truthy_tuple pl (by simp only [cc];omega) ⟨H,I.tok _,by rw [kB r];exact q⟩
  ·subst e'
   obtain ⟨hz,hS,vs,r,m⟩:bK.length≤sizeLine∧(p==sysModules)=false∧∃vs,KV bK vs∧s.heap.DictOf (ma X.prog X.w) p vs:=I.hok p _ hx;have hlen:bK.length=vs.length:=Paired.length r;exact wpAny_truthy_dict hS m (by omega) ⟨H,I.tok _,by rw [qY r];exact q⟩
 |_=>exact (show False from e).elim
theorem wb(ha:PE X a ta)(he:∀whole,isTrue a X.env whole=(do let v ←whole;standAt a.pos;holding [v] (truthy v))):
  PT X a (λσ H Q=>ta σ H λx H'=>∃k,Bf X.K x H' k∧Q k H'):=by
 intro pins s σ H Q I h;exact isTrue_plain (thn (ha pins s σ H _ I h) λv s1 ⟨x,H1,I1,r1,q1⟩=>A3 pins s1 σ H1 x v Q I1 r1 q1) (he _)
theorem vals1{x:V}{us:List Value}(r:Vals [x] us):∃u,us= [u]∧RelV x u:=by
 cases r with
 |cons r1 r2=>cases r2;exact ⟨_,rfl,r1⟩
theorem sD:CallR X (.type "int") (λxs H Q=>(∃i,xs= [.int i]∧Q (.int i) H)∨∃k,xs= [.bl k]∧Q (.int (if k then 1 else 0)) H):=by
 intro pins s σ H xs us Q I r h
 rcases h with ⟨i,rfl,q⟩ | ⟨k,rfl,q⟩
 ·obtain ⟨u,rfl,t,rfl⟩:=vals1 r
  exact call_int_int ⟨.int i,H,I,⟨_,rfl⟩,q⟩
 ·obtain ⟨u,rfl,r1⟩:=vals1 r
  cases r1;exact call_int_bool ⟨.int (if k then 1 else 0),H,I.tok _,⟨_,rfl⟩,q⟩
end
structure lg (h:Heap) (x dx C:Addr) (mA:Str→Option Value):Prop where
 obj:h.get? x=some (PySem.W.instObj C dx)
 ns:h.Ns1 dx mA
 ne:dx≠x
theorem tI{h:Heap}{dx:Addr}{mA:Str→Option Value}(n:h.Ns1 dx mA):∃od,h.get? dx=some od∧∀name,PySem.W.lookIn name od=some (mA name):=by
 obtain ⟨o,es,ep,ho,hd,hk,_,hm⟩:=n;refine ⟨o,ho,λname=>?_⟩;have e:=hm name;unfold nsFind findBy at e;rw [←Array.find?_toList] at e;unfold PySem.W.lookIn;rw [hd];dsimp only
 split
 ·rename_i y q
  rw [q] at e;exact congrArg some e
 ·rename_i q
  rw [q] at e
  have a:es.toList.any (·.refKey)=false:=by
   rw [List.any_eq_false];intro y hy;obtain ⟨z,t,F4⟩:=hk y (Array.mem_toList_iff.mp hy);simp [DictEntry.refKey,F4]
  have a':¬es.toList.any (·.refKey)=true:=by rw [a];exact fJ
  rw [if_neg a'];exact congrArg some e
theorem lg.look{h:Heap}{x dx C:Addr}{mA:Str→Option Value}(I:lg h x dx C mA):∃od,PySem.W.InstAt h x (PySem.W.instObj C dx) C (some od)∧∀name,PySem.W.lookIn name od=some (mA name):=
 let ⟨od,ho,hl⟩:=tI I.ns
 ⟨od,⟨I.obj,rfl,rfl,ho⟩,hl⟩
section
variable {prog:Program} {w:World} {A:Around} {E:Value→Shared→Prop} {s:Shared} {K:PySem.W.Frag} {x dx C f:Addr} {mA:Str→Option Value} {name:Str} {v:Value}
theorem get_map{expr:Bool}{Q:Value→Shared→Prop}(X:K.In s.heap)(I:lg s.heap x dx C mA)(hg:PySem.W.plainGet K C name=true)(hh:PySem.W.hasDictIn K C=true)
  (ha:PySem.W.findIn K (.ref C) name=some none) (hv:mA name=some v) (tE:PySem.W.handedIn v=true) (h:Q v {s with toks:=s.toks+1}):
  wpAny (model prog w) A (getAttr (.ref x) name expr) Q E s:=by
 obtain ⟨od,J,hl⟩:=I.look;exact PySem.W.get_value X J (PySem.W.plainGet_of hg).1 (PySem.W.findObj_own hh ha rfl (by rw [hl,hv])) tE h
theorem vx{pl:Sem Bool}{Q:Value×List Value→Shared→Prop}(X:K.In s.heap)(I:lg s.heap x dx C mA)(hg:PySem.W.plainGet K C name=true)
  (hf:PySem.W.findIn K (.ref C) name=some (some (.ref f))) (ht:PySem.W.isFn K (.ref f)=true) (hv:mA name=none) (h:Q (.ref f,[.ref x]) s):
  wpAny (model prog w) A (getMethod (.ref x) name pl) Q E s:=by
 obtain ⟨od,J,hl⟩:=I.look;exact PySem.W.method_fn X J (PySem.W.plainGet_of hg).1 (PySem.W.plainGet_of hg).2 hf (beq_iff_eq.mp ht) (by show (PySem.W.lookIn name od).map (·.isSome)=some false;rw [hl,hv];rfl) h
theorem yU{ns:List Str}{Q:Unit→Shared→Prop}(X:K.In s.heap)(I:lg s.heap x dx C mA)
  (hs:PySem.W.findIn K (.ref C) "__setattr__"=some (some (.builtin "object.__setattr__"))) (hp:PySem.W.plainOver K C=true) (ht:PySem.W.takerIn K C name=some none) (hh:PySem.W.hasDictIn K C=true)
  (hw:PySem.Within mA ns) (vF:ns.length≤sizeLine)
  (h:∀h',lg h' x dx C (λy=>if y=name then some v else mA y)→Heap.SameBut dx s.heap h'→Q () {s with heap:=h',toks:=s.toks+2}):
  wpAny (model prog w) A (setAttr (.ref x) name v) Q E s:=by
 obtain ⟨od,J,hl⟩:=I.look;refine PySem.W.set_plain X J hs (PySem.W.osa_open (s:={s with toks:=s.toks+1}) (r:=none) X J hp ht λb=>?_)
 obtain ⟨cd,hc,gr⟩:=PySem.W.any_some hh;have hx:s.heap.get? x=some ⟨.ref C,some dx, .plain, #[]⟩:=I.obj;refine wpAny_bind (wpAny_pure (wpAny_bind (wpAny_bind (wpAny_loadPart hx (wpAny_bind (PySem.W.Looks.here (s:={s with toks:=s.toks+1}) (PySem.W.looks_clsIn X hc) ?_))))))
 rw [gr];refine wpAny_pure (a:=some dx) (wpAny_bind (wpAny_pure (wpAny_bind ?_)));refine wpAny_nsSet1 (s:={s with toks:=s.toks+1}) I.ns λh' zV iL=>?_
 obtain ⟨oD,OI,OH,K1,KG,o9⟩:=zV.count (PySem.Within.cons name v hw);refine wpAny_bind (wpAny_lookBehind K1 (by rw [KG];exact pastItsLine_dict (fH o9 (by rw [cR];omega))) ?_)
 exact wpAny_pure (h _ ⟨(iL.2 _ (Ne.symm I.ne)).trans I.obj,zV,I.ne⟩ iL)
theorem vM{R:Result→Shared→Prop}{vs:List Value}{kw:List (Str×Value)}(X:K.In s.heap)(hm:PySem.W.makesIn K C=true)
  (hi:PySem.W.findIn K (.ref C) "__init__"=some (some (.ref f))) (hf:PySem.W.typeIn K (.ref f)=some (.type "function"))
  (h:codeAny (model prog w) (A.under (.builtin "type.__call__" ⟨.ref C::vs,kw⟩)) (.call (.ref f) ⟨.ref (s.heap.objs.size+1)::vs,kw⟩) (PySem.W.InitBack (s.heap.objs.size+1) R)
   {s with heap:=(s.heap.push PySem.W.emptyDict).push (PySem.W.instObj C s.heap.objs.size)}):
  codeAny (model prog w) A (.call (.ref C) ⟨vs,kw⟩) R s:=by
 obtain ⟨hh,g,d,t,os⟩:=s;exact PySem.W.make_core (PySem.W.makes_of X hm) (PySem.W.looks_findIn X hi) (λself=>PySem.W.bind_fn X self hf) (.inl rfl) h
end
def dO(f:Str)(v:V):List (Str×V)→List (Str×V)
 | []=> [(f,v)]
 | (g,x)::r=>if g=f then (g,v)::r else (g,x)::dO f v r
theorem jt(f g:Str)(v:V):∀fs:List (Str×V),(dO f v fs).lookup g=if g=f then some v else fs.lookup g
 | []=>by
  show List.lookup g [(f,v)]=_
  by_cases h:g=f
  ·have hb:(g==f)=true:=beq_iff_eq.mpr h
   simp only [List.lookup,hb,if_pos h]
  ·have hb:(g==f)=false:=beq_eq_false_iff_ne.mpr h
   simp only [List.lookup,hb,if_neg h]
 | (k,x)::r=>by
  have ih:=jt f g v r;rw [show dO f v ((k,x)::r)=(if k=f then (k,v)::r else (k,x)::dO f v r) from rfl]
  by_cases hk:k=f
  ·rw [if_pos hk]
   by_cases h:g=k
   ·have hb:(g==k)=true:=beq_iff_eq.mpr h
    simp only [List.lookup,hb,if_pos (h.trans hk)]
   ·have hb:(g==k)=false:=beq_eq_false_iff_ne.mpr h
    simp only [List.lookup,hb,if_neg (λe:g=f=>h (e.trans hk.symm))]
  ·rw [if_neg hk]
   by_cases h:g=k
   ·have hb:(g==k)=true:=beq_iff_eq.mpr h
    simp only [List.lookup,hb,if_neg (λe:g=f=>hk (h.symm.trans e))]
   ·have hb:(g==k)=false:=beq_eq_false_iff_ne.mpr h
    simp only [List.lookup,hb];exact ih
theorem iN(f:Str)(v:V):∀fs:List (Str×V),f∈(dO f v fs).map (·.1)∧∀g,g∈fs.map (·.1)→g∈(dO f v fs).map (·.1)
 | []=>⟨by simp [dO],λg h=>by simp at h⟩
 | (k,x)::r=>by
  obtain ⟨i1,i2⟩:=iN f v r;rw [show dO f v ((k,x)::r)=(if k=f then (k,v)::r else (k,x)::dO f v r) from rfl]
  by_cases hk:k=f
  ·rw [if_pos hk]
   subst hk;exact ⟨by simp,λg h=>by simpa using h⟩
  ·rw [if_neg hk]
   refine ⟨?_,λg h=>?_⟩
   ·rw [oh]
    exact fu _ i1
   ·rw [oh] at h ⊢
    rcases eU.mp h with e|e
    ·exact eU.mpr (.inl e)
    ·exact fu _ (i2 g e)
theorem js(f:Str)(v:V):∀fs:List (Str×V),(dO f v fs).length≤fs.length+1
 | []=>by simp [dO]
 | (k,x)::r=>by
  have ih:=js f v r;rw [show dO f v ((k,x)::r)=(if k=f then (k,v)::r else (k,x)::dO f v r) from rfl]
  by_cases hk:k=f
  ·rw [if_pos hk,cR,cR];omega
  ·rw [if_neg hk,cR,cR];omega
theorem f9.some_of{v:V}{o:Option Value}(r:f9 (some v) o):∃u,o=some u∧RelV v u:=by
 cases o with
 |none=>exact (show False from r).elim
 |some u=>exact ⟨u,rfl,r⟩
theorem f9.none_of{o:Option Value}(r:f9 none o):o=none:=by
 cases o with
 |none=>rfl
 |some u=>exact (show False from r).elim
theorem sY{v:V}{u:Value}(r:RelV v u):PySem.W.handedIn u=true:=by
 cases v with
 |aC=>cases (show u=Value.none from r);rfl
 |bl b=>cases (show u=Value.bool b from r);rfl
 |int i=>obtain ⟨t,e⟩:=(show ∃t,u=Value.int i t from r);cases e;rfl
 |str x=>obtain ⟨t,e⟩:=(show ∃t,u=Value.str x t from r);cases e;rfl
 |va b=>obtain ⟨t,e⟩:=(show ∃t,u=Value.bytes b t from r);cases e;rfl
 |sQ b=>obtain ⟨t,e⟩:=(show ∃t,u=Value.float b t from r);cases e;rfl
 |ref a=>cases (show u=Value.ref a from r);rfl
 |ty n=>cases (show u=Value.type n from r);rfl
section
variable {P:Program} {w:World} {H H':Hp} {h h':Heap} {a C dx:Addr} {fs Ko:List (Str×V)}
theorem jn(hok:cw P w H h)(e:H a=some (.ins C dx fs)):∃mA,lg h a dx C mA∧(∀f,f9 (fs.lookup f) (mA f))∧PySem.Within mA (fs.map (·.1))∧fs.length≤1000∧H dx=some (.own a):=by
 obtain ⟨d,z,ne,ob,mA,n,r,q⟩:=(show bh P w H h a (.ins C dx fs) from hok a _ e);exact ⟨mA,⟨ob,n,ne⟩,r,q,z,d⟩
end
structure mK (K:PySem.W.Frag) (C:Addr):Prop where
 pg:PySem.W.plainGet K C Str.empty=true
 hd:PySem.W.hasDictIn K C=true
 po:PySem.W.plainOver K C=true
 sa:PySem.W.findIn K (.ref C) "__setattr__"=some (some (.builtin "object.__setattr__"))
theorem mK.get{K:PySem.W.Frag}{C:Addr}(c:mK K C)(f:Str):PySem.W.plainGet K C f=true:=c.pg
def fM(K:PySem.W.Frag)(C:Addr)(f:Str):Prop:=PySem.W.findIn K (.ref C) f=some none
theorem fM.D1{K:PySem.W.Frag}{C:Addr}{f:Str}(n:fM K C f):PySem.W.takerIn K C f=some none:=by
 unfold PySem.W.takerIn;rw [show PySem.W.findIn K (.ref C) f=some none from n];rfl
structure Meth (K:PySem.W.Frag) (C:Addr) (m:Str) (f:Addr):Prop where
 at_:PySem.W.findIn K (.ref C) m=some (some (.ref f))
 fn:PySem.W.isFn K (.ref f)=true
 kp:PySem.W.keepIn K (.ref f)=true
section
variable {X:Cx} {pins:List (Addr×Obj)} {σ:St} {H:Hp} {s:Shared} {a C dx:Addr} {fs:List (Str×V)} {f:Str} {v:V} {A:Around} {E:Value→Shared→Prop}
theorem qO{b:Bool}{Q:Value→Shared→Prop}(I:Inv X pins σ H s)(e:H a=some (.ins C dx fs))(c:mK X.K C)(n:fM X.K C f)(l:fs.lookup f=some v)
  (h:∀u s',Inv X pins σ H s'→RelV v u→Q u s'):wpAny (model X.prog X.w) A (getAttr (.ref a) f b) Q E s:=by
 obtain ⟨mA,O,r,_,_,_⟩:=jn I.hok e;obtain ⟨u,hu,ru⟩:=f9.some_of (v:=v) (o:=mA f) (by rw [←l];exact r f)
 exact get_map I.bO O (c.get f) c.hd n hu (sY ru) (h u _ (I.tok _) ru)
theorem qP{m:Str}{g:Addr}{pl:Sem Bool}{Q:Value×List Value→Shared→Prop}(I:Inv X pins σ H s)(e:H a=some (.ins C dx fs))(c:mK X.K C)(k:Meth X.K C m g)(l:fs.lookup m=none)
  (h:Q (.ref g,[.ref a]) s):wpAny (model X.prog X.w) A (getMethod (.ref a) m pl) Q E s:=by
 obtain ⟨mA,O,r,_,_,_⟩:=jn I.hok e;have hn:mA m=none:=f9.none_of (by rw [←l];exact r m)
 exact vx I.bO O (c.get m) k.at_ k.fn hn h
theorem rR{y:V}{u:Value}{Q:Unit→Shared→Prop}(I:Inv X pins σ H s)(e:H a=some (.ins C dx fs))(c:mK X.K C)(n:fM X.K C f)(hl:fs.length<1000)(ry:RelV y u)
  (h:∀s',Inv X pins σ (upd H a (.ins C dx (dO f y fs))) s'→Q () s'):wpAny (model X.prog X.w) A (setAttr (.ref a) f u) Q E s:=by
 obtain ⟨mA,O,r,wi,_,ho⟩:=jn I.hok e;have hz:(fs.map (·.1)).length≤sizeLine:=by rw [cQ,sizeLine_eq];omega
 refine yU I.bO O c.sa c.po n.D1 c.hd wi hz λh' O' sb=>h _ ?_;have hd:∃o,h'.get? dx=some o:=let ⟨o,_,_,e',_⟩:=O'.ns;⟨o,e'⟩;refine I.write (x:=a) (e:=dx) (by rw [e];exact True.intro) (.inr ho) (λb q hb z=>(sb.2 b hb).trans z) hd ?_
 refine ⟨by rw [ar O.ne];exact ho,?_,O.ne,O'.obj,_,O'.ns,λg=>?_,λg hg=>?_⟩
 ·have:=js f y fs;omega
 ·show f9 ((dO f y fs).lookup g) (if g=f then some u else mA g)
  rw [jt]
  by_cases q:g=f
  ·rw [if_pos q,if_pos q];exact ry
  ·rw [if_neg q,if_neg q];exact r g
 ·by_cases q:g=f
  ·rw [q];exact (iN f y fs).1
  ·refine (iN f y fs).2 g (wi g λz=>hg ?_)
   show (if g=f then some u else mA g)=none;rw [if_neg q];exact z
theorem Inv.made(I:Inv X pins σ H s):Inv X pins σ (upd (upd H s.heap.objs.size (.own (s.heap.objs.size+1))) (s.heap.objs.size+1) (.ins C s.heap.objs.size []))
  {s with heap:=(s.heap.push PySem.W.emptyDict).push (PySem.W.instObj C s.heap.objs.size)}:=by
 have e1:(s.heap.push PySem.W.emptyDict).get? s.heap.objs.size=some PySem.W.emptyDict:=Heap.get?_push_size s.heap rfl
 have e2:((s.heap.push PySem.W.emptyDict).push (PySem.W.instObj C s.heap.objs.size)).get? (s.heap.objs.size+1)=some (PySem.W.instObj C s.heap.objs.size):=by
  have:=Heap.get?_push_size (s.heap.push PySem.W.emptyDict) (o:=PySem.W.instObj C s.heap.objs.size) rfl
  rwa [Heap.size_push] at this
 have e3:(s.heap.push PySem.W.emptyDict).Ns s.heap.objs.size (λ_=>none):=⟨PySem.W.emptyDict, #[],_,e1,rfl,(λe he=>absurd he (by simp)),λ_=>rfl⟩
 have I1:=I.laid (a:=s.heap.objs.size) (o:= .own (s.heap.objs.size+1)) (h':=s.heap.push PySem.W.emptyDict) (t':=s.toks) (λb u q=>Heap.get?_push_of_some _ q) (bW _) ⟨_,e1⟩;refine I1.laid (a:=s.heap.objs.size+1) (o:= .ins C s.heap.objs.size []) (t':=s.toks) (λb u q=>Heap.get?_push_of_some _ q) (Nat.le_of_eq (Heap.size_push _ _)) ?_;have ne:s.heap.objs.size≠s.heap.objs.size+1:=bA (Nat.lt_succ_self _);refine ⟨by rw [ar ne,ak],iD _,ne,e2,λ_=>none,(Heap.Ns1.of_empty e3).at λo q=>Heap.get?_push_of_some _ q,λ_=>True.intro,λy hy=>absurd rfl hy⟩
theorem wM{prog:Program}{w:World}{env:Env}{e:Expr}{f:Str}{pos:Pos}{s:Shared}{Q:Value→Shared→Prop}(hb:attributeBase e f env (eval e env)=eval e env)
  (h:wpAny (model prog w) A (eval e env) (λo s₁=>wpAny (model prog w) A (getAttr o f true) Q E s₁) E s):wpAny (model prog w) A (eval (.Attribute e f pos) env) Q E s:=
 Attribute_any_ h (by rw [arm_eval_Attribute,hb])
end
def Ik(K:PySem.W.Frag)(ta:TE)(f:Str):TE:=λσ H Q=>ta σ H λx H1=>∃a C dx fs v,x= .ref a∧H1 a=some (.ins C dx fs)∧mK K C∧fM K C f∧fs.lookup f=some v∧Q v H1
def HK(K:PySem.W.Frag)(ta tv:TE)(f:Str):TS:=λD σ H=>tv σ H λy H1=>ta σ H1 λx H2=>∃a C dx fs,x= .ref a∧H2 a=some (.ins C dx fs)∧mK K C∧fM K C f∧fs.length<1000∧
 D.nx σ (upd H2 a (.ins C dx (dO f y fs)))
section
variable {X:Cx} {o e value:Expr} {f:Str} {pos pos' IB:Pos} {ta tv:TE}
theorem Ax(he:PE X e ta)(hb:attributeBase e f X.env (eval e X.env)=eval e X.env):PE X (.Attribute e f pos) (Ik X.K ta f):=by
 intro pins s σ H Q I h;refine wM hb (thn (he pins s σ H _ I h) λu s1 ⟨x,H1,I1,rx,a,C,dx,fs,v,ex,ea,c,n,l,q⟩=>?_);subst ex;obtain rfl:u=Value.ref a:=rx;exact qO I1 ea c n l λu' s2 I2 ru=>⟨v,H1,I2,ru,q⟩
theorem AG(ha:PE X o ta)(hv:PE X value tv)(hs:swapsWith value (some (.Attribute o f pos')) pos.line X.env=pure false):PS X (.Assign [.Attribute o f pos'] value pos) (HK X.K ta tv f):=by
 intro pins s σ H D I h;refine plainObj_wpAny_Assign_Attribute (thn (hv pins s σ H _ I h) λu s1 ⟨y,H1,I1,ry,q⟩=>thn (ha pins s1 σ H1 _ I1 q) λov s2 ⟨x,H2,I2,rx,a,C,dx,fs,ex,ea,c,n,l,q2⟩=>?_) hs;subst ex;obtain rfl:ov=Value.ref a:=rx;exact rR I2 ea c n l ry λs3 I3=>⟨σ,_,I3,q2⟩
end
section
variable {X:Cx} {pins:List (Addr×Obj)} {σ:St} {H:Hp} {s:Shared} {A:Around} {E:Value→Shared→Prop} {Q:Value→Shared→Prop} {c:Value} {b:Bool}
inductive eZ (K:PySem.W.Frag) (H:Hp):V→Value→Prop where
 |aC:eZ K H .aC (.type "NoneType")
 |bl (x:Bool):eZ K H (.bl x) (.type "bool")
 |int (i:Int):eZ K H (.int i) (.type "int")
 |str (x:Str):eZ K H (.str x) (.type "str")
 |sQ (x:UInt64):eZ K H (.sQ x) (.type "float")
 |lst {a:Addr} {xs:List V} (e:H a=some (.lst xs)):eZ K H (.ref a) (.type "list")
 |jh {a:Addr} {o:Obj} {xs:List V} (e:H a=some (.jh o (.lst xs))):eZ K H (.ref a) (.type "list")
 |tup {a:Addr} {xs:List V} (e:H a=some (.tup xs)):eZ K H (.ref a) (.type "tuple")
 |dK {a:Addr} {bK:List (Key×V)} (e:H a=some (.dK bK)):eZ K H (.ref a) (.type "dict")
 |dT {a:Addr} {bK:List (List Key×V)} (e:H a=some (.dT bK)):eZ K H (.ref a) (.type "dict")
 |ins {a C dx:Addr} {fs:List (Str×V)} (e:H a=some (.ins C dx fs)) (cl:mK K C) (ha:PySem.W.findIn K (.ref C) "__class__"=some (some (.builtin "object.__class__")))
   (hn:PySem.W.specialIn K (.builtin "object.__class__") "__get__"=some (some (.builtin "getset_descriptor.__get__"))) (htk:PySem.W.takesIn K (.builtin "object.__class__")=some true)
   (hm:PySem.W.mroIn K C (.type "object")=some true):eZ K H (.ref a) (.ref C)
theorem tG{x:V}{u t:Value}(I:Inv X pins σ H s)(rx:RelV x u)(ty:eZ X.K H x t)(e:PySem.W.kitOne X.K t c=some b)(h:∀tk,Q (.bool b) {s with toks:=tk}):
  wpAny (model X.prog X.w) A (call (.builtin "isinstance") [u,c]) Q E s:=by
 cases ty with
 |aC=>cases (show u=Value.none from rx);exact PySem.W.kia_one PySem.W.kitx_none I.bO True.intro e (λz=>nomatch z) h
 |bl y=>cases (show u=Value.bool y from rx);exact PySem.W.kia_one PySem.W.kitx_bool I.bO True.intro e (λz=>nomatch z) h
 |int i=>obtain ⟨t,q⟩:=(show ∃t,u=Value.int i t from rx);cases q;exact PySem.W.kia_one PySem.W.kitx_int I.bO True.intro e (λz=>nomatch z) h
 |str y=>obtain ⟨t,q⟩:=(show ∃t,u=Value.str y t from rx);cases q;exact PySem.W.kia_one PySem.W.kitx_str I.bO True.intro e (λz=>nomatch z) h
 |sQ y=>obtain ⟨t,q⟩:=(show ∃t,u=Value.float y t from rx);cases q;exact PySem.W.kia_one PySem.W.kitx_float I.bO True.intro e (λz=>nomatch z) h
 | @lst a xs ea=>
  cases (show u=Value.ref a from rx);obtain ⟨_,_,n,_,h1⟩:=(show bh X.prog X.w H s.heap a (.lst xs) from I.hok a _ ea);exact PySem.W.kia_one PySem.W.kitx_list I.bO ⟨_,h1,rfl⟩ e (λz=>nomatch z) h
 | @jh a ob xs ea=>
  cases (show u=Value.ref a from rx);obtain ⟨_,_,_,n,_,h1⟩:=(show bh X.prog X.w H s.heap a (.jh ob (.lst xs)) from I.hok a _ ea);exact PySem.W.kia_one PySem.W.kitx_list I.bO ⟨_,h1,rfl⟩ e (λz=>nomatch z) h
 | @tup a xs ea=>
  cases (show u=Value.ref a from rx);obtain ⟨_,_,_,p⟩:=(show bh X.prog X.w H s.heap a (.tup xs) from I.hok a _ ea);obtain ⟨o,h1,h2,_⟩:=p;exact PySem.W.kia_one PySem.W.kitx_tuple I.bO ⟨o,h1,h2⟩ e (λz=>nomatch z) h
 | @dK a bK ea=>
  cases (show u=Value.ref a from rx);obtain ⟨_,_,vs,_,p⟩:=(show bh X.prog X.w H s.heap a (.dK bK) from I.hok a _ ea);obtain ⟨o,es,ep,h1,h2,_⟩:=p;exact PySem.W.kia_one PySem.W.kitx_dict I.bO ⟨o,h1,h2.1⟩ e (λz=>nomatch z) h
 | @dT a bK ea=>
  cases (show u=Value.ref a from rx);obtain ⟨_,_,xs,_,o,es,ep,h1,h2,_⟩:=(show bh X.prog X.w H s.heap a (.dT bK) from I.hok a _ ea);exact PySem.W.kia_one PySem.W.kitx_dict I.bO ⟨o,h1,h2.1⟩ e (λz=>nomatch z) h
 | @ins a C dx fs ea cl ha hn htk hm=>
  cases (show u=Value.ref a from rx);obtain ⟨mA,O,_⟩:=jn I.hok ea;obtain ⟨od,J,_⟩:=O.look;exact PySem.W.kia_one (PySem.W.kitx_own (cl.get _) cl.hd ha hn htk hm) I.bO J e (λz=>nomatch z) h
end
structure aW (k:Nat) (A:Around):Prop where
 hd:A.handled=none
 dp:A.depth+3*k+5<recursionLimit
 un:A.units+16*k+200<cLine
theorem aW.mono{j k:Nat}{A:Around}(r:aW k A)(h:j≤k):aW j A:=⟨r.hd,by have:=r.dp;omega,by have:=r.un;omega⟩
theorem aW.deeper{k:Nat}{A:Around}(r:aW (k+1) A)(env:Env):aW k (A.deeper env):=
 ⟨r.hd,by have:=r.dp;show A.depth+1+3*k+5<_;omega,by have:=r.un;show A.units+3+16*k+200<_;omega⟩
theorem rB{A:Around}{C:Addr}{us:List Value}{kw:List (Str×Value)}:(A.under (.builtin "type.__call__" ⟨.ref C::us,kw⟩)).depth=A.depth+1:=by
 first|rfl|simp [Around.under,Code.weight,Code.isCreation,Code.isGuard,Code.isCaller,Code.frames,Code.isFrame,guardIds]
theorem rD{A:Around}{C:Addr}{us:List Value}{kw:List (Str×Value)}:(A.under (.builtin "type.__call__" ⟨.ref C::us,kw⟩)).units=A.units+1:=by
 first|rfl|simp [Around.under,Code.cUnits,Code.frames,Code.isFrame]
theorem aW.make{k:Nat}{A:Around}(r:aW (k+1) A)(C:Addr)(us:List Value)(kw:List (Str×Value)):aW k (A.under (.builtin "type.__call__" ⟨.ref C::us,kw⟩)):=
 ⟨r.hd,by have:=r.dp;rw [rB];omega,by have:=r.un;rw [rD];omega⟩
theorem aW.depth{k:Nat}{A:Around}(r:aW k A):A.depth<recursionLimit:=by have:=r.dp;omega
theorem aW.units{k:Nat}{A:Around}(r:aW k A):A.units+64<cLine:=by have:=r.un;omega
def BS:TA:=λ_ H Q=>Q [] H
def DU(ta:TE)(tr:TA):TA:=λσ H Q=>ta σ H λx H1=>tr σ H1 λxs H2=>Q (x::xs) H2
section
variable {X:Cx} {e:Expr} {es:List Expr} {te:TE} {t:TA} {pos:Pos}
theorem fe:PA X [] BS:=λ_ _ _ _ H Q I h=>Calls.spliced_nil ⟨[],H,I, .nil,h⟩
theorem bL(ha:PE X e te)(hr:PA X es t)(hs:starEach (e::es) X.env=(false,eval e X.env)::starEach es X.env:=by rfl):PA X (e::es) (DU te t):=by
 intro pos pins s σ H Q I h;rw [hs];show wpAny _ _ (spliced ((false,eval e X.env)::backTo pos (starEach es X.env))) _ _ s;refine Calls.spliced_cons (thn (ha pins s σ H _ I h) λu s1 ⟨x,H1,I1,r1,q1⟩=>?_);exact thn (hr pos pins s1 σ H1 _ I1 q1) λus s2 ⟨xs,H2,I2,r2,q2⟩=>⟨x::xs,H2,I2, .cons r1 r2,q2⟩
def Iy(t:TA):TE:=λσ H Q=>t σ H λxs H1=>xs.length≤sizeLine∧∀p,H1 p=none→Q (.ref p) (upd H1 p (.tup xs))
def Io(t:TA):TE:=λσ H Q=>t σ H λxs H1=>xs.length≤sizeLine∧∀p,H1 p=none→Q (.ref p) (upd H1 p (.lst xs))
theorem AD{x1}(h:PA X es t):PE X (.Tuple es x1 pos) (Iy t):=by
 intro pins s σ H Q I hq;refine wpAny_Tuple_spliced (thn (h pos pins s σ H _ I hq) λus s1 ⟨xs,H1,I1,r,z,q⟩=>⟨by rw [←r.length];exact z,?_⟩)
 have hf:H1 s1.heap.objs.size=none:=I1.hok.fresh (bW _);refine ⟨.ref s1.heap.objs.size,upd H1 s1.heap.objs.size (.tup xs),I1.laid (t':=s1.toks) (λb u e=>Heap.get?_push_of_some _ e) (bW _) ?_,rfl,q _ hf⟩;exact ⟨z,us,r,⟨_,Heap.get?_push_size _ rfl,rfl,_,rfl⟩⟩
theorem uO(h:PA X es t):PE X (.List es pos) (Io t):=by
 intro pins s σ H Q I hq;refine wpAny_List_spliced (thn (h pos pins s σ H _ I hq) λus s1 ⟨xs,H1,I1,r,z,q⟩=>⟨by rw [←r.length];exact z,?_⟩)
 have hf:H1 s1.heap.objs.size=none:=I1.hok.fresh (bW _);refine ⟨.ref s1.heap.objs.size,upd H1 s1.heap.objs.size (.lst xs),I1.laid (t':=s1.toks) (λb u e=>Heap.get?_push_of_some _ e) (bW _) ?_,rfl,q _ hf⟩;exact ⟨z,us,0,r,Heap.get?_push_size _ rfl⟩
end
abbrev Sp:=List V→Hp→VK→XK→Prop
abbrev h7:=List Env→Hp→Shared→XK→Value→Shared→Prop
structure Env0 (P:Program) (w:World) (K:PySem.W.Frag) (mg:Str→Option Value) (base:Heap) (A:Around) (outer:List Env) (s:Shared) (H:Hp):Prop where
 frames:A.frames=some outer
 mod:Mod K mg base
 bs:∀b o,base.get? b=some o→s.heap.get? b=some o∧H b=none
 bsz:base.objs.size≤s.heap.objs.size
 funs:s.heap.FunFrames base outer
 frf:∀b∈jg outer,H b=none
 hok:cw P w H s.heap
 bare:AllBare s.gens
def CE(outer:List Env)(P:Program)(w:World)(H:Hp)(s:Shared)(Q:VK)(u:Value)(s':Shared):Prop:=
 ∃v H',s'.os=s.os∧AllBare s'.gens∧Un (jg outer) [] H H' s.heap s'.heap∧cw P w H' s'.heap∧RelV v u∧Q v H'
def CR(CX:h7)(outer:List Env)(P:Program)(w:World)(H:Hp)(s:Shared)(Q:VK)(E:XK)(r:Result)(s':Shared):Prop:=
 match r with
 | .ok (.ret u)=>CE outer P w H s Q u s'
 | .ok _=>False
 | .error e=>CX outer H s E e s'
structure FnOk (P:Program) (w:World) (K:PySem.W.Frag) (mg:Str→Option Value) (base:Heap) (CX:h7) (k:Nat) (f:Addr) (fd:FuncData) (ps:List Str) (sp:Sp):Prop where
 len:∀vs H Q E,sp vs H Q E→vs.length=ps.length
 run:∀(A:Around)(outer:List Env)(s:Shared)(H:Hp)(args:Args)(us:List Value)(vs:List V)(Q:VK)(E:XK),aW k A→Env0 P w K mg base A outer s H→BindsTo s fd args (ps.zip us)→Vals vs us→sp vs H Q E→
  codeAny (model P w) A (.call (.ref f) args) (CR CX outer P w H s Q E) s
theorem FnOk.mono{P:Program}{w:World}{K:PySem.W.Frag}{mg:Str→Option Value}{base:Heap}{CX:h7}{j k:Nat}{f:Addr}{fd:FuncData}{ps:List Str}{sp:Sp}(F:FnOk P w K mg base CX j f fd ps sp)(h:j≤k):
  FnOk P w K mg base CX k f fd ps sp:=⟨F.len,λA outer s H args us vs Q E hr=>F.run A outer s H args us vs Q E (hr.mono h)⟩
theorem FnOk.imp{P:Program}{w:World}{K:PySem.W.Frag}{mg:Str→Option Value}{base:Heap}{CX:h7}{k:Nat}{f:Addr}{fd:FuncData}{ps:List Str}{sp Ib:Sp}(F:FnOk P w K mg base CX k f fd ps sp)
  (h:∀vs H Q E,Ib vs H Q E→sp vs H Q E):FnOk P w K mg base CX k f fd ps Ib:=
 ⟨λvs H Q E q=>F.len vs H Q E (h _ _ _ _ q),λA outer s H args us vs Q E hr he hb hv hs=>F.run A outer s H args us vs Q E hr he hb hv (h _ _ _ _ hs)⟩
theorem Env0.make{P:Program}{w:World}{K:PySem.W.Frag}{mg:Str→Option Value}{base:Heap}{A:Around}{outer:List Env}{s:Shared}{H:Hp}(e:Env0 P w K mg base A outer s H)(C:Addr)(us:List Value)(kw:List (Str×Value)):
  Env0 P w K mg base (A.under (.builtin "type.__call__" ⟨.ref C::us,kw⟩)) outer s H:=⟨by first|exact e.frames| (simpa [Around.under,Code.envs,Code.isFrame,pushEnvs] using e.frames),e.mod,e.bs,e.bsz,e.funs,e.frf,e.hok,e.bare⟩
section
variable {X:Cx} {pins:List (Addr×Obj)} {σ:St} {H:Hp} {s s':Shared}
theorem Inv.uB(I:Inv X pins σ H s):Env0 X.prog X.w X.K X.mg X.base X.A X.stack s H:=
 ⟨I.ok.frames,I.ok.mod,I.bs,fH I.ok.bsz I.sz,I.stack,I.mz,I.hok,I.bare⟩
theorem Inv.after{Q:VK}{u:Value}(I:Inv X pins σ H s)(h:CE X.stack X.prog X.w H s Q u s'):EP X pins σ Q u s':=by
 obtain ⟨v,H',os,bare,un,hok,r,q⟩:=h;obtain ⟨hh,g,d,t,NA⟩:=s';obtain rfl:NA=s.os:=os;exact ⟨v,H',I.call (h':=hh) (g':=g) (d':=d) (t':=t) (ch:= []) un hok bare (λb z=>absurd z (by simp)),r,q⟩
end
def DS(sp:Sp)(aM:List V)(E:XK)(t:TA):TE:=λσ H Q=>t σ H λvs H1=>sp (vs++aM) H1 Q E
def za(C:Addr)(m:Str)(sp:Sp)(aM:List V)(E:XK)(ta:TE)(t:TA):TE:=λσ H Q=>ta σ H λx H1=>∃a dx fs,x= .ref a∧H1 a=some (.ins C dx fs)∧fs.lookup m=none∧
 t σ H1 λvs H2=>sp (x::(vs++aM)) H2 Q E
def DX(C:Addr)(sp:Sp)(aM:List V)(E:XK)(t:TA):TE:=λσ H Q=>t σ H λvs H1=>∀x dx,H1 x=none→H1 dx=none→dx≠x→
 sp (.ref x::(vs++aM)) (upd (upd H1 dx (.own x)) x (.ins C dx [])) (λv H2=>v= .aC∧Q (.ref x) H2) E
def Binds(K:PySem.W.Frag)(fd:FuncData)(ps:List Str)(ds:List Value):Prop:=
 ∀(s:Shared)(us:List Value),K.In s.heap→(us++ds).length=ps.length→BindsTo s fd ⟨us,[]⟩ (ps.zip (us++ds))
theorem Binds.all{K:PySem.W.Frag}{fd:FuncData}{ps:List Str}(h:∀us:List Value,us.length=ps.length→bindArgs fd ⟨us,[]⟩=pure (ps.zip us)):Binds K fd ps []:=λs us _ hl=>by
 rw [gq] at hl ⊢;exact .of_eq (h us hl)
def Passes(CX:h7)(X:Cx)(E:XK):Prop:=∀(pins:List (Addr×Obj))(σ:St)(H:Hp)(s:Shared)(e:Value)(s':Shared),Inv X pins σ H s→CX X.stack H s E e s'→X.xe e s'
section
variable {X:Cx} {CX:h7} {k:Nat} {f C:Addr} {fd:FuncData} {ps:List Str} {sp:Sp} {aM:List V} {ds:List Value} {E:XK} {x m:Str} {p pos apos:Pos} {e o:Expr} {es:List Expr} {ta:TE} {t:TA}
theorem uT{pins:List (Addr×Obj)}{σ:St}{H:Hp}{s:Shared}{Q:VK}{us:List Value}{vs:List V}(F:FnOk X.prog X.w X.K X.mg X.base CX k f fd ps sp)(hr:aW k X.A)(hb:Binds X.K fd ps ds)(hd:Vals aM ds)(hx:Passes CX X E)
  (I:Inv X pins σ H s) (r:Vals vs us) (h:sp (vs++aM) H Q E):wpAny (model X.prog X.w) X.A (call (.ref f) us) (EP X pins σ Q) X.xe s:=by
 have r2:Vals (vs++aM) (us++ds):=r.append hd;have hl:(us++ds).length=ps.length:=by rw [←r2.length];exact F.len _ _ _ _ h
 refine wpAny_call (codeAny_mono (F.run X.A X.stack s H ⟨us,[]⟩ (us++ds) (vs++aM) Q E hr I.uB (hb s us I.bO hl) r2 h) λr s' hq=>?_);cases r with
 |error e=>exact hx pins σ H s e s' I hq
 |ok fl=>
  cases fl with
  |ret u=>exact I.after hq
  |next=>exact False.elim hq
  |brk=>exact False.elim hq
  |cont=>exact False.elim hq
theorem yz(F:FnOk X.prog X.w X.K X.mg X.base CX k f fd ps sp)(hr:aW k X.A)(hg:Gl X x)(hm:X.mg x=some (.ref f))(hk:PySem.W.keepIn X.K (.ref f)=true)(hb:Binds X.K fd ps ds)(hd:Vals aM ds)(hx:Passes CX X E)
  (ha:PA X (e::es) t) (cC:(x==("__debug__":Str))=false:=by decide) (he:starEach (e::es) X.env=(false,eval e X.env)::starEach es X.env:=by rfl) (b3:(backTo pos (starEach es X.env)).any (·.1)=false:=by rfl):
  PE X (.Call (.Name x p) (e::es) [] pos) (DS sp aM E t):=by
 intro pins s σ H Q I h;refine wpAny_Call_Name_kw (eF I hg hm ?_ cC);refine PySem.W.callWith_K (h₀:=X.base) I.ok.mod.kin hk (thn (ha pos pins s σ H _ I h) λus s1 ⟨vs,H1,I1,r,q⟩=>⟨I1.bO,?_⟩) he b3;exact uT F hr hb hd hx I1 r q
theorem vY{pl:Sem Bool}(he:PE X o ta)(c:mK X.K C)(hm:Meth X.K C m f)(F:FnOk X.prog X.w X.K X.mg X.base CX k f fd ps sp)(hr:aW k X.A)(hb:Binds X.K fd ps ds)(hd:Vals aM ds)(hx:Passes CX X E)
  (ht:eval (.Call (.Attribute o m apos) [] [] pos) X.env=(do
   let ov ←eval o X.env
   standAt apos.atName
   let (f,first) ←holding [ov] (getMethod ov m pl)
   callWith pos f first (backTo pos (starEach [] X.env)) (backToKw pos (keywordEach [] X.env))):=by rfl):
  PE X (.Call (.Attribute o m apos) [] [] pos) (za C m sp aM E ta BS):=by
 intro pins s σ H Q I h;refine PySem.W.methodCall_KW (pl:=pl) (thn (he pins s σ H _ I h) λu s1 ⟨x,H1,I1,rx,a,dx,fs,ex,ea,l,q⟩=>?_) ht;subst ex;obtain rfl:u=Value.ref a:=rx;refine qP I1 ea c hm l ?_;exact PySem.W.callWith_K0 (first:= [.ref a]) I1.bO hm.kp (uT (us:= [.ref a]) (vs:= [.ref a]) F hr hb hd hx I1 (.cons rfl .nil) q)
structure Mk (K:PySem.W.Frag) (C f:Addr):Prop where
 makes:PySem.W.makesIn K C=true
 init:PySem.W.findIn K (.ref C) "__init__"=some (some (.ref f))
 fn:PySem.W.isFn K (.ref f)=true
 kp:PySem.W.keepIn K (.ref C)=true
theorem wg{pins:List (Addr×Obj)}{σ:St}{H:Hp}{s:Shared}{Q:VK}{us:List Value}{vs:List V}(M:Mk X.K C f)(F:FnOk X.prog X.w X.K X.mg X.base CX k f fd ps sp)(hr:aW (k+1) X.A)(hb:Binds X.K fd ps ds)(hd:Vals aM ds)
  (hx:Passes CX X E) (I:Inv X pins σ H s) (r:Vals vs us)
  (h:∀x dx,H x=none→H dx=none→dx≠x→sp (.ref x::(vs++aM)) (upd (upd H dx (.own x)) x (.ins C dx [])) (λv H2=>v= .aC∧Q (.ref x) H2) E):
  wpAny (model X.prog X.w) X.A (call (.ref C) us) (EP X pins σ Q) X.xe s:=by
 have hq:=h (s.heap.objs.size+1) s.heap.objs.size (I.hok.fresh (Nat.le_succ _)) (I.hok.fresh (bW _)) (bA (Nat.lt_succ_self _));have I2:=Inv.made (C:=C) I;have r2:Vals (V.ref (s.heap.objs.size+1)::(vs++aM)) (Value.ref (s.heap.objs.size+1)::(us++ds)):= .cons rfl (r.append hd)
 have hl:(Value.ref (s.heap.objs.size+1)::us++ds).length=ps.length:=by
  have e:=r2.length;rw [F.len _ _ _ _ hq] at e;exact e.symm
 refine wpAny_call (vM (f:=f) I.bO M.makes M.init (beq_iff_eq.mp M.fn) (codeAny_mono (F.run _ X.stack _ _ ⟨Value.ref (s.heap.objs.size+1)::us,[]⟩ (Value.ref (s.heap.objs.size+1)::(us++ds)) _ _ E (hr.make C us [])
  (I2.uB.make C us []) (hb _ (Value.ref (s.heap.objs.size+1)::us) I2.bO hl) r2 hq) λr s' tD=>?_))
 cases r with
 |error e=>exact hx pins σ _ _ e s' I2 tD
 |ok fl=>
  cases fl with
  |ret u=>
   obtain ⟨v,H',I3,rv,ev,q3⟩:=I2.after tD;subst ev;exact ⟨rv,⟨V.ref (s.heap.objs.size+1),H',I3,rfl,q3⟩⟩
  |next=>exact False.elim tD
  |brk=>exact False.elim tD
  |cont=>exact False.elim tD
theorem yC(M:Mk X.K C f)(F:FnOk X.prog X.w X.K X.mg X.base CX k f fd ps sp)(hr:aW (k+1) X.A)(hg:Gl X x)(hm:X.mg x=some (.ref C))(hb:Binds X.K fd ps ds)(hd:Vals aM ds)(hx:Passes CX X E)
  (ha:PA X (e::es) t) (cC:(x==("__debug__":Str))=false:=by decide) (he:starEach (e::es) X.env=(false,eval e X.env)::starEach es X.env:=by rfl) (b3:(backTo pos (starEach es X.env)).any (·.1)=false:=by rfl):
  PE X (.Call (.Name x p) (e::es) [] pos) (DX C sp aM E t):=by
 intro pins s σ H Q I h;refine wpAny_Call_Name_kw (eF I hg hm ?_ cC);refine PySem.W.callWith_K (h₀:=X.base) I.ok.mod.kin M.kp (thn (ha pos pins s σ H _ I h) λus s1 ⟨vs,H1,I1,r,q⟩=>⟨I1.bO,?_⟩) he b3;exact wg M F hr hb hd hx I1 r q
end
section
variable {X:Cx} {CX:h7} {k:Nat} {f C:Addr} {fd:FuncData} {ps ks:List Str} {sp:Sp} {E:XK} {x m:Str} {p pos apos Ow:Pos} {e o:Expr} {es:List Expr} {OX:List Keyword} {te ta:TE} {t tk:TA} {nm:Option Str}
variable {g:List Value→List Value→List Value} {gV:List V→List V→List V}
end
structure ax (N P:List Str) (sc:Scope):Prop where
 kind:sc.kind= .function
 co:sc.isCoroutine=false
 gen:sc.isGenerator=false
 nd:N.Nodup
 pre:N.take P.length=P
 par:∀x∈P,sc.names.lookup x=some .local∨sc.names.lookup x=some .cell
 nofree:∀y∈sc.names,y.2≠ .free
theorem lB{kindOf:Str→Option NameKind}{x:Str}:∀{binds:List (Str×Value)}{m:Str→Option Value},(∀v,(x,v)∉binds)→bindL kindOf binds m x=m x
 | [],_,_=>rfl
 | (n,v)::r,m,h=>by
  unfold bindL;rw [lB λw hw=>h w (fu _ hw)]
  split
  ·have:x≠n:=by rintro rfl;exact h v fI
   simp [this]
  ·rfl
theorem lz{kindOf:Str→Option NameKind}{x:Str}:∀{binds:List (Str×Value)}{m:Str→Option Value},(∀v,(x,v)∉binds)→bindC kindOf binds m x=m x
 | [],_,_=>rfl
 | (n,v)::r,m,h=>by
  unfold bindC;rw [lz λw hw=>h w (fu _ hw)]
  split
  ·rfl
  ·have:x≠n:=by rintro rfl;exact h v fI
   simp [this]
theorem lA{kindOf:Str→Option NameKind}{x:Str}{v:Value}:∀{P:List Str}{vs:List Value}{i:Nat}{m:Str→Option Value},P.Nodup→P[i]? =some x→vs[i]? =some v→kindOf x=some .local→
  bindL kindOf (P.zip vs) m x=some v
 | [],_,_,_,_,h,_,_=>by simp at h
 |_::_,[],_,_,_,_,h,_=>by simp at h
 |p::P,w::vs,0,m,nd,h1,h2,hk=>by
  simp at h1 h2;subst h1;subst h2;show bindL kindOf ((p,w)::P.zip vs) m p=_;unfold bindL;rw [lB λv hv=>(jN.mp nd).1 (List.of_mem_zip hv).1,if_pos hk];simp
 |p::P,w::vs,i+1,m,nd,h1,h2,hk=>by
  show bindL kindOf ((p,w)::P.zip vs) m x=_;unfold bindL;exact lA (i:=i) (jN.mp nd).2 (by simpa using h1) (by simpa using h2) hk
theorem ly{kindOf:Str→Option NameKind}{x:Str}{v:Value}:∀{P:List Str}{vs:List Value}{i:Nat}{m:Str→Option Value},P.Nodup→P[i]? =some x→vs[i]? =some v→kindOf x≠some .local→
  bindC kindOf (P.zip vs) m x=some v
 | [],_,_,_,_,h,_,_=>by simp at h
 |_::_,[],_,_,_,_,h,_=>by simp at h
 |p::P,w::vs,0,m,nd,h1,h2,hk=>by
  simp at h1 h2;subst h1;subst h2;show bindC kindOf ((p,w)::P.zip vs) m p=_;unfold bindC;rw [lz λv hv=>(jN.mp nd).1 (List.of_mem_zip hv).1,if_neg hk];simp
 |p::P,w::vs,i+1,m,nd,h1,h2,hk=>by
  show bindC kindOf ((p,w)::P.zip vs) m x=_;unfold bindC;exact ly (i:=i) (jN.mp nd).2 (by simpa using h1) (by simpa using h2) hk
def start(N:List Str)(vs:List V):St:=vs.map some++List.replicate (N.length-vs.length) none
def el(CX:h7)(P:Program)(w:World)(K:PySem.W.Frag)(mg:Str→Option Value)(base:Heap)(N:List Str)(qual:Str)(scope:Scope)(f:Addr)(cd:Value)(A:Around)(outer:List Env)(s:Shared)(H:Hp)(E:XK):Cx where
 prog:=P
 w:=w
 K:=K
 mg:=mg
 base:=base
 A:=A.deeper (envOfC qual scope s.heap.objs.size f cd)
 N:=N
 s₀:=s
 H₀:=H
 env:=envOfC qual scope s.heap.objs.size f cd
 outer:=outer
 stack:=envOfC qual scope s.heap.objs.size f cd::outer
 ex:= []
 calm:=true
 fn:=λ_=>true
 pn:= []
 xe:=λe s'=>wpAny (model P w) (A.deeper (envOfC qual scope s.heap.objs.size f cd)) (leaving (envOfC qual scope s.heap.objs.size f cd) e) (λ_ DM=>CX outer H s E e DM) (λe' DM=>CX outer H s E e' DM) s'
theorem nu{sc:Scope}{n:Nat}{x:Str}(h:sc.names.lookup x=some .cell):∃c,(cellsFrom n sc.names []).lookup x=some c:=by
 have q:=PySem.W.cellsFrom_some sc.names n [] (.inl h);exact Option.isSome_iff_exists.mp q
theorem lQ{CX:h7}{P:Program}{w:World}{K:PySem.W.Frag}{mg:Str→Option Value}{base:Heap}{N ps:List Str}{qual:Str}{scope:Scope}{f:Addr}{cd:Value}{A:Around}{outer:List Env}{s s1:Shared}{H:Hp}{E:XK}{us:List Value}{vs:List V}
  (S:ax N ps scope) (hd:A.handled=none) (e0:Env0 P w K mg base A outer s H) (hl:vs.length=ps.length) (r:Vals vs us)
  (x:InCallC s s.heap.objs.size (bindL (envOfC qual scope s.heap.objs.size f cd).kindOf (ps.zip us) λ_=>none) (cellsFrom (s.heap.objs.size+1) scope.names []) (bindC (envOfC qual scope s.heap.objs.size f cd).kindOf (ps.zip us) λ_=>none) s1):
  Inv (el CX P w K mg base N qual scope f cd A outer s H E) [] (start N vs) H s1:=by
 have b3:ps.length≤N.length:=by have:=congrArg List.length S.pre;rw [sh] at this;omega
 obtain ⟨h1,tk,rfl,hk⟩:=x.done;have yo:∀b:Addr,b∉(el CX P w K mg base N qual scope f cd A outer s H E).ex:=λb z=>absurd (show b∈([]:List Addr) from z) (by simp)
 refine ⟨⟨e0.mod,S.kind,rfl,rfl,bW _,λy z c h1 h2=>?_,λy hy=>?_,λy c _ h=>?_,λ_=>hd,Around.frames_deeper e0.frames, .inr ⟨rfl,rfl⟩,λb z=>absurd z (yo b),e0.bs,e0.bsz,λb _ _=>yo b,λb z=>absurd z (yo b),e0.funs,e0.frf⟩,
  rfl,e0.bare,Un.kept hk,⟨_,x.toInCall.ns,λi y v h1 h2 h3=>?_⟩,λy c h=>⟨_,x.cell y c h⟩,e0.hok.fresh (bW _),λy c h=>?_,λp hp=>absurd (show p∈([]:List (Addr×Obj)) from hp) (by simp),e0.hok.kept hk,?_⟩
 ·exact name_of_addr x.apart (PySem.mem_of_lookup h1) (PySem.mem_of_lookup h2)
 ·have hy:scope.names.lookup y=some .cell∨scope.names.lookup y=some .free:=hy
  rcases hy with hy|hy
  ·exact nu hy
  ·exact absurd rfl (S.nofree _ (PySem.mem_of_lookup hy))
 ·exact Nat.le_of_lt (x.above y c (PySem.mem_of_lookup h))
 ·have hi:i<vs.length:=by
   unfold start at h2
   by_cases hi:i<vs.length
   ·exact hi
   ·rw [n4 (by simpa using hi)] at h2
    rw [jK] at h2
    split at h2<;>cases h2
  have ha:vs[i]? =some v:=by
   unfold start at h2;rw [jJ (by simpa using hi),cP] at h2
   cases e:vs[i]? with
   |none=>rw [e] at h2;cases h2
   |some a=>rw [e] at h2;cases h2;rfl
  obtain ⟨u,hu,rv⟩:=r.get ha
  have hp:ps[i]? =some y:=by
   rw [←S.pre,List.getElem?_take_of_lt (by omega)];exact h1
  have GL:ps.Nodup:=by rw [←S.pre];exact S.nd.sublist (List.take_sublist _ _)
  refine ⟨u,rv,?_⟩
  rcases S.par y (n6 hp) with k|k
  ·exact .inl ⟨k,lA GL hp hu k⟩
  ·obtain ⟨c,e⟩:=nu (n:=s.heap.objs.size+1) k
   refine .inr ⟨.inl k,c,e,?_⟩;have q:=x.cell y c e;rw [ly GL hp hu (by show scope.names.lookup y≠_;rw [k];decide)] at q
   exact q
 ·exact e0.hok.fresh (Nat.le_of_lt (x.above y c (PySem.mem_of_lookup h)))
 ·unfold start
  show _=N.length;rw [dR,cQ,iA];omega
theorem xD{CX:h7}{P:Program}{w:World}{K:PySem.W.Frag}{mg:Str→Option Value}{base:Heap}{k:Nat}{f:Addr}{name qual:Str}{params:Arguments}{body:List Stmt}{scope:Scope}{dV kV doc pm aF ct oc:Value}{an od:Option Addr}
  {m9:Array (Option Value)} {N ps:List Str} {sp:Sp} (lk:K.lookup f=some ⟨oc,od, .func (PySem.W.fnOf name qual params body scope dV kV doc pm an aF ct),m9⟩) (cL:PySem.W.codeIn K aF qual=true) (S:ax N ps scope)
  (len:∀vs H Q E,sp vs H Q E→vs.length=ps.length)
  (cz:∀(A:Around)(outer:List Env)(s:Shared)(H:Hp)(vs:List V)(Q:VK)(E:XK),aW k (A.deeper (envOfC qual scope s.heap.objs.size f aF))→sp vs H Q E→
   ∃t,eY (el CX P w K mg base N qual scope f aF A outer s H E) body t∧t {nx:=λ_ H'=>Q .aC H',rt:=Q} (start N vs) H):
  FnOk P w K mg base CX (k+1) f (PySem.W.fnOf name qual params body scope dV kV doc pm an aF ct) ps sp:=by
 refine ⟨len,λA outer s H args us vs Q E hr e0 hb r jX=>?_⟩;have hl:=len _ _ _ _ jX;have KX:K.In s.heap:=e0.mod.kin.keeps λb o e=>(e0.bs b o e).1;have lim:s.heap.NoLimit:=e0.mod.nolimit.keeps λb o e=>(e0.bs b o e).1
 have tq:∀y∈ps.zip us,scope.names.lookup y.1=some .local∨(scope.names.lookup y.1=some .cell∧((cellsFrom (s.heap.objs.size+1) scope.names []).lookup y.1).isSome=true):=λ⟨n,v⟩ hy=>by
  rcases S.par n (List.of_mem_zip hy).1 with q|q
  ·exact .inl q
  ·exact .inr ⟨q,PySem.W.cellsFrom_some _ _ _ (.inl q)⟩
 refine codeAny_call_function hr.depth (KX _ _ lk) rfl S.co S.gen rfl (PySem.W.codeRec_of KX cL) (hb _ _ _ _ ?_);refine wpAny_newFunctionEnv_cells S.kind tq λenv he s1 x=>?_;subst he;refine ⟨lim.keeps x.toInCall.keep,codeAny_func ?_⟩;obtain ⟨t,ht,hq⟩:=cz A outer s H vs Q E (hr.deeper _) jX;have I:Inv (el CX P w K mg base N qual scope f aF A outer s H E) [] (start N vs) H s1:=lQ S hr.hd e0 hl r x;refine wpAny_mono (ht [] s1 (start N vs) H _ I hq) (λfl s' hs=>?_) λe s' hs=>hs
 have fin:∀{aq:St}{H':Hp}{v:V}{u:Value},Inv (el CX P w K mg base N qual scope f aF A outer s H E) [] aq H' s'→RelV v u→Q v H'→CE outer P w H s Q u s':=
  λ {aq H' v u} J rv q=>⟨v,H',J.os,J.bare,J.base,J.hok,rv,q⟩
 cases fl with
 |ret u=>
  obtain ⟨v,aq,H',J,rv,q⟩:=hs;exact fin J rv q
 |next=>
  obtain ⟨aq,H',J,q⟩:=hs;exact fin (v:=V.aC) (u:=Value.none) J rfl q
 |brk=>
  obtain ⟨_,_,_,q⟩:=hs;exact False.elim q
 |cont=>
  obtain ⟨_,_,_,q⟩:=hs;exact False.elim q
section
variable {X:Cx} {x:Str} {p pos:Pos} {e:Expr} {es:List Expr} {t:TA} {id T:String} {r:List V→Hp→VK→Prop}
def Ij(r:List V→Hp→VK→Prop)(t:TA):TE:=λσ H Q=>t σ H λvs H1=>r vs H1 Q
theorem kd(hc:CallR X (.builtin id) r)(hg:Gl X x)(hm:X.mg x=none)(hv:bootBuiltins x=some (.builtin id))(ha:PA X (e::es) t)(hn:x≠"__name__":=by decide)(cC:(x==("__debug__":Str))=false:=by decide)
  (he:starEach (e::es) X.env=(false,eval e X.env)::starEach es X.env:=by rfl) (b3:(backTo pos (starEach es X.env)).any (·.1)=false:=by rfl):PE X (.Call (.Name x p) (e::es) [] pos) (Ij r t):=by
 intro pins s σ H Q I h;refine wpAny_Call_Name_kw (g7 I hg hm hv ?_ hn cC);exact PyProof.Rows.callWith_builtin1 (thn (ha pos pins s σ H _ I h) λus s1 ⟨vs,H1,I1,r1,q1⟩=>hc pins s1 σ H1 vs us Q I1 r1 q1) he b3
theorem tR(hc:CallR X (.type T) r)(hg:Gl X x)(hm:X.mg x=none)(hv:bootBuiltins x=some (.type T))(ha:PA X (e::es) t)(hn:x≠"__name__":=by decide)(cC:(x==("__debug__":Str))=false:=by decide)
  (he:starEach (e::es) X.env=(false,eval e X.env)::starEach es X.env:=by rfl) (b3:(backTo pos (starEach es X.env)).any (·.1)=false:=by rfl):PE X (.Call (.Name x p) (e::es) [] pos) (Ij r t):=by
 intro pins s σ H Q I h;refine wpAny_Call_Name_kw (g7 I hg hm hv ?_ hn cC);exact PyProof.Rows.callWith_type1 (thn (ha pos pins s σ H _ I h) λus s1 ⟨vs,H1,I1,r1,q1⟩=>hc pins s1 σ H1 vs us Q I1 r1 q1) he b3
end
end L2
namespace HT
open PySem PyProof.Rows
def lexLt:List Int→List Int→Bool
 | [],[]=>false
 | [],_::_=>true
 |_::_,[]=>false
 |x::xs,y::ys=>if x=y then lexLt xs ys else decide (x<y)
theorem gH(x y:Int)(xs ys:List Int):lexLt (x::xs) (y::ys)=if x=y then lexLt xs ys else decide (x<y):=rfl
theorem lS:lexLt [] []=false:=rfl
theorem kL(y:Int)(ys:List Int):lexLt [] (y::ys)=true:=rfl
theorem kK(x:Int)(xs:List Int):lexLt (x::xs) []=false:=rfl
theorem vm(A:Around)(s:Shared)(a:Int)(t:Tok)(c:Int)(u:Tok):∃e,SeqAt.EqAt A s (.int a t) (.int c u) e∧(e=true↔a=c):=
 ⟨(a==c),SeqAt.EqAt.int_int a t c u,by simp⟩
theorem wc(A:Around)(s:Shared)(a:Int)(t:Tok)(c:Int)(u:Tok)(prog:Program)(w:World)(E:Value→Shared→Prop)(Q:Value→Shared→Prop)(h:Q (.bool (decide (a<c))) s):
  wpAny (model prog w) A (richCompare .Lt (.int a t) (.int c u)) Q E s:=
 (PyProof.Rows.lt_int h:wpAny (model prog w) A (compareOp .Lt (.int a t) (.int c u)) Q E s)
section
open PySem.SeqAt
open PySem.AutoSeq1 (wpAny_loadPart')
open PySem.MeetsSeq PySem.MeetsSeq2 PySem.MeetsSeq3
theorem mD(l b:Addr)(items dg:Array Value)(n n2:Nat)(dd vf:Option Addr)(sl rS:Array (Option Value))(ns ms:List Int)(hi:IntsAre items.toList ns)(hj:IntsAre dg.toList ms):
  Meets (Builtin.«tuple.__lt__» ⟨[.ref l, .ref b],[]⟩)
   (λ_ R s=>s.heap.get? l=some {cls:= .type "tuple",dict:=dd,data:= .seq items n,slots:=sl}∧s.heap.get? b=some {cls:= .type "tuple",dict:=vf,data:= .seq dg n2,slots:=rS}∧
    R (.ok (.ret (.bool (lexLt ns ms)))) s):=
 .of_wp λprog w A R s h=>by
  obtain ⟨hp,g,d,tk,os⟩:=s;obtain ⟨hl,hb,h⟩:=h;have f2:=AutoSeq1.sub_tuple_tuple;have z1:items.size=ns.length:=by rw [←hi.length];simp
  have z2:dg.size=ms.length:=by rw [←hj.length];simp
  wp_walk using wpAny_loadPart' hl,wpAny_loadPart' hb,wpAny_forIn_list _ (λrest b s'=>b.1=none∧s'=⟨hp,g,d,tk,os⟩∧∃(vs ws:List Value)(vS vP:List Int),rest=vs.zip ws∧
   IntsAre vs vS∧IntsAre ws vP∧vS.length+dg.size=vP.length+items.size∧R (.ok (.ret (.bool (lexLt vS vP)))) ⟨hp,g,d,tk,os⟩) _
  case turn=>
   rintro ⟨y,x⟩ rest b s' ⟨oZ,rfl,vs,ws,vS,vP,hz,C5,zW,hlen,hR⟩;cases C5 with
   |nil=>rw [List.zip_nil_left] at hz;cases hz
   |cons a t Ge=>
    cases zW with
    |nil=>rw [List.zip_nil_right] at hz;cases hz
    |cons c u Gg=>
     rw [List.zip_cons_cons] at hz
     injection hz with Lj lO
     injection Lj with hy hx
     subst hy hx;rw [gH] at hR;simp only [cR] at hlen;obtain ⟨e,he,BE⟩:=vm A.in1 ⟨hp,g,d,tk,os⟩ a t c u;refine wpAny_bind (he prog w _ _ ?_);cases e with
     |true=>
      rw [if_pos (BE.mp rfl)] at hR
      wp_walk
      exact ⟨rfl,rfl,_,_,_,_,lO,Ge,Gg,by omega,hR⟩
     |false=>
      rw [if_neg (λq=>absurd (BE.mpr q) fJ)] at hR;have K7:=wc A.in1 ⟨hp,g,d,tk,os⟩ a t c u prog w
      wp_walk using K7
      exact ⟨_,rfl,by simpa using hR⟩
  case fin=>
   rintro ⟨b1,b2⟩ s' ⟨oZ,rfl,vs,ws,vS,vP,hz,C5,zW,hlen,hR⟩;simp only at oZ;subst oZ
   have hv:lexLt vS vP=decide (items.size<dg.size):=by
    cases C5 with
    |nil=>
     cases zW with
     |nil=>
      simp only [List.length_nil] at hlen;rw [lS];exact (decide_eq_false (by omega)).symm
     |cons c u hw=>
      simp only [List.length_nil,cR] at hlen;rw [kL];exact (decide_eq_true (by omega)).symm
    |cons a t hv=>
     cases zW with
     |nil=>
      simp only [List.length_nil,cR] at hlen;rw [kK];exact (decide_eq_false (by omega)).symm
     |cons c u hw=>
      rw [List.zip_cons_cons] at hz;cases hz
   rw [hv] at hR
   wp_walk
   exact ⟨_,rfl,by simpa [Builtin.Tuple.tupleCompareSizes] using hR⟩
  case h=>
   exact ⟨rfl,rfl,items.toList,dg.toList,ns,ms,rfl,hi,hj,by omega,h⟩
end
section
variable {prog:Program} {w:World} {A:Around} {E:Value→Shared→Prop} {s:Shared}
theorem rA{l b:Addr}{items dg:Array Value}{ns ms:List Int}{Q:Value→Shared→Prop}(hl:IsTup s.heap l items)(hb:IsTup s.heap b dg)(hi:IntsAre items.toList ns)(hj:IntsAre dg.toList ms)
  (hu:A.units<cLine) (h:Q (.bool (lexLt ns ms)) s):wpAny (model prog w) A (compareOp .Lt (.ref l) (.ref b)) Q E s:=by
 obtain ⟨⟨cls,dd,data,sl⟩,ho,hc,n,hd⟩:=id hl;obtain ⟨⟨EK,vf,data2,rS⟩,tB,xO,n2,hd2⟩:=id hb;simp only at hc hd xO hd2;subst hc hd xO hd2
 exact richCompare_meets_room (op:= .Lt) ⟨_,ho,rfl⟩ ⟨_,tB,rfl⟩ PySem.F.slot_tuple_lt PySem.F.entry_tuple_lt (PySem.F.args_tuple_lt_2 _ _) (mD l b items dg n n2 dd vf sl rS ns ms hi hj)
  ⟨ho,tB,show Value.bool (lexLt ns ms)≠Value.notImplemented∧Q (.bool (lexLt ns ms)) s from ⟨(λx=>nomatch x),h⟩⟩ hu
theorem wW{t b:Addr}{vs ws:List Value}{Q:Value→Shared→Prop}(ht:IsTup s.heap t vs.toArray)(hb:IsTup s.heap b ws.toArray)(hv:vs≠ [])
  (h1:ws= []→Q (.ref t) s) (h2:ws≠ []→Q (.ref s.heap.objs.size) {s with heap:=s.heap.push {cls:= .type "tuple",data:= .seq (vs++ws).toArray}})
  (vF:vs.length+ws.length≤sizeLine):wpAny (model prog w) A (binaryOp .Add (.ref t) (.ref b)) Q E s:=by
 obtain ⟨⟨cls,dd,data,sl⟩,ho,hc,n,hd⟩:=id ht;obtain ⟨⟨EK,vf,data2,rS⟩,tB,xO,n2,hd2⟩:=id hb;simp only at hc hd xO hd2;subst hc hd xO hd2;have e:vs.toArray++ws.toArray=(vs++ws).toArray:=by simp
 by_cases hw:ws= []
 ·exact concat_meets ⟨_,ho,rfl⟩ ⟨_,tB,rfl⟩ noFill_tuple_add seq_tuple_add PySem.F.slot_tuple_add PySem.F.entry_tuple_add (PySem.F.args_tuple_add_2 _ _)
   (tuple_addW1 t b vs.toArray ws.toArray n n2 dd vf sl rS (by simpa using hv) (by simp [hw])) ⟨ho,tB,h1 hw⟩
 ·refine concat_meets ⟨_,ho,rfl⟩ ⟨_,tB,rfl⟩ noFill_tuple_add seq_tuple_add PySem.F.slot_tuple_add PySem.F.entry_tuple_add (PySem.F.args_tuple_add_2 _ _)
   (tuple_addW2 t b vs.toArray ws.toArray n n2 dd vf sl rS (by simpa using hv) (by simpa using hw) (by rw [cc,cc];exact vF)) ⟨ho,tB,?_⟩
  rw [e];exact h2 hw
def aS(n d:Nat):Option Int→Nat
 |none=>d
 |some v=>if v<0 then (v+(n:Int)).toNat else min v.toNat n
theorem AR(n d:Nat)(hd:d≤n)(o:Option Int):aS n d o≤n:=by
 cases o with
 |none=>exact hd
 |some v=>
  show (if v<0 then (v+(n:Int)).toNat else min v.toNat n)≤n
  by_cases hv:v<0
  ·rw [if_pos hv];omega
  ·rw [if_neg hv];exact Nat.min_le_right _ _
theorem qt(v:Int)(n d:Nat):(if v<0 then max (v+(n:Int)) 0 else min v (n:Int))=((aS n d (some v):Nat):Int):=by
 show (if v<0 then max (v+(n:Int)) 0 else min v (n:Int))=(((if v<0 then (v+(n:Int)).toNat else min v.toNat n):Nat):Int)
 by_cases hv:v<0
 ·simp only [if_pos hv];omega
 ·simp only [if_neg hv];omega
theorem qh(lo hi:Option Int)(n:Nat):Builtin.Slice.sliceAdjust lo hi 1 (n:Int)=(((aS n 0 lo:Nat):Int),((aS n n hi:Nat):Int)):=by
 have h1:¬((1:Int)<0):=by omega
 unfold Builtin.Slice.sliceAdjust;simp only [h1,if_false];refine Prod.ext ?_ ?_
 ·cases lo with
  |none=>rfl
  |some v=>exact qt v n 0
 ·cases hi with
  |none=>rfl
  |some v=>exact qt v n n
theorem rL(i j:Nat):Builtin.Slice.slicePlaces (i:Int) (j:Int) 1=j-i:=by
 unfold Builtin.Slice.slicePlaces;have h1:(1:Int)>0:=by omega
 simp only [h1,if_true,Int.ediv_one]
 split<;>omega
theorem kI{v:Value}{o:Option Int}{Q:Option Int→Shared→Prop}(p:IsPart v o)(h:Q o s):wpAny (model prog w) A (Builtin.Slice.slicePartIndex v) Q E s:=by
 cases p with
 |none=>exact slicePart_none h
 |int i t=>exact slicePart_int h
theorem jF{sl:Addr}{vl vu:Value}{lo hi:Option Int}{n:Nat}{Q:Int×Int×Nat→Shared→Prop}(hs:s.heap.IsSliceOf sl vl vu .none)(pl:IsPart vl lo)(pu:IsPart vu hi)
  (h:Q (((aS n 0 lo:Nat):Int),1,aS n n hi-aS n 0 lo) s):wpAny (model prog w) A (Builtin.Slice.sliceApplied (.ref sl) (pure (n:Int))) Q E s:=by
 obtain ⟨os,x9,FZ,vB⟩:=id hs;unfold Builtin.Slice.sliceApplied Builtin.Slice.sliceFields;refine wpAny_bind (wpAny_bind (wpAny_field x9 vB (x:=vl) rfl (wpAny_bind (wpAny_field x9 vB (x:=vu) rfl (wpAny_bind (wpAny_field x9 vB (x:= .none) rfl (wpAny_pure ?_)))))));refine wpAny_bind (slicePart_none ?_);show wpAny _ _ (if ((1:Int)==0)=true then _ else _) _ _ s;rw [if_neg (by decide)]
 refine wpAny_bind (kI pl (wpAny_bind (kI pu (wpAny_bind (wpAny_pure ?_)))));show wpAny _ _ (match Builtin.Slice.sliceAdjust lo hi 1 (n:Int) with| (lo,hi)=>pure (lo,(1:Int),Builtin.Slice.slicePlaces lo hi 1)) _ _ s
 rw [qh lo hi n];show wpAny _ _ (pure (((aS n 0 lo:Nat):Int),(1:Int),Builtin.Slice.slicePlaces ((aS n 0 lo:Nat):Int) ((aS n n hi:Nat):Int) 1)) _ _ s;rw [rL];exact wpAny_pure h
theorem v5(xs:Array Value)(i k:Nat):((List.range k).filterMap λ(m:Nat)=>xs[((i:Int)+(m:Int)*1).toNat]?).toArray=((xs.toList.drop i).take k).toArray:=by
 have e:(λ(m:Nat)=>xs[((i:Int)+(m:Int)*1).toNat]?)=λm=>xs[i+m]? :=by
  funext m
  have:((i:Int)+(m:Int)*1).toNat=i+m:=by omega
  rw [this]
 rw [e]
 have:=pick_run xs i k
 rw [List.filterMap_map] at this;have e2:((λx=>xs[x]?)∘λx=>i+x)=λm=>xs[i+m]? :=rfl;rw [e2] at this;rw [this]
theorem iI{t sl:Addr}{items:Array Value}{vl vu:Value}{lo hi:Option Int}{Q:Value→Shared→Prop}(ht:IsTup s.heap t items)(hs:s.heap.IsSliceOf sl vl vu .none)(pl:IsPart vl lo)(pu:IsPart vu hi)
  (hw:¬(aS items.size 0 lo=0∧aS items.size items.size hi=items.size))
  (h:Q (.ref s.heap.objs.size) {s with heap:=s.heap.push {cls:= .type "tuple",data:= .seq ((items.toList.drop (aS items.size 0 lo)).take (aS items.size items.size hi-aS items.size 0 lo)).toArray}})
  (vF:items.size≤sizeLine):wpAny (model prog w) A (getItem (.ref t) (.ref sl)) Q E s:=by
 have ph:sizeOk (.seq ((items.toList.drop (aS items.size 0 lo)).take (aS items.size items.size hi-aS items.size 0 lo)).toArray):=by
  show ((items.toList.drop (aS items.size 0 lo)).take (aS items.size items.size hi-aS items.size 0 lo)).toArray.size≤sizeLine;rw [cc,sh,List.length_drop,Array.length_toList];omega
 have hj:aS items.size items.size hi≤items.size:=AR _ _ (bW _) hi;obtain ⟨os,x9,FZ,vB⟩:=id hs;have Kz:s.TypeIs (.ref sl) "slice":=⟨os,x9,FZ⟩;unfold getItem
 try with_reducible refine wpAny_holding ?_
 first|refine wpAny_bind (wpAny_pure ?_) |skip
 refine wpAny_bind (wpAny_sequenceKey ht.typeIs (by decide) ?_)
 refine wpAny_bind (wpAny_callSpecial?_slot (name:=Str.ofString "__getitem__") ht.typeIs PyProof.Rows.slot_tuple_getitem
  (wpAny_call_entry PyProof.Rows.slot_tuple_getitem ht.typeIs entry_tuple_getitem ?_ (args_tuple_getitem _ _)))
 show wpAny _ _ (Builtin.Tuple.tupleItemsOf (.ref t)>>=_) _ _ s;refine wpAny_bind (tupleItemsOf_ ht ?_);refine wpAny_bind (wpAny_typeOf Kz ?_);rw [if_pos (by decide)]
 refine wpAny_bind (jF hs pl pu ?_)
 have KY:¬((((aS items.size 0 lo:Nat):Int)==0&&(1:Int)==1&&(aS items.size items.size hi-aS items.size 0 lo)==items.size)=true):=by
  intro q;rw [mG,mG] at q;have q1:((aS items.size 0 lo:Nat):Int)=0:=eq_of_beq q.1.1;have q2:aS items.size items.size hi-aS items.size 0 lo=items.size:=eq_of_beq q.2;exact hw ⟨by omega,by omega⟩
 show wpAny _ _ (if (((aS items.size 0 lo:Nat):Int)==0&&(1:Int)==1&&(aS items.size items.size hi-aS items.size 0 lo)==items.size)=true then _ else _) _ _ s;rw [if_neg KY,v5]
 first
  |exact wpAny_bind (m:=Builtin.Tuple.tupleExact _) (wpAny_newObj_type (wpAny_pure ⟨_,rfl,wpAny_pure h⟩) ph)
  |exact wpAny_bind (m:=Builtin.Tuple.tupleExact _) (wpAny_newObj_type (wpAny_bind (wpAny_pure (wpAny_pure ⟨_,rfl,wpAny_pure h⟩))) ph)
  |exact wpAny_bind (wpAny_bind (m:=Builtin.Tuple.tupleExact _) (wpAny_newObj_type (wpAny_pure (wpAny_pure ⟨_,rfl,wpAny_pure h⟩)) ph))
  |exact wpAny_bind (wpAny_bind (m:=Builtin.Tuple.tupleExact _) (wpAny_newObj_type (wpAny_pure ⟨_,rfl,wpAny_pure h⟩) ph))
end
end HT
namespace L2
open PySem PySem.Spec PyProof.Rows
abbrev TO:=St→Hp→(Option Int→Hp→Prop)→Prop
def PO(X:Cx)(e:Option Expr)(t:TO):Prop:=
 ∀(pins:List (Addr×Obj))(s:Shared)(σ:St)(H:Hp)(Q:Option Int→Hp→Prop),Inv X pins σ H s→t σ H Q→
  wpAny (model X.prog X.w) X.A (evalPart e X.env) (λu s'=>∃o H',Inv X pins σ H' s'∧IsPart u o∧Q o H') X.xe s
def zb:TO:=λ_ H Q=>Q none H
def D0(t:TE):TO:=λσ H Q=>t σ H λx H1=>∃i,x= .int i∧Q (some i) H1
theorem intsAre_of{ns:List Int}:∀{us:List Value},Vals (ns.map V.int) us→IntsAre us ns:=by
 induction ns with
 |nil=>intro us r;rw [List.map_nil] at r;cases r;exact .nil
 |cons n ns ih=>
  intro us r;rw [oh] at r;cases r with
  |cons r1 r2=>
   obtain ⟨t,e⟩:=r1;subst e;exact .cons n t (ih r2)
section
variable {X:Cx} {e:Expr} {te:TE} {lo hi:Option Expr} {tl th:TO} {pos p2:Pos}
theorem yF:PO X none zb:=by
 intro pins s σ H Q I h;rw [evalPart_none];exact wpAny_pure ⟨none,H,I, .none,h⟩
theorem yG(h:PE X e te):PO X (some e) (D0 te):=by
 intro pins s σ H Q I hw;rw [evalPart_some];refine thn (h pins s σ H _ I hw) λu s1 ⟨x,H1,I1,r1,q1⟩=>?_;obtain ⟨i,rfl,q⟩:=q1;obtain ⟨t,rfl⟩:=r1;exact ⟨some i,H1,I1, .int i t,q⟩
def sA(X:Cx)(r:V→Option Int→Option Int→Hp→VK→Prop):Prop:=
 ∀(pins:List (Addr×Obj))(s:Shared)(σ:St)(H:Hp)(x:V)(v vl vu:Value)(lo hi:Option Int)(sl:Addr)(Q:VK),Inv X pins σ H s→RelV x v→s.heap.IsSliceOf sl vl vu .none→IsPart vl lo→IsPart vu hi→r x lo hi H Q→
  ∃T id,typeLookup (.type T) "__getitem__"=pure (some (.builtin id))∧s.TypeIs v T∧wpAny (model X.prog X.w) X.A (getItem v (.ref sl)) (EP X pins σ Q) X.xe s
theorem sA.or{r r':V→Option Int→Option Int→Hp→VK→Prop}(h:sA X r)(h':sA X r'):sA X (λx lo hi H Q=>r x lo hi H Q∨r' x lo hi H Q):=by
 intro pins s σ H x v vl vu lo hi sl Q I rx hs pl pu q
 rcases q with q|q
 ·exact h pins s σ H x v vl vu lo hi sl Q I rx hs pl pu q
 ·exact h' pins s σ H x v vl vu lo hi sl Q I rx hs pl pu q
def Oc(r:V→Option Int→Option Int→Hp→VK→Prop)(te:TE)(tl th:TO):TE:=λσ H Q=>te σ H λx H1=>tl σ H1 λl H2=>th σ H2 λu H3=>r x l u H3 Q
theorem vZ{r:V→Option Int→Option Int→Hp→VK→Prop}(hr:sA X r)(he:PE X e te)(hl:PO X lo tl)(hu:PO X hi th):PE X (.Subscript e (.Slice lo hi none p2) pos) (Oc r te tl th):=by
 intro pins s σ H Q I h;refine Subscript_ (thn (he pins s σ H _ I h) λv s1 ⟨x,H1,I1,r1,q1⟩=>?_);refine wpAny_Slice (thn (hl pins s1 σ H1 _ I1 q1) λvl s2 ⟨l,H2,I2,pl,q2⟩=>thn (hu pins s2 σ H2 _ I2 q2) λvu s3 ⟨u,H3,I3,pu,q3⟩=>?_);rw [evalPart_none];refine wpAny_pure ?_;have I4:Inv X pins σ H3 {s3 with heap:=s3.heap.push {cls:= .type "slice",data:= .fields #[vl,vu, .none]}}:=I3.kept (t':=s3.toks) λb ob q=>Heap.get?_push_of_some _ q
 obtain ⟨T,id,hT,ht,hg⟩:=hr pins {s3 with heap:=s3.heap.push {cls:= .type "slice",data:= .fields #[vl,vu, .none]}} σ H3 x v vl vu l u s3.heap.objs.size Q I4 r1 (Heap.IsSliceOf.new ..) pl pu q3
 show wpAny (model X.prog X.w) X.A (subscriptTail e (.Slice lo hi none p2) v (.ref s3.heap.objs.size)) (EP X pins σ Q) X.xe {s3 with heap:=s3.heap.push {cls:= .type "slice",data:= .fields #[vl,vu, .none]}}
 exact tail_any (ops:= [.ref s3.heap.objs.size,v]) ht hT hg (by with_unfolding_all rfl)
def ku(xs:List V)(lo hi:Option Int):List V:=(xs.drop (HT.aS xs.length 0 lo)).take (HT.aS xs.length xs.length hi-HT.aS xs.length 0 lo)
theorem i7(xs:List V)(lo hi:Option Int):(ku xs lo hi).length≤xs.length:=by
 unfold ku;rw [sh,List.length_drop];omega
def HJ(K:PySem.W.Frag):V→Option Int→Option Int→Hp→VK→Prop:=λx lo hi H Q=>∃a xs,x= .ref a∧cg K H a xs∧
 ¬(HT.aS xs.length 0 lo=0∧HT.aS xs.length xs.length hi=xs.length)∧∀p,H p=none→Q (.ref p) (upd H p (.tup (ku xs lo hi)))
theorem AS:sA X (HJ X.K):=by
 intro pins s σ H x v vl vu lo hi sl Q I rx hs pl pu h;obtain ⟨a,xs,rfl,hx,hw,q⟩:=h;cases rx;obtain ⟨its,r,ht,hz⟩:=I.tuple hx;have hlen:its.toArray.size=xs.length:=by rw [cc];exact r.length.symm
 refine ⟨"tuple",_,PyProof.Rows.slot_tuple_getitem.lookup,ht.typeIs,?_⟩;refine HT.iI ht hs pl pu (by rw [hlen];exact hw) ?_ (by rw [hlen];exact hz)
 rw [hlen];refine ⟨.ref s.heap.objs.size,_,I.laid (t':=s.toks) (o:= .tup (ku xs lo hi)) (λb ob q=>Heap.get?_push_of_some _ q) (bW _) ?_,rfl,q _ (I.hok.fresh (bW _))⟩;exact ⟨fH (i7 xs lo hi) hz,_,(r.drop (HT.aS xs.length 0 lo)).take (HT.aS xs.length xs.length hi-HT.aS xs.length 0 lo),IsTup.new _ _⟩
def DJ(K:PySem.W.Frag):R2:=λx y H Q=>∃a b xs ys,x= .ref a∧y= .ref b∧cg K H a xs∧cg K H b ys∧xs≠ []∧xs.length+ys.length≤sizeLine∧
 (ys= []→Q (.ref a) H)∧(ys≠ []→∀p,H p=none→Q (.ref p) (upd H p (.tup (xs++ys))))
theorem Vals.mi{xs:List V}{us:List Value}(r:Vals xs us):us= []↔xs= []:=by
 cases r with
 |nil=>simp
 |cons _ _=>simp
theorem yv:OpR X (binaryOp .Add) (DJ X.K):=by
 intro pins s σ H x y v u Q I rx ry h;obtain ⟨a,b,xs,ys,rfl,rfl,ha,hb,hx,hz,q1,q2⟩:=h;cases rx;cases ry;obtain ⟨its,r1,p1,_⟩:=I.tuple ha;obtain ⟨yf,r2,p2,_⟩:=I.tuple hb;refine HT.wW p1 p2 (λz=>hx (r1.mi.mp z)) (λz=>⟨.ref a,H,I,rfl,q1 (r2.mi.mp z)⟩) (λz=>?_) (by rw [←r1.length,←r2.length];exact hz)
 refine ⟨.ref s.heap.objs.size,_,I.laid (t':=s.toks) (o:= .tup (xs++ys)) (λb ob q=>Heap.get?_push_of_some _ q) (bW _) ?_,rfl,q2 (λw=>z (r2.mi.mpr w)) _ (I.hok.fresh (bW _))⟩;exact ⟨by rw [dR];exact hz,_,r1.append r2,IsTup.new _ _⟩
end
def jq(n:Nat)(i:Int):Option Nat:=if 0≤i then (if i<n then some i.toNat else none) else if-(n:Int)≤i then some (i+n).toNat else none
def ek{α:Type}(xs:List α)(i:Int):Option α:=(jq xs.length i).bind λj=>xs[j]?
theorem rd{n:Nat}{i:Int}{j:Nat}(h:jq n i=some j):seqIndex? i n=some j∧j<n∧-(n:Int)≤i∧i<n:=by
 unfold jq at h
 by_cases h0:0≤i
 ·rw [if_pos h0] at h
  by_cases h1:i<n
  ·rw [if_pos h1] at h
   have e:i.toNat=j:=Option.some.inj h;exact ⟨by rw [seqIndex_of h0 h1,e],by omega,by omega,h1⟩
  ·rw [if_neg h1] at h;cases h
 ·rw [if_neg h0] at h
  by_cases h1: -(n:Int)≤i
  ·rw [if_pos h1] at h
   have e:(i+n).toNat=j:=Option.some.inj h;exact ⟨by rw [seqIndex_neg (by omega) h1,e],by omega,h1,by omega⟩
  ·rw [if_neg h1] at h;cases h
theorem qi{α:Type}{xs:List α}{i:Int}{v:α}(h:ek xs i=some v):∃j,seqIndex? i xs.length=some j∧xs[j]? =some v∧j<xs.length∧-(xs.length:Int)≤i∧i<xs.length:=by
 unfold ek at h;cases e:jq xs.length i with
 |none=>rw [e] at h;cases h
 |some j=>
  rw [e] at h;obtain ⟨h1,h2,h3,h4⟩:=rd e;exact ⟨j,h1,h,h2,h3,h4⟩
theorem qj{α:Type}{xs:List α}{j:Nat}{v:α}(h:xs[j]? =some v):ek xs (j:Int)=some v:=by
 have hj:j<xs.length:=(f6.mp h).1
 have e:jq xs.length (j:Int)=some j:=by
  unfold jq;rw [if_pos (by omega),if_pos (by omega)];simp
 unfold ek;rw [e];exact h
def lh(b:Expr):Prop:=∀o i,subscripted b false o i=operate [o,i] (getItem o i)
def su(X:Cx)(r:R2):Prop:=
 ∀(value slice:Expr)(pins:List (Addr×Obj))(s:Shared)(σ:St)(H:Hp)(x y:V)(v u:Value)(Q:VK),Inv X pins σ H s→RelV x v→RelV y u→r x y H Q→
  subscripted slice false v u=operate [v,u] (getItem v u)→wpAny (model X.prog X.w) X.A (subscriptTail value slice v u) (EP X pins σ Q) X.xe s
def Ed(X:Cx)(id:String)(r:V→List V→Hp→VK→Prop):Prop:=
 ∀(pins:List (Addr×Obj))(s:Shared)(σ:St)(H:Hp)(x:V)(xs:List V)(v:Value)(us:List Value)(Q:VK),Inv X pins σ H s→RelV x v→Vals xs us→r x xs H Q→
  wpAny (model X.prog X.w) X.A (call (.builtin id) (v::us)) (EP X pins σ Q) X.xe s
section
variable {X:Cx} {a b:Expr} {ta tb:TE} {pos:Pos}
theorem su.or{r r':R2}(h:su X r)(h':su X r'):su X (λx y H Q=>r x y H Q∨r' x y H Q):=by
 intro value slice pins s σ H x y v u Q I rx ry q hs
 rcases q with q|q
 ·exact h value slice pins s σ H x y v u Q I rx ry q hs
 ·exact h' value slice pins s σ H x y v u Q I rx ry q hs
theorem yB{r:R2}(hr:su X r)(ha:PE X a ta)(hb:PE X b tb)(hs:lh b):PE X (.Subscript a b pos) (zc r ta tb):=by
 intro pins s σ H Q I h;exact Subscript_ (wU ha hb I h λv u s2 x y H2 I2 rx ry q=>hr a b pins s2 σ H2 x y v u Q I2 rx ry q (hs _ _))
def HE(K:PySem.W.Frag):R2:=λx y H Q=>∃p xs i v,x= .ref p∧y= .int i∧bq K H p xs∧ek xs i=some v∧Q v H
def HF(K:PySem.W.Frag):R2:=λx y H Q=>∃p xs i v,x= .ref p∧y= .int i∧cg K H p xs∧ek xs i=some v∧Q v H
theorem rf:su X (HE X.K):=by
 intro value slice pins s σ H x y v u Q I rx ry h hs;obtain ⟨p,xs,i,z,rfl,rfl,hq,he,q⟩:=h;cases rx;obtain ⟨t,rfl⟩:=ry;obtain ⟨its,r,pl,hz⟩:=I.list hq;obtain ⟨j,h1,h2,h3,h4,h5⟩:=qi he;obtain ⟨w,ew,yR⟩:=r.get h2;have hl:=r.length;have hn:=g9;have fin:EP X pins σ Q w s:=⟨z,H,I,yR,q⟩
 by_cases h0:0≤i
 ·have hj:i.toNat=j:=by
   rw [seqIndex_of h0 h5] at h1;exact Option.some.inj h1
  exact item_listR pl.isList h0 (by omega) (by rw [hj];simpa using ew) fin hs
 ·have hj:(i+(its.toArray.size:Int)).toNat=j:=by
   rw [seqIndex_neg (by omega) h4] at h1
   rw [cc,←hl];exact Option.some.inj h1
  exact subscriptTail_builtinR (x:=w) pl.isList.typeIs slot_list_getitem.lookup
   (wpAny_getItem_list_neg (Q:=λr s'=>r=w∧EP X pins σ Q r s') pl.isList (by omega) (by rw [cc]<;>omega) (by omega) (by rw [hj];simpa using ew) ⟨rfl,fin⟩) hs
theorem zY:su X (HF X.K):=by
 intro value slice pins s σ H x y v u Q I rx ry h hs;obtain ⟨p,xs,i,z,rfl,rfl,hq,he,q⟩:=h;cases rx;obtain ⟨t,rfl⟩:=ry;obtain ⟨its,r,pl,hz⟩:=I.tuple hq;obtain ⟨j,h1,h2,h3,h4,h5⟩:=qi he;obtain ⟨w,ew,yR⟩:=r.get h2;have hl:=r.length;have hn:=g9;have fin:EP X pins σ Q w s:=⟨z,H,I,yR,q⟩
 exact subscriptTail_builtinR (x:=w) pl.typeIs slot_tuple_getitem.lookup
  (getItem_tuple (j:=j) (Q:=λr s'=>r=w∧EP X pins σ Q r s') pl (by omega) (by omega) (by rw [cc,←hl];exact h1) (by simpa using ew) ⟨rfl,fin⟩) hs
theorem rE(its:List Value)(n j:Nat)(u:Value):Obj.mapSeq (·.setIfInBounds j u) {cls:= .type "list",data:= .seq its.toArray n}={cls:= .type "list",data:= .seq (its.set j u).toArray n}:=by
 simp [Obj.mapSeq]
theorem Inv.lst{pins:List (Addr×Obj)}{σ:St}{H:Hp}{s:Shared}{p:Addr}{xs:List V}(I:Inv X pins σ H s)(h:H p=some (.lst xs)):
  ∃(its:List Value)(n:Nat),Vals xs its∧s.heap.get? p=some {cls:= .type "list",data:= .seq its.toArray n}∧xs.length≤sizeLine:=by
 obtain ⟨z,its,n,r,e⟩:=I.hok p _ h;exact ⟨its,n,r,e,z⟩
theorem Inv.Ac{pins:List (Addr×Obj)}{σ:St}{H:Hp}{s:Shared}{p:Addr}{xs ys:List V}{its its':List Value}{n n':Nat}{f:Obj→Obj}(I:Inv X pins σ H s)(h:H p=some (.lst xs))
  (ho:s.heap.get? p=some {cls:= .type "list",data:= .seq its.toArray n}) (hf:f {cls:= .type "list",data:= .seq its.toArray n}={cls:= .type "list",data:= .seq its'.toArray n'}) (r:Vals ys its') (hz:ys.length≤sizeLine) (t:Nat):
  Inv X pins σ (upd H p (.lst ys)) {s with heap:=s.heap.update p f,toks:=t}:=by
 have e:(s.heap.update p f).get? p=some {cls:= .type "list",data:= .seq its'.toArray n'}:=by
  rw [Heap.get?_update_self f ho (by rw [hf]<;>rfl),hf]
 refine I.write (x:=p) (e:=p) (by rw [h];trivial) (.inl rfl) (λb u hb q=>(Heap.get?_update_other _ _ (Ne.symm hb)).trans q) ⟨_,e⟩ ?_
 exact ⟨hz,its',n',r,e⟩
def DL:V→V→V→Hp→(Hp→Prop)→Prop:=λo i v H Q=>∃p xs k j,o= .ref p∧i= .int k∧H p=some (.lst xs)∧jq xs.length k=some j∧Q (upd H p (.lst (xs.set j v)))
theorem set_list:Bc X DL:=by
 intro pins s σ H o i v ov iv u Q I ro ri rv h;obtain ⟨p,xs,k,j,rfl,rfl,hp,hj,q⟩:=h;cases ro;obtain ⟨t,rfl⟩:=ri;obtain ⟨its,n,r,ho,hz⟩:=I.lst hp;obtain ⟨h1,h2,h3,h4⟩:=rd hj;have hl:=r.length;have hn:=g9
 have I':Inv X pins σ (upd H p (.lst (xs.set j v))) {s with heap:=s.heap.update p (Obj.mapSeq (·.setIfInBounds j u))}:=
  I.Ac hp ho (rE its n j u) (r.set rv j) (by rw [dS];exact hz) s.toks
 by_cases h0:0≤k
 ·have hk:k.toNat=j:=by
   rw [seqIndex_of h0 h4] at h1;exact Option.some.inj h1
  exact PySem.W.ki_setAt ho h0 (by omega) (by rw [cc,←hl];exact h4) (by rw [hk];exact ⟨_,I',q⟩)
 ·have hk:(k+(its.toArray.size:Int)).toNat=j:=by
   rw [seqIndex_neg (by omega) h3] at h1
   rw [cc,←hl];exact Option.some.inj h1
  exact PySem.W.ki_setBack ho (by omega) (by rw [cc,←hl];exact h3) (by omega) (by rw [hk];exact ⟨_,I',q⟩)
theorem ng(lo hi:Option Int)(n:Nat):(sliceBounds lo hi none n).1=((HT.aS n 0 lo:Nat):Int)∧(sliceBounds lo hi none n).2.1=((HT.aS n n hi:Nat):Int)∧(sliceBounds lo hi none n).2.2=1:=by
 refine ⟨?_,?_,rfl⟩
 ·cases lo with
  |none=>simp [sliceBounds,HT.aS]
  |some i=>
   simp only [sliceBounds,HT.aS,Option.getD_none,show (1:Int)>0 by decide,if_true]
   by_cases h:i<0
   ·simp only [h,if_true]<;>omega
   ·simp only [h,if_false]<;>omega
 ·cases hi with
  |none=>simp [sliceBounds,HT.aS]
  |some i=>
   simp only [sliceBounds,HT.aS,Option.getD_none,show (1:Int)>0 by decide,if_true]
   by_cases h:i<0
   ·simp only [h,if_true]<;>omega
   ·simp only [h,if_false]<;>omega
theorem my(its:List Value)(lo hi:Option Int):slicePick its.toArray lo hi none=((its.drop (HT.aS its.length 0 lo)).take (HT.aS its.length its.length hi-HT.aS its.length 0 lo)).toArray:=by
 obtain ⟨h1,h2,h3⟩:=ng lo hi its.toArray.size;unfold slicePick;rw [h1,h2,h3];simp only [sliceRange_one,pick_run,cc]<;>rfl
def HI(K:PySem.W.Frag):V→Option Int→Option Int→Hp→VK→Prop:=λx lo hi H Q=>∃a xs,x= .ref a∧bq K H a xs∧∀p,H p=none→Q (.ref p) (upd H p (.lst (ku xs lo hi)))
theorem yV:sA X (HI X.K):=by
 intro pins s σ H x v vl vu lo hi sl Q I rx hs pl pu h;obtain ⟨a,xs,rfl,hx,q⟩:=h;cases rx;obtain ⟨its,r,ht,hz⟩:=I.list hx;have hlen:=r.length;refine ⟨"list",_,slot_list_getitem.lookup,ht.isList.typeIs,?_⟩;refine wpAny_getItem_list_slice ht.isList hs pl pu .none (by simp) ?_ (by rw [cc]<;>omega)
 rw [my,←hlen];refine ⟨.ref s.heap.objs.size,_,I.laid (t':=s.toks) (o:= .lst (ku xs lo hi)) (λb ob q=>Heap.get?_push_of_some _ q) (bW _) ?_,rfl,q _ (I.hok.fresh (bW _))⟩;exact ⟨fH (i7 xs lo hi) hz,_,0,(r.drop (HT.aS xs.length 0 lo)).take (HT.aS xs.length xs.length hi-HT.aS xs.length 0 lo),Heap.get?_push_size _ rfl⟩
def fm:V→Bool
 | .aC=>true
 | .bl _=>true
 | .int _=>true
 | .str _=>true
 |_=>false
def oP:V→V→Bool
 | .aC, .aC=>true
 | .bl a, .bl b=>a==b
 | .bl a, .int b=>(if a then 1 else 0)==b
 | .int a, .bl b=>a==(if b then 1 else 0)
 | .int a, .int b=>a==b
 | .str a, .str b=>a==b
 |_,_=>false
theorem zK{A:Around}{s:Shared}{y x:V}{u v:Value}(ry:RelV y u)(rx:RelV x v)(fy:fm y=true)(fx:fm x=true):SeqAt.EqAt A s u v (oP y x):=by
 cases y with
 |aC=>
  cases ry;cases x with
  |aC=>cases rx;exact SeqAt.EqAt.same _
  |bl b=>cases rx;exact SeqAt.EqAt.none_bool b
  |int b=>obtain ⟨t,rfl⟩:=rx;exact SeqAt.EqAt.none_int b t
  |str b=>obtain ⟨t,rfl⟩:=rx;exact SeqAt.EqAt.none_str b t
  |_=>exact absurd (show false=true from fx) fJ
 |bl a=>
  cases ry;cases x with
  |aC=>cases rx;exact SeqAt.EqAt.bool_none a
  |bl b=>cases rx;exact SeqAt.EqAt.bool_bool a b
  |int b=>obtain ⟨t,rfl⟩:=rx;exact SeqAt.EqAt.bool_int a b t
  |str b=>obtain ⟨t,rfl⟩:=rx;exact SeqAt.EqAt.bool_str a b t
  |_=>exact absurd (show false=true from fx) fJ
 |int a=>
  obtain ⟨t',rfl⟩:=ry;cases x with
  |aC=>cases rx;exact SeqAt.EqAt.int_none a t'
  |bl b=>cases rx;exact SeqAt.EqAt.int_bool a t' b
  |int b=>obtain ⟨t,rfl⟩:=rx;exact SeqAt.EqAt.int_int a t' b t
  |str b=>obtain ⟨t,rfl⟩:=rx;exact SeqAt.EqAt.int_str a t' b t
  |_=>exact absurd (show false=true from fx) fJ
 |str a=>
  obtain ⟨t',rfl⟩:=ry;cases x with
  |aC=>cases rx;exact SeqAt.EqAt.str_none a t'
  |bl b=>cases rx;exact SeqAt.EqAt.str_bool a t' b
  |int b=>obtain ⟨t,rfl⟩:=rx;exact SeqAt.EqAt.str_int a t' b t
  |str b=>obtain ⟨t,rfl⟩:=rx;exact SeqAt.EqAt.str_str a t' b t
  |_=>exact absurd (show false=true from fx) fJ
 |_=>exact absurd (show false=true from fy) fJ
def iG(x:V)(u:Value):Bool:=match u with
 | .none=>oP .aC x
 | .bool b=>oP (.bl b) x
 | .int i _=>oP (.int i) x
 | .str z _=>oP (.str z) x
 |_=>false
theorem uC{x y:V}{u:Value}(r:RelV y u)(f:fm y=true):iG x u=oP y x:=by
 cases y with
 |aC=>cases r;rfl
 |bl b=>cases r;rfl
 |int i=>obtain ⟨t,rfl⟩:=r;rfl
 |str z=>obtain ⟨t,rfl⟩:=r;rfl
 |_=>exact absurd (show false=true from f) fJ
theorem gE{x:V}:∀{xs:List V}{us:List Value},Vals xs us→xs.all fm=true→us.any (iG x)=xs.any λy=>oP y x
 |_,_, .nil,_=>rfl
 |y::xs,u::us, .cons r t,f=>by
  rw [List.all_cons,mG] at f;rw [List.any_cons,List.any_cons,uC r f.1,gE t f.2]
theorem fz{A:Around}{s:Shared}{x:V}{v:Value}(rx:RelV x v)(fx:fm x=true):∀{xs:List V}{us:List Value},Vals xs us→xs.all fm=true→∀u∈us,SeqAt.EqAt A s u v (iG x u)
 |_,_, .nil,_=>λu hu=>by cases hu
 |y::xs,u::us, .cons r t,f=>λu' hu=>by
  rw [List.all_cons,mG] at f
  rcases eU.mp hu with rfl|hu
  ·rw [uC r f.1];exact zK r rx f.1 fx
  ·exact fz rx fx t f.2 u' hu
def zX(x:V)(xs:List V):Bool:=xs.any λy=>oP y x
def DK(K:PySem.W.Frag)(neg:Bool):R2:=λx y H Q=>∃p xs,y= .ref p∧(bq K H p xs∨cg K H p xs)∧fm x=true∧xs.all fm=true∧Q (.bl (if neg then !zX x xs else zX x xs)) H
theorem tP:OpR X (compareOp .In) (DK X.K false):=by
 intro pins s σ H x y v u Q I rx ry h;obtain ⟨p,xs,rfl,hq,fx,fs,q⟩:=h;cases ry
 rcases hq with hq|hq
 ·obtain ⟨its,r,pl,hz⟩:=I.list hq
  refine SeqAt.in_listAt (iG x) pl.isList (λw hw=>fz rx fx r fs w (by simpa using hw)) ⟨.bl _,H,I,rfl,?_⟩
  rw [show its.toArray.any (iG x)=its.any (iG x) by simp,gE r fs]
  exact q
 ·obtain ⟨its,r,pl,hz⟩:=I.tuple hq
  refine SeqAt.in_tupleAt (iG x) pl (λw hw=>fz rx fx r fs w (by simpa using hw)) ⟨.bl _,H,I,rfl,?_⟩
  rw [show its.toArray.any (iG x)=its.any (iG x) by simp,gE r fs]
  exact q
theorem m8:OpR X (compareOp .NotIn) (DK X.K true):=by
 intro pins s σ H x y v u Q I rx ry h;obtain ⟨p,xs,rfl,hq,fx,fs,q⟩:=h;cases ry
 rcases hq with hq|hq
 ·obtain ⟨its,r,pl,hz⟩:=I.list hq
  refine SeqAt.notIn_listAt (iG x) pl.isList (λw hw=>fz rx fx r fs w (by simpa using hw)) ⟨.bl _,H,I,rfl,?_⟩
  rw [show its.toArray.any (iG x)=its.any (iG x) by simp,gE r fs]
  exact q
 ·obtain ⟨its,r,pl,hz⟩:=I.tuple hq
  refine SeqAt.notIn_tupleAt (iG x) pl (λw hw=>fz rx fx r fs w (by simpa using hw)) ⟨.bl _,H,I,rfl,?_⟩
  rw [show its.toArray.any (iG x)=its.any (iG x) by simp,gE r fs]
  exact q
theorem mP:CallR X (.builtin "len") (λxs H Q=>∃p ys,xs= [.ref p]∧(bq X.K H p ys∨cg X.K H p ys)∧Q (.int ys.length) H):=by
 intro pins s σ H xs us Q I r h;obtain ⟨p,ys,rfl,hq,q⟩:=h;obtain ⟨u,rfl,rx⟩:=vals1 r;cases rx;have hn:=g9
 rcases hq with hq|hq
 ·obtain ⟨its,r',pl,hz⟩:=I.list hq
  have hlen:=r'.length;exact Calls.call_len_list pl.isList (by simp only [cc]<;>omega) ⟨.int ys.length,H,I.tok _,⟨s.toks+1,by rw [cc,hlen]⟩,q⟩
 ·obtain ⟨its,r',pl,hz⟩:=I.tuple hq
  have hlen:=r'.length;exact len_tuple pl (by simp only [cc]<;>omega) ⟨.int ys.length,H,I.tok _,⟨s.toks+1,by rw [cc,hlen]⟩,q⟩
theorem mQ:CallR X (.type "list") (λxs H Q=>∃p ys,xs= [.ref p]∧(bq X.K H p ys∨cg X.K H p ys)∧∀l,H l=none→Q (.ref l) (upd H l (.lst ys))):=by
 intro pins s σ H xs us Q I r h;obtain ⟨p,ys,rfl,hq,q⟩:=h;obtain ⟨u,rfl,rx⟩:=vals1 r;cases rx
 have fin:∀(its:List Value),Vals ys its→ys.length≤sizeLine→∀(h':Heap)(c':Nat),(∀b o',s.heap.get? b=some o'→h'.get? b=some o')→
   h'.get? s.heap.objs.size=some {cls:= .type "list",dict:=none,data:= .seq its.toArray c',slots:= #[]}→EP X pins σ Q (.ref s.heap.objs.size) {s with heap:=h'}:=λits r' hz h' c' kp e=>
  ⟨.ref s.heap.objs.size,_,I.laid (t':=s.toks) kp (bW _) (show bh X.prog X.w _ h' _ (.lst ys) from ⟨hz,its,c',r',e⟩),rfl,q _ (I.hok.fresh (bW _))⟩
 rcases hq with hq|hq
 ·obtain ⟨its,r',pl,hz⟩:=I.list hq
  have hlen:=r'.length;obtain ⟨o,ho,hc,n,hd⟩:=pl.isList;exact call_list_seq p (.inl rfl) ho hc hd (λh' c' kp e=>fin its r' hz h' c' kp e) (by simp only [cc]<;>omega)
 ·obtain ⟨its,r',pl,hz⟩:=I.tuple hq
  have hlen:=r'.length;obtain ⟨o,ho,hc,n,hd⟩:=pl;exact call_list_seq p (.inr rfl) ho hc hd (λh' c' kp e=>fin its r' hz h' c' kp e) (by simp only [cc]<;>omega)
theorem lD:CallR X (.type "tuple") (λxs H Q=>∃p ys,xs= [.ref p]∧((bq X.K H p ys∧∀l,H l=none→Q (.ref l) (upd H l (.tup ys)))∨(cg X.K H p ys∧Q (.ref p) H))):=by
 intro pins s σ H xs us Q I r h;obtain ⟨p,ys,rfl,h⟩:=h;obtain ⟨u,rfl,rx⟩:=vals1 r;cases rx
 rcases h with ⟨hq,q⟩ | ⟨hq,q⟩
 ·obtain ⟨its,r',pl,hz⟩:=I.list hq
  have hlen:=r'.length;refine call_tuple_list pl.isList (λh' kp=>?_) (by simp only [cc]<;>omega)
  have I1:Inv X pins σ H {s with heap:=h'}:=I.kept (t':=s.toks) kp
  have I2:Inv X pins σ (upd H h'.objs.size (.tup ys)) {s with heap:=h'.push {cls:= .type "tuple",data:= .seq its.toArray}}:=
   I1.laid (t':=s.toks) (λb o e=>Heap.get?_push_of_some _ e) (bW _) (show bh X.prog X.w _ _ _ (.tup ys) from ⟨hz,its,r',IsTup.new _ _⟩)
  exact ⟨.ref h'.objs.size,_,I2,rfl,q _ (I1.hok.fresh (bW _))⟩
 ·obtain ⟨its,r',pl,hz⟩:=I.tuple hq
  exact call_tuple_same pl ⟨.ref p,H,I,rfl,q⟩
def A5(K:PySem.W.Frag)(T:String)(x:V)(H:Hp):Prop:=match x with
 | .str _=>T="str"
 | .int _=>T="int"
 | .ref p=>(T="list"∧∃xs,bq K H p xs)∨(T="tuple"∧∃o,K.lookup p=some o∧o.cls= .type "tuple"∧o.dict=none)∨
   (T="dict"∧((∃bK,H p=some (.dK bK))∨∃bK,H p=some (.dT bK)))∨(T="set"∧∃S n,H p=some (.set S n))
 |_=>False
theorem uX{pins:List (Addr×Obj)}{σ:St}{H:Hp}{s:Shared}{T:String}{x:V}{v:Value}(I:Inv X pins σ H s)(r:RelV x v)(ty:A5 X.K T x H):
  s.TypeIs v T∧∀a,v= .ref a→∃ob,s.heap.get? a=some ob∧ob.dict=none:=by
 cases x with
 |str z=>
  obtain ⟨t,rfl⟩:=r;cases (show T="str" from ty);exact ⟨typeIs_str s z t,λ_ e=>nomatch e⟩
 |int i=>
  obtain ⟨t,rfl⟩:=r;cases (show T="int" from ty);exact ⟨typeIs_int s i t,λ_ e=>nomatch e⟩
 |ref p=>
  cases r
  rcases ty with ⟨rfl,xs,hq⟩ | ⟨rfl,o,hk,hc,hd⟩ | ⟨rfl,hk⟩ | ⟨rfl,S,n,hk⟩
  ·obtain ⟨its,_,pl,_⟩:=I.list hq
   refine ⟨pl.isList.typeIs,λa e=>?_⟩;cases e;obtain ⟨o,n,e,c,hd,_⟩:=pl;exact ⟨o,e,hd⟩
  ·refine ⟨⟨o,I.bO p o hk,hc⟩,λa e=>?_⟩
   cases e;exact ⟨o,I.bO _ o hk,hd⟩
  ·have z:∃o,s.heap.get? p=some o∧o.ExactDict:=by
    rcases hk with ⟨bK,hk⟩ | ⟨bK,hk⟩
    ·obtain ⟨_,_,_,_,o,_,_,e,ex,_⟩:=I.hok p _ hk
     exact ⟨o,e,ex⟩
    ·obtain ⟨_,_,_,_,o,_,_,e,ex,_⟩:=I.hok p _ hk
     exact ⟨o,e,ex⟩
   obtain ⟨o,e,ex⟩:=z;refine ⟨⟨o,e,ex.1⟩,λa e2=>?_⟩;cases e2;exact ⟨o,e,ex.2.1⟩
  ·obtain ⟨o,_,_,_,e,ex,_⟩:=I.hok p _ hk
   refine ⟨⟨o,e,ex.1⟩,λa e2=>?_⟩;cases e2;exact ⟨o,e,ex.2.1⟩
 |_=>exact False.elim ty
def Ii(K:PySem.W.Frag)(T:String)(r:V→List V→Hp→VK→Prop)(to:TE):TE:=λσ H Q=>to σ H λx H1=>A5 K T x H1∧r x [] H1 Q
def N8(K:PySem.W.Frag)(T:String)(r:V→List V→Hp→VK→Prop)(to:TE)(t:TA):TE:=λσ H Q=>to σ H λx H1=>A5 K T x H1∧t σ H1 λxs H2=>r x xs H2 Q
variable {o e:Expr} {es:List Expr} {to:TE} {t:TA} {name:Str} {apos aP:Pos} {T id:String} {r:V→List V→Hp→VK→Prop}
theorem Aw(pa:PlainAttrs T)(slot:Slot T name id)(C3:typeOf (.builtin id)=pure (.type "method_descriptor"))(hm:Ed X id r)(ho:PE X o to)
  (cy:attributeBase o name X.env (eval o X.env)=eval o X.env:=by rfl) (cY:(apos.endLine==aP.line)=true:=by rfl):PE X (.Call (.Attribute o name apos) [] [] aP) (Ii X.K T r to):=by
 intro pins s σ H Q I h;refine wpAny_Call_method0_late cy cY (thn (ho pins s σ H _ I h) λv s1 ⟨x,H1,I1,r1,ty,q1⟩=>?_);obtain ⟨h1,h2⟩:=uX I1 r1 ty;exact ⟨T,id,pa,slot,C3,h1,h2,Calls.callWith_builtin rfl (PySem.evalArgs_none (hm pins s1 σ H1 x [] v [] Q I1 r1 .nil q1))⟩
theorem pQ(pa:PlainAttrs T)(slot:Slot T name id)(C3:typeOf (.builtin id)=pure (.type "method_descriptor"))(hm:Ed X id r)(ho:PE X o to)(ha:PA X (e::es) t)
  (cy:attributeBase o name X.env (eval o X.env)=eval o X.env:=by rfl)
  (jk:((backTo aP (starEach (e::es) X.env)).all (λx=>!x.1)&&(backToKw aP (keywordEach [] X.env)).all (λx=>x.1.isSome)
   &&decide ((e::es).length+([]:List Keyword).length+(if ([]:List Keyword).isEmpty then 0 else 1)<30))=true:=by rfl)
  (cY:(apos.endLine==aP.line)=true:=by rfl) (hs:starEach (e::es) X.env=(false,eval e X.env)::starEach es X.env:=by rfl) (dW:(backTo aP (starEach es X.env)).any (·.1)=false:=by rfl):
  PE X (.Call (.Attribute o name apos) (e::es) [] aP) (N8 X.K T r to t):=by
 intro pins s σ H Q I h;refine wpAny_Call_method_late cy jk cY rfl (thn (ho pins s σ H _ I h) λv s1 ⟨x,H1,I1,r1,ty,q1⟩=>?_);obtain ⟨h1,h2⟩:=uX I1 r1 ty;refine ⟨T,id,pa,slot,C3,h1,h2,?_⟩;have hA:=ha aP pins s1 σ H1 _ I1 q1;rw [hs] at hA ⊢;refine Calls.callWith_builtin (by show (false|| (backTo aP (starEach es X.env)).any (·.1))=false;rw [dW]<;>rfl) (Calls.evalArgs_plain ?_)
 exact thn hA λus s2 ⟨vs,H2,I2,r2,q2⟩=>hm pins s2 σ H2 x vs v us Q I2 r1 r2 q2
end
def B2(X:Cx)(id:String)(r:V→List V→Hp→VK→Prop):Prop:=
 ∀(pins:List (Addr×Obj))(s:Shared)(σ:St)(H:Hp)(x:V)(xs:List V)(v:Value)(us:List Value)(Q:VK),Inv X pins σ H s→RelV x v→Vals xs us→r x xs H Q→
  wpAny (model X.prog X.w) X.A (call (.builtin id) (v::us)) (EP X pins σ Q) X.xe s
theorem Vals.one:∀{x:V}{us:List Value},Vals [x] us→∃u,us= [u]∧RelV x u
 |_,_, .cons r .nil=>⟨_,rfl,r⟩
theorem Vals.two:∀{x y:V}{us:List Value},Vals [x,y] us→∃u v,us= [u,v]∧RelV x u∧RelV y v
 |_,_,_, .cons r (.cons q .nil)=>⟨_,_,rfl,r,q⟩
theorem Vals.zero:∀{us:List Value},Vals [] us→us= []
 |_, .nil=>rfl
theorem Vals.dropLast{xs:List V}{us:List Value}(h:Vals xs us):Vals xs.dropLast us.dropLast:=by
 induction h with
 |nil=>exact .nil
 |cons r t ih=>
  cases t with
  |nil=>exact .nil
  |cons q t'=>exact .cons r ih
theorem Vals.rep{xs:List V}{us:List Value}(h:Vals xs us):∀k:Nat,Vals (List.replicate k xs).flatten (List.replicate k us).flatten
 |0=> .nil
 |k+1=>by
  rw [mF,mF,n9,n9];exact Vals.append h (Vals.rep h k)
theorem qI{α:Type}(l:List α):l.eraseIdx (l.length-1)=l.dropLast:=by
 induction l with
 |nil=>rfl
 |cons a r ih=>
  cases r with
  |nil=>rfl
  |cons b r=>
   have e:(a::b::r).length-1=((b::r).length-1)+1:=by
    have h1:(a::b::r).length=r.length+2:=rfl;have h2:(b::r).length=r.length+1:=rfl;omega
   rw [e,List.eraseIdx_cons_succ,ih]
   all_goals rfl
theorem foldl_rep(its:List Value):∀(k:Nat)(acc:List Value),
  List.foldl (λx1 x2=>x1++x2) acc.toArray (List.replicate k its.toArray)=(acc++(List.replicate k its).flatten).toArray
 |0,acc=>by simp
 |k+1,acc=>by
  have e:acc.toArray++its.toArray=(acc++its).toArray:=by simp
  have e2:(acc++its)++(List.replicate k its).flatten=acc++(List.replicate (k+1) its).flatten:=by
   rw [mF,n9,List.append_assoc]
  rw [←e2,←foldl_rep its k (acc++its),←e,mF,List.foldl_cons]
section
variable {X:Cx} {pins:List (Addr×Obj)} {σ:St} {H:Hp} {s:Shared} {l b:Addr} {xs ys zs:List V}
theorem Inv.ym{its its':List Value}{n:Nat}{f:Array Value→Array Value}{t':Nat}(I:Inv X pins σ H s)(hH:H l=some (.lst xs))
  (e:s.heap.get? l=some {cls:= .type "list",data:= .seq its.toArray n}) (hf:f its.toArray=its'.toArray) (hv:Vals ys its') (hz:ys.length≤sizeLine):
  Inv X pins σ (upd H l (.lst ys)) {s with heap:=s.heap.update l (Obj.mapSeq f),toks:=t'}:=by
 have q:=PySem.IsL.update e f;rw [hf] at q;refine I.write (x:=l) (e:=l) (by rw [hH];exact trivial) (.inl rfl) (λb' u hb hu=>(Heap.get?_update_other s.heap (Obj.mapSeq f) (Ne.symm hb)).trans hu) ⟨_,q⟩ ?_
 exact ⟨hz,its',_,hv,q⟩
theorem Inv.yl{its:List Value}{t':Nat}(I:Inv X pins σ H s)(hv:Vals ys its)(hz:ys.length≤sizeLine):
  Inv X pins σ (upd H s.heap.objs.size (.lst ys)) {s with heap:=s.heap.push {cls:= .type "list",data:= .seq its.toArray},toks:=t'}:=
 I.laid (λ_ _ q=>Heap.get?_push_of_some _ q) (bW _) ⟨hz,its,0,hv,Heap.get?_push_size _ rfl⟩
theorem Inv.fresh(I:Inv X pins σ H s):H s.heap.objs.size=none:=I.hok.fresh (bW _)
theorem Inv.lZ(I:Inv X pins σ H s)(hH:H l=some (.lst xs)):xs.length≤sizeLine∧∃(its:List Value)(n:Nat),Vals xs its∧xs.length=its.length∧s.heap.get? l=some {cls:= .type "list",data:= .seq its.toArray n}:=by
 obtain ⟨z,its,n,r,e⟩:=I.hok l _ hH;exact ⟨z,its,n,r,r.length,e⟩
theorem vR{n:Nat}(h:n≤sizeLine):Builtin.List.listTooLong n=false:=by
 unfold Builtin.List.listTooLong;exact decide_eq_false (by omega)
end
section
variable {X:Cx}
def yL:V→List V→Hp→VK→Prop:=λx vs H Q=>∃l xs y,x= .ref l∧vs= [y]∧H l=some (.lst xs)∧xs.length<sizeLine∧Q .aC (upd H l (.lst (xs++ [y])))
theorem iO:B2 X "list.append" yL:=by
 intro pins s σ H x vs v us Q I rx rv h;obtain ⟨l,xs,y,rfl,rfl,hH,hz,q⟩:=h;cases rx;obtain ⟨u,rfl,ru⟩:=rv.one;obtain ⟨z,its,n,r,hl,e⟩:=I.lZ hH;refine call_meets F.slot_list_append ⟨_,e,rfl⟩ F.entry_list_append (F.args_list_append_2 _ _) (PySem.list_append l its.toArray n u (by rw [cc];omega)) ⟨e,?_⟩
 refine ⟨.aC,_,I.ym (its':=its++ [u]) hH e (by simp) (r.append (.cons ru .nil)) ?_,rfl,q⟩
 rw [dR,List.length_singleton];omega
def HG:V→List V→Hp→VK→Prop:=λx vs H Q=>∃l xs y,x= .ref l∧vs= []∧H l=some (.lst xs)∧xs[xs.length-1]? =some y∧Q y (upd H l (.lst xs.dropLast))
theorem Ae:B2 X "list.pop" HG:=by
 intro pins s σ H x vs v us Q I rx rv h;obtain ⟨l,xs,y,rfl,rfl,hH,hy,q⟩:=h;cases rx;have Le:=rv.zero;subst Le;obtain ⟨z,its,n,r,hl,e⟩:=I.lZ hH;obtain ⟨u,hu,ru⟩:=r.get hy
 have Li:its.toArray[its.toArray.size-1]? =some u:=by
  show its.toArray[its.length-1]? =some u;rw [←Array.getElem?_toList,←hl];exact hu
 refine call_meets F.slot_list_pop ⟨_,e,rfl⟩ F.entry_list_pop (F.args_list_pop_1 _) (MeetsSeq.list_pop_last l its.toArray n u Li (by rw [cc];omega)) ⟨e,?_⟩
 refine ⟨y,_,I.ym (its':=its.dropLast) hH e ?_ r.dropLast ?_,ru,q⟩
 ·show its.toArray.eraseIdxIfInBounds (its.toArray.size-1)=its.dropLast.toArray
  rw [cc,List.eraseIdxIfInBounds_toArray,qI]
 ·rw [List.length_dropLast]
  omega
def HC:R2:=λx y H Q=>∃l b xs zs,x= .ref l∧y= .ref b∧H l=some (.lst xs)∧H b=some (.lst zs)∧xs.length+zs.length≤sizeLine∧∀p,H p=none→Q (.ref p) (upd H p (.lst (xs++zs)))
theorem Am:OpR X (binaryOp .Add) HC:=by
 intro pins s σ H x y v u Q I rx ry h;obtain ⟨l,b,xs,zs,rfl,rfl,hH,hB,hz,q⟩:=h;cases rx;cases ry;obtain ⟨z,its,n,r,hl,e⟩:=I.lZ hH;obtain ⟨z2,yf,n2,r2,ON,e2⟩:=I.lZ hB;refine PySem.P.add_list e e2 ?_ (by rw [cc,cc];omega)
 have ea:its.toArray++yf.toArray=(its++yf).toArray:=by simp
 rw [ea];exact ⟨.ref _,_,I.yl (t':=s.toks) (r.append r2) (by rw [dR];omega),rfl,q _ I.fresh⟩
def HH:R2:=λx y H Q=>∃l k xs,x= .ref l∧y= .int k∧H l=some (.lst xs)∧-(2^63)≤k∧k<2^63∧xs.length*k.toNat≤sizeLine∧
 ∀p,H p=none→Q (.ref p) (upd H p (.lst (List.replicate k.toNat xs).flatten))
theorem len_rep{α:Type}(xs:List α)(k:Nat):(List.replicate k xs).flatten.length=k*xs.length:=by
 induction k with
 |zero=>simp
 |succ k ih=>rw [mF,n9,dR,ih,Nat.succ_mul,Nat.add_comm]
theorem As:OpR X (binaryOp .Mult) HH:=by
 intro pins s σ H x y v u Q I rx ry h;obtain ⟨l,k,xs,rfl,rfl,hH,h1,h2,hz,q⟩:=h;cases rx;obtain ⟨t,rfl⟩:=ry;obtain ⟨z,its,n,r,hl,e⟩:=I.lZ hH;have hlen:its.toArray.size*k.toNat≤sizeLine:=by rw [cc,←hl];exact hz
 have FU:¬its.toArray.size*k.toNat>(2^63-1) / 8:=by
  have:(sizeLine:Nat)≤(2^63-1) / 8:=by decide
  omega
 have xU:¬(!Builtin.List.listFitsIndex k)=true:=by
  rw [fitsIndex_both h1 h2];exact fJ
 have CW:¬Builtin.List.listTooLong (its.toArray.size*k.toNat)=true:=by
  rw [vR hlen];exact fJ
 have F7:List.foldl (λx1 x2=>x1++x2) #[] (List.replicate (if its.toArray.isEmpty=true then 0 else k.toNat) its.toArray)=(List.replicate k.toNat its).flatten.toArray:=by
  have f0:∀m:Nat,List.foldl (λx1 x2=>x1++x2) #[] (List.replicate m its.toArray)=(List.replicate m its).flatten.toArray:=λm=>by
   have:=foldl_rep its m []
   rw [si] at this;exact this
  rw [f0];cases its with
  |nil=>simp
  |cons a r'=>rw [if_neg (by simp)]
 refine wpAny_binaryOp_repeat_ref (T:="list") (U:="int") (by decide) ⟨_,e,rfl⟩ (λs'=>typeIs_int s' k t) noFill_list_mul F.fills_int_mul F.slot_int_rmul repeat_list F.slot_int_index.lookup
  (call_meets F.slot_int_rmul (typeIs_int s k t) F.entry_int_rmul (F.args_int_rmul_2 _ _) (int___rmul___int_list k t l its.toArray n)
   ⟨e,rfl,⟨_,e,rfl⟩,call_meets F.slot_list_mul ⟨_,e,rfl⟩ F.entry_list_mul (F.args_list_mul_2 _ _) (AutoListH.list___mul___list_int_3 l its.toArray n k t xU FU CW) ⟨e,?_⟩⟩)
 rw [F7];exact ⟨.ref _,_,I.yl (t':=s.toks) (r.rep k.toNat) (by rw [len_rep,Nat.mul_comm];exact hz),rfl,q _ I.fresh⟩
end
section
variable {prog:Program} {w:World} {A:Around} {E:Value→Shared→Prop} {s:Shared}
end
section
variable {X:Cx}
end
end L2
namespace D8
open PySem PySem.W PySem.Calls PyProof.Rows
theorem jZ{P:Params}{h:Heap}:∀(ns:List Int)(vs:List Value),WellAll P h vs (ns.map WData.int)→IntsAre vs ns:=by
 intro ns
 induction ns with
 |nil=>
  intro vs w;rw [List.map_nil] at w;cases w;exact .nil
 |cons n ns ih=>
  intro vs w;rw [oh] at w;cases w with
  |cons a b=>
   cases a;exact .cons _ _ (ih _ b)
theorem tX{l:OpenLaw}{n:Nat}(hn:l.most=some n){P:Params}{h:Heap}{args:List WData}{vals:List Value}
  (uF:l.row.toRowW.claim.pre args=true) (C6:WellAll P h vals args):
  ∃a vs ns,vals= [Value.ref a]∧args= [WData.list (ns.map WData.int)]∧h.get? a=some {cls:= .type "list",data:= .seq vs.toArray}∧IntsAre vs ns∧ns.length≤n:=by
 have K8:WShape.hasAll [] args [.list .int]=true:=(pre_splitW uF).1;have hc:l.pre.holds [] {args:=args}=true:=(pre_splitW uF).2;obtain ⟨d,r,rfl,h1,h2⟩:=hasAllW_cons K8;obtain rfl:=hasAllW_nil h2;obtain ⟨xs,rfl,h3⟩:=hasW_list h1;obtain ⟨ns,rfl⟩:=items_int h3
 have hlen:ns.length≤n:=by
  unfold OpenLaw.pre at hc
  have h4:(WTm.not (.lt (.lit (.int (n:Int))) (.len (.arg 0)))).holds [] {args:= [.list (ns.map .int)]}=true:=by
   have h4:=(holds_andW hc).1;rw [hn] at h4;exact h4
  have h5:=condW_of h4 (w_not (w_lt w_lit (w_len_list (w_arg rfl))));rw [cQ] at h5;refine cS λq=>?_;have q':(n:Int)<((ns.length:Nat):Int):=by omega
  first
   | (rw [decide_eq_true q'] at h5;exact absurd h5 (by decide))
   | (simp at h5;omega)
 cases C6 with
 |cons w1 w2=>
  cases w2;cases w1 with
  |list ho FQ=>exact ⟨_,_,ns,rfl,rfl,ho,jZ ns _ FQ,hlen⟩
theorem tU(l:OpenLaw)(args:List WData):l.row.toRowW.claim.post args (.bool true) args=true:=
 postW_of (r:=l.row.toRowW) (X:=(true==true))
  (show WShape.has [] (.bool true) .bool=true by first|rfl|decide|simp [WShape.has,WShape.arms,WShape.armsAll])
  (show (WTm.eq .res (.lit (.bool true))).value [] {args:=args,res:=some (.bool true),after:=args}=some (.bool (true==true)) from w_eq_bool (w_res rfl) w_lit) rfl
theorem ot{l:OpenLaw}{n:Nat}{q:Program}{loose:List Str}{XP:(Str→Option Value)→Heap→Prop}{YP:World→Heap→Prop}{d:DefRec}
  (hn:l.most=some n) (td:d.params.defaults= [])
  (call:∀(w:World)(s₀ s₁:Shared)(mg mb:Str→Option Value)(fa:Addr)(o:Obj)(pm cd doc:Value)(a:Addr)(vs:List Value)(ns:List Int),
   Ground q loose [] XP w s₀ mg mb s₁.heap→YP w s₁.heap→
   s₁.heap.get? fa=some o→o.data= .func (docDef d.name d.params d.body d.scope pm cd doc)→s₁.heap.CodeRec cd d.name→mg d.name=some (.ref fa)→
   s₁.heap.get? a=some {cls:= .type "list",data:= .seq vs.toArray}→IntsAre vs ns→ns.length≤n→s₁.gens= #[]→
   codeAny (model l.prog w) callerA (.call (.ref fa) ⟨[.ref a],[]⟩) (λr s'=>r= .ok (.ret (.bool true))∧OldK s₁.heap s'.heap∧s'.os=s₁.os∧AllBare s'.gens) s₁):
  WalkO q loose XP YP l.row.toRowW d [] (λf vs=>PySem.call f vs):=by
 intro w s₀ s₁ mg mb G Y fa o pm cd doc dV kV ho hd cL hD xY hg args vals as uF Ot OP C6 OO;obtain rfl:dV= .none:=Dflts.none hD td;obtain rfl:kV= .none:=Dflts.noKw hD;obtain ⟨a,vs,ns,rfl,rfl,x8,hints,hlen⟩:=tX hn uF C6;refine enter_call (codeAny_mono (call w s₀ s₁ mg mb fa o pm cd doc a vs ns G Y ho (fd_plain hd) cL xY x8 hints hlen hg) λr s' hq=>?_);obtain ⟨rfl,h2,h3,h4⟩:=hq;exact ⟨.inl ⟨.bool true, .bool true,[],rfl,λ_=>rfl, .bool true,tU l _,λ_=>⟨List.Pairwise.nil,λ_ hm=>(nomatch hm)⟩⟩,h2,h3,h4⟩
section
variable {prog:Program} {w:World} {A:Around} {E:Value→Shared→Prop} {s:Shared} {K:Frag}
end
end D8
namespace L2
open PySem PySem.Spec PyProof.Rows
theorem mE:∀{vs:List Value}{ns:List Int},IntsAre vs ns→Vals (ns.map V.int) vs
 |_,_, .nil=> .nil
 |_,_, .cons n t h=> .cons ⟨t,rfl⟩ (mE h)
def wH(H:Hp):Prop:=∀b,H b=none∨∃o xs,H b=some (.jh o (.lst xs))
theorem vJ{P:Program}{w:World}{K:PySem.W.Frag}{mg mb:Str→Option Value}{CX:h7}{k:Nat}{fa a:Addr}{fd:FuncData}{x:Str}{sp:Sp}{s₁:Shared}{vs:List Value}{ns:List Int}
  (KX:K.In s₁.heap) (tw:s₁.heap.Ns mainGlobals mg) (hb:s₁.heap.Ns builtinsNs mb) (sZ:∀x:Str,x≠"__name__"→mb x=bootBuiltins x) (F5:s₁.heap.NoLimit) (hg:s₁.gens= #[])
  (ha:s₁.heap.get? a=some {cls:= .type "list",data:= .seq vs.toArray}) (hi:IntsAre vs ns) (hl:ns.length≤sizeLine) (hr:aW k callerA)
  (F:∀base:Heap,K.In base→base.Ns mainGlobals mg→FnOk P w K mg base CX k fa fd [x] sp) (CM:∀(s:Shared)(u:Value),BindsTo s fd ⟨[u],[]⟩ [(x,u)])
  (jX:∀H:Hp,wH H→bq K H a (ns.map V.int)→sp [.ref a] H (λv _=>v= .bl true) λ_ _ _=>False)
  (CL:∀H e s',CX [] H s₁ (λ_ _ _=>False) e s'→False):
  codeAny (model P w) callerA (.call (.ref fa) ⟨[.ref a],[]⟩) (λr s'=>r= .ok (.ret (.bool true))∧OldK s₁.heap s'.heap∧s'.os=s₁.os∧AllBare s'.gens) s₁:=by
 have rv:=mE hi;have GJ:=hi.length
 have core:∀H:Hp,wH H→bq K H a (ns.map V.int)→cw P w H s₁.heap→(∀b,H b≠none→b=a)→(H a≠none→K.lookup a=none)→
   codeAny (model P w) callerA (.call (.ref fa) ⟨[.ref a],[]⟩) (λr s'=>r= .ok (.ret (.bool true))∧OldK s₁.heap s'.heap∧s'.os=s₁.os∧AllBare s'.gens) s₁:=by
  intro H hO hS hok hA hK;have qk:∀{b:Addr}{o:Obj},s₁.heap.get? b=some o→H b=none→(jl s₁.heap H).get? b=some o:=λe n=>vD e n
  have yo:∀{b:Addr}{o:Obj}{es:Array DictEntry}{ep:Nat},s₁.heap.get? b=some o→o.data= .dict es ep→H b=none:=λ {b o es ep} e d=>by
   cases q:H b with
   |none=>rfl
   |some u=>
    have e':b=a:=hA b (by rw [q];simp)
    subst e';rw [ha] at e;cases e;have d':Data.seq vs.toArray _=Data.dict es ep:=d;cases d'
  have Ag:∀{b:Addr}{m:Str→Option Value},s₁.heap.Ns b m→(jl s₁.heap H).Ns b m:=λ {b m} ⟨o,es,ep,e,d,r⟩=>⟨o,es,ep,qk e (yo e d),d,r⟩
  have FP:K.In (jl s₁.heap H):=λb o e=>qk (KX b o e) (by
   cases q:H b with
   |none=>rfl
   |some u=>
    have e':b=a:=hA b (by rw [q];simp)
    subst e';rw [hK (by rw [q];simp)] at e;cases e)
  have hM:Mod K mg (jl s₁.heap H):=⟨FP,Ag tw,⟨mb,Ag hb,sZ⟩,let ⟨mc,h1,h2⟩:=F5;⟨mc,Ag h1,h2⟩⟩;have e0:Env0 P w K mg (jl s₁.heap H) callerA [] s₁ H:=⟨rfl,hM,λb o e=>yr e,Nat.le_of_eq (tm _ _),trivial,λb hb=>absurd (show b∈([]:List Addr) from hb) (by simp),hok, .of_eq hg⟩
  refine codeAny_mono ((F _ FP (Ag tw)).run callerA [] s₁ H ⟨[.ref a],[]⟩ [.ref a] [.ref a] _ _ hr e0 (CM s₁ (.ref a)) (.cons rfl .nil) (jX H hO hS)) λr s' h=>?_;cases r with
  |error e=>exact (CL H e s' h).elim
  |ok fl=>
   cases fl with
   |next=>exact False.elim h
   |brk=>exact False.elim h
   |cont=>exact False.elim h
   |ret u=>
    obtain ⟨v,H',os,bare,un,Gb,r',q⟩:=h;have q':v= .bl true:=q;subst q';obtain rfl:u=Value.bool true:=r';refine ⟨rfl,OldK.of_keep λb o e=>?_,os,bare⟩;cases q:H b with
    |none=>exact un.keep b o e q (by intro z;exact absurd (show b∈([]:List Addr) from z) (by simp)) (by simp)
    |some u=>
     rcases hO b with z| ⟨ob,xs,z⟩
     ·rw [q] at z;cases z
     ·have z2:=un.frzs b ob _ z
      obtain ⟨e1,_⟩:=hok b _ z;obtain ⟨e2,_⟩:=Gb b _ z2;rw [e] at e1;cases e1;exact e2
 cases hk:K.lookup a with
 |some o=>
  have e:=KX a o hk;rw [ha] at e;cases e;refine core (λ_=>none) (λ_=> .inl rfl) (.inr ⟨_,vs.toArray,_,hk,rfl,rfl,rfl,by rw [cc,GJ];exact hl,by simpa using rv⟩) (λb u z=>by have z':(none:Option HO)=some u:=z;cases z') (λb z=>absurd rfl z) λz=>absurd rfl z
 |none=>
  refine core (λb=>if b=a then some (.jh {cls:= .type "list",data:= .seq vs.toArray} (.lst (ns.map V.int))) else none) (λb=>?_) (.inl (.inr ⟨{cls:= .type "list",data:= .seq vs.toArray},if_pos rfl⟩)) (λb u z=>?_) (λb z=>?_) λ_=>hk
  ·by_cases hb:b=a
   ·exact .inr ⟨_,_,if_pos hb⟩
   ·exact .inl (if_neg hb)
  ·by_cases hb:b=a
   ·have z':=(if_pos hb).symm.trans z
    cases z';subst hb;exact ⟨ha,by rw [cQ];exact hl,vs,_,rv,ha⟩
   ·have z':=(if_neg hb).symm.trans z
    cases z'
  ·by_cases hb:b=a
   ·exact hb
   ·exact absurd (if_neg hb) z
theorem zj{l:PySem.W.OpenLaw}{n k:Nat}{q:Program}{loose:List Str}{XP:(Str→Option Value)→Heap→Prop}{YP:World→Heap→Prop}{d:DefRec}{K:Params→PySem.W.Frag}{CX:World→h7}{sp:World→Sp}{x:Str}
  (hn:l.most=some n) (zV:n≤sizeLine) (td:d.params.defaults= []) (hr:aW k callerA)
  (hY:∀(w:World)(h:Heap),YP w h→(K w.params).In h)
  (F:∀(w:World)(mg:Str→Option Value)(fa:Addr)(h:Heap),(K w.params).In h→h.Ns mainGlobals mg→mg d.name=some (.ref fa)→
   ∃fd:FuncData,(∀(s:Shared)(u:Value),BindsTo s fd ⟨[u],[]⟩ [(x,u)])∧
    ∀base:Heap,(K w.params).In base→base.Ns mainGlobals mg→FnOk l.prog w (K w.params) mg base (CX w) k fa fd [x] (sp w))
  (jX:∀(w:World)(H:Hp)(a:Addr)(ns:List Int),ns.length≤n→wH H→bq (K w.params) H a (ns.map V.int)→sp w [.ref a] H (λv _=>v= .bl true) λ_ _ _=>False)
  (CL:∀(w:World)(H:Hp)(s:Shared)(e:Value)(s':Shared),CX w [] H s (λ_ _ _=>False) e s'→False):
  PySem.W.WalkO q loose XP YP l.row.toRowW d [] (λf vs=>PySem.call f vs):=by
 refine D8.ot hn td λw s₀ s₁ mg mb fa o pm cd doc a vs ns G Y ho hd cL xY x8 hints hlen hg=>?_;have KX:=hY w _ Y;obtain ⟨fd,hb,hF⟩:=F w mg fa _ KX G.T.g xY;exact vJ KX G.T.g G.T.b G.T.builtins G.T.nolimit hg x8 hints (fH hlen zV) hr hF hb (λH hO hS=>jX w H a ns hlen hO hS) λH e s'=>CL w H s₁ e s'
def inClass(s:Stmt)(j:Nat):Stmt:=match s with
 | .ClassDef _ _ _ body _ _ _ _ _ _ _=>body.getD j (.Pass ⟨0,0,0,0⟩)
 |_=> .Pass ⟨0,0,0,0⟩
def eB(s:Stmt):Arguments:=match s with
 | .FunctionDef _ a _ _ _ _ _ _ _ _=>a
 |_=>{posonlyargs:= [],args:= [],vararg:=none,kwonlyargs:= [],kw_defaults:= [],kwarg:=none,defaults:= []}
def bx(s:Stmt):List Stmt:=match s with
 | .FunctionDef _ _ b _ _ _ _ _ _ _=>b
 |_=> []
def af(s:Stmt):Scope:=match s with
 | .FunctionDef _ _ _ _ _ _ sc _ _ _=>sc
 |_=>{kind:= .function,names:= [],isGenerator:=false,isCoroutine:=false}
abbrev bu:h7:=λ_ _ _ _ _ _=>False
abbrev E0:XK:=λ_ _ _=>False
theorem tQ{X:Cx}:Passes bu X E0:=λ_ _ _ _ _ _ _ h=>h.elim
structure ib (K:PySem.W.Frag) (x qual:Str) (st:Stmt) (f:Addr) (fd:FuncData):Prop where
 ex:∃(oc:Value)(od:Option Addr)(kV doc pm:Value)(an:Option Addr)(aF ct:Value)(m9:Array (Option Value)),
  fd=PySem.W.fnOf x qual (eB st) (bx st) (af st) .none kV doc pm an aF ct∧K.lookup f=some ⟨oc,od, .func fd,m9⟩∧PySem.W.codeIn K aF qual=true
 kp:PySem.W.keepIn K (.ref f)=true
section
variable {P:Program} {w:World} {K:PySem.W.Frag} {mg:Str→Option Value} {base:Heap}
theorem ib.ok{x qual:Str}{st:Stmt}{f:Addr}{fd:FuncData}{N ps:List Str}{k:Nat}{sp:Sp}(F:ib K x qual st f fd)(S:ax N ps (af st))(len:∀vs H Q E,sp vs H Q E→vs.length=ps.length)
  (cz:∀(aF:Value)(A:Around)(outer:List Env)(s:Shared)(H:Hp)(vs:List V)(Q:VK)(E:XK),aW k (A.deeper (envOfC qual (af st) s.heap.objs.size f aF))→sp vs H Q E→
   ∃t,eY (el bu P w K mg base N qual (af st) f aF A outer s H E).mj (bx st) t∧t {nx:=λ_ H'=>Q .aC H',rt:=Q} (start N vs) H):FnOk P w K mg base bu (k+1) f fd ps sp:=by
 obtain ⟨oc,od,kV,doc,pm,an,aF,ct,m9,rfl,lk,cL⟩:=F.ex;refine xD lk cL S len λA outer s H vs Q E hr jX=>?_;obtain ⟨t,h,q⟩:=cz aF A outer s H vs Q E hr jX;exact ⟨t,h.mj,q⟩
theorem ib.binds{x qual:Str}{st:Stmt}{f:Addr}{fd:FuncData}{ps:List Str}(F:ib K x qual st f fd)
  (h:∀(kV doc pm:Value)(an:Option Addr)(aF ct:Value)(us:List Value),us.length=ps.length→bindArgs (PySem.W.fnOf x qual (eB st) (bx st) (af st) .none kV doc pm an aF ct) ⟨us,[]⟩=pure (ps.zip us)):Binds K fd ps []:=by
 obtain ⟨oc,od,kV,doc,pm,an,aF,ct,m9,rfl,lk,cL⟩:=F.ex;exact .all (h kV doc pm an aF ct)
theorem ji{x qual:Str}{st:Stmt}{f:Addr}{oc:Value}{od an:Option Addr}{m9:Array (Option Value)}{kV doc pm aF ct:Value}(l:K.lookup f=some ⟨oc,od, .func (PySem.W.fnOf x qual (eB st) (bx st) (af st) .none kV doc pm an aF ct),m9⟩)
  (c:PySem.W.codeIn K aF qual=true) (k:PySem.W.keepIn K (.ref f)=true):ib K x qual st f (PySem.W.fnOf x qual (eB st) (bx st) (af st) .none kV doc pm an aF ct):=⟨⟨oc,od,kV,doc,pm,an,aF,ct,m9,rfl,l,c⟩,k⟩
end
theorem cE{n:Nat}(h:n≤1000):n<sizeLine:=Nat.lt_of_le_of_lt h (by decide)
section
variable {X:Cx}
theorem pv(i:Nat){x:Str}{pos:Pos}(hN:X.N[i]? =some x:=by rfl)(hv:lj X.env.scope x:=by first|exact Or.inl rfl|exact Or.inr (Or.inl rfl) |exact Or.inr (Or.inr rfl))(hd:(x==("__debug__":Str))=false:=by decide)
  (cL:(x==("__classdict__":Str))=false:=by decide):PE X (.Name x pos) (BU i):=uP hN hv hd cL
end
theorem aZ{A B:Prop}(h:B):if false=true then A else B:=by
 rw [if_neg fJ];exact h
theorem bG{A B:Prop}(h:A):if true=true then A else B:=by
 rw [if_pos rfl];exact h
def az(H H':Hp):Prop:=∀b o,H b=some o→H' b=some o
theorem az.refl(H:Hp):az H H:=λ_ _ h=>h
theorem az.trans{H H1 H2:Hp}(a:az H H1)(b:az H1 H2):az H H2:=λc o h=>b c o (a c o h)
theorem az.free{H H':Hp}(e:az H H'){l:Addr}(h:H' l=Option.none):H l=Option.none:=by
 cases q:H l with
 |none=>rfl
 |some o=>
  rw [e l o q] at h;cases h
def e8(env:Env):List (Str×NameKind)→List (Str×Addr)→List (Str×Addr)
 | [],cs=>cs
 | (n,k)::r,cs=>if k==NameKind.free then e8 env r ((n,(env.cells.lookup n).getD 0)::cs) else e8 env r cs
theorem fv{scope:Scope}{env:Env}(h:∀x∈scope.names,x.2= .free→∃c,env.cells.lookup x.1=some c):closureFor scope env=pure (e8 env scope.names []):=by
 simp only [closureFor]
 have go:∀(names:List (Str×NameKind))(cs:List (Str×Addr)),(∀x∈names,x.2= .free→∃c,env.cells.lookup x.1=some c)→
   (forIn names cs λx __s=>if (x.snd==NameKind.free)=true then (do let a ←cellOf env x.fst;pure (ForInStep.yield ((x.fst,a)::__s))) else pure (ForInStep.yield __s))=(pure (e8 env names cs):Sem _):=by
  intro names
  induction names with
  |nil=>intro cs _;rfl
  |cons x r ih=>
   intro cs h;obtain ⟨n,k⟩:=x;rw [List.forIn_cons,e8];have hr:=λcs=>ih cs λy hy=>h y (fu _ hy);cases hk:k==NameKind.free with
   |false=>
    simp only [hk,sg,if_false];exact hr cs
   |true=>
    have qU:k= .free:=by simpa using hk
    obtain ⟨c,hc⟩:=h (n,k) fI qU;simp only at hc;simp only [if_true,cellOf,hc];exact hr _
 rw [go _ _ h];rfl
theorem b7{env:Env}:∀(names:List (Str×NameKind))(cs:List (Str×Addr)),(∀x∈names,x.2= .free→∃c,env.cells.lookup x.1=some c)→(∀x c,cs.lookup x=some c→env.cells.lookup x=some c)→
  ∀x c,(e8 env names cs).lookup x=some c→env.cells.lookup x=some c
 | [],cs,_,hc=>hc
 | (n,k)::r,cs,h,hc=>by
  rw [e8]
  split
  ·rename_i hk
   refine b7 r _ (λy hy=>h y (fu _ hy)) λx c e=>?_;obtain ⟨c',xN⟩:=h (n,k) fI (by simpa using hk)
   rw [jM] at e
   split at e
   ·rename_i hx
    have C7:x=n:=by simpa using hx
    subst C7;simp only at xN;rw [xN] at e ⊢;exact e
   ·exact hc x c e
  ·exact b7 r cs (λy hy=>h y (fu _ hy)) hc
theorem gU{env:Env}:∀(names:List (Str×NameKind))(cs:List (Str×Addr))(x:Str),((x,NameKind.free)∈names∨∃c,cs.lookup x=some c)→∃c,(e8 env names cs).lookup x=some c
 | [],cs,x,h=>by
  rcases h with h|h
  ·cases h
  ·exact h
 | (n,k)::r,cs,x,h=>by
  rw [e8]
  split
  ·rename_i hk
   refine gU r _ x ?_
   by_cases e:x=n
   ·subst e;exact .inr ⟨(env.cells.lookup x).getD 0,by simp [jM]⟩
   ·have ne:(x==n)=false:=by simpa using e
    rcases h with h| ⟨c,h⟩
    ·rcases eU.mp h with z|z
     ·cases z;exact absurd rfl e
     ·exact .inl z
    ·exact .inr ⟨c,by rw [jM,ne];exact h⟩
  ·rename_i hk
   refine gU r cs x ?_
   rcases h with h|h
   ·rcases eU.mp h with z|z
    ·cases z;exact absurd rfl hk
    ·exact .inl z
   ·exact .inr h
def ix(src:List (Option Nat))(σ:St):St:=src.map λo=>o.bind λi=>(σ[i]?).bind id
def bN(scope:Scope)(XN:List Str):List (Option Nat)→List Str→Prop
 | [],[]=>True
 |none::r,_::n=>bN scope XN r n
 |some i::r,x::n=>XN[i]? =some x∧scope.names.lookup x=some .free∧bN scope XN r n
 |_,_=>False
theorem bN.len{scope:Scope}{XN:List Str}:∀{src:List (Option Nat)}{NC:List Str},bN scope XN src NC→src.length=NC.length
 | [],[],_=>rfl
 |none::r,_::n,h=>by have:=bN.len (src:=r) (NC:=n) h;simp [this]
 |some i::r,_::n,h=>by have:=bN.len (src:=r) (NC:=n) h.2.2;simp [this]
 | [],_::_,h=>h.elim
 |none::_,[],h=>h.elim
 |some _::_,[],h=>h.elim
theorem bN.at{scope:Scope}{XN:List Str}:∀{src:List (Option Nat)}{NC:List Str}{j i:Nat}{x:Str},bN scope XN src NC→src[j]? =some (some i)→NC[j]? =some x→XN[i]? =some x∧scope.names.lookup x=some .free
 | [],[],_,_,_,_,h,_=>by simp at h
 |none::r,_::n,0,_,_,_,h,_=>by simp at h
 |none::r,_::n,j+1,i,x,h,h1,h2=>bN.at (src:=r) (NC:=n) (j:=j) h (by simpa using h1) (by simpa using h2)
 |some k::r,y::n,0,i,x,h,h1,h2=>by
  have e1:k=i:=by simpa using h1
  have e2:y=x:=by simpa using h2
  subst e1 e2;exact ⟨h.1,h.2.1⟩
 |some k::r,_::n,j+1,i,x,h,h1,h2=>bN.at (src:=r) (NC:=n) (j:=j) h.2.2 (by simpa using h1) (by simpa using h2)
 | [],_::_,_,_,_,h,_,_=>h.elim
 |none::_,[],_,_,_,h,_,_=>h.elim
 |some _::_,[],_,_,_,h,_,_=>h.elim
structure bw (X:Cx) (scope:Scope):Prop where
 kind:scope.kind= .function
 names:∀x∈scope.names,x.2= .local→scope.names.lookup x.1=some .local
 nocell:∀x∈scope.names,x.2≠ .cell
 free:∀x∈scope.names,x.2= .free→X.env.kindOf x.1=some .cell∨X.env.kindOf x.1=some .free
theorem dE{env:Env}:∀(names:List (Str×NameKind))(x:Str),
  (names.map λ(n,k)=>if (k==NameKind.free&&env.scope.kind== .function&&env.kindOf n==some .cell) then (n,NameKind.cell) else (n,k)).lookup x=
   (names.lookup x).map λk=>if (k==NameKind.free&&env.scope.kind== .function&&env.kindOf x==some .cell) then NameKind.cell else k
 | [],_=>rfl
 | (n,k)::r,x=>by
  have ih:=dE (env:=env) r x;show List.lookup x ((if (k==NameKind.free&&env.scope.kind== .function&&env.kindOf n==some .cell)=true then (n,NameKind.cell) else (n,k))::_)=_;cases hx:x==n with
  |true=>
   have e:x=n:=by simpa using hx
   subst e
   by_cases hc:(k==NameKind.free&&env.scope.kind== .function&&env.kindOf x==some .cell)=true
   ·rw [if_pos hc,jM,jM]
    simp only [hx];show some NameKind.cell=some (if _ then _ else _);rw [if_pos hc]
   ·rw [if_neg hc,jM,jM]
    simp only [hx];show some k=some (if _ then _ else _);rw [if_neg hc]
  |false=>
   by_cases hc:(k==NameKind.free&&env.scope.kind== .function&&env.kindOf n==some .cell)=true
   ·rw [if_pos hc];simp only [jM,hx];exact ih
   ·rw [if_neg hc];simp only [jM,hx];exact ih
theorem mem_lookup{names:List (Str×NameKind)}{x:Str}{k:NameKind}(h:names.lookup x=some k):(x,k)∈names:=PySem.mem_of_lookup h
def dA(X:Cx)(scope:Scope)(NC:List Str)(ex:List Addr)(s:Shared)(H:Hp):Cx:=
 {X with N:=NC,s₀:=s,H₀:=H,env:=compEnvC scope (e8 X.env scope.names []) s.heap.objs.size X.env,outer:=X.stack,stack:=X.stack,ex:=ex,fn:=λ_=>false,pn:= [],xe:=λ_ _=>False}
section
variable {X:Cx} {pins:List (Addr×Obj)} {σ:St} {H:Hp} {s:Shared} {scope:Scope} {NC:List Str} {ex:List Addr} {src:List (Option Nat)}
theorem bw.cells(c:bw X scope)(ok:X.Ok):∀x∈scope.names,x.2= .free→∃c,X.env.cells.lookup x.1=some c:=λx hx e=>ok.has x.1 (c.free x hx e)
theorem bw.De(c:bw X scope){C:Addr}{x:Str}{k:NameKind}(h:(compEnvC scope (e8 X.env scope.names []) C X.env).kindOf x=some k)(hk:k= .cell∨k= .free):scope.names.lookup x=some .free:=by
 have h':(relabel scope X.env).names.lookup x=some k:=h;unfold relabel at h';rw [dE] at h';cases e:scope.names.lookup x with
 |none=>rw [e] at h';cases h'
 |some k'=>
  have nc:=c.nocell _ (mem_lookup e);rw [e] at h';have h2:(if (k'==NameKind.free&&X.env.scope.kind== .function&&X.env.kindOf x==some .cell) then NameKind.cell else k')=k:=Option.some.inj h'
  by_cases hf:k'= .free
  ·rw [hf]
  ·have hb:(k'==NameKind.free)=false:=by simpa using hf
   rw [hb,Bool.false_and,Bool.false_and,if_neg fJ] at h2
   rcases hk with z|z
   ·rw [h2] at nc;exact absurd z nc
   ·rw [h2] at hf;exact absurd z hf
theorem wY(I:Inv X pins σ H s)(c:bw X scope)(hf:∀b∈ex,dJ X pins H b)(dU:∀b∈ex,b<s.heap.objs.size):(dA X scope NC ex s H).Ok where
 mod:=I.ok.mod
 kind:=c.kind
 glob:=I.ok.glob
 blt:=I.ok.blt
 above:=bW _
 inj:=λx y d h1 h2=>I.ok.inj x y d (b7 _ _ (c.cells I.ok) (λ_ _ z=>by cases z) x d h1) (b7 _ _ (c.cells I.ok) (λ_ _ z=>by cases z) y d h2)
 has:=λx hx=>gU _ _ x (.inl (mem_lookup (by rcases hx with h|h<;>exact c.De h (by simp))))
 cab:=λ_ _ z=>by cases z
 hd:=I.ok.hd
 frames:=I.ok.frames
 stk:= .inl rfl
 exf:=λb hb=>⟨bA (dU b hb),λx d e=>(hf b hb).2.2.2.2.1 x d (b7 _ _ (c.cells I.ok) (λ_ _ z=>by cases z) x d e)⟩
 bs:=I.bs
 bsz:=fH I.ok.bsz I.sz
 noex:=λb o e hb=>by
  rcases (hf b hb).2.2.2.1 with z|z
  ·exact I.ok.noex b o e z
  ·exact absurd (eV (Heap.lt_size e) (fH I.ok.bsz z)) (eS _)
 exfs:=λb hb z=>(eU.mp (I.pY b z)).elim (hf b hb).2.1 (hf b hb).2.2.1
 funs:=I.stack
 frf:=I.mz
theorem vc{h1:Heap}{tk:Nat}{ob:Obj}(I:Inv X pins σ H s)(c:bw X scope)(dM:bN scope X.N src NC)(hf:∀b∈ex,dJ X pins H b)(dU:∀b∈ex,b<s.heap.objs.size)
  (tw:h1.Ns s.heap.objs.size (λ_=>none)) (vE:Heap.SameBut s.heap.objs.size (s.heap.push ob) h1):
  Inv (dA X scope NC ex s H) [] (ix src σ) H {s with heap:=h1,toks:=tk}:=by
 have old:∀b o,s.heap.get? b=some o→h1.get? b=some o:=λb o e=>vE.extBut b o (bA (Heap.lt_size e)) (Heap.get?_push_of_some _ e);have cl:∀x d,(e8 X.env scope.names []).lookup x=some d→X.env.cells.lookup x=some d:=λx d=>b7 _ _ (c.cells I.ok) (λ_ _ z=>by cases z) x d
 have cellK:∀d v,s.heap.IsCell d v→h1.IsCell d v:=λd v ⟨o,ho,hd⟩=>⟨o,old d o ho,hd⟩;refine ⟨wY I c hf dU,rfl,I.bare,Un.kept old,⟨_,tw,λj x v e1 e2 e3=>?_⟩,λx d e=>?_,I.hok.fresh (bW _),λx d e=>I.freeC x d (cl x d e),λp hp=>absurd (show p∈([]:List (Addr×Obj)) from hp) (by simp),I.hok.kept old,?_⟩
 ·have fO:(ix src σ)[j]? =some (some v):=e2
  unfold ix at fO;rw [cP] at fO;cases ej:src[j]? with
  |none=>rw [ej] at fO;cases fO
  |some o=>
   rw [ej] at fO;cases o with
   |none=>cases fO
   |some i=>
    have e4:(σ[i]?).bind id=some v:=Option.some.inj fO
    have e5:σ[i]? =some (some v):=by
     cases q:σ[i]? with
     |none=>rw [q] at e4;cases e4
     |some z=>rw [q] at e4;exact congrArg some e4
    obtain ⟨hN,qS⟩:=dM.at ej e1;have hk:=c.free _ (mem_lookup qS) rfl;obtain ⟨m,hn,hl⟩:=I.loc;obtain ⟨u,r,l⟩:=hl i x v hN e5 (hk.elim (λz=> .inr (.inl z)) (λz=> .inr (.inr z)));refine ⟨u,r, .inr ⟨?_,?_⟩⟩
    ·show (relabel scope X.env).names.lookup x=_∨(relabel scope X.env).names.lookup x=_
     unfold relabel;rw [dE,qS]
     by_cases z:(NameKind.free==NameKind.free&&X.env.scope.kind== .function&&X.env.kindOf x==some .cell)=true
     ·left;simp only [Option.map_some,z,if_true]
     ·right;simp only [Option.map_some,z];rfl
    ·obtain ⟨d,hd⟩:=gU (env:=X.env) scope.names [] x (.inl (mem_lookup qS))
     refine ⟨d,hd,?_⟩
     rcases l with ⟨l,_⟩ | ⟨_,d',e,z⟩
     ·exfalso;rcases hk with z|z<;>(rw [l] at z;cases z)
     ·rw [cl x d hd] at e;cases e;exact cellK d _ z
 ·obtain ⟨v,z⟩:=I.cell x d (cl x d e)
  exact ⟨v,cellK d v z⟩
 ·show (ix src σ).length=NC.length
  unfold ix;rw [cQ];exact dM.len
theorem comp_back{H':Hp}{aq:St}{s':Shared}{h2:Heap}{pS:List (Addr×Obj)}(I:Inv X pins σ H s)(hf:∀b∈ex,dJ X pins H b)(J:Inv (dA X scope NC ex s H) pS aq H' s')
  (vE:Heap.SameBut s.heap.objs.size s'.heap h2):Inv X pins σ H' {s' with heap:=h2}:=by
 have up:∀b o,b≠s.heap.objs.size→s'.heap.get? b=some o→h2.get? b=some o:=λb o hb e=>vE.extBut b o hb e;have ne:∀b o,s.heap.get? b=some o→b≠s.heap.objs.size:=λb o e=>bA (Heap.lt_size e);have u:=J.base;refine I.sC (ch:=ex) (show s'.os=s.os from J.os) ⟨λb o e n hb hx=>up b o (ne b o e) (u.keep b o e n hb hx),λb o e n hb hx=>?_,u.free,λb o e hx=>?_,u.tups,u.frzs,u.tbls⟩ ?_ J.bare λb hb=>?_
 ·obtain ⟨sl,q⟩:=u.slot b o e n hb hx
  exact ⟨sl,up b _ (ne b o e) q⟩
 ·obtain ⟨o',q⟩:=u.there b o e hx
  exact ⟨o',up b o' (ne b o e) q⟩
 ·intro b o e
  have nC:∀b o,H' b=some o→b≠s.heap.objs.size:=λb o e z=>by
   have:=J.free
   rw [z] at e;have e':H' s.heap.objs.size=none:=this;rw [e'] at e;cases e
  refine (J.hok b o e).iy (λd v hd q=>up d v ?_ q) (λ_ q=>q) λ_ _ q=>q
  rcases hd with z|z
  ·rw [z];exact nC b o e
  ·exact nC d _ z
 ·obtain ⟨_,f1,_,f3,f4,f5⟩:=hf b hb
  exact ⟨f3,f1,f4,f5⟩
end
def mL(X:Cx)(ifs:List Expr)(t:TT):Prop:=
 ∀(pins:List (Addr×Obj))(s:Shared)(σ:St)(H:Hp)(Q:Bool→Hp→Prop),Inv X pins σ H s→t σ H Q→
  wpAny (model X.prog X.w) X.A (forIn ifs true λc r=>if r=true then do let ok ←isTrue c X.env (eval c X.env);pure (ForInStep.yield ok) else pure (ForInStep.yield r)) (TP X pins σ Q) X.xe s
def ze:TT:=λ_ H Q=>Q true H
theorem rN{X:Cx}:mL X [] ze:=λ_ _ _ H _ I h=>wpAny_tests_nil ⟨H,I,h⟩
theorem yJ{X:Cx}{c:Expr}{t:TT}(h:PT X c t):mL X [c] t:=λpins s σ H Q I q=>wpAny_tests_one (h pins s σ H Q I q)
def Jb(J:It)(g:TG)(tt:TT)(te:TE)(D:Addr)(Q:VK)(σ:St)(H:Hp):Prop:=
 ∃W:Nat→Nat→St→Hp→Prop,(∃m,W 0 m σ H)∧∀i m eX H2,W i m eX H2→
  (J.stop i H2∧Q (.ref D) H2)∨
  (J.go i H2∧∃N:St→Hp→Prop,(∀aq H',N aq H'→∃m',m'<m∧W (i+1) m' aq H')∧∀x H3,J.yld i H2 x H3→g x eX H3 λgx H4=>tt gx H4 λb H5=>
   if b=true then te gx H5 λv H6=>∃ys,H6 D=some (.lst ys)∧ys.length<sizeLine∧N gx (upd H6 D (.lst (ys++ [v]))) else N gx H5)
def y9(wi:TI)(g:TG)(tt:TT)(te:TE)(src:List (Option Nat)):TE:=λσ H Q=>wi σ H λJ H1=>∀D,H1 D=none→Jb J g tt te D Q (ix src σ) (upd H1 D (.lst []))
section
variable {X:Cx} {elt iter tg:Expr} {ifs:List Expr} {scope:Scope} {pos:Pos} {wi:TI} {g:TG} {tt:TT} {te:TE} {src:List (Option Nat)} {NC:List Str}
theorem kq{pins:List (Addr×Obj)}{σ:St}{s2:Shared}{H2:Hp}{it:Addr}{fp:List Addr}{tn:Nat→Heap→Prop}{J:It}{RR:Value→Addr→Result→Shared→Prop}{E:Value→Shared→Prop}{Q:VK}
  (hc:X.calm=true) (c:bw X scope) (dM:bN scope X.N src NC) (I2:Inv X pins σ H2 s2) (T:Turn X.prog X.w X.K tg J fp it tn) (nh:tn 0 s2.heap) (f2:∀b∈fp,dJ X pins H2 b)
  (hg:∀s H,PG (dA X scope NC fp s H) tg g) (ht:∀s H,mL (dA X scope NC fp s H) ifs tt) (he:∀s H,PE (dA X scope NC fp s H) elt te)
  (hW:∀D,H2 D=none→∃W:Nat→Nat→St→Hp→Prop,(∃m,W 0 m (ix src σ) (upd H2 D (.lst [])))∧∀i m eX H2,W i m eX H2→
   (J.stop i H2∧Q (.ref D) H2)∨
   (J.go i H2∧∃N:St→Hp→Prop,(∀aq H',N aq H'→∃m',m'<m∧W (i+1) m' aq H')∧∀x H3,J.yld i H2 x H3→g x eX H3 λgx H4=>tt gx H4 λb H5=>
    if b=true then te gx H5 λv H6=>∃ys,H6 D=some (.lst ys)∧ys.length<sizeLine∧N gx (upd H6 D (.lst (ys++ [v]))) else N gx H5))
  (Kw:∀D s3 H3 aq H' s',Inv X pins σ H3 s3→(∀b∈fp,dJ X pins H3 b)→Inv (dA X scope NC fp s3 H3) [] aq H' s'→Q (.ref D) H'→RR (.ref D) s3.heap.objs.size (.ok .next) s'):
  wpAny (model X.prog X.w) X.A (newList []) (λacc y6=>wpAny (model X.prog X.w) X.A (newFunctionEnv scope X.env.globals (e8 X.env scope.names []) [] X.env.qual none .none (some X.env)) (λqs y8=>
   codeAny (model X.prog X.w) X.A (.compStart (.ListComp elt [⟨tg,iter,ifs,0⟩] scope pos) 0 (.ref it) acc {qs with scope:=relabel scope X.env}) (RR acc qs.locals) y8) E y6) E s2:=by
 obtain ⟨W,⟨m0,w0⟩,turn⟩:=hW s2.heap.objs.size I2.fresh;have I3:Inv X pins σ (upd H2 s2.heap.objs.size (.lst [])) {s2 with heap:=s2.heap.push {cls:= .type "list",data:= .seq ([]:List Value).toArray}}:=I2.yl (its:= []) (t':=s2.toks) .nil (iD _)
 have MN:∀b∈fp,b<s2.heap.objs.size:=λb hb=>by
  obtain ⟨o,e,_⟩:=T.obj _ _ nh b hb;exact Heap.lt_size e
 have f3:∀b∈fp,dJ X pins (upd H2 s2.heap.objs.size (.lst [])) b:=λb hb=>⟨by rw [ar (bA (MN b hb))];exact (f2 b hb).1,(f2 b hb).2⟩
 refine wpAny_newObj_type ?_
 suffices key:∀s3:Shared,Inv X pins σ (upd H2 s2.heap.objs.size (.lst [])) s3→(∀b o,s2.heap.get? b=some o→s3.heap.get? b=some o)→
   wpAny (model X.prog X.w) X.A (newFunctionEnv scope X.env.globals (e8 X.env scope.names []) [] X.env.qual none .none (some X.env)) (λqs y8=>
    codeAny (model X.prog X.w) X.A (.compStart (.ListComp elt [⟨tg,iter,ifs,0⟩] scope pos) 0 (.ref it) (.ref s2.heap.objs.size) {qs with scope:=relabel scope X.env}) (RR (.ref s2.heap.objs.size) qs.locals) y8) E s3 from
  key _ I3 λb o e=>Heap.get?_push_of_some _ e
 intro s3 I3 Oe;have y2:tn 0 s3.heap:=T.keep _ _ _ nh λb _ o e=>Oe b o e
 have Dh:∀b∈fp,b<s3.heap.objs.size:=λb hb=>by
  obtain ⟨o,e,_⟩:=T.obj _ _ y2 b hb;exact Heap.lt_size e
 generalize OK:upd H2 s2.heap.objs.size (.lst [])=H3 at I3 f3 w0;refine wpAny_newFunctionEnv c.nocell (by intro y hy;simp at hy) (λh1 tw vE=>?_) c.kind
 have I4:=vc (src:=src) (NC:=NC) (ex:=fp) (tk:=s3.toks+([]:List (Str×Value)).length) I3 c dM f3 Dh tw vE;have Ie:tn 0 h1:=T.keep _ _ _ y2 λb hb o e=>vE.extBut b o (bA (Dh b hb)) (Heap.get?_push_of_some _ e);generalize hX:dA X scope NC fp s3 H3=XC at I4
 have stat:∀{H':Hp},(∀b∈fp,H' b=none)→∀b∈fp,dJ XC [] H' b:=λ {H'} hn b hb=>by
  subst hX;refine ⟨hn b hb,bA (Dh b hb),λz=>?_, .inl hb,λx d e=>?_,λp hp=>absurd (show p∈([]:List (Addr×Obj)) from hp) (by simp)⟩
  ·exact (I4.ok.exfs b hb) z
  ·exact (I4.ok.exf b hb).2 x d e
 have loop:codeAny (model X.prog X.w) X.A (.compLoop (.ListComp elt [⟨tg,iter,ifs,0⟩] scope pos) 0 (.ref it) (.ref s2.heap.objs.size) XC.env) (RR (.ref s2.heap.objs.size) s3.heap.objs.size)
   {s3 with heap:=h1,toks:=s3.toks+([]:List (Str×Value)).length}:=by
  refine codeAny_loop rfl (λn s'=>∃i aq H',Inv XC [] aq H' s'∧tn i s'.heap∧(∀b∈fp,H' b=none)∧W i n aq H') (λn s' hI=>?_) m0 ⟨0,_,_,I4,Ie,λb hb=>(f3 b hb).1,w0⟩;obtain ⟨i,aq,H',I5,wu,zO,w5⟩:=hI;show wpAny _ X.A ((compTurn (.ListComp elt [⟨tg,iter,ifs,0⟩] scope pos) 0 (.ref it) (.ref s2.heap.objs.size) XC.env).onRaise (λx=>do noteFrame x XC.env;theTreesLotGoes x)) _ _ s'
  refine wpAny_noted ?_;rw [compTurn_list]
  have mj:∀{α:Type}{t:Sem α}{Q:α→Shared→Prop}{E:Value→Shared→Prop}{s:Shared},wpAny (model XC.prog XC.w) XC.A t Q XC.xe s→wpAny (model X.prog X.w) X.A t Q E s:=λ {α t Q E s} h=>by
   subst hX;exact wpAny_mono h (λ_ _ q=>q) λ_ _ f=>f.elim
  have FT:XC.calm=true:=by subst hX;exact hc
  have eP:XC.prog=X.prog:=by subst hX;rfl
  have ew:XC.w=X.w:=by subst hX;rfl
  have eK:XC.K=X.K:=by subst hX;rfl
  have eA:XC.A=X.A:=by subst hX;rfl
  have KS:PG XC tg g:=by subst hX;exact hg _ _
  have Lb:mL XC ifs tt:=by subst hX;exact ht _ _
  have KO:PE XC elt te:=by subst hX;exact he _ _
  refine wpAny_bind (wpAny_standAt (wpAny_bind ?_))
  rcases turn i n aq H' w5 with ⟨stop,qn⟩ | ⟨go,N,hN,step⟩
  ·have hd:=T.done XC eP ew eK FT i [] s' aq H' (notedBy (model X.prog X.w) X.A XC.env λe s'=>RR (.ref s2.heap.objs.size) s3.heap.objs.size (.error e) s') I5 (stat zO) wu stop
   rw [eA] at hd;refine thn hd λr s6 ⟨hr,I6⟩=>?_;subst hr;refine wpAny_pure ?_;subst hX;exact Kw _ s3 H3 aq H' s6 I3 f3 I6 qn
  ·have hd:=T.item XC eP ew eK FT i [] s' aq H' (notedBy (model X.prog X.w) X.A XC.env λe s'=>RR (.ref s2.heap.objs.size) s3.heap.objs.size (.error e) s') I5 (stat zO) wu go
   rw [eA] at hd;refine thn hd λr s6 ⟨u,hr,h6⟩=>?_;subst hr;refine wpAny_bind (thn h6 λ_ s7 ⟨x,H7,I7,r7,y7,DQ,Kn⟩=>?_);have Ja:=I7.pinned (stat Kn) (T.obj _ _ DQ)
   have again:∀{nq:St}{H8:Hp}{s8:Shared},Inv XC ([]++jx fp s7.heap) nq H8 s8→N nq H8→∃m,m<n∧∃i aq H',Inv XC [] aq H' s8∧tn i s8.heap∧(∀b∈fp,H' b=none)∧W i m aq H':=λ {nq H8 s8} I8 n8=>by
    obtain ⟨m',hm,w8⟩:=hN nq H8 n8;refine ⟨m',hm,i+1,nq,H8,I8.hZ,T.keep _ _ _ DQ λb hb o e=>(I8.pin (b,o) (dQ _ (dQ _ (fc hb e)))).1,λb hb=>?_,w8⟩;obtain ⟨o,e,d⟩:=T.obj _ _ DQ b hb;exact (I8.pin (b,o) (dQ _ (dQ _ (fc hb e)))).2.1
   refine wpAny_bind (mj (thn (KS _ s7 aq H7 x u _ Ja r7 (step x H7 y7)) λ_ s8 ⟨nq,H8,I8,q8⟩=>?_));refine wpAny_bind (mj (thn (Lb _ s8 nq H8 _ I8 q8) λb s9 ⟨H9,I9,q9⟩=>?_));cases b with
   |false=>
    rw [if_neg fJ] at q9;exact wpAny_pure ⟨by subst hX;rfl,again I9 q9⟩
   |true=>
    rw [if_pos rfl] at q9;refine wpAny_bind (wpAny_bind (mj (thn (KO _ s9 nq H9 _ I9 q9) λy NU ⟨v,IV,IW,NS,ys,hD,hz,NQ⟩=>?_)));refine wpAny_bind (mj (thn (iO _ NU nq IV (.ref s2.heap.objs.size) [v] _ [y] (λ_ H'=>N nq H') IW rfl (.cons NS .nil) ⟨_,ys,v,rfl,rfl,hD,hz,NQ⟩) λ_ O5 ⟨_,Oy,IY,_,NR⟩=>?_));exact wpAny_pure (wpAny_pure ⟨by subst hX;rfl,again IY NR⟩)
 subst hX;exact codeAny_compStart_list loop (T.self _ 0 _ _ _ Ie loop)
theorem Dw(hc:X.calm=true)(c:bw X scope)(dM:bN scope X.N src NC)(hi:PI X tg iter wi)
  (hg:∀ex s H,PG (dA X scope NC ex s H) tg g) (ht:∀ex s H,mL (dA X scope NC ex s H) ifs tt) (he:∀ex s H,PE (dA X scope NC ex s H) elt te)
  (hs:∀x,foldedSetIterable iter X.env x=pure x:=by intro _;rfl):PE X (.ListComp elt [⟨tg,iter,ifs,0⟩] scope pos) (y9 wi g tt te src):=by
 intro pins s σ H Q I h;rw [eval_ListComp];refine wpAny_comprehension_free (use:=none) rfl hs (fv (c.cells I.ok)) c.kind c.names (thn (hi pins s σ H _ I h) λv s1 h1=>thn h1 λrb s2 h2=>?_);obtain ⟨it,fp,tn,J,H2,rfl,I2,T,nh,f2,hW⟩:=h2;refine kq (RR:=λacc C=>compPost (model X.prog X.w) X.A X.xe none (EP X pins σ Q) acc C) (Q:=Q) hc c dM I2 T nh f2 (hg fp) (ht fp) (he fp) hW ?_;intro D s3 H3 aq H' s' I3 f3 J' q;obtain ⟨m,hn,_⟩:=J'.loc;exact ⟨m,hn,λh' sb=>⟨.ref D,H',comp_back I3 f3 J' sb,rfl,q⟩⟩
def AY(wi:TI)(g:TG)(tt:TT)(te:TE)(src:List (Option Nat))(i:Nat):TS:=λD σ H=>y9 wi g tt te src σ H λv H'=>D.nx (σ.set i (some v)) H'
theorem ke{i:Nat}{x:Str}{px gT:Pos}(hc:X.calm=true)(hN:X.N.Nodup)(tj:X.N[i]? =some x)(hx:Loc X.env.scope x)(c:bw X scope)(dM:bN scope X.N src NC)(hi:PI X tg iter wi)
  (hg:∀ex s H,PG (dA X scope NC ex s H) tg g) (ht:∀ex s H,mL (dA X scope NC ex s H) ifs tt) (he:∀ex s H,PE (dA X scope NC ex s H) elt te)
  (iM:swapsWith (.ListComp elt [⟨tg,iter,ifs,0⟩] scope pos) (some (.Name x px)) gT.line X.env=pure true)
  (hf:X.fn x=true∨X.env.scope.names.lookup x=some .local:=by first|exact .inl rfl|exact .inr rfl|assumption)
  (hs:∀x,foldedSetIterable iter X.env x=pure x:=by intro _;rfl):PS X (.Assign [.Name x px] (.ListComp elt [⟨tg,iter,ifs,0⟩] scope pos) gT) (AY wi g tt te src i):=by
 intro pins s σ H D I h;rw [exec_Assign_Name_used _ _ _ _ iM];refine wpAny_bind (wpAny_standAt (wpAny_bind ?_));show wpAny _ X.A (do let _ ←comprehension (.ListComp elt [⟨tg,iter,ifs,0⟩] scope pos) scope X.env _ (newList []) false (eval iter X.env) (some (assign (.Name x px) X.env))) _ _ s
 refine wpAny_bind (wpAny_mono (wpAny_comprehension_free (use:=some (assign (.Name x px) X.env)) (Q:=λ_ s'=>SP X pins D .next s') rfl hs (fv (c.cells I.ok)) c.kind c.names
  (thn (hi pins s σ H _ I h) λv s1 h1=>thn h1 λrb s2 h2=>?_)) (λ_ s' hq=>wpAny_pure (wpAny_pure hq)) λ_ _ e=>e)
 obtain ⟨it,fp,tn,J,H2,rfl,I2,T,nh,f2,hW⟩:=h2;refine kq (RR:=λacc C=>compPost (model X.prog X.w) X.A X.xe (some (assign (.Name x px) X.env)) (λ_ s'=>SP X pins D .next s') acc C) (Q:=λv H'=>D.nx (σ.set i (some v)) H') hc c dM I2 T nh f2 (hg fp) (ht fp) (he fp) hW ?_;intro a s3 H3 aq H' s' I3 f3 J' q;obtain ⟨m,hn,_⟩:=J'.loc;have IX:Inv X pins σ H' s':=comp_back I3 f3 J' (.refl ..);show wpAny _ X.A (assign (.Name x px) X.env (.ref a)) _ _ _;have nL:s3.heap.objs.size≠X.env.locals:=Nat.ne_of_gt I3.lt
 have nc:∀y d,X.env.cells.lookup y=some d→d≠s3.heap.objs.size:=λy d e z=>by
  obtain ⟨v,hv⟩:=I3.cell y d e
  have:=hv.lt
  rw [z] at this;exact absurd this (eS _)
 have np:∀p∈X.pn++pins,p.1≠s3.heap.objs.size:=λp hp z=>by
  have:=Heap.lt_size (I3.pin p hp).1
  rw [z] at this;exact absurd this (eS _)
 obtain ⟨oC,es,ep,K0,zS,rC⟩:=id hn;have FO:H' s3.heap.objs.size=none:=J'.free
 have IP:Inv X ((s3.heap.objs.size,oC)::pins) σ H' s':=IX.jy λp hp=>by
  rcases eU.mp hp with z|z
  ·rw [z]
   exact ⟨K0,FO,nL,I3.BJ (bW _),λv w=>by rw [zS] at w;cases w⟩
  ·exact IX.pin p (dQ _ z)
 refine wpAny_assign_Name (hV (x:=x) IP hN tj hx (v:= .ref a) rfl (λs5 I5=>?_) hf);have Ku:=(I5.pin (s3.heap.objs.size,oC) (dQ _ fI)).1;refine ⟨m,⟨oC,es,ep,Ku,zS,rC⟩,λh6 sb=>?_⟩;have BX:Inv X pins (σ.set i (some (.ref a))) H' s5:=I5.jy λp hp=>I5.pin p (dQ _ (fu _ hp));exact ⟨_,H',BX.turned (t':=s5.toks) (it:=s3.heap.objs.size) (λb o hb e=>sb.extBut b o hb e) FO nL (.inr I3.sz) nc np,q⟩
end
section
variable {X:Cx} {pins:List (Addr×Obj)} {σ:St} {H:Hp} {s:Shared} {h':Heap} {fp:List Addr}
theorem Inv.rY{t':Nat}(I:Inv X pins σ H s)(hf:∀b∈fp,dJ X pins H b)(k:∀b o,b∉fp→s.heap.get? b=some o→h'.get? b=some o):Inv X pins σ H {s with heap:=h',toks:=t'}:=by
 refine I.step (g':=s.gens) (d':=s.drawn) (ch:=fp) (λb hb=>?_) (λb o _ _ hc e _=>k b o hc e) (λb o _ _ hc e _=>⟨o.slots,k b o hc e⟩) (λ_ _ _ _ n=>n)
  (λb o hc e=>⟨o,k b o hc e⟩) (λ_ _ e=>e) (λ_ _ _ e=>e) (λb ps e=>⟨#[],by rw [e];simp⟩) (λm hm=>?_) (λb u e=>?_) I.bare
 ·obtain ⟨_,f1,_,f3,f4,f5⟩:=hf b hb
  exact ⟨f3,f1,f4,f5⟩
 ·obtain ⟨o,es,ep,ho,r⟩:=hm
  exact ⟨o,es,ep,k _ o (λz=>(hf _ z).2.1 rfl) ho,r⟩
 ·have nf:∀b u,H b=some u→b∉fp:=λb u e z=>by rw [(hf b z).1] at e;cases e
  refine (I.hok b u e).iy (λc v hc q=>k c v ?_ q) (λ_ q=>q) λ_ _ q=>q
  rcases hc with z|z
  ·rw [z];exact nf b u e
  ·exact nf c _ z
theorem Inv.zh{t':Nat}{t:Addr}{o:HO}(I:Inv X pins σ H s)(hf:∀b∈fp,dJ X pins H b)(k:∀b o,b∉fp→s.heap.get? b=some o→h'.get? b=some o)(ht:s.heap.objs.size≤t)
  (new:bh X.prog X.w (upd H t o) h' t o):Inv X pins σ (upd H t o) {s with heap:=h',toks:=t'}:=by
 have nt:H t=none:=I.hok.fresh ht;have up:∀b u,H b=some u→upd H t o b=some u:=λb u e=>by rw [ar (aE e nt)];exact e
 refine I.step (g':=s.gens) (d':=s.drawn) (ch:=fp) (λb hb=>?_) (λb o _ _ hc e _=>k b o hc e) (λb o _ _ hc e _=>⟨o.slots,k b o hc e⟩) (λb o _ e n=>?_)
  (λb o hc e=>⟨o,k b o hc e⟩) (λb xs e=>up b _ e) (λb _ _ e=>up b _ e) (λb ps e=>⟨#[],by rw [up b _ e];simp⟩) (λm hm=>?_) (λb u e=>?_) I.bare
 ·obtain ⟨_,f1,_,f3,f4,f5⟩:=hf b hb
  exact ⟨f3,f1,f4,f5⟩
 ·rw [ar (bA (eV (Heap.lt_size e) ht))];exact n
 ·obtain ⟨o,es,ep,ho,r⟩:=hm
  exact ⟨o,es,ep,k _ o (λz=>(hf _ z).2.1 rfl) ho,r⟩
 ·by_cases hb:b=t
  ·subst hb
   rw [ak] at e;cases e;exact new
  ·rw [ar hb] at e
   have nf:∀b u,H b=some u→b∉fp:=λb u e z=>by rw [(hf b z).1] at e;cases e
   refine (I.hok b u e).iy (λc v hc q=>k c v ?_ q) (λb' q=>up b' _ q) λb' _ q=>up b' _ q
   rcases hc with z|z
   ·rw [z];exact nf b u e
   ·exact nf c _ z
end
def BZ(K:PySem.W.Frag)(a:Addr):It:=
 ⟨λi H=>∃xs x,bq K H a xs∧xs[i]? =some x,λi H y H'=>∃t x,y= .ref t∧H t=none∧H'=upd H t (.tup [.int i,x])∧∀xs,bq K H a xs→xs[i]? =some x,λi H=>∃xs,bq K H a xs∧xs.length≤i⟩
theorem qZ{h:Heap}{t:Addr}{u v:Value}(e:h.get? t=some {cls:= .type "tuple",data:= .seq #[u,v]}):IsTup h t [u,v].toArray:=⟨_,e,rfl,_,rfl⟩
theorem t8{P:Program}{w:World}{K:PySem.W.Frag}{es:List Expr}{k1}{tp:Pos}(a e it:Addr)(ne:e≠it):
  Turn P w K (.Tuple es k1 tp) (BZ K a) [e,it] e (λi h=>(∃old,IsEnum h e it i old)∧h.IsListIter it a i) where
 mem:=by simp
 obj:=λi h st b hb=>by
  obtain ⟨⟨old,he⟩,o,e2,c,d⟩:=st
  rcases eU.mp hb with z|z
  ·subst z
   exact ⟨_,he,λv w=>by cases w⟩
  ·have z':b=it:=by simpa using z
   subst z';exact ⟨o,e2,λv z=>by rw [d] at z;cases z⟩
 keep:=λi h h' st k=>by
  obtain ⟨⟨old,he⟩,nh⟩:=st;exact ⟨⟨old,k e (by simp) _ he⟩,nh.at λo q=>k it (by simp) o q⟩
 item:=by
  intro X hP hw hK hc i pins s σ H E I hf st hg;subst hP hw hK;obtain ⟨xs,x,hq,hx⟩:=hg;obtain ⟨its,rv,p,hz⟩:=I.list hq;obtain ⟨u,hu,ru⟩:=rv.get hx;obtain ⟨⟨old,he⟩,hit⟩:=st;refine wpAny_pyNext_enum_item he hit p.isList (x:=u) (by simpa using hu) ne λh' KL F3 La Ov kk=>?_
  have k2:∀b o,b∉ [e,it]→s.heap.get? b=some o→h'.get? b=some o:=λb o hb q=>kk b o (λz=>hb (by simp [z])) (λz=>hb (by simp [z])) q
  have I1:Inv X pins σ (upd H s.heap.objs.size (.tup [.int i,x])) {s with heap:=h',toks:=s.toks+1}:=
   I.zh hf k2 (bW _) ⟨by show 2≤sizeLine;decide,[.int i s.toks,u], .cons ⟨_,rfl⟩ (.cons ru .nil),qZ La⟩
  refine ⟨_,rfl,wpAny_letOwnedTupleGo_enum KL λh2 KN sb=>?_⟩
  have lt:∀b∈ [e,it],b<s.heap.objs.size:=λb hb=>by
   rcases eU.mp hb with z|z
   ·rw [z];exact Heap.lt_size he
   ·obtain ⟨o,e2,_⟩:=hit
    have z':b=it:=by simpa using z
    rw [z'];exact Heap.lt_size e2
  have F1:∀b∈ [e,it],dJ X pins (upd H s.heap.objs.size (.tup [.int i,x])) b:=λb hb=>⟨by rw [ar (bA (lt b hb))];exact (hf b hb).1,(hf b hb).2⟩
  refine ⟨.ref s.heap.objs.size,_,I1.rY (t':=s.toks+1) F1 (λb o hb q=>sb.extBut b o (λz=>hb (by simp [z])) q),rfl,⟨_,x,rfl,I.hok.fresh (bW _),rfl,λys hy=>by rw [I.nU hy hq];exact hx⟩,⟨⟨u,?_⟩,F3.extBut sb.extBut (Ne.symm ne)⟩,λb hb=>(F1 b hb).1⟩
  have z:((i+1:Nat):Int)=(i:Int)+1:=by omega
  rw [z];exact KN
 done:=by
  intro X hP hw hK hc i pins s σ H E I hf st hg;subst hP hw hK;obtain ⟨xs,hq,hx⟩:=hg;obtain ⟨its,rv,p,hz⟩:=I.list hq;have hl:=rv.length;obtain ⟨⟨old,he⟩,hit⟩:=st;exact wpAny_pyNext_enum_end (I.ok.hd hc) he hit p.isList (by simp;omega) λh' eb=>⟨rfl,I.rY (t':=s.toks) hf λb o hb q=>eb b o (λz=>hb (by simp [z])) q⟩
 self:=λ_ _ _ _ _ st h=>by
  obtain ⟨⟨old,he⟩,_⟩:=st;exact wpAny_pyIter_enum he h
section
variable {X:Cx}
def C8(K:PySem.W.Frag)(ta:TA):TI:=λσ H R=>ta σ H λvs H1=>∃a,vs= [.ref a]∧(∃xs,H1 a=some (.lst xs))∧R (BZ K a) H1
theorem yD{a:Expr}{ta:TA}{p pos:Pos}{es:List Expr}{k1}{tp:Pos}(hg:Gl X "enumerate")(hm:X.mg "enumerate"=none)(ha:PA X [a] ta)(hs:starEach [a] X.env= [(false,eval a X.env)]:=by rfl):
  PI X (.Tuple es k1 tp) (.Call (.Name "enumerate" p) [a] [] pos) (C8 X.K ta):=by
 intro pins s σ H R I h;refine Call_ (g7 I hg hm boot_enumerate (PyProof.Rows.callWith_type1 (thn (ha pos pins s σ H _ I h) λus s1 ⟨vs,H1,I1,r1,q1⟩=>?_) hs rfl));obtain ⟨l,e,⟨xs,hl⟩,q⟩:=q1;subst e;obtain ⟨u,rfl,ru⟩:=r1.one;cases ru;obtain ⟨z,its,n,rv,hlen,e⟩:=I1.lZ hl;refine call_enumerate_1 e λh' he hit vF kk=>?_;refine wpAny_pyIter_enum he ?_;have qV:s1.heap.objs.size+1≠s1.heap.objs.size:=Nat.succ_ne_self _;refine ⟨s1.heap.objs.size+1,[s1.heap.objs.size+1,s1.heap.objs.size],_,_,H1,rfl,I1.kept (t':=s1.toks) kk,t8 l _ _ qV,⟨⟨_,he⟩,hit⟩,λb hb=>?_,q⟩
 have oZ:s1.heap.objs.size≤b:=by
  rcases eU.mp hb with z|z
  ·rw [z];exact Nat.le_succ _
  ·have z':b=s1.heap.objs.size:=by simpa using z
   rw [z'];exact bW _
 exact I1.xE oZ (I1.hok.fresh oZ)
end
end L2
namespace Wb
abbrev W:=List (List Nat)
def row(w:W)(p:Nat):List Nat:=w.getD p []
inductive Reach (w:W):Nat→Nat→Prop
 |refl (p):Reach w p p
 |step {p q r}:Reach w p q→r∈row w q→Reach w p r
structure Good (w:W):Prop where
 rng:∀p q,q∈row w p→q<w.length
 irr:∀p,p∉row w p
 nod:∀p,(row w p).Nodup
 sym:∀p q,q∈row w p→p∈row w q
 con:∀p,p<w.length→Reach w 0 p
theorem AO{w:W}{p q:Nat}(h:q∈row w p):p<w.length:=by
 apply Classical.byContradiction;intro hn;unfold row at h;rw [fZ,dq (by omega)] at h
 simp at h
theorem mw{w:W}{p:Nat}(h:p<w.length):w[p]? =some (row w p):=by
 unfold row;rw [fZ,iU h];rfl
theorem AQ{w:W}{p:Nat}{r:List Nat}(h:w[p]? =some r):row w p=r:=by
 unfold row;rw [fZ,h];rfl
theorem Reach.mono{w w':W}(hm:∀p q,q∈row w p→q∈row w' p){p q:Nat}(h:Reach w p q):Reach w' p q:=by
 induction h with
 |refl=>exact .refl _
 |step _ hr ih=>exact .step ih (hm _ _ hr)
def ins{α:Type}(xs:List α)(i:Nat)(x:α):List α:=xs.take i++x::xs.drop i
theorem jY{α:Type}(xs:List α)(i:Nat)(x:α):(ins xs i x).Perm (x::xs):=by
 unfold ins;have h:= @List.perm_middle _ x (xs.take i) (xs.drop i);rw [List.take_append_drop] at h;exact h
theorem aX{α:Type}{xs:List α}{i:Nat}{x a:α}:a∈ins xs i x↔a=x∨a∈xs:=by
 rw [(jY xs i x).mem_iff,eU]
theorem iP{α:Type}{xs:List α}{i:Nat}{x:α}(h:xs.Nodup)(hx:x∉xs):(ins xs i x).Nodup:=by
 rw [(jY xs i x).nodup_iff,jN];exact ⟨hx,h⟩
theorem jo{α:Type}(xs:List α)(i:Nat)(x:α):(ins xs i x).length=xs.length+1:=by
 rw [(jY xs i x).length_eq];rfl
theorem jz{w:W}{p x:Nat}{r:List Nat}(h:p<w.length):row (w.set p r) x=if p=x then r else row w x:=by
 unfold row;rw [fZ,jL]
 by_cases e:p=x
 ·rw [if_pos e,if_pos e,if_pos h];rfl
 ·rw [if_neg e,if_neg e,fZ]
theorem we{w:W}{r:List Nat}{x:Nat}:row (w++ [r]) x=if x=w.length then r else row w x:=by
 unfold row;rw [fZ,List.getElem?_append]
 split
 ·rw [if_neg (by omega),fZ]
 ·split
  ·rename_i h e;subst e;simp
  ·rename_i h e
   rw [fZ,dq (by simp;omega),dq (by omega)]
theorem vy:Good [[]]:=by
 have hr:∀p,row [[]] p= []:=λp=>by
  unfold row;cases p with
  |zero=>rfl
  |succ n=>simp
 refine ⟨λp q h=>?_,λp h=>?_,λp=>?_,λp q h=>?_,λp h=>?_⟩
 ·rw [hr] at h;cases h
 ·rw [hr] at h;cases h
 ·rw [hr];exact jO
 ·rw [hr] at h;cases h
 ·have:p=0:=by simp at h;exact h
  subst this;exact .refl _
def leaf(w:W)(p i:Nat):W:=(w.set p (ins (row w p) i w.length))++ [[p]]
theorem b8(w:W)(p i:Nat):(leaf w p i).length=w.length+1:=by unfold leaf;simp
theorem fB{w:W}{p i x:Nat}(h:p<w.length):row (leaf w p i) x=if x=w.length then [p] else if p=x then ins (row w p) i w.length else row w x:=by
 unfold leaf;rw [we,dS,jz h]
theorem sX{w:W}{p i:Nat}(g:Good w)(h:p<w.length):Good (leaf w p i):=by
 have hr:=λx=>fB (i:=i) (x:=x) h;have nl:∀x,w.length∉row w x:=λx hx=>eS _ (g.rng _ _ hx)
 have mono:∀x q,q∈row w x→q∈row (leaf w p i) x:=λx q hq=>by
  have:=AO hq
  rw [hr,if_neg (by omega)]
  split
  ·rename_i e;subst e;exact aX.mpr (.inr hq)
  ·exact hq
 refine ⟨λx q hx=>?_,λx hx=>?_,λx=>?_,λx q hx=>?_,λx hx=>?_⟩
 ·rw [hr] at hx;rw [b8]
  split at hx
  ·simp at hx;omega
  ·split at hx
   ·rcases aX.mp hx with e|e
    ·omega
    ·have:=g.rng _ _ e;omega
   ·have:=g.rng _ _ hx;omega
 ·rw [hr] at hx
  split at hx
  ·simp at hx;omega
  ·split at hx
   ·rcases aX.mp hx with e|e
    ·omega
    ·rename_i e2;subst e2;exact g.irr _ e
   ·exact g.irr _ hx
 ·rw [hr];split
  ·simp
  ·split
   ·exact iP (g.nod _) (nl _)
   ·exact g.nod _
 ·rw [hr] at hx
  split at hx
  ·have e:q=p:=by simpa using hx
   subst e
   rename_i e
   rw [hr,if_neg (by omega),if_pos rfl,e]
   exact aX.mpr (.inl rfl)
  ·split at hx
   ·rename_i e;subst e
    rcases aX.mp hx with e|e
    ·rw [hr,if_pos e];simp
    ·exact mono _ _ (g.sym _ _ e)
   ·exact mono _ _ (g.sym _ _ hx)
 ·rw [b8] at hx
  by_cases e:x=w.length
  ·refine Reach.step ((g.con p h).mono mono) ?_
   rw [hr,if_neg (by omega),if_pos rfl,e]
   exact aX.mpr (.inl rfl)
  ·exact (g.con x (by omega)).mono mono
def jI(w:W)(p i u j:Nat):W:=(w.set p (ins (row w p) i u)).set u (ins (row w u) j p)
theorem b4(w:W)(p i u j:Nat):(jI w p i u j).length=w.length:=by unfold jI;simp
theorem gM{w:W}{p i u j x:Nat}(hp:p<w.length)(hu:u<w.length):row (jI w p i u j) x=if u=x then ins (row w u) j p else if p=x then ins (row w p) i u else row w x:=by
 unfold jI;rw [jz (by simpa using hu),jz hp]
theorem vz{w:W}{p i u j:Nat}(g:Good w)(hp:p<w.length)(hu:u<w.length)(ne:u≠p)(nt:u∉row w p):Good (jI w p i u j):=by
 have hr:=λx=>gM (i:=i) (j:=j) (x:=x) hp hu;have Na:p∉row w u:=λh=>nt (g.sym _ _ h)
 have mono:∀x q,q∈row w x→q∈row (jI w p i u j) x:=λx q hq=>by
  rw [hr]
  split
  ·rename_i e;subst e;exact aX.mpr (.inr hq)
  ·split
   ·rename_i e;subst e;exact aX.mpr (.inr hq)
   ·exact hq
 refine ⟨λx q hx=>?_,λx hx=>?_,λx=>?_,λx q hx=>?_,λx hx=>?_⟩
 ·rw [hr] at hx;rw [b4]
  split at hx
  ·rcases aX.mp hx with e|e
   ·omega
   ·exact g.rng _ _ e
  ·split at hx
   ·rcases aX.mp hx with e|e
    ·omega
    ·exact g.rng _ _ e
   ·exact g.rng _ _ hx
 ·rw [hr] at hx
  split at hx
  ·rename_i e2;subst e2
   rcases aX.mp hx with e|e
   ·exact ne e
   ·exact g.irr _ e
  ·split at hx
   ·rename_i e2;subst e2
    rcases aX.mp hx with e|e
    ·exact ne e.symm
    ·exact g.irr _ e
   ·exact g.irr _ hx
 ·rw [hr];split
  ·exact iP (g.nod _) Na
  ·split
   ·exact iP (g.nod _) nt
   ·exact g.nod _
 ·rw [hr] at hx
  split at hx
  ·rename_i e2;subst e2
   rcases aX.mp hx with e|e
   ·subst e;rw [hr,if_neg ne,if_pos rfl];exact aX.mpr (.inl rfl)
   ·exact mono _ _ (g.sym _ _ e)
  ·split at hx
   ·rename_i e2;subst e2
    rcases aX.mp hx with e|e
    ·subst e;rw [hr,if_pos rfl];exact aX.mpr (.inl rfl)
    ·exact mono _ _ (g.sym _ _ e)
   ·exact mono _ _ (g.sym _ _ hx)
 ·rw [b4] at hx;exact (g.con x hx).mono mono
theorem fb{α:Type} [DecidableEq α]:∀{l m:List α},l.Nodup→(∀x∈l,x∈m)→l.length≤m.length
 | [],_,_,_=>iD _
 |a::r,m,nd,h=>by
  have GK:=jN.mp nd;have am:=h a fI;have ih:=fb (l:=r) (m:=m.erase a) GK.2 λx hx=>(List.mem_erase_of_ne (λ(e:x=a)=>GK.1 (by rw [←e];exact hx))).mpr (h x (fu _ hx))
  rw [List.length_erase_of_mem am] at ih
  have:=List.length_pos_of_mem am
  simp only [cR];omega
theorem mx{w:W}(g:Good w)(p:Nat):(row w p).length≤w.length:=by
 have:=fb (m:=List.range w.length) (g.nod p) λx hx=>sk.mpr (g.rng _ _ hx)
 simpa using this
theorem qu{w:W}(g:Good w){S:Nat→Prop}(h0:S 0)(hc:∀p q,S p→q∈row w p→S q):∀p,p<w.length→S p:=λp hp=>by
 have:∀{a b},Reach w a b→S a→S b:=λ {a b} h ha=>by
  induction h with
  |refl=>exact ha
  |step _ hr ih=>exact hc _ _ ih hr
 exact this (g.con p hp) h0
end Wb
namespace L2
open PySem PySem.Spec PyProof.Rows
section
variable {X:Cx}
theorem Vals.ins{x:V}{u:Value}(r:RelV x u){xs:List V}{us:List Value}(i:Nat)(h:Vals xs us):Vals (Wb.ins xs i x) (Wb.ins us i u):=(h.take i).append (.cons r (h.drop i))
def yM:V→List V→Hp→VK→Prop:=λx vs H Q=>∃l xs i y,x= .ref l∧vs= [.int i,y]∧H l=some (.lst xs)∧0≤i∧i≤xs.length∧xs.length<sizeLine∧Q .aC (upd H l (.lst (Wb.ins xs i.toNat y)))
theorem me:B2 X "list.insert" yM:=by
 intro pins s σ H x vs v us Q I rx rv h;obtain ⟨l,xs,i,y,rfl,rfl,hH,h0,h1,hz,q⟩:=h;cases rx;obtain ⟨u1,u2,rfl,⟨t,rfl⟩,ru⟩:=rv.two;obtain ⟨z,its,n,r,hl,e⟩:=I.lZ hH;have dU:=g9
 have xU:¬(!Builtin.List.listFitsIndex i)=true:=by
  rw [fitsIndex_both (by omega) (by omega)]
  exact fJ
 refine call_meets F.slot_list_insert ⟨_,e,rfl⟩ F.entry_list_insert (F.args_list_insert_3 _ _ _) (AutoSeq1.list_insert_list_int_val_1 l its.toArray n i t u2 xU (by rw [cc];omega)) ⟨e,?_⟩
 refine ⟨.aC,_,I.ym (its':=Wb.ins its i.toNat u2) hH e ?_ (r.ins ru i.toNat) ?_,rfl,q⟩
 ·have hi:¬i<0:=by omega
  have hm:min i.toNat its.length=i.toNat:=by omega
  simp only [hi,if_false,cc,hm];apply Array.toList_inj.mp;unfold Wb.ins;simp;exact List.take_of_length_le (by rw [List.length_drop];omega)
 ·rw [Wb.jo];omega
end
mutual
inductive Dp (K:PySem.W.Frag) (H:Hp):V→PyData→Prop
 |aC:Dp K H .aC .none
 |bl (b:Bool):Dp K H (.bl b) (.bool b)
 |int (i:Int):Dp K H (.int i) (.int i)
 |str (x:Str) (h:PyData.strOk x=true):Dp K H (.str x) (.str x)
 |lst {a:Addr} {xs:List V} {ds:List PyData}:bq K H a xs→bZ K H xs ds→Dp K H (.ref a) (.list ds)
 |tup {a:Addr} {xs:List V} {ds:List PyData}:cg K H a xs→bZ K H xs ds→Dp K H (.ref a) (.tuple ds)
inductive bZ (K:PySem.W.Frag) (H:Hp):List V→List PyData→Prop
 |nil:bZ K H [] []
 |cons {v:V} {vs:List V} {d:PyData} {ds:List PyData}:Dp K H v d→bZ K H vs ds→bZ K H (v::vs) (d::ds)
end
section
variable {X:Cx} {pins:List (Addr×Obj)} {σ:St} {H:Hp} {s:Shared}
mutual
theorem Dp.reads(I:Inv X pins σ H s):∀{v:V}{d:PyData}{u:Value},Dp X.K H v d→RelV v u→(∃as,Reads s.heap u d as)∧d.canLay0=true
 |_,_,_, .aC,r=>by cases r;exact ⟨⟨_, .none⟩,rfl⟩
 |_,_,_, .bl b,r=>by cases r;exact ⟨⟨_, .bool b⟩,rfl⟩
 |_,_,_, .int i,r=>by obtain ⟨t,rfl⟩:=r;exact ⟨⟨_, .int i t⟩,rfl⟩
 |_,_,_, .str x h,r=>by obtain ⟨t,rfl⟩:=r;exact ⟨⟨_, .str x t⟩,by simpa [PyData.canLay0] using h⟩
 |_,_,_, .lst h a,r=>by
  cases r;obtain ⟨its,rv,pl,hz⟩:=I.list h;obtain ⟨⟨as,ra⟩,c⟩:=bZ.reads I a rv;obtain ⟨o,ho,hc,n,hd⟩:=pl.isList;exact ⟨⟨_, .list ho hc hd (by simpa using ra)⟩,by simpa [PyData.canLay0] using c⟩
 |_,_,_, .tup h a,r=>by
  cases r;obtain ⟨its,rv,pl,hz⟩:=I.tuple h;obtain ⟨⟨as,ra⟩,c⟩:=bZ.reads I a rv;obtain ⟨o,ho,hc,n,hd⟩:=pl;exact ⟨⟨_, .tuple ho hc hd (by simpa using ra)⟩,by simpa [PyData.canLay0] using c⟩
theorem bZ.reads(I:Inv X pins σ H s):∀{vs:List V}{ds:List PyData}{us:List Value},bZ X.K H vs ds→Vals vs us→(∃as,ReadsAll s.heap us ds as)∧PyData.canLayAll0 ds=true
 |_,_,_, .nil, .nil=>⟨⟨_, .nil⟩,by simp [PyData.canLayAll0]⟩
 |_,_,_, .cons a as, .cons r rs=>by
  obtain ⟨⟨x,h1⟩,c1⟩:=Dp.reads I a r;obtain ⟨⟨y,h2⟩,c2⟩:=bZ.reads I as rs;exact ⟨⟨_, .cons h1 h2⟩,by simp [PyData.canLayAll0,c1,c2]⟩
end
end
section
variable {X:Cx}
def HD(K:PySem.W.Frag):R2:=λx y H Q=>∃d e,Dp K H x d∧Dp K H y e∧d.depth≤64∧Q (.bl (PyData.eqv d e)) H
theorem An(hu:X.A.units+64<cLine):OpR X (compareOp .Eq) (HD X.K):=by
 intro pins s σ H x y v u Q I rx ry h;obtain ⟨d,e,hd,he,hz,q⟩:=h;obtain ⟨⟨as,r1⟩,c1⟩:=hd.reads I rx;obtain ⟨⟨bs,r2⟩,c2⟩:=he.reads I ry;exact SeqAt.compareEq_reads r1 r2 c1 c2 (by have:=Nat.min_le_left d.depth e.depth;omega) ⟨.bl _,H,I,rfl,q⟩
end
end L2
namespace L2
open PySem PySem.Spec PyProof.Rows
section
variable {X:Cx}
theorem oy:CallR X (.builtin "isinstance") (λxs H Q=>∃(x:V)(n:String)(t:Value)(b:Bool),xs= [x, .ty n]∧eZ X.K H x t∧PySem.W.kitOne X.K t (.type n)=some b∧Q (.bl b) H):=by
 intro pins s σ H xs us Q I rv h;obtain ⟨x,n,t,b,rfl,ty,e,q⟩:=h;obtain ⟨u1,u2,rfl,r1,r2⟩:=rv.two;cases r2;exact tG I r1 ty e λtk=>⟨.bl b,H,I.tok _,rfl,q⟩
end
end L2
set_option maxHeartbeats 4000000
namespace L2
open PySem PySem.Spec PySem.Calls PyProof.Rows PySem.W Builtin Builtin.ObjectAttr
def kW:List Value→Bool
 | [.type a, .type b, .type c, .type d]=>a=="ValueError"&&b=="Exception"&&c=="BaseException"&&d=="object"
 | .ref _::r=>kW r
 |_=>false
def pP(K:Frag)(C:Addr):Bool:=(clsIn K C).any λcd=>kW cd.mro
structure nr (K:Frag) (C:Addr):Prop where
 hd:hasDictIn K C=true
 ga:findIn K (.ref C) "__getattribute__"=some (some (.builtin "BaseException.__getattribute__"))
 gh:findIn K (.ref C) "__getattr__"=some none
 sa:findIn K (.ref C) "__setattr__"=some (some (.builtin "object.__setattr__"))
 ov:pP K C=true
 cl:findIn K (.ref C) "__class__"=some (some (.builtin "object.__class__"))
 be:mroIn K C (.type "BaseException")=some true
 ob:mroIn K C (.type "object")=some true
section
variable {prog:Program} {w:World} {A:Around} {E:Value→Shared→Prop} {s:Shared} {K:Frag} {x C:Addr} {ox:Obj} {od:Option Obj} {name:Str}
theorem wC{fill expr:Bool}{tk:Tok}{Q:Value→Shared→Prop}(X:K.In s.heap)(I:InstAt s.heap x ox C od)(c:nr K C)
  (h:wpAny (model prog w) A.in1 (Builtin.«object.__getattribute__» ⟨[.ref x, .str name tk],[]⟩) (λfin s'=>match fin with| .done (.ret v)=>wpAny (model prog w) A (handedOut v) Q E s'|_=>False) (λ_ _=>False) s):
  wpAny (model prog w) A (getAttrBy (.ref x) (.str name tk) fill expr) Q E s:=by
 unfold getAttrBy;refine wpAny_holding (wpAny_bind (I.type _ _ _ _ (λ_ _ e=>e) (wpAny_bind (looks_findIn X c.ga _ _ _ _ (λ_ _ e=>e) ?_))));dsimp only;rw [show (onTheHeap (.ref C)&&Value.builtin "BaseException.__getattribute__"==Value.builtin "object.__getattribute__")=false from by rw [show (Value.builtin "BaseException.__getattribute__"==Value.builtin "object.__getattribute__")=false from by decide+kernel,Bool.and_false],if_neg (by decide)]
 unfold getAttrByItsOwn;refine wpAny_bind (looks_hook (mc:= .ref C) (r:=none) X c.gh _ _ _ _ (λ_ _ e=>e) (wpAny_bind (wpAny_attempt (wpAny_holding ?_))));unfold callGetattribute;rw [show (expr&&onTheHeap (Value.builtin "BaseException.__getattribute__"))=false from Bool.and_false _,if_neg (by decide)]
 unfold boundAndCalled;rw [F.excAttr_ValueError.ga.bind];refine wpAny_bind (wpAny_pure ?_);show wpAny _ _ (call (.builtin "BaseException.__getattribute__") [.ref x, .str name tk]) _ _ _;refine wpAny_call ?_;refine codeAny_call_builtin F.excAttr_ValueError.ga.plain F.entry_bexc_ga ?_;refine @check_slot (model prog w) _ _ s "BaseException.__getattribute__" "BaseException" "__getattribute__" (.ref x) [.str name tk] [] _ (by decide+kernel) (by decide+kernel) (I.type.andThen (looks_mroIn X c.be)) (F.args_bexc_ga (.ref x) (.str name tk)) ?_
 refine wpAny_mono h (λfin s' z=>?_) λ_ _ z=>z.elim
 rcases fin with (_|_|_|_) |_<;>first|exact z|exact z.elim
theorem wB{tk:Tok}{g a:Value}{P:Value→Shared→Prop}(X:K.In s.heap)(I:InstAt s.heap x ox C od)(hf:findObj K C od name=some (.bind g a))
  (h:wpAny (model prog w) A (call g [a, .ref x, .ref C]) P E s):
  wpAny (model prog w) A (Builtin.«object.__getattribute__» ⟨[.ref x, .str name tk],[]⟩) (λfin s'=>match fin with| .done (.ret v)=>P v s'|_=>False) E s:=by
 obtain ⟨OL,gg,d,t,os⟩:=s;have L0:=I.type (M:=model prog w);have L1:=looks_find (M:=model prog w) X I hf;unfold Builtin.«object.__getattribute__»;refine wpAny_bind (wpAny_pure (wpAny_bind (wpAny_pure (wpAny_bind (L0.at (wpAny_bind (L1.at ?_)))))));show wpAny _ _ (holding [a] (call g [a, .ref x, .ref C])>>=ret) _ _ _;exact wpAny_bind (wpAny_holding (wpAny_mono h (λv s' z=>wpAny_pure z) λ_ _ z=>z))
theorem r9{Q:Option Value→Shared→Prop}(X:K.In s.heap)(I:InstAt s.heap x ox C od)(c:nr K C)(hn:specialIn K (.builtin "object.__class__") "__get__"=some (some (.builtin "getset_descriptor.__get__")))(htk:takesIn K (.builtin "object.__class__")=some true)
  (h:Q (some (.ref C)) {s with toks:=s.toks+1}):wpAny (model prog w) A (getAttr? (.ref x) "__class__") Q E s:=by
 have hf:findObj K C od "__class__"=some (.bind (.builtin "getset_descriptor.__get__") (.builtin "object.__class__")):=by
  obtain ⟨cd,hc,_⟩:=any_some c.hd;unfold findObj;rw [hc,Option.bind_some,c.cl,Option.bind_some];dsimp only;rw [hn,Option.bind_some];dsimp only;rw [htk];rfl
 unfold getAttr? getAttrBy?;refine wpAny_bind (wpAny_mkText (wpAny_bind (wpAny_attempt ?_)))
 have key:wpAny (model prog w) A.in1 (Builtin.«object.__getattribute__» ⟨[.ref x, .str "__class__" s.toks],[]⟩) (λfin s'=>match fin with| .done (.ret v)=>v= .ref C∧s'={s with toks:=s.toks+1} |_=>False) (λ_ _=>False) {s with toks:=s.toks+1}:=by
  refine wB (P:=λv s'=>v= .ref C∧s'={s with toks:=s.toks+1}) (s:={s with toks:=s.toks+1}) X I hf (wpAny_call (class_get (s:={s with toks:=s.toks+1}) (ox:=ox) (od:=od) X I c.ob ?_))
  exact ⟨rfl,rfl⟩
 refine wC (s:={s with toks:=s.toks+1}) X I c (wpAny_mono key (λfin s' z=>?_) λ_ _ z=>z.elim)
 rcases fin with (_|_|_|_) |_<;>first|exact z.elim|skip
 obtain ⟨rfl,rfl⟩:=z;exact wpAny_pure (wpAny_pure h)
theorem vI(c:nr K C)(hn:specialIn K (.builtin "object.__class__") "__get__"=some (some (.builtin "getset_descriptor.__get__")))(htk:takesIn K (.builtin "object.__class__")=some true):
  KitX K (.ref x) (.ref C) (λh=>InstAt h x ox C od) where
 ty:=λ_ _ _ I=>I.type
 it:=λ_ _ X _=>by
  obtain ⟨JP,o9,_⟩:=any_some c.hd;unfold clsIn at o9
  split at o9
  ·rename_i c' d' JO DP ho
   intro A' Q' E' s' k q;unfold isType loadHead;exact wpAny_bind (wpAny_loadPart (k _ _ (X _ _ ho)) (wpAny_pure q))
  ·cases o9
 ne:=λh tp dd its n sl X Lc=>by
  obtain ⟨JP,o9,_⟩:=any_some c.hd;refine Bool.eq_false_iff.mpr λq=>?_;have e:C=tp:=Value.ref.inj (beq_iff_eq.mp q);subst e;unfold clsIn at o9
  split at o9
  ·rename_i c' d' JO DP ho
   have z:=(X _ _ ho).symm.trans Lc;cases z
  ·cases o9
 ca:=λX I k=>r9 X I c hn htk k
end
abbrev bR(C t:Addr)(d:Option Addr):Obj:={cls:= .ref C,dict:=d,data:= .fields #[.ref t, .none, .none, .none, .bool false, .none]}
section
variable {prog:Program} {w:World} {A:Around} {E:Value→Shared→Prop} {s:Shared} {K:Frag} {x C:Addr} {ox:Obj} {od:Option Obj} {name:Str} {R:Result→Shared→Prop}
end
section
variable {M:Model} {A:Around} {E:Value→Shared→Prop} {h:Heap} {g:Array GenState} {d:Drawn} {t:Nat} {os:OsState}
variable {nm q:Str} {C N:Addr} {bs bm u9:List Value} {dm:Bool} {sn:List Str} {sub:List Value} {ab:Bool} {col:Option Bool} {dd:Option Addr} {k0 k1 k2 k3 k5:Option Value} {B newId e9:String}
theorem oA(F:ExcBaseFacts B newId e9 u9)(CP:(Value.ref C::bm).contains (.type B)=true){rest:List Value}{Q:Unit→Shared→Prop}(hC:h.get? C=some (excClassObj nm q C N bs bm dm sn sub ab col dd k0 k1 k2 k3 k5 newId))
  (hq:Q () ⟨h,g,d,t,os⟩):wpAny M A (checkBuiltinCall newId ⟨.ref C::rest,[]⟩) Q E ⟨h,g,d,t,os⟩:=by
 have K9:=F.noStar;simp only [checkBuiltinCall,F.newKind,F.newSplit,F.newRow]
 repeat (first|refine wpAny_loadPart_at hC ?_| (refine wpAny_isSubtype_exc hC ?_;rw [CP]) |refine wpAny_staticBase_exc hC ?_|refine wpAny_madeBy_exc hC ?_|simp only [bne_self_eq_false,sg,if_false]|wp_step)
 exact hq
theorem mR(F:ExcBaseFacts B newId e9 u9)(mU:(Value.ref C::bm).contains (.type B)=true){e:Addr}{oe:Obj}{rest:List Value}{Q:Unit→Shared→Prop}
  (hC:h.get? C=some (excClassObj nm q C N bs bm dm sn sub ab col dd k0 k1 k2 k3 k5 newId)) (he:h.get? e=some oe) (qR:oe.cls= .ref C) (hq:Q () ⟨h,g,d,t,os⟩):
  wpAny M A (checkBuiltinCall e9 ⟨.ref e::rest,[]⟩) Q E ⟨h,g,d,t,os⟩:=by
 have IM:=F.noStar;simp only [checkBuiltinCall,F.initKind,F.initSplit,F.initRow]
 repeat (first| (with_reducible refine wpAny_loadPart_at he ?_;rw [qR]) |with_reducible refine wpAny_loadPart_at hC ?_| (with_reducible refine wpAny_isSubtype_exc hC ?_;rw [mU]) |wp_step)
 refine wpAny_onRaise ?_
 rw [show ∀(a b:String)(n:Nat),Bind.check ⟨.positional,"*",B, .self,[⟨"args", .varPos,false⟩]⟩ a b n (List.map (λx=>x.fst) ({pos:=Value.ref e::rest}:Args).kw)=pure () from
  λa b n=>check_star_args _ _ _ _ _ _]
 exact wpAny_pure hq
end
section
variable {prog:Program} {w:World} {A:Around} {R:Result→Shared→Prop} {h:Heap} {g:Array GenState} {d:Drawn} {t:Nat} {os:OsState}
variable {nm q:Str} {C N:Addr} {bs bm u9:List Value} {dm:Bool} {sn:List Str} {sub:List Value} {ab:Bool} {col:Option Bool} {dd:Option Addr} {k0 k1 k2 k3 k5:Option Value} {B newId e9:String}
theorem sP(F:ExcBaseFacts B newId e9 u9)(mU:(Value.ref C::bm).contains (.type B)=true)(CN:(Value.ref C::bm).contains (.type "AttributeError")=false)(CO:(Value.ref C::bm).contains (.type "NameError")=false)
  {rest:List Value} (hC:h.get? C=some (excClassObj nm q C N bs bm dm sn sub ab col dd k0 k1 k2 k3 k5 newId))
  (hq:R (.ok (.ret (.ref (h.objs.size+1)))) ⟨(h.push {cls:= .type "tuple",data:= .seq rest.toArray}).push (bR C h.objs.size none),g,d,t,os⟩) (lO:rest.length≤sizeLine):
  codeAny (model prog w) A (.builtin newId ⟨.ref C::rest,[]⟩) R ⟨h,g,d,t,os⟩:=by
 have KP:=F.ends;refine codeAny_builtinAt F.entry ?_;unfold Builtin.«BaseException.__new__»;refine PySem.wpAt_bind ?_;show PySem.wpAt _ _ _ (stack>>=_) _ _ _;refine PySem.wpAt_bind (PySem.wpAt_stack λp below=>PySem.wpAt_of_wpAny ?_)
 wp_walk
 refine PySem.wpAt_of_wpAny ?_;rw [F.owner]
 repeat (first|with_reducible refine wpAny_madeHere_exc F.canon hC ?_|with_reducible refine wpAny_loadPart_at hC ?_| (with_reducible refine wpAny_isSubtype_exc hC ?_;first|rw [mU]|rw [CN]|rw [CO]) |wp_step)
 show R _ _;rw [Heap.size_push];exact hq
theorem qJ(F:ExcBaseFacts B newId e9 u9)(mU:(Value.ref C::bm).contains (.type B)=true){e t0:Addr}{od:Option Addr}{rest:List Value}(hC:h.get? C=some (excClassObj nm q C N bs bm dm sn sub ab col dd k0 k1 k2 k3 k5 newId))(he:h.get? e=some (bR C t0 od))
  (hq:∀h' t',h'.get? e=some (bR C t' od)→(∀b o,b≠e→h.get? b=some o→h'.get? b=some o)→R (.ok (.ret .none)) ⟨h',g,d,t,os⟩) (lO:rest.length≤sizeLine):
  codeAny (model prog w) A (.call (.builtin e9) ⟨.ref e::rest,[]⟩) R ⟨h,g,d,t,os⟩:=by
 refine codeAny_call_builtin F.init.plain F.initEntry (mR F mU hC he rfl ?_)
 wp_walk
 have qV:e≠h.objs.size:=bA (Heap.lt_size he);refine hq _ h.objs.size ?_ λb o hb ho=>?_
 ·rw [Heap.get?_update_self _ (Heap.get?_push_of_some _ he) rfl]
  rfl
 ·rw [Heap.get?_update_other _ _ (Ne.symm hb)]
  exact Heap.get?_push_of_some _ ho
theorem se(F:ExcBaseFacts B newId e9 u9)(mU:(Value.ref C::bm).contains (.type B)=true)(CN:(Value.ref C::bm).contains (.type "AttributeError")=false)(CO:(Value.ref C::bm).contains (.type "NameError")=false)
  {rest:List Value} {init:Value} (hC:h.get? C=some (excClassObj nm q C N bs bm dm sn sub ab col dd k0 k1 k2 k3 k5 newId)) (call:Looks (model prog w) h (specialOf (.ref C) "__call__") (some (.builtin "type.__call__"))) (typ:Looks (model prog w) h (isInstance (.ref C) (.type "type")) true)
  (hi:Looks (model prog w) h (typeLookup (.ref C) "__init__") (some init)) (hb:∀self,Looks (model prog w) h (bindSpecial init self) (init,[self])) (lO:rest.length≤sizeLine)
  (hq:codeAny (model prog w) (A.under (.builtin "type.__call__" ⟨.ref C::rest,[]⟩)) (.call init ⟨.ref (h.objs.size+1)::rest,[]⟩) (InitBack (h.objs.size+1) R) ⟨(h.push {cls:= .type "tuple",data:= .seq rest.toArray}).push (bR C h.objs.size none),g,d,t,os⟩):
  codeAny (model prog w) A (.call (.ref C) ⟨rest,[]⟩) R ⟨h,g,d,t,os⟩:=by
 refine codeAny_of_tree ?_;show wpAny _ _ (callAny (.ref C) _) _ _ _;refine nd_load hC ?_;show wpAny _ _ (callAny.viaDunder (.ref C) _) _ _ _;unfold callAny.viaDunder;refine wpAny_bind (call.at ?_);dsimp only;rw [tc_bind];refine wpAny_bind (wpAny_pure (wpAny_bind (wpAny_pure ?_)));refine wpAny_pure (a:=Fin.again (.call (.builtin "type.__call__") ⟨.ref C::rest,[]⟩)) (And.intro rfl ?_);refine codeAny_call_builtin_at (Code.quiet_builtin _ (by decide+kernel)) entry_typeCall (check_slot tc_kind tc_split typ (tc_args _ _ _) ?_)
 have hm:Looks (model prog w) h (mroOf (.ref C)) (.ref C::bm):=((Looks.ld (part:=none) hC).andThen .now).andThen .now
 have made:Looks (model prog w) h (Bind.madeBy (.ref C)) (some newId):=by
  intro A Q E s k q;obtain ⟨h2,g2,d2,t2,NB⟩:=s;exact wpAny_madeBy_exc (k _ _ hC) q
 unfold Builtin.«type.__call__»
 repeat (first|simp only [List.isEmpty_cons,sg,if_false]|with_reducible refine wpAny_call ?_|lk)
 refine codeAny_call_builtin_code (Code.quiet_builtin _ F.quiet) (oA F mU hC ?_);refine sP F mU CN CO hC ?_ lO;have k:∀b o,h.get? b=some o→((h.push {cls:= .type "tuple",data:= .seq rest.toArray}).push (bR C h.objs.size none)).get? b=some o:=λb o e=>Heap.get?_push_of_some _ (Heap.get?_push_of_some _ e);have hx:((h.push {cls:= .type "tuple",data:= .seq rest.toArray}).push (bR C h.objs.size none)).get? (h.objs.size+1)=some (bR C h.objs.size none):=by heap_get
 have t1:Looks (model prog w) ((h.push {cls:= .type "tuple",data:= .seq rest.toArray}).push (bR C h.objs.size none)) (typeOf (.ref (h.objs.size+1))) (.ref C):=(Looks.ld hx).andThen .now
 have s0:Looks (model prog w) h (isSubtype (.ref C) (.ref C)) true:=by
  intro A Q E s k q;obtain ⟨h2,g2,d2,t2,NB⟩:=s;refine wpAny_isSubtype_exc (k _ _ hC) ?_;rw [show (Value.ref C::bm).contains (.ref C)=true by simp]
  exact q
 have s1:=s0.keeps k;have i1:=hi.keeps k;have b1:=(hb (.ref (h.objs.size+1))).keeps k;unfold isInstance callSpecial? specialOf
 repeat (first|with_reducible refine wpAny_call ?_|lk)
 refine codeAny_mono hq λr s' z=>?_
 rcases r with e| (v|_|_|_)<;>first|exact z|exact z.elim|skip
 obtain ⟨rfl,z⟩:=z;exact wpAny_pure (wpAny_pure z)
end
def u6(C a:Addr)(d:Option Addr):HO:= .ext λh=>∃t,h.get? a=some (bR C t d)
def Ei(a:Addr)(fs:List (Str×V)):HO:= .ext λh=>fs.length≤1000∧∃mA,h.Ns1 a mA∧(∀f,f9 (fs.lookup f) (mA f))∧PySem.Within mA (fs.map (·.1))
section
variable {P:Program} {w:World} {H:Hp} {h:Heap} {a C:Addr} {d:Option Addr} {fs:List (Str×V)}
theorem D5{t:Addr}(e:h.get? a=some (bR C t d)):bh P w H h a (u6 C a d):=⟨⟨t,e⟩,⟨_,e⟩,λh1 h2 ⟨t,p⟩ k=>⟨t,k _ p⟩⟩
theorem A6(hok:cw P w H h)(e:H a=some (u6 C a d)):∃t,h.get? a=some (bR C t d):=(hok a _ e).1
theorem A7(hok:cw P w H h)(e:H a=some (Ei a fs)):fs.length≤1000∧∃mA,h.Ns1 a mA∧(∀f,f9 (fs.lookup f) (mA f))∧PySem.Within mA (fs.map (·.1)):=(hok a _ e).1
end
section
variable {X:Cx} {pins:List (Addr×Obj)} {σ:St} {H:Hp} {s:Shared}
variable {a C:Addr} {fs:List (Str×V)} {f:Str} {v:V} {A:Around} {E:Value→Shared→Prop}
end
section
variable {X:Cx} {o e value:Expr} {f:Str} {pos pos' IB:Pos} {ta tv:TE}
inductive ug:V→Value→Prop where
 |own (D:Addr):ug (.ref D) (.ref D)
 |blt (n:String):ug (.ty n) (.type n)
end
structure iV (K:PySem.W.Frag) (C:Addr):Prop where
 obj:∃nm q N bs bm dm sn sub ab col dd k0 k1 k2 k3 k5,K.lookup C=some (excClassObj nm q C N bs bm dm sn sub ab col dd k0 k1 k2 k3 k5 "ValueError.__new__")∧(Value.ref C::bm).contains (.type "ValueError")=true∧
  (Value.ref C::bm).contains (.type "AttributeError")=false∧(Value.ref C::bm).contains (.type "NameError")=false
structure zr (K:PySem.W.Frag) (C:Addr) (init:Value):Prop extends iV K C where
 call:PySem.W.specialIn K (.ref C) "__call__"=some (some (.builtin "type.__call__"))
 typ:PySem.W.instIn K (.ref C) (.type "type")=some true
 ini:PySem.W.findIn K (.ref C) "__init__"=some (some init)
 kp:PySem.W.keepIn K (.ref C)=true
section
variable {X:Cx} {CX:h7} {k:Nat} {f C:Addr} {fd:FuncData} {ps:List Str} {sp:Sp} {E:XK} {x m:Str} {p pos apos:Pos} {e o:Expr} {es:List Expr} {ta:TE} {t:TA}
end
section
variable {X:Cx} {pins:List (Addr×Obj)} {σ:St} {H:Hp} {s:Shared} {A:Around} {E:Value→Shared→Prop} {Q:Value→Shared→Prop} {b:Bool}
end
theorem bw.of{X:Cx}{scope:Scope}(sc:Scope)(e:X.env.scope=sc)(k:scope.kind= .function)(a:∀x∈scope.names,x.2= .local→scope.names.lookup x.1=some .local)(b:∀x∈scope.names,x.2≠ .cell)
  (c:∀x∈scope.names,x.2= .free→sc.names.lookup x.1=some .cell∨sc.names.lookup x.1=some .free):bw X scope:=⟨k,a,b,λx hx hf=>by rw [←e] at c;exact c x hx hf⟩
structure cU (K:PySem.W.Frag) (mg:Str→Option Value) (x:Str) (st:Stmt) (ps:List Str) where
 f:Addr
 fd:FuncData
 F:ib K x x st f fd
 b:Binds K fd ps []
 m:mg x=some (.ref f)
theorem aH{H:Hp}{p:Addr}(h:H p=none)(o:HO):az H (upd H p o):=λb u q=>by rw [ar (aE q h)];exact q
theorem small{n:Nat}(h:n≤1000):n≤sizeLine:=Nat.le_of_lt (cE h)
abbrev dk(C t:Addr)(tb:Value)(d:Option Addr):Obj:={cls:= .ref C,dict:=d,data:= .fields #[.ref t,tb, .none, .none, .bool false, .none]}
def gD(C a:Addr)(d:Option Addr):HO:= .ext λh=>∃t tb,h.get? a=some (dk C t tb d)
section
variable {P:Program} {w:World} {H:Hp} {h:Heap} {a C:Addr} {d:Option Addr}
theorem xB{t:Addr}{tb:Value}(e:h.get? a=some (dk C t tb d)):bh P w H h a (gD C a d):=⟨⟨t,tb,e⟩,⟨_,e⟩,λh1 h2 ⟨t,tb,p⟩ k=>⟨t,tb,k _ p⟩⟩
theorem zM(hok:cw P w H h)(e:H a=some (gD C a d)):∃t tb,h.get? a=some (dk C t tb d):=(hok a _ e).1
end
def qe(h:Heap)(T:Addr):Prop:=∃o ts,h.get? T=some o∧o.data= .fields ts∧ts[3]? =some .none
section
variable {M:Model} {A:Around} {E:Value→Shared→Prop} {s:Shared}
theorem mh{base:Heap}{env:Env}{outer:List Env}{L e C t:Addr}{tb head:Value}{d:Option Addr}{xK:Bool}{Q:Unit→Shared→Prop}
  (qS:A.frames=some (env::outer)) (hl:s.heap.FunFrames base (env::outer)) (hf:env.frame=some L)
  (he:s.heap.get? e=some (dk C t tb d))
  (h:∀h' T,s.heap.objs.size≤T→h'.get? e=some (dk C t (.ref T) d)→qe h' T→(∀b o,s.heap.get? b=some o→b≠e→∃sl,h'.get? b=some {o with slots:=sl})→
   (∀b o,s.heap.get? b=some o→b≠e→b∉jg (env::outer)→h'.get? b=some o)→Q () {s with heap:=h'}):
  wpAny M A (do let a ←frameOf env;let pl ←entryPlaceOf L xK;let b ←EntryCells.newEntry head a .none (rawInt L) .none pl;setField (.ref e) 1 b) (λ_ s'=>wpAny M A (setFlight (.ref e) none) Q E s') E s:=by
 have hd:(dk C t tb d).data= .fields #[.ref t,tb, .none, .none, .bool false, .none]:=rfl;have vF:1<(#[.ref t,tb, .none, .none, .bool false, .none]:Array Value).size:=by simp
 have F0:e∉(env::outer).filterMap (·.frame):=λhm=>by
  obtain ⟨_,o,ho,xZ⟩:=hl.mem hm;rw [he] at ho;injection ho with ho;subst ho;exact xZ _ hd
 refine wpAny_bind (wpAny_frameOf_fun qS hl hf λdN pf=>?_);refine wpAny_bind (wpAny_entryPlaceOf λpl b3=>?_);unfold EntryCells.newEntry newFields;refine wpAny_bind (wpAny_newObj_type ?_ (b3.sizeOk5 _ _ _ _ _));have xR:dN.get? e=some (dk C t tb d):=(pf.2.1 e F0).trans he;have xS:=Heap.get?_push_of_some (h:=dN) {cls:= .type "traceback",dict:=none,data:= .fields ([head, .ref L, .none,rawInt L, .none]++(if pl.isEmpty then List.replicate 6 Value.none else pl)).toArray} xR;refine wpAny_setField xS hd vF ?_;have zR:dN.objs.size≠e:=Nat.ne_of_gt (Heap.lt_size xR);have xQ:=Obj.data_mapFields hd (·.setIfInBounds 1 (Value.ref dN.objs.size));have xT:=Heap.get?_update_self (Obj.mapFields (·.setIfInBounds 1 (Value.ref dN.objs.size))) xS (Obj.isFreed_of_fields xQ)
 have xJ:=(Heap.get?_update_other (dN.push {cls:= .type "traceback",dict:=none,data:= .fields ([head, .ref L, .none,rawInt L, .none]++(if pl.isEmpty then List.replicate 6 Value.none else pl)).toArray})
  (Obj.mapFields (·.setIfInBounds 1 (Value.ref dN.objs.size))) (Ne.symm zR)).trans (Heap.get?_push_size dN rfl)
 unfold setFlight;refine wpAny_bind (wpAny_field xT xQ (x:= .ref dN.objs.size) (by simp) ?_)
 rw [if_pos (show (Value.ref dN.objs.size !=Value.none)=true from by simp)]
 refine wpAny_setField xJ rfl (by simp only [cc,dR,cR,List.length_nil]<;>omega) ?_
 have keep:∀b o,b≠e→dN.get? b=some o→
   (((dN.push {cls:= .type "traceback",dict:=none,data:= .fields ([head, .ref L, .none,rawInt L, .none]++(if pl.isEmpty then List.replicate 6 Value.none else pl)).toArray}).update e (Obj.mapFields (·.setIfInBounds 1 (Value.ref dN.objs.size)))).update dN.objs.size
     (Obj.mapFields (·.setIfInBounds 3 ((none:Option Addr).elim Value.none λf=>rawInt f)))).get? b=some o:=λb o iJ hb=>by
  have KA:dN.objs.size≠b:=Nat.ne_of_gt (Heap.lt_size hb);rw [Heap.get?_update_other _ _ KA,Heap.get?_update_other _ _ (Ne.symm iJ)];exact Heap.get?_push_of_some _ hb
 refine h _ dN.objs.size (by rw [pf.1];exact bW _) ?_ ⟨_,_,Heap.get?_update_self _ xJ (Obj.isFreed_of_fields (Obj.data_mapFields rfl _)),Obj.data_mapFields rfl _,by first| (simp;done) | (rcases b3 with rfl| ⟨_,_,_,_,_,_,_,rfl⟩<;>simp)⟩ (λb o hb iJ=>?_) (λb o hb iJ KC=>?_)
 ·rw [Heap.get?_update_other _ _ zR];exact xT
 ·obtain ⟨sl,hs⟩:=pf.2.2 b o hb
  exact ⟨sl,keep b _ iJ hs⟩
 ·exact keep b o iJ ((pf.2.1 b KC).trans hb)
theorem tH{base:Heap}{env:Env}{outer:List Env}{L e C t:Addr}{tb:Value}{d:Option Addr}{Q:Unit→Shared→Prop}
  (qS:A.frames=some (env::outer)) (hl:s.heap.FunFrames base (env::outer)) (hf:env.frame=some L)
  (he:s.heap.get? e=some (dk C t tb d)) (ht:tb= .none∨∃T,tb= .ref T∧T≠e∧qe s.heap T)
  (h:∀h' T,s.heap.objs.size≤T→h'.get? e=some (dk C t (.ref T) d)→qe h' T→(∀b o,s.heap.get? b=some o→b≠e→∃o',h'.get? b=some o')→(∀b o,s.heap.get? b=some o→b≠e→tb≠ .ref b→∃sl,h'.get? b=some {o with slots:=sl})→
   (∀b o,s.heap.get? b=some o→b≠e→tb≠ .ref b→b∉jg (env::outer)→h'.get? b=some o)→Q () {s with heap:=h'}):
  wpAny M A (noteFrame (.ref e) env) (λ_ s'=>wpAny M A (setFlight (.ref e) none) Q E s') E s:=by
 have hd:(dk C t tb d).data= .fields #[.ref t,tb, .none, .none, .bool false, .none]:=rfl;unfold noteFrame;simp only [hf];refine wpAny_bind (wpAny_field (x:=tb) he hd rfl ?_)
 rcases ht with rfl| ⟨T,rfl,zR,oT,ts,hT,zT,h3⟩
 ·rw [if_neg (by decide)]
  exact mh qS hl hf he λh' T h1 h2 h3 h4 h5=>h h' T h1 h2 h3 (λb o q n=>let ⟨sl,z⟩:=h4 b o q n;⟨_,z⟩) (λb o q n _=>h4 b o q n) λb o q n _=>h5 b o q n
 ·rw [if_pos (show (Value.ref T !=Value.none)=true from by simp)]
  refine wpAny_bind (wpAny_field hT zT h3 ?_);rw [if_neg (show ¬((Value.none==rawInt L)=true) from by simp [rawInt])]
  refine wpAny_bind (wpAny_setField hT zT (Array.getElem?_eq_some_iff.mp h3).1 ?_);have other:∀b,b≠T→(s.heap.update T (Obj.mapFields (·.setIfInBounds 3 Value.none))).get? b=s.heap.get? b:=λb hb=>Heap.get?_update_other _ _ (Ne.symm hb)
  have vQ:∀b o,s.heap.get? b=some o→(∀vs,o.data≠ .fields vs)→b≠T:=λb o hb xZ q=>by
   rw [q,hT] at hb;injection hb with hb;subst hb;exact xZ ts zT
  have Kx:=Heap.get?_update_self (Obj.mapFields (·.setIfInBounds 3 Value.none)) hT (Obj.isFreed_of_fields (Obj.data_mapFields zT _));refine mh (s:={s with heap:=s.heap.update T (Obj.mapFields (·.setIfInBounds 3 Value.none))}) qS (hl.of_keeps λb o hb xZ=>⟨o,(other b (vQ b o hb xZ)).trans hb,rfl⟩) hf ((other e (Ne.symm zR)).trans he) λh' T' h1 h2 h3 h4 h5=>?_
  refine h h' T' (by rw [Heap.size_after_update] at h1;exact h1) h2 h3 (λb o q n=>?_) (λb o q n z=>h4 b o ((other b λw=>z (by rw [w])).trans q) n) λb o q n z=>h5 b o ((other b λw=>z (by rw [w])).trans q) n
  by_cases z:b=T
  ·subst z
   obtain ⟨sl,z⟩:=h4 b _ Kx n;exact ⟨_,z⟩
  ·obtain ⟨sl,z⟩:=h4 b o ((other b z).trans q) n
   exact ⟨_,z⟩
end
def Eg(X:Cx)(H:Hp)(h:Heap)(tb:Value):Prop:=tb= .none∨∃T,tb= .ref T∧X.s₀.heap.objs.size≤T∧T≠X.env.locals∧(∀x c,X.env.cells.lookup x=some c→c≠T)∧(∀p∈X.pn,p.1≠T)∧H T=none∧qe h T
def la(X:Cx)(H:Hp)(s:Shared)(a:Addr):Prop:=∃C t tb d,H a=some (gD C a d)∧s.heap.get? a=some (dk C t tb d)∧Eg X H s.heap tb
structure Eb (P:Program) (w:World) (outer:List Env) (H:Hp) (s:Shared) (a:Addr) (H':Hp) (s':Shared):Prop where
 os:s'.os=s.os
 bare:AllBare s'.gens
 un:Un (jg outer) [] H H' s.heap s'.heap
 hok:cw P w H' s'.heap
 obj:∃C t tb d,H' a=some (gD C a d)∧s'.heap.get? a=some (dk C t tb d)∧(tb= .none∨∃T,tb= .ref T∧s.heap.objs.size≤T∧H' T=none∧qe s'.heap T)
def kX(P:Program)(w:World):h7:=λouter H s E e s'=>∃a H',e= .ref a∧Eb P w outer H s a H' s'∧E e none H'
section
variable {X:Cx} {pins:List (Addr×Obj)} {σ:St} {H H':Hp} {s s':Shared} {a:Addr}
theorem Inv.wQ(I:Inv X pins σ H s):Inv X [] σ H s:=⟨I.ok,I.os,I.bare,I.base,I.loc,I.cell,I.free,I.freeC,λp hp=>I.pin p (by rw [gq] at hp;exact iB _ hp),I.hok,I.len⟩
theorem zN(I:Inv X pins σ H s)(f:Eb X.prog X.w X.stack H s a H' s'):Inv X [] σ H' s'∧la X H' s' a:=by
 obtain ⟨os,bare,un,hok,C,t,tb,d,h1,h2,h3⟩:=f;have I':Inv X pins σ H' s':=I.sC (ch:= []) os un hok bare (λb z=>absurd z (by simp))
 refine ⟨I'.wQ,C,t,tb,d,h1,h2,h3.imp id λ⟨T,e1,e2,e3,e4⟩=>⟨T,e1,fH I.sz e2,?_,λx c hc z=>?_,λp hp z=>?_,e3,e4⟩⟩
 ·exact λz=>absurd (eV I.lt e2) (by rw [z];exact eS _)
 ·obtain ⟨v,o,ho,_⟩:=I.cell x c hc
  exact absurd (eV (Heap.lt_size ho) e2) (by rw [z];exact eS _)
 ·have:=(I.pin p (iB _ hp)).1
  exact absurd (eV (Heap.lt_size this) e2) (by rw [z];exact eS _)
theorem nQ{M:Model}{E:Value→Shared→Prop}{Q:Unit→Shared→Prop}(jm:X.stack=X.env::X.outer)(xV:X.env.frame=some X.env.locals)(I:Inv X [] σ H s)(f:la X H s a)
  (h:∀s',Inv X [] σ H s'→la X H s' a→Q () s'):
  wpAny M X.A (noteFrame (.ref a) X.env) (λ_ s'=>wpAny M X.A (setFlight (.ref a) none) Q E s') E s:=by
 obtain ⟨C,t,tb,d,h1,h2,h3⟩:=f;have fr:s.heap.FunFrames X.base (X.env::X.outer):=by rw [←jm];exact I.stack
 refine tH (base:=X.base) (by rw [I.ok.frames,jm]) fr xV h2 (h3.imp id λ⟨T,e1,_,_,_,_,e6,e7⟩=>⟨T,e1,(λz=>by rw [z,h1] at e6;cases e6),e7⟩) λh' T hT ha Ky k0 k1 k2=>?_
 have tr:∀b u,H b=some u→b≠a→∀o,s.heap.get? b=some o→h'.get? b=some o:=λb u hb qV o ho=>by
  refine k2 b o ho qV (λz=>?_) λz=>?_
  ·rcases h3 with q| ⟨T,q,_,_,_,_,q6,_⟩
   ·rw [q] at z;cases z
   ·rw [q] at z;cases z;rw [hb] at q6;cases q6
  ·have:=I.mz b (by rw [jm];exact z)
   rw [hb] at this;cases this
 have hok:cw X.prog X.w H h':=λb u hb=>by
  by_cases z:b=a
  ·subst z;rw [h1] at hb;cases hb;exact xB ha
  ·refine (I.hok b u hb).iy (λc v hc q=>?_) (λ_ q=>q) λ_ _ q=>q
   rcases hc with rfl|hc
   ·exact tr c u hb z v q
   ·exact tr c _ hc (λw=>by rw [w,h1] at hc;cases hc) v q
 have Kv:H T=none:=I.hok.fresh hT;have Dg:∀c o,s.heap.get? c=some o→c≠T:=λc o hc z=>absurd (eV (Heap.lt_size hc) hT) (by rw [z];exact eS _)
 have fin:∀ch:List Addr,(∀b,tb= .ref b→b∈ch)→(∀b∈ch,(b∈X.ex∨X.s₀.heap.objs.size≤b)∧b≠X.env.locals∧(∀x c,X.env.cells.lookup x=some c→c≠b)∧∀p∈X.pn++ [],p.1≠b)→Inv X [] σ H {s with heap:=h'}:=λch h5 h6=>by
  refine I.sC (s':={s with heap:=h'}) (ch:=ch) rfl ⟨λb o e n hb hc=>?_,λb o e n _ hc=>?_,λb o _ n _=>n,λb o e _=>?_,λ_ _ q=>q,λ_ _ _ q=>q,λ_ ps q=>⟨#[],by rw [q];simp⟩⟩ hok I.bare h6
  ·exact k2 b o e (λz=>by rw [z,h1] at n;cases n) (λz=>hc (h5 b z)) (by rw [←jm];exact hb)
  ·exact k1 b o e (λz=>by rw [z,h1] at n;cases n) (λz=>hc (h5 b z))
  ·by_cases z:b=a
   ·exact ⟨_,by rw [z];exact ha⟩
   ·exact k0 b o e z
 have I':Inv X [] σ H {s with heap:=h'}:=by
  rcases h3 with q| ⟨T0,q,q2,q3,q4,q5,q6,q7⟩
  ·exact fin [] (λb z=>by rw [q] at z;cases z) λb z=>absurd z (by simp)
  ·refine fin [T0] (λb z=>by rw [q] at z;cases z;exact fI ..) λb z=>?_
   have:b=T0:=by simpa using z
   subst this;exact ⟨.inr q2,q3,q4,λp hp=>q5 p (by rw [gq] at hp;exact hp)⟩
 refine h _ I' ⟨C,t, .ref T,d,h1,ha, .inr ⟨T,rfl,fH I.sz hT,?_,λx c hc=>?_,λp hp=>?_,Kv,Ky⟩⟩
 ·obtain ⟨m,⟨o,_,_,ho,_⟩,_⟩:=I.loc
  exact (Dg _ _ ho).symm
 ·obtain ⟨v,o,ho,_⟩:=I.cell x c hc
  exact Dg _ _ ho
 ·exact Dg _ _ (I.pin p (iB _ hp)).1
end
def qf(X:Cx)(σ:St)(H:Hp)(a:Addr):Prop:=∀s,Inv X [] σ H s→la X H s a→X.xe (.ref a) s
theorem xC{P:Program}{w:World}{K:PySem.W.Frag}{mg:Str→Option Value}{base:Heap}{N:List Str}{qual:Str}{scope:Scope}{f:Addr}{cd:Value}{A:Around}{outer:List Env}{s s':Shared}{H H':Hp}{E:XK}{σ:St}{a:Addr}
  (I:Inv (el (kX P w) P w K mg base N qual scope f cd A outer s H E) [] σ H' s') (fl:la (el (kX P w) P w K mg base N qual scope f cd A outer s H E) H' s' a) (h:E (.ref a) none H'):(el (kX P w) P w K mg base N qual scope f cd A outer s H E).xe (.ref a) s':=by
 show wpAny _ _ (leaving _ _) _ _ _;unfold leaving;refine wpAny_bind (nQ (X:=el (kX P w) P w K mg base N qual scope f cd A outer s H E) rfl rfl I fl λs2 I2 ⟨C,t,tb,d,h1,h2,h3⟩=>?_);exact ⟨a,H',rfl,⟨I2.os,I2.bare,I2.base,I2.hok,C,t,tb,d,h1,h2,h3.imp id λ⟨T,e1,e2,_,_,_,e6,e7⟩=>⟨T,e1,e2,e6,e7⟩⟩,h⟩
theorem lT:∀a:List Int,HT.lexLt a a=false
 | []=>rfl
 |x::xs=>by rw [HT.gH,if_pos rfl];exact lT xs
theorem uG:∀a b c:List Int,HT.lexLt a b=true→HT.lexLt b c=true→HT.lexLt a c=true
 | [],[],_,h,_=>by cases h
 | [],_::_,[],_,h=>by cases h
 | [],_::_,_::_,_,_=>rfl
 |_::_,[],_,h,_=>by cases h
 |_::_,_::_,[],_,h=>by cases h
 |x::xs,y::ys,z::zs,h1,h2=>by
  rw [HT.gH] at*
  by_cases e1:x=y
  ·rw [if_pos e1] at h1
   by_cases e2:y=z
   ·rw [if_pos e2] at h2
    rw [if_pos (e1.trans e2)];exact uG xs ys zs h1 h2
   ·rw [if_neg e2] at h2
    rw [if_neg (by rw [e1];exact e2),e1];exact h2
  ·rw [if_neg e1] at h1
   have l1:=of_decide_eq_true h1
   by_cases e2:y=z
   ·rw [if_neg (by rw [←e2];exact e1),←e2];exact h1
   ·rw [if_neg e2] at h2
    have l2:=of_decide_eq_true h2;rw [if_neg (by omega)]
    exact decide_eq_true (by omega)
section
variable {X:Cx}
end
end L2
namespace PySem.SetTable
def Ef(xs:Array Nat):Prop:=∀i j (hj:j<xs.size),i<j→xs[i]! <xs[j]!
def Jp(mask:Nat)(p:Probe):Probe:=
 if p.more>0 then {p with j:=p.j+1,more:=p.more-1} else
 let (i,perturb):=leap mask p.i p.perturb
 {p with j:=i,more:=runEnd mask i-i,i,perturb}
def N7(mask:Nat)(h:Int):Probe:={j:=bits h%(mask+1),more:=runEnd mask (bits h%(mask+1))-bits h%(mask+1),i:=bits h%(mask+1),perturb:=bits h,dummy:=none}
def Ig(mask:Nat)(h:Int):Nat→Probe
 |0=>N7 mask h
 |k+1=>Jp mask (Ig mask h k)
def Ia(mask:Nat)(h:Int)(k:Nat):Nat:=(Ig mask h k).j
def IT(mask:Nat):Prop:=mask=7∨mask=31∨mask=127∨mask=511
structure Jd (t:SetTable) (hs:List Int):Prop where
 few:IT t.mask
 dum:t.dummies= #[]
 rise:Ef t.place
 size:t.place.size=hs.length
 le:∀(i j:Nat),t.place[i]? =some j→j≤t.mask
 room:t.place.size≤t.mask
 path:∀(i:Nat)(h:Int),hs[i]? =some h→∃k,t.place[i]? =some (Ia t.mask h k)∧∀k',k'<k→∃i':Nat,t.place[i']? =some (Ia t.mask h k')
end PySem.SetTable
namespace PySem
open SetTable PyProof.Rows
structure Bd (bt:Bool) (o:Obj) (es:Array (Int×Value)) (ep:Nat) (t:SetTable):Prop where
 ex:o.ExactSet
 dat:o.data= .set es ep t
 tok:Jd t (es.toList.map (·.1))
 pl:t.plain=true
 ld:t.led= !bt
 few:5*es.size<3*t.mask
end PySem
namespace L2
open PySem PySem.Spec PyProof.Rows
inductive FV where
 |int (i:Int) |bl (b:Bool)
inductive XD where
 |BQ (b:Bool) (ps:List (Int×Int)) |BP (ks:List (Int×Int)) (vs:List FV)
inductive D where
 |aC|bl (b:Bool) |int (i:Int) |str (x:Str) |lst (l:List D) |tup (l:List D) |fY (ns:List Int) |rng (lo hi:Int) |obj (a:Addr) |fG (w:List (List Nat)) |set (b:Bool) (l:List Int) |x (k:XD) |err (C:Addr) (ks:List Str) (l:List D)
structure DC where
 K:PySem.W.Frag
 C:Addr
def av(n:Nat):D:= .int n
def aR(r:List Nat):D:= .lst (r.map av)
def aO(w:List (List Nat)):D:= .lst (w.map aR)
def Ec(es:Array (Int×Value))(ns:List Int):Prop:=(∀e∈es.toList,∃k t,e=(hashInt k,Value.int k t))∧ns.Nodup∧∃ms,IntsAre (es.toList.map (·.2)) ms∧ms.Perm ns
def Be(b:Bool)(a:Addr)(ns:List Int)(h:Heap):Prop:=∃o es ep t,h.get? a=some o∧Bd b o es ep t∧Ec es ns
def vU(p:Int×Int):Int:=reduceHash (Builtin.Tuple.tupleHashOf [hashInt p.1,hashInt p.2])
inductive qd (H:Hp):List (Int×Addr)→List (Int×Int)→Prop
 |nil:qd H [] []
 |cons {a:Addr} {p:Int×Int} {es:List (Int×Addr)} {ps:List (Int×Int)}:H a=some (.tup [.int p.1, .int p.2])→qd H es ps→qd H ((vU p,a)::es) (p::ps)
theorem qd.mono{H H':Hp}(s:az H H'):∀{es:List (Int×Addr)}{ps:List (Int×Int)},qd H es ps→qd H' es ps
 |_,_, .nil=> .nil
 |_,_, .cons h t=> .cons (s _ _ h) (t.mono s)
def B4(b:Bool)(a:Addr)(es:List (Int×Addr))(h:Heap):Prop:=∃o eA ep t,h.get? a=some o∧Bd b o eA ep t∧eA.toList.Perm (es.map λe=>(e.1,Value.ref e.2))
def IU:FV→Value→Prop
 | .int i,v=>∃t,v= .int i t
 | .bl b,v=>v= .bool b
inductive zm:List DictEntry→List (Int×Addr)→List FV→Prop
 |nil:zm [] [] []
 |cons {e:DictEntry} {l:List DictEntry} {h:Int} {a:Addr} {v:FV} {es:List (Int×Addr)} {vs:List FV}:e.hash=h→e.key= .ref a→IU v e.val→zm l es vs→zm (e::l) ((h,a)::es) (v::vs)
def B3(a:Addr)(es:List (Int×Addr))(vs:List FV)(h:Heap):Prop:=(a==sysModules)=false∧∃o eA ep,h.get? a=some o∧o.ExactDict∧o.data= .dict eA ep∧zm eA.toList es vs
def wK(H:Hp)(a:Addr)(φ:Heap→Prop):XD→Prop
 | .BQ b ps=>ps.Nodup∧∃es,φ=B4 b a es∧qd H es ps
 | .BP ks vs=>ks.Nodup∧∃es,φ=B3 a es vs∧qd H es ks
theorem wK.mono{H H':Hp}(s:az H H'){a:Addr}{φ:Heap→Prop}:∀{k:XD},wK H a φ k→wK H' a φ k
 | .BQ _ _,⟨n,es,e,p⟩=>⟨n,es,e,p.mono s⟩
 | .BP _ _,⟨n,es,e,p⟩=>⟨n,es,e,p.mono s⟩
def u5(H:Hp)(od:Option Addr)(ks:List Str)(xs:List V):Prop:=(od=none∧ks= []∧xs= [])∨∃dx,od=some dx∧H dx=some (Ei dx (ks.zip xs))∧ks.length=xs.length
theorem u5.mono{H H':Hp}(s:az H H'){od:Option Addr}{ks:List Str}{xs:List V}(h:u5 H od ks xs):u5 H' od ks xs:=h.imp id λ⟨dx,a,b,c⟩=>⟨dx,a,s _ _ b,c⟩
mutual
inductive Dv (Z:DC) (H:Hp):V→D→Prop
 |aC:Dv Z H .aC .aC
 |bl (b:Bool):Dv Z H (.bl b) (.bl b)
 |int (i:Int):Dv Z H (.int i) (.int i)
 |str (x:Str) (h:PyData.strOk x=true):Dv Z H (.str x) (.str x)
 |lst {a:Addr} {xs:List V} {ds:List D}:H a=some (.lst xs)→ag Z H xs ds→Dv Z H (.ref a) (.lst ds)
 |tup {a:Addr} {xs:List V} {ds:List D}:H a=some (.tup xs)→ag Z H xs ds→Dv Z H (.ref a) (.tup ds)
 |obj (a:Addr):Dv Z H (.ref a) (.obj a)
 |rng {a:Addr} {lo hi:Int}:H a=some (.rng lo hi)→Dv Z H (.ref a) (.rng lo hi)
 |fY {a:Addr} {ns:List Int}:bq Z.K H a (ns.map V.int)→ns.length≤63→Dv Z H (.ref a) (.fY ns)
 |fG {p dx R:Addr} {w:List (List Nat)}:H p=some (.ins Z.C dx [("rows", .ref R)])→Dv Z H (.ref R) (aO w)→Wb.Good w→1≤w.length→w.length≤14→Dv Z H (.ref p) (.fG w)
 |set {a:Addr} {b:Bool} {ns:List Int}:H a=some (.ext (Be b a ns))→Dv Z H (.ref a) (.set b ns)
 |x {a:Addr} {φ:Heap→Prop} {k:XD}:H a=some (.ext φ)→wK H a φ k→Dv Z H (.ref a) (.x k)
 |err {a C:Addr} {od:Option Addr} {ks:List Str} {xs:List V} {ds:List D}:H a=some (gD C a od)→u5 H od ks xs→ag Z H xs ds→Dv Z H (.ref a) (.err C ks ds)
inductive ag (Z:DC) (H:Hp):List V→List D→Prop
 |nil:ag Z H [] []
 |cons {v:V} {vs:List V} {d:D} {ds:List D}:Dv Z H v d→ag Z H vs ds→ag Z H (v::vs) (d::ds)
end
theorem bq.mono{K:PySem.W.Frag}{H H':Hp}{a:Addr}{xs:List V}(s:az H H')(h:bq K H a xs):bq K H' a xs:=by
 rcases h with (h| ⟨o,h⟩) |h
 ·exact .inl (.inl (s _ _ h))
 ·exact .inl (.inr ⟨o,s _ _ h⟩)
 ·exact .inr h
section
variable {Z:DC} {H H' G G':Hp}
theorem Dv.ofInt{v:V}{i:Int}(h:Dv Z H v (.int i)):v= .int i:=by cases h;rfl
theorem Dv.Hn{v:V}{b:Bool}(h:Dv Z H v (.bl b)):v= .bl b:=by cases h;rfl
theorem Dv.fT{v:V}{ds:List D}(h:Dv Z H v (.lst ds)):∃a xs,v= .ref a∧H a=some (.lst xs)∧ag Z H xs ds:=by cases h with|lst h e=>exact ⟨_,_,rfl,h,e⟩
theorem Dv.iQ{v:V}{ds:List D}(h:Dv Z H v (.tup ds)):∃a xs,v= .ref a∧H a=some (.tup xs)∧ag Z H xs ds:=by cases h with|tup h e=>exact ⟨_,_,rfl,h,e⟩
theorem Dv.yq{v:V}{ns:List Int}(h:Dv Z H v (.fY ns)):∃a,v= .ref a∧bq Z.K H a (ns.map V.int)∧ns.length≤63:=by cases h with|fY h z=>exact ⟨_,rfl,h,z⟩
theorem ag.yp{vs:List V}(h:ag Z H vs []):vs= []:=by cases h;rfl
theorem ag.pL{vs:List V}{d:D}{ds:List D}(h:ag Z H vs (d::ds)):∃v us,vs=v::us∧Dv Z H v d∧ag Z H us ds:=by cases h with|cons a b=>exact ⟨_,_,rfl,a,b⟩
theorem ag.ofOne{vs:List V}{d:D}(h:ag Z H vs [d]):∃v,vs= [v]∧Dv Z H v d:=by
 obtain ⟨v,us,rfl,a,b⟩:=h.pL;rw [b.yp];exact ⟨v,rfl,a⟩
theorem ag.Dk{vs:List V}{d e:D}(h:ag Z H vs [d,e]):∃v u,vs= [v,u]∧Dv Z H v d∧Dv Z H u e:=by
 obtain ⟨v,us,rfl,a,b⟩:=h.pL;obtain ⟨u,rfl,c⟩:=b.ofOne;exact ⟨v,u,rfl,a,c⟩
mutual
theorem Dv.mono(s:az H H'):∀{v:V}{d:D},Dv Z H v d→Dv Z H' v d
 |_,_, .aC=> .aC
 |_,_, .bl b=> .bl b
 |_,_, .int i=> .int i
 |_,_, .str x h=> .str x h
 |_,_, .lst h a=> .lst (s _ _ h) (ag.mono s a)
 |_,_, .tup h a=> .tup (s _ _ h) (ag.mono s a)
 |_,_, .obj a=> .obj a
 |_,_, .rng h=> .rng (s _ _ h)
 |_,_, .fY h z=> .fY (h.mono s) z
 |_,_, .fG h r g a b=> .fG (s _ _ h) (Dv.mono s r) g a b
 |_,_, .set h=> .set (s _ _ h)
 |_,_, .x h k=> .x (s _ _ h) (k.mono s)
 |_,_, .err h k a=> .err (s _ _ h) (k.mono s) (ag.mono s a)
theorem ag.mono(s:az H H'):∀{vs:List V}{ds:List D},ag Z H vs ds→ag Z H' vs ds
 |_,_, .nil=> .nil
 |_,_, .cons a as=> .cons (Dv.mono s a) (ag.mono s as)
end
theorem ag.length:∀{vs:List V}{ds:List D},ag Z H vs ds→vs.length=ds.length
 |_,_, .nil=>rfl
 |_,_, .cons _ as=>congrArg (·+1) as.length
theorem ag.get:∀{vs:List V}{ds:List D}{i:Nat}{d:D},ag Z H vs ds→ds[i]? =some d→∃v,vs[i]? =some v∧Dv Z H v d
 |_,_,_,_, .nil,e=>by simp at e
 |_,_,0,_, .cons a as,e=>by simp at e;subst e;exact ⟨_,rfl,a⟩
 |_,_,i+1,d, .cons a as,e=>by
  obtain ⟨v,h1,h2⟩:=ag.get (i:=i) (d:=d) as (by simpa using e)
  exact ⟨v,by simpa using h1,h2⟩
theorem ag.xH:∀{vs:List V}{ds:List D}{i:Nat}{v:V},ag Z H vs ds→vs[i]? =some v→∃d,ds[i]? =some d∧Dv Z H v d
 |_,_,_,_, .nil,e=>by simp at e
 |_,_,0,_, .cons a as,e=>by simp at e;subst e;exact ⟨_,rfl,a⟩
 |_,_,i+1,d, .cons a as,e=>by
  obtain ⟨v,h1,h2⟩:=ag.xH (i:=i) (v:=d) as (by simpa using e)
  exact ⟨v,by simpa using h1,h2⟩
theorem ag.append:∀{vs us:List V}{ds es:List D},ag Z H vs ds→ag Z H us es→ag Z H (vs++us) (ds++es)
 |_,_,_,_, .nil,b=>b
 |_,_,_,_, .cons a as,b=> .cons a (as.append b)
theorem ag.take:∀{vs:List V}{ds:List D}(n:Nat),ag Z H vs ds→ag Z H (vs.take n) (ds.take n)
 |_,_,0,_=>by simpa using ag.nil
 |_,_,n+1, .nil=>by simpa using ag.nil
 |_,_,n+1, .cons a as=>by simpa using ag.cons a (as.take n)
theorem ag.drop:∀{vs:List V}{ds:List D}(n:Nat),ag Z H vs ds→ag Z H (vs.drop n) (ds.drop n)
 |_,_,0,h=>h
 |_,_,n+1, .nil=>by simpa using ag.nil
 |_,_,n+1, .cons a as=>by simpa using as.drop n
theorem ag.set{v:V}{d:D}(h:Dv Z H v d):∀{vs:List V}{ds:List D}(n:Nat),ag Z H vs ds→ag Z H (vs.set n v) (ds.set n d)
 |_,_,_, .nil=> .nil
 |_,_,0, .cons a as=> .cons h as
 |_,_,n+1, .cons a as=> .cons a (ag.set h n as)
theorem ag.ints:∀(ns:List Int),ag Z H (ns.map V.int) (ns.map D.int)
 | []=> .nil
 |n::ns=> .cons (.int n) (ag.ints ns)
theorem ag.snoc{vs:List V}{ds:List D}{v:V}{d:D}(a:ag Z H vs ds)(b:Dv Z H v d):ag Z H (vs++ [v]) (ds++ [d]):=a.append (.cons b .nil)
structure Ext (G H G' H':Hp):Prop where
 gg:az G G'
 sub:az G' H'
 hh:az H H'
 off:∀b,H b≠none→G b=none→G' b=none
theorem Ext.refl(s:az G H):Ext G H G H:=⟨.refl _,s, .refl _,λ_ _ h=>h⟩
theorem Ext.trans{G1 H1 G2 H2:Hp}(a:Ext G H G1 H1)(b:Ext G1 H1 G2 H2):Ext G H G2 H2:=
 ⟨a.gg.trans b.gg,b.sub,a.hh.trans b.hh,λx h g=>b.off x (λz=>by
  cases e:H x with
  |none=>exact h e
  |some o=>rw [a.hh x o e] at z;cases z) (a.off x h g)⟩
theorem Ext.new{p:Addr}{o:HO}(s:az G H)(h:H p=none):Ext G H (upd G p o) (upd H p o):=by
 have hg:G p=none:=s.free h;refine ⟨aH hg o,λb u e=>?_,aH h o,λb hb hg=>?_⟩
 ·by_cases z:b=p
  ·subst z;rw [ak] at e ⊢;exact e
  ·rw [ar z] at e ⊢;exact s b u e
 ·have:b≠p:=λz=>hb (by rw [z];exact h)
  rw [ar this];exact hg
end
abbrev DN:=List (Option D)
structure bF (Z:DC) (G:Hp) (σ:St) (ρ:DN):Prop where
 len:ρ.length=σ.length
 at_:∀(i:Nat)(d:D),ρ[i]? =some (some d)→∃v,σ[i]? =some (some v)∧Dv Z G v d
section
variable {Z:DC} {G G' H H':Hp} {σ:St} {ρ:DN}
theorem bF.mono(e:bF Z G σ ρ)(s:az G G'):bF Z G' σ ρ:=⟨e.len,λi d h=>let ⟨v,a,b⟩:=e.at_ i d h;⟨v,a,b.mono s⟩⟩
theorem bF.set{i:Nat}{v:V}{d:D}(e:bF Z G σ ρ)(h:Dv Z G v d):bF Z G (σ.set i (some v)) (ρ.set i (some d)):=by
 refine ⟨by rw [dS,dS];exact e.len,λj c hj=>?_⟩
 by_cases z:i=j
 ·subst z
  by_cases hi:i<ρ.length
  ·rw [gn hi] at hj
   cases hj;exact ⟨v,by rw [gn (by rw [←e.len];exact hi)],h⟩
  ·rw [n5 (cS hi)] at hj
   rw [dq (cS hi)] at hj;cases hj
 ·rw [iC z] at hj ⊢
  exact e.at_ j c hj
end
abbrev aK:=DN→(D→Prop)→Prop
abbrev bY:=DN→(Bool→Prop)→Prop
abbrev eh:=DN→(List D→Prop)→Prop
abbrev cT:=D→D→(D→Prop)→Prop
abbrev cf:=D→DN→(DN→Prop)→Prop
abbrev fK:=DN→(List D→Prop)→Prop
def bP(Z:DC)(t:aK):TE:=λσ H Q=>∃(G:Hp)(ρ:DN)(P:D→Prop),az G H∧bF Z G σ ρ∧t ρ P∧∀d,P d→∀v G' H',Ext G H G' H'→Dv Z G' v d→Q v H'
def liftT(Z:DC)(t:bY):TT:=λσ H Q=>∃(G:Hp)(ρ:DN)(P:Bool→Prop),az G H∧bF Z G σ ρ∧t ρ P∧∀b,P b→∀G' H',Ext G H G' H'→Q b H'
def lU(Z:DC)(t:eh):TA:=λσ H Q=>∃(G:Hp)(ρ:DN)(P:List D→Prop),az G H∧bF Z G σ ρ∧t ρ P∧∀ds,P ds→∀vs G' H',Ext G H G' H'→ag Z G' vs ds→Q vs H'
def aT(Z:DC)(r:cT):R2:=λx y H Q=>∃(G:Hp)(a b:D)(P:D→Prop),az G H∧Dv Z G x a∧Dv Z G y b∧r a b P∧∀d,P d→∀v G' H',Ext G H G' H'→Dv Z G' v d→Q v H'
def fQ(Z:DC)(r:List D→(D→Prop)→Prop):List V→Hp→VK→Prop:=λvs H Q=>∃(G:Hp)(ds:List D)(P:D→Prop),az G H∧ag Z G vs ds∧r ds P∧∀d,P d→∀v G' H',Ext G H G' H'→Dv Z G' v d→Q v H'
abbrev bX:=List D→(D→Prop)→Prop
def aB(Z:DC)(sd:bX):Sp:=λvs H Q _=>fQ Z sd vs H Q
def DE(Z:DC)(X:Cx)(e:Expr)(t:aK):Prop:=PE X e (bP Z t)
def DT(Z:DC)(X:Cx)(e:Expr)(t:bY):Prop:=PT X e (liftT Z t)
def DA(Z:DC)(X:Cx)(es:List Expr)(t:eh):Prop:=PA X es (lU Z t)
theorem PE.imp{X:Cx}{e:Expr}{t t':TE}(h:PE X e t)(f:∀σ H Q,t' σ H Q→t σ H Q):PE X e t':=λpins s σ H Q I q=>h pins s σ H Q I (f _ _ _ q)
theorem PT.imp{X:Cx}{e:Expr}{t t':TT}(h:PT X e t)(f:∀σ H Q,t' σ H Q→t σ H Q):PT X e t':=λpins s σ H Q I q=>h pins s σ H Q I (f _ _ _ q)
theorem PW.imp{X:Cx}{e:Expr}{t t':TT}(h:PW X e t)(f:∀σ H Q,t' σ H Q→t σ H Q):PW X e t':=λwh pins s σ H Q I q=>h wh pins s σ H Q I (f _ _ _ q)
theorem PA.imp{X:Cx}{es:List Expr}{t t':TA}(h:PA X es t)(f:∀σ H Q,t' σ H Q→t σ H Q):PA X es t':=λpos pins s σ H Q I q=>h pos pins s σ H Q I (f _ _ _ q)
theorem OpR.imp{X:Cx}{f:Value→Value→Sem Value}{r r':R2}(h:OpR X f r)(g:∀x y H Q,r' x y H Q→r x y H Q):OpR X f r':=λpins s σ H x y v u Q I a b q=>h pins s σ H x y v u Q I a b (g _ _ _ _ q)
theorem CallR.imp{X:Cx}{f:Value}{r r':List V→Hp→VK→Prop}(h:CallR X f r)(g:∀xs H Q,r' xs H Q→r xs H Q):CallR X f r':=λpins s σ H xs us Q I a q=>h pins s σ H xs us Q I a (g _ _ _ q)
def bJ(i:Nat):aK:=λρ P=>∃d,ρ[i]? =some (some d)∧P d
def dC(d:D):aK:=λ_ P=>P d
section
variable {Z:DC} {X:Cx}
theorem aa(i:Nat){x:Str}{pos:Pos}(hN:X.N[i]? =some x:=by rfl)(hv:lj X.env.scope x:=by first|exact Or.inl rfl|exact Or.inr (Or.inl rfl) |exact Or.inr (Or.inr rfl))(hd:(x==("__debug__":Str))=false:=by decide)
  (cL:(x==("__classdict__":Str))=false:=by decide):DE Z X (.Name x pos) (bJ i):=
 (uP hN hv hd cL).imp λσ H Q ⟨G,ρ,P,s,e,⟨d,hd,p⟩,q⟩=>let ⟨v,hv,dv⟩:=e.at_ i d hd;⟨v,hv,q d p v G H (.refl s) dv⟩
theorem ao{i j pos}:DE Z X (.Constant (.int i) j pos) (dC (.int i)):=Ay.imp λσ H Q ⟨G,ρ,P,s,e,p,q⟩=>q _ p _ G H (.refl s) (.int i)
theorem eu{b j pos}:DE Z X (.Constant (.bool b) j pos) (dC (.bl b)):=Dt.imp λσ H Q ⟨G,ρ,P,s,e,p,q⟩=>q _ p _ G H (.refl s) (.bl b)
theorem bH{j pos}:DE Z X (.Constant .none j pos) (dC .aC):=Az.imp λσ H Q ⟨G,ρ,P,s,e,p,q⟩=>q _ p _ G H (.refl s) .aC
theorem cK{x j pos}(h:PyData.strOk x=true:=by decide+kernel):DE Z X (.Constant (.str x) j pos) (dC (.str x)):=pR.imp λσ H Q ⟨G,ρ,P,s,e,p,q⟩=>q _ p _ G H (.refl s) (.str x h)
theorem ny{x:Str}{i:Int}{pos:Pos}(hg:Gl X x)(hm:∃tk,X.mg x=some (.int i tk))(hd:(x==("__debug__":Str))=false:=by decide):DE Z X (.Name x pos) (dC (.int i)):=by
 obtain ⟨tk,hm⟩:=hm;exact (rH hg hm (v:= .int i) ⟨tk,rfl⟩ hd).imp λσ H Q ⟨G,ρ,P,s,e,p,q⟩=>q _ p _ G H (.refl s) (.int i)
def di(r:cT)(ta tb:aK):aK:=λρ P=>ta ρ λa=>tb ρ λb=>r a b P
variable {a b c:Expr} {ta tb tc:aK} {pos:Pos}
theorem pD{r:cT}:∀σ H Q,bP Z (di r ta tb) σ H Q→zc (aT Z r) (bP Z ta) (bP Z tb) σ H Q:=by
 rintro σ H Q ⟨G,ρ,P,s,e,h,q⟩;refine ⟨G,ρ,_,s,e,h,λa ha v G1 H1 x1 dv=>?_⟩;refine ⟨G1,ρ,_,x1.sub,e.mono x1.gg,ha,λb hb u G2 H2 x2 du=>?_⟩;exact ⟨G2,a,b,P,x2.sub,dv.mono x2.gg,du,hb,λd hd v' G' H' x3 fk=>q d hd v' G' H' ((x1.trans x2).trans x3) fk⟩
theorem ay{op:Operator}{r:cT}(ho:OpR X (binaryOp op) (aT Z r))(ha:DE Z X a ta)(hb:DE Z X b tb):DE Z X (.BinOp a op b pos) (di r ta tb):=(Dx ho ha hb).imp pD
theorem uu{op:CmpOp}{r:cT}(ho:OpR X (compareOp op) (aT Z r))(ha:DE Z X a ta)(hb:DE Z X b tb)(hm:behindInMarks op b=false):DE Z X (.Compare a [op] [b] pos) (di r ta tb):=(yA ho ha hb hm).imp pD
def oJ(t:aK):bY:=λρ P=>t ρ λd=>∃k,d= .bl k∧P k
theorem nS{t:aK}:∀σ H Q,liftT Z (oJ t) σ H Q→t6 (bP Z t) σ H Q:=by
 rintro σ H Q ⟨G,ρ,P,s,e,h,q⟩;refine ⟨G,ρ,_,s,e,h,?_⟩;rintro _ ⟨k,rfl,p⟩ v G1 H1 x1 dv;cases dv;exact ⟨k,rfl,q k p G1 H1 x1⟩
theorem aU{op:CmpOp}{r:cT}(ho:OpR X (compareOp op) (aT Z r))(ha:DE Z X a ta)(hb:DE Z X b tb)(hm:behindInMarks op b=false):DT Z X (.Compare a [op] [b] pos) (oJ (di r ta tb)):=
 (yI ho ha hb hm).imp λσ H Q h=>by
  obtain h:=nS σ H Q h;exact pD σ H _ h
def oI(r r':cT)(ta tb tc:aK):aK:=λρ P=>ta ρ λx=>tb ρ λy=>r x y λz=>∃k,z= .bl k∧(if k=true then tc ρ λw'=>r' y w' P else P (.bl false))
theorem lV{r r':cT}:∀σ H Q,bP Z (oI r r' ta tb tc) σ H Q→p6 (aT Z r) (aT Z r') (bP Z ta) (bP Z tb) (bP Z tc) σ H Q:=by
 rintro σ H Q ⟨G,ρ,P,s,e,h,q⟩;refine ⟨G,ρ,_,s,e,h,λa ha v G1 H1 x1 dv=>?_⟩;refine ⟨G1,ρ,_,x1.sub,e.mono x1.gg,ha,λb hb u G2 H2 x2 du=>?_⟩;refine ⟨G2,a,b,_,x2.sub,dv.mono x2.gg,du,hb,?_⟩;rintro _ ⟨k,rfl,hk⟩ v' G3 H3 x3 fk;cases fk;refine ⟨k,rfl,?_⟩;have x:=(x1.trans x2).trans x3;cases k with
 |false=>exact aZ (q _ hk _ G3 H3 x (.bl false))
 |true=>
  refine bG ⟨G3,ρ,_,x3.sub,e.mono x.gg,hk,λc hc w' G4 H4 x4 dw=>?_⟩;exact ⟨G4,b,c,P,x4.sub,(du.mono x3.gg).mono x4.gg,dw,hc,λd hd Of G' H' x5 d5=>q d hd Of G' H' ((x.trans x4).trans x5) d5⟩
theorem vh{op iR:CmpOp}{r r':cT}(ho:OpR X (compareOp op) (aT Z r))(iK:OpR X (compareOp iR) (aT Z r'))(ha:DE Z X a ta)(hb:DE Z X b tb)(hc:DE Z X c tc)
  (hm:lastMarks [op,iR] [b,c]=false:=by with_unfolding_all rfl):DE Z X (.Compare a [op,iR] [b,c] pos) (oI r r' ta tb tc):=(vW ho iK ha hb hc hm).imp lV
theorem vk{op iR:CmpOp}{r r':cT}(ho:OpR X (compareOp op) (aT Z r))(iK:OpR X (compareOp iR) (aT Z r'))(ha:DE Z X a ta)(hb:DE Z X b tb)(hc:DE Z X c tc)
  (hm:lastMarks [op,iR] [b,c]=false:=by with_unfolding_all rfl):DT Z X (.Compare a [op,iR] [b,c] pos) (oJ (oI r r' ta tb tc)):=
 (wa ho iK ha hb hc hm).imp λσ H Q h=>by
  obtain h:=nS σ H Q h;exact lV σ H _ h
def rV:D→Bool
 | .aC=>false
 | .bl b=>b
 | .int i=>i !=0
 | .str x=>x.length !=0
 | .lst l=>!l.isEmpty
 | .tup l=>!l.isEmpty
 | .fY l=>!l.isEmpty
 | .rng lo hi=>decide (lo<hi)
 | .obj _=>true
 | .fG _=>true
 | .set _ l=>!l.isEmpty
 | .x _=>true
 | .err _ _ _=>true
def Gk:D→Bool
 | .bl _=>true
 | .int _=>true
 | .lst _=>true
 | .tup _=>true
 | .aC=>true
 |_=>false
def Ff(t:aK):bY:=λρ P=>t ρ λd=>Gk d=true∧P (rV d)
theorem kA{G:Hp}{vs:List V}{ds:List D}(h:ag Z G vs ds):vs.isEmpty=ds.isEmpty:=by cases h<;>rfl
theorem bQ(ha:DE Z X a ta)(he:∀whole,isTrue a X.env whole=(do let v ←whole;standAt a.pos;holding [v] (truthy v)):=by intro _;rfl):DT Z X a (Ff ta):=by
 refine (wb ha he).imp ?_;rintro σ H Q ⟨G,ρ,P,s,e,h,q⟩;refine ⟨G,ρ,_,s,e,h,?_⟩;rintro d ⟨hd,p⟩ v G1 H1 x1 dv;refine ⟨rV d,?_,q _ p G1 H1 x1⟩;cases dv with
 |aC=>rfl
 |bl b=>rfl
 |int i=>rfl
 |lst h a=>exact .inl ⟨_,bq.of (x1.sub _ _ h),by rw [kA a];rfl⟩
 |tup h a=>exact .inr (.inl ⟨_,cg.of (x1.sub _ _ h),by rw [kA a];rfl⟩)
 |_=>cases hd
def E1(t u:bY):bY:=λρ P=>t ρ λc=>if c=true then u ρ P else P false
def J3(t u:bY):bY:=λρ P=>t ρ λc=>if c=true then P true else u ρ P
def E8(t:bY):bY:=λρ P=>t ρ λc=>P (!c)
variable {tA p0:bY} {rest:List Expr}
def DW(Z:DC)(X:Cx)(e:Expr)(t:bY):Prop:=PW X e (liftT Z t)
theorem DW.dt{e:Expr}{t:bY}(h:DW Z X e t):DT Z X e t:=PW.pt h
theorem qH(ha:DT Z X a tA):DW Z X (.BoolOp .And [a] pos) tA:=yK ha
theorem kU(ha:DT Z X a tA):DW Z X (.BoolOp .Or [a] pos) tA:=AL ha
theorem uz(ha:DT Z X a tA)(hb:DW Z X (.BoolOp .And (b::rest) pos) p0):DW Z X (.BoolOp .And (a::b::rest) pos) (E1 tA p0):=by
 refine (AK ha hb).imp ?_;rintro σ H Q ⟨G,ρ,P,s,e,h,q⟩;refine ⟨G,ρ,_,s,e,h,λc hc G1 H1 x1=>?_⟩;cases c with
 |true=>exact bG ⟨G1,ρ,P,x1.sub,e.mono x1.gg,hc,λb hb G2 H2 x2=>q b hb G2 H2 (x1.trans x2)⟩
 |false=>exact aZ (q _ hc G1 H1 x1)
theorem gF(ha:DT Z X a tA)(hb:DW Z X (.BoolOp .Or (b::rest) pos) p0):DW Z X (.BoolOp .Or (a::b::rest) pos) (J3 tA p0):=by
 refine (DH ha hb).imp ?_;rintro σ H Q ⟨G,ρ,P,s,e,h,q⟩;refine ⟨G,ρ,_,s,e,h,λc hc G1 H1 x1=>?_⟩;cases c with
 |false=>exact aZ ⟨G1,ρ,P,x1.sub,e.mono x1.gg,hc,λb hb G2 H2 x2=>q b hb G2 H2 (x1.trans x2)⟩
 |true=>exact bG (q _ hc G1 H1 x1)
theorem je(ha:DT Z X a tA):DT Z X (.UnaryOp .Not a pos) (E8 tA):=by
 refine (AJ ha).imp ?_;rintro σ H Q ⟨G,ρ,P,s,e,h,q⟩;exact ⟨G,ρ,_,s,e,h,λc hc G1 H1 x1=>q _ hc G1 H1 x1⟩
def Cp(ta tb:aK):aK:=λρ P=>ta ρ λx=>∃c,x= .bl c∧if c=true then tb ρ P else P (.bl false)
def E9(ta tb:aK):aK:=λρ P=>ta ρ λx=>∃c,x= .bl c∧if c=true then P (.bl true) else tb ρ P
def Cy(ta:aK):aK:=λρ P=>ta ρ λx=>∃c,x= .bl c∧P (.bl (!c))
theorem uw{op}(h:DE Z X a ta):DE Z X (.BoolOp op [a] pos) ta:=AB h
theorem ur(ha:DE Z X a ta)(hb:DE Z X (.BoolOp .And (b::rest) pos) tb):DE Z X (.BoolOp .And (a::b::rest) pos) (Cp ta tb):=by
 refine (Av ha hb).imp ?_;rintro σ H Q ⟨G,ρ,P,s,e,h,q⟩;refine ⟨G,ρ,_,s,e,h,?_⟩;rintro _ ⟨c,rfl,hc⟩ v G1 H1 x1 dv;cases dv;refine ⟨c,rfl,?_⟩;cases c with
 |true=>exact bG ⟨G1,ρ,P,x1.sub,e.mono x1.gg,hc,λb hb v G2 H2 x2 d2=>q b hb v G2 H2 (x1.trans x2) d2⟩
 |false=>exact aZ (q _ hc _ G1 H1 x1 (.bl false))
theorem CB(ha:DE Z X a ta)(hb:DE Z X (.BoolOp .Or (b::rest) pos) tb):DE Z X (.BoolOp .Or (a::b::rest) pos) (E9 ta tb):=by
 refine (Dz ha hb).imp ?_;rintro σ H Q ⟨G,ρ,P,s,e,h,q⟩;refine ⟨G,ρ,_,s,e,h,?_⟩;rintro _ ⟨c,rfl,hc⟩ v G1 H1 x1 dv;cases dv;refine ⟨c,rfl,?_⟩;cases c with
 |false=>exact aZ ⟨G1,ρ,P,x1.sub,e.mono x1.gg,hc,λb hb v G2 H2 x2 d2=>q b hb v G2 H2 (x1.trans x2) d2⟩
 |true=>exact bG (q _ hc _ G1 H1 x1 (.bl true))
theorem zC(ha:DE Z X a ta):DE Z X (.UnaryOp .Not a pos) (Cy ta):=by
 refine (AA ha).imp ?_;rintro σ H Q ⟨G,ρ,P,s,e,h,q⟩;refine ⟨G,ρ,_,s,e,h,?_⟩;rintro _ ⟨c,rfl,hc⟩ v G1 H1 x1 dv;cases dv;exact ⟨c,rfl,q _ hc _ G1 H1 x1 (.bl _)⟩
def J1(t:bY)(ta tb:aK):aK:=λρ P=>t ρ λc=>if c=true then ta ρ P else tb ρ P
theorem CA{c:Expr}(hc:DT Z X c tA)(ha:DE Z X a ta)(hb:DE Z X b tb):DE Z X (.IfExp c a b pos) (J1 tA ta tb):=by
 refine (vX hc ha hb).imp ?_;rintro σ H Q ⟨G,ρ,P,s,e,h,q⟩;refine ⟨G,ρ,_,s,e,h,λc hc G1 H1 x1=>?_⟩;cases c with
 |true=>exact bG ⟨G1,ρ,P,x1.sub,e.mono x1.gg,hc,λb hb v G2 H2 x2 d2=>q b hb v G2 H2 (x1.trans x2) d2⟩
 |false=>exact aZ ⟨G1,ρ,P,x1.sub,e.mono x1.gg,hc,λb hb v G2 H2 x2 d2=>q b hb v G2 H2 (x1.trans x2) d2⟩
def eo:eh:=λ_ P=>P []
def cV(ta:aK)(t:eh):eh:=λρ P=>ta ρ λx=>t ρ λxs=>P (x::xs)
variable {es:List Expr} {t:eh} {e:Expr}
theorem ai:DA Z X [] eo:=fe.imp λσ H Q ⟨G,ρ,P,s,e,p,q⟩=>q _ p _ G H (.refl s) .nil
theorem ae(ha:DE Z X e ta)(hr:DA Z X es t)(hs:starEach (e::es) X.env=(false,eval e X.env)::starEach es X.env:=by rfl):DA Z X (e::es) (cV ta t):=by
 refine (bL ha hr hs).imp ?_;rintro σ H Q ⟨G,ρ,P,s,e,h,q⟩;refine ⟨G,ρ,_,s,e,h,λa ha v G1 H1 x1 dv=>?_⟩;exact ⟨G1,ρ,_,x1.sub,e.mono x1.gg,ha,λds hd vs G2 H2 x2 aM=>q _ hd _ G2 H2 (x1.trans x2) (.cons (dv.mono x2.gg) aM)⟩
def Fh(t:eh):aK:=λρ P=>t ρ λxs=>xs.length≤sizeLine∧P (.tup xs)
def Bv(t:eh):aK:=λρ P=>t ρ λxs=>xs.length≤sizeLine∧P (.lst xs)
theorem cn{x1}(h:DA Z X es t):DE Z X (.Tuple es x1 pos) (Fh t):=by
 refine (AD h).imp ?_;rintro σ H Q ⟨G,ρ,P,s,e,h,q⟩;refine ⟨G,ρ,_,s,e,h,?_⟩;rintro ds ⟨hl,hp⟩ vs G1 H1 x1 aM;exact ⟨by rw [aM.length];exact hl,λp mX=>q _ hp _ _ _ (x1.trans (.new x1.sub mX)) (.tup ak (aM.mono (aH (x1.sub.free mX) _)))⟩
theorem gW(h:DA Z X es t):DE Z X (.List es pos) (Bv t):=by
 refine (uO h).imp ?_;rintro σ H Q ⟨G,ρ,P,s,e,h,q⟩;refine ⟨G,ρ,_,s,e,h,?_⟩;rintro ds ⟨hl,hp⟩ vs G1 H1 x1 aM;exact ⟨by rw [aM.length];exact hl,λp mX=>q _ hp _ _ _ (x1.trans (.new x1.sub mX)) (.lst ak (aM.mono (aH (x1.sub.free mX) _)))⟩
def dB(r:List D→(D→Prop)→Prop)(t:eh):aK:=λρ P=>t ρ λds=>r ds P
theorem g8{r:List D→(D→Prop)→Prop}:∀σ H Q,bP Z (dB r t) σ H Q→lU Z t σ H λvs H1=>fQ Z r vs H1 Q:=by
 rintro σ H Q ⟨G,ρ,P,s,e,h,q⟩;exact ⟨G,ρ,_,s,e,h,λds hd vs G1 H1 x1 aM=>⟨G1,ds,P,x1.sub,aM,hd,λd hp v G2 H2 x2 dv=>q d hp v G2 H2 (x1.trans x2) dv⟩⟩
theorem xi{sd:bX}{k:Nat}{f:Addr}{fd:FuncData}{ps:List Str}{x:Str}{p:Pos}(F:FnOk X.prog X.w X.K X.mg X.base bu k f fd ps (aB Z sd))(hr:aW k X.A)(hg:Gl X x)(hm:X.mg x=some (.ref f))(hk:PySem.W.keepIn X.K (.ref f)=true)(hb:Binds X.K fd ps [])
  (ha:DA Z X (e::es) t) (cC:(x==("__debug__":Str))=false:=by decide) (he:starEach (e::es) X.env=(false,eval e X.env)::starEach es X.env:=by rfl) (b3:(backTo pos (starEach es X.env)).any (·.1)=false:=by rfl):
  DE Z X (.Call (.Name x p) (e::es) [] pos) (dB sd t):=
 (yz F hr hg hm hk hb .nil tQ ha cC he b3).imp λσ H Q h=>by
  have h:=g8 σ H Q h;obtain ⟨G,ρ,P,s,e,h,q⟩:=h;exact ⟨G,ρ,P,s,e,h,λds hd vs G1 H1 x1 aM=>by show aB Z sd (vs++ []) H1 Q E0;rw [gq];exact q ds hd vs G1 H1 x1 aM⟩
theorem br{id:String}{x:Str}{p:Pos}{r:List D→(D→Prop)→Prop}(hc:CallR X (.builtin id) (fQ Z r))(hg:Gl X x)(hm:X.mg x=none)(hv:bootBuiltins x=some (.builtin id))(ha:DA Z X (e::es) t)(hn:x≠"__name__":=by decide)(cC:(x==("__debug__":Str))=false:=by decide)
  (he:starEach (e::es) X.env=(false,eval e X.env)::starEach es X.env:=by rfl) (b3:(backTo pos (starEach es X.env)).any (·.1)=false:=by rfl):
  DE Z X (.Call (.Name x p) (e::es) [] pos) (dB r t):=(kd hc hg hm hv ha hn cC he b3).imp g8
theorem ez{T:String}{x:Str}{p:Pos}{r:List D→(D→Prop)→Prop}(hc:CallR X (.type T) (fQ Z r))(hg:Gl X x)(hm:X.mg x=none)(hv:bootBuiltins x=some (.type T))(ha:DA Z X (e::es) t)(hn:x≠"__name__":=by decide)(cC:(x==("__debug__":Str))=false:=by decide)
  (he:starEach (e::es) X.env=(false,eval e X.env)::starEach es X.env:=by rfl) (b3:(backTo pos (starEach es X.env)).any (·.1)=false:=by rfl):
  DE Z X (.Call (.Name x p) (e::es) [] pos) (dB r t):=(tR hc hg hm hv ha hn cC he b3).imp g8
end
end L2
namespace L2
open PySem PySem.Spec PyProof.Rows
section
variable {Z:DC} {X:Cx}
def nv:cT:=λx y P=>match x,y with
 | .int i, .int j=>P (.int (i+j))
 | .lst a, .lst b=>a.length+b.length≤sizeLine∧P (.lst (a++b))
 | .tup a, .tup b=>a≠ []∧a.length+b.length≤sizeLine∧b≠ []∧P (.tup (a++b))
 |_,_=>False
def dI(c:Int→Int→Prop)(g:Int→Int→Int):cT:=λx y P=>match x,y with
 | .int i, .int j=>c i j∧P (.int (g i j))
 |_,_=>False
def Cu(g:Int→Int→Int):cT:=λx y P=>match x,y with
 | .int i, .int j=>P (.int (g i j))
 |_,_=>False
def Fe:cT:=Cu λi j=>i-j
def w9:cT:=λx y P=>match x,y with
 | .int i, .int j=>qa i j∧P (.int (i*j))
 | .lst a, .int k=> -(2^63)≤k∧k<2^63∧a.length*k.toNat≤sizeLine∧P (.lst (List.replicate k.toNat a).flatten)
 |_,_=>False
def i8:cT:=dI Ba λi j=>i / j
def Bw:cT:=dI (λ_ j=>0<j) λi j=>i%j
def Fc:cT:=dI Bb λi j=>i^j.toNat
theorem pF{f:Value→Value→Sem Value}{c:Int→Int→Prop}{g:Int→Int→Int}(h:OpR X f (rI c λi j=> .int (g i j))):OpR X f (aT Z (dI c g)):=by
 refine h.imp ?_;rintro x y H Q ⟨G,a,b,P,s,da,db,hr,q⟩;unfold dI at hr
 split at hr
 ·exact ⟨_,_,da.ofInt,db.ofInt,hr.1,q _ hr.2 _ G H (.refl s) (.int _)⟩
 ·exact hr.elim
theorem Aa{f:Value→Value→Sem Value}{g:Int→Int→Int}(h:OpR X f (pU λi j=> .int (g i j))):OpR X f (aT Z (Cu g)):=by
 refine h.imp ?_;rintro x y H Q ⟨G,a,b,P,s,da,db,hr,q⟩;unfold Cu at hr
 split at hr
 ·exact ⟨_,_,da.ofInt,db.ofInt,q _ hr _ G H (.refl s) (.int _)⟩
 ·exact hr.elim
theorem uL:OpR X (binaryOp .Sub) (aT Z Fe):=Aa Au
theorem b9:OpR X (binaryOp .FloorDiv) (aT Z i8):=pF yw
theorem bU:OpR X (binaryOp .Mod) (aT Z Bw):=pF Ap
theorem pK:OpR X (binaryOp .Pow) (aT Z Fc):=pF Ar
theorem bT(e:X.K=Z.K:=by rfl):OpR X (binaryOp .Add) (aT Z nv):=by
 refine (Al.or (Am.or (yv))).imp ?_;rintro x y H Q ⟨G,a,b,P,s,da,db,hr,q⟩;unfold nv at hr
 split at hr
 ·exact .inl ⟨_,_,da.ofInt,db.ofInt,q _ hr _ G H (.refl s) (.int _)⟩
 ·obtain ⟨a1,IE,rfl,h1,e1⟩:=da.fT
  obtain ⟨a2,Og,rfl,h2,e2⟩:=db.fT;obtain ⟨hz,hp⟩:=hr;refine .inr (.inl ⟨_,_,_,_,rfl,rfl,s _ _ h1,s _ _ h2,by rw [e1.length,e2.length];exact hz,λp hn=>?_⟩)
  exact q _ hp _ _ _ (.new s hn) (.lst ak ((e1.append e2).mono (aH (s.free hn) _)))
 ·obtain ⟨a1,IE,rfl,h1,e1⟩:=da.iQ
  obtain ⟨a2,Og,rfl,h2,e2⟩:=db.iQ;obtain ⟨h0,hz,Kq,hp⟩:=hr;refine .inr (.inr ⟨_,_,_,_,rfl,rfl,cg.of (s _ _ h1),cg.of (s _ _ h2),?_,by rw [e1.length,e2.length];exact hz,?_⟩)
  ·rintro rfl;cases e1;exact h0 rfl
  ·refine ⟨?_,λ_ p hn=>q _ hp _ _ _ (.new s hn) (.tup ak ((e1.append e2).mono (aH (s.free hn) _)))⟩
   rintro rfl;cases e2;exact (Kq rfl).elim
 ·exact hr.elim
theorem ag.rep{G:Hp}{vs:List V}{ds:List D}(h:ag Z G vs ds):∀k:Nat,ag Z G (List.replicate k vs).flatten (List.replicate k ds).flatten
 |0=> .nil
 |k+1=>by rw [mF,mF,n9,n9];exact h.append (ag.rep h k)
theorem pJ:OpR X (binaryOp .Mult) (aT Z w9):=by
 refine (Aq.or As).imp ?_;rintro x y H Q ⟨G,a,b,P,s,da,db,hr,q⟩;unfold w9 at hr
 split at hr
 ·exact .inl ⟨_,_,da.ofInt,db.ofInt,hr.1,q _ hr.2 _ G H (.refl s) (.int _)⟩
 ·obtain ⟨a1,IE,rfl,h1,e1⟩:=da.fT
  obtain ⟨h0,h9,hz,hp⟩:=hr;refine .inr ⟨_,_,_,rfl,db.ofInt,s _ _ h1,h0,h9,by rw [e1.length];exact hz,λp hn=>?_⟩
  exact q _ hp _ _ _ (.new s hn) (.lst ak ((e1.rep _).mono (aH (s.free hn) _)))
 ·exact hr.elim
mutual
def D.py:D→Option PyData
 | .aC=>some .none
 | .bl b=>some (.bool b)
 | .int i=>some (.int i)
 | .str x=>some (.str x)
 | .lst l=>(fW l).map PyData.list
 | .tup l=>(fW l).map PyData.tuple
 | .fY _=>none
 | .rng _ _=>none
 | .obj _=>none
 | .fG _=>none
 | .set _ _=>none
 | .x _=>none
 | .err _ _ _=>none
def fW:List D→Option (List PyData)
 | []=>some []
 |d::ds=>(D.py d).bind λa=>(fW ds).map λas=>a::as
end
mutual
theorem Dv.dp{K:PySem.W.Frag}{G:Hp}:∀{v:V}{d:D}{e:PyData},Dv Z G v d→d.py=some e→Dp K G v e
 |_,_,_, .aC,h=>by simp [D.py] at h;subst h;exact .aC
 |_,_,_, .bl b,h=>by simp [D.py] at h;subst h;exact .bl b
 |_,_,_, .int i,h=>by simp [D.py] at h;subst h;exact .int i
 |_,_,_, .str x k,h=>by simp [D.py] at h;subst h;exact .str x k
 |_,_,_, .lst a as,h=>by
  simp [D.py] at h;obtain ⟨l,h1,rfl⟩:=h;exact .lst (bq.of a) (ag.dp as h1)
 |_,_,_, .tup a as,h=>by
  simp [D.py] at h;obtain ⟨l,h1,rfl⟩:=h;exact .tup (cg.of a) (ag.dp as h1)
 |_,_,_, .fY _ _,h=>by simp [D.py] at h
 |_,_,_, .rng _,h=>by simp [D.py] at h
 |_,_,_, .obj _,h=>by simp [D.py] at h
 |_,_,_, .fG _ _ _ _ _,h=>by simp [D.py] at h
 |_,_,_, .set _,h=>by simp [D.py] at h
 |_,_,_, .x _ _,h=>by simp [D.py] at h
 |_,_,_, .err _ _ _,h=>by simp [D.py] at h
theorem ag.dp{K:PySem.W.Frag}{G:Hp}:∀{vs:List V}{ds:List D}{es:List PyData},ag Z G vs ds→fW ds=some es→bZ K G vs es
 |_,_,_, .nil,h=>by simp [fW] at h;subst h;exact .nil
 |_,_,_, .cons (d:=d) (ds:=ds) a as,h=>by
  rw [fW] at h;cases h1:d.py with
  |none=>rw [h1] at h;cases h
  |some x=>
   rw [h1] at h;cases h2:fW ds with
   |none=>rw [h2] at h;cases h
   |some y=>rw [h2] at h;cases h;exact .cons (Dv.dp a h1) (ag.dp as h2)
end
theorem cg.mono{K:PySem.W.Frag}{H H':Hp}{a:Addr}{xs:List V}(s:az H H')(h:cg K H a xs):cg K H' a xs:=by
 rcases h with (h| ⟨o,h⟩) |h
 ·exact .inl (.inl (s _ _ h))
 ·exact .inl (.inr ⟨o,s _ _ h⟩)
 ·exact .inr h
mutual
theorem Dp.mono{K:PySem.W.Frag}{G H:Hp}(s:az G H):∀{v:V}{d:PyData},Dp K G v d→Dp K H v d
 |_,_, .aC=> .aC
 |_,_, .bl b=> .bl b
 |_,_, .int i=> .int i
 |_,_, .str x h=> .str x h
 |_,_, .lst h a=> .lst (h.mono s) (bZ.mono s a)
 |_,_, .tup h a=> .tup (h.mono s) (bZ.mono s a)
theorem bZ.mono{K:PySem.W.Frag}{G H:Hp}(s:az G H):∀{vs:List V}{ds:List PyData},bZ K G vs ds→bZ K H vs ds
 |_,_, .nil=> .nil
 |_,_, .cons a as=> .cons (Dp.mono s a) (bZ.mono s as)
end
def E4(neg:Bool):cT:=λx y P=>∃a b,x.py=some a∧y.py=some b∧a.depth≤64∧P (.bl (if neg then !PyData.eqv a b else PyData.eqv a b))
abbrev qw:cT:=E4 false
theorem j7(hu:X.A.units+64<cLine):OpR X (compareOp .Eq) (aT Z qw):=by
 refine (An hu).imp ?_;rintro x y H Q ⟨G,a,b,P,s,da,db,⟨c,d,h1,h2,h3,hp⟩,q⟩;exact ⟨c,d,(da.dp h1).mono s,(db.dp h2).mono s,h3,q _ hp _ G H (.refl s) (.bl _)⟩
theorem qz{i j:Int}{P:D→Prop}(h:P (.bl (decide (i=j)))):qw (.int i) (.int j) P:=⟨.int i, .int j,rfl,rfl,by simp [PyData.depth],by
 have:PyData.eqv (.int i) (.int j)=decide (i=j):=by
  rw [PyData.eqv]
  by_cases z:i=j<;>simp [z]
 simpa [this] using h⟩
def qv(p:Int→Int→Bool):cT:=λx y P=>match x,y with
 | .int i, .int j=>P (.bl (p i j))
 |_,_=>False
theorem lW{f:Value→Value→Sem Value}{p:Int→Int→Bool}(h:OpR X f (pU λi j=> .bl (p i j))):OpR X f (aT Z (qv p)):=by
 refine h.imp ?_;rintro x y H Q ⟨G,a,b,P,s,da,db,hr,q⟩;unfold qv at hr
 split at hr
 ·exact ⟨_,_,da.ofInt,db.ofInt,q _ hr _ G H (.refl s) (.bl _)⟩
 ·exact hr.elim
end
end L2
namespace L2
open PySem PySem.Spec PyProof.Rows
section
variable {Z:DC} {X:Cx}
abbrev E7:cT:=qv λi j=>decide (i<j)
abbrev J2:cT:=qv λi j=>decide (i≤j)
abbrev Cr:cT:=qv λi j=>decide (j<i)
theorem tN:OpR X (compareOp .Lt) (aT Z E7):=lW Dr
theorem tM:OpR X (compareOp .LtE) (aT Z J2):=lW Dq
theorem pI:OpR X (compareOp .Gt) (aT Z Cr):=lW Dm
def pj:D→Bool
 | .aC=>true
 |_=>false
def w4(neg:Bool):cT:=λx y P=>match y with
 | .aC=>P (.bl (if neg then !pj x else pj x))
 |_=>False
theorem nO{G:Hp}{v:V}{d:D}(h:Dv Z G v d):decide (v= .aC)=pj d:=by cases h<;>rfl
theorem j8:OpR X (compareOp .Is) (aT Z (w4 false)):=by
 refine Ao.imp ?_;rintro x y H Q ⟨G,a,b,P,s,da,db,hr,q⟩;cases db<;>first|exact hr.elim|skip
 exact ⟨rfl,by rw [nO da];exact q _ hr _ G H (.refl s) (.bl _)⟩
theorem vT:OpR X (compareOp .IsNot) (aT Z (w4 true)):=by
 refine yx.imp ?_;rintro x y H Q ⟨G,a,b,P,s,da,db,hr,q⟩;cases db<;>first|exact hr.elim|skip
 exact ⟨rfl,by rw [nO da];exact q _ hr _ G H (.refl s) (.bl _)⟩
def eE:D→Bool
 | .aC=>true
 | .bl _=>true
 | .int _=>true
 | .str _=>true
 |_=>false
def jf:D→D→Bool
 | .aC, .aC=>true
 | .bl a, .bl b=>a==b
 | .bl a, .int b=>(if a then 1 else 0)==b
 | .int a, .bl b=>a==(if b then 1 else 0)
 | .int a, .int b=>a==b
 | .str a, .str b=>a==b
 |_,_=>false
def inD(x:D)(l:List D):Bool:=l.any λy=>jf y x
theorem lL{G:Hp}{v:V}{d:D}(h:Dv Z G v d):fm v=eE d:=by cases h<;>rfl
theorem gG{G:Hp}:∀{vs:List V}{ds:List D},ag Z G vs ds→vs.all fm=ds.all eE
 |_,_, .nil=>rfl
 |_,_, .cons a as=>by rw [List.all_cons,List.all_cons,lL a,gG as]
theorem zL{G:Hp}{v u:V}{d e:D}(h:Dv Z G v d)(k:Dv Z G u e):oP v u=jf d e:=by cases h<;>cases k<;>rfl
theorem tF{G:Hp}{v:V}{d:D}(h:Dv Z G v d):∀{vs:List V}{ds:List D},ag Z G vs ds→zX v vs=inD d ds
 |_,_, .nil=>rfl
 |_,_, .cons a as=>by
  unfold zX inD;rw [List.any_cons,List.any_cons,zL a h];exact congrArg _ (tF h as)
def zz(neg:Bool):cT:=λx y P=>match y with
 | .lst l=>eE x=true∧l.all eE=true∧P (.bl (if neg then !inD x l else inD x l))
 | .tup l=>eE x=true∧l.all eE=true∧P (.bl (if neg then !inD x l else inD x l))
 |_=>False
theorem yN{neg:Bool}:∀x y H Q,aT Z (zz neg) x y H Q→DK X.K neg x y H Q:=by
 rintro x y H Q ⟨G,a,b,P,s,da,db,hr,q⟩;cases db<;>first|exact hr.elim|skip
 ·rename_i p xs ds h e
  obtain ⟨h1,h2,hp⟩:=hr;refine ⟨p,xs,rfl, .inl (bq.of (s _ _ h)),by rw [lL da];exact h1,by rw [gG e];exact h2,?_⟩
  rw [tF da e];exact q _ hp _ G H (.refl s) (.bl _)
 ·rename_i p xs ds h e
  obtain ⟨h1,h2,hp⟩:=hr;refine ⟨p,xs,rfl, .inr (cg.of (s _ _ h)),by rw [lL da];exact h1,by rw [gG e];exact h2,?_⟩
  rw [tF da e];exact q _ hp _ G H (.refl s) (.bl _)
theorem tL:OpR X (compareOp .In) (aT Z (zz false)):=tP.imp yN
theorem nV:OpR X (compareOp .NotIn) (aT Z (zz true)):=m8.imp yN
def ve:cT:=λx y P=>match x,y with
 | .lst l, .int i=>∃d,ek l i=some d∧P d
 | .tup l, .int i=>∃d,ek l i=some d∧P d
 | .fY l, .int i=>∃n,ek l i=some n∧P (.int n)
 |_,_=>False
theorem ui{G:Hp}{vs:List V}{ds:List D}{i:Int}{d:D}(h:ag Z G vs ds)(e:ek ds i=some d):∃v,ek vs i=some v∧Dv Z G v d:=by
 unfold ek at e ⊢;rw [h.length];cases z:jq ds.length i with
 |none=>rw [z] at e;cases e
 |some j=>rw [z] at e;exact h.get e
theorem wL{α β:Type}(f:α→β)(l:List α)(i:Int):ek (l.map f) i=(ek l i).map f:=by
 unfold ek;rw [cQ];cases jq l.length i with
 |none=>rfl
 |some j=>show (l.map f)[j]? =_;rw [cP];rfl
variable {a b c e:Expr} {ta tb tc te:aK} {pos:Pos}
theorem cJ(ha:DE Z X a ta)(hb:DE Z X b tb)(eK:X.K=Z.K:=by rfl)(hs:lh b:=by exact λ_ _=>rfl):DE Z X (.Subscript a b pos) (di ve ta tb):=by
 refine (yB (rf.or zY) ha hb hs).imp λσ H Q h=>?_;obtain ⟨G,ρ,P,s,e,h,q⟩:=pD σ H Q h;refine ⟨G,ρ,P,s,e,h,λd hd v G1 H1 x1 dv=>?_⟩;obtain ⟨G',aw,P',s',e',h',q'⟩:=q d hd v G1 H1 x1 dv;refine ⟨G',aw,P',s',e',h',λd2 hd2 v2 G2 H2 x2 oN=>?_⟩;obtain ⟨G,a,b,P,s,da,db,hr,q⟩:=q' d2 hd2 v2 G2 H2 x2 oN;unfold ve at hr
 split at hr
 ·obtain ⟨d,h1,hp⟩:=hr
  obtain ⟨_,_,rfl,h,e⟩:=da.fT;obtain ⟨v,hv,dv⟩:=ui e h1;exact .inl ⟨_,_,_,v,rfl,db.ofInt,bq.of (s _ _ h),hv,q _ hp _ G _ (.refl s) dv⟩
 ·obtain ⟨d,h1,hp⟩:=hr
  obtain ⟨_,_,rfl,h,e⟩:=da.iQ;obtain ⟨v,hv,dv⟩:=ui e h1;exact .inr ⟨_,_,_,v,rfl,db.ofInt,cg.of (s _ _ h),hv,q _ hp _ G _ (.refl s) dv⟩
 rotate_left
 ·exact hr.elim
 ·obtain ⟨d,h1,hp⟩:=hr
  obtain ⟨_,rfl,h,_⟩:=da.yq;refine .inl ⟨_,_,_, .int d,rfl,db.ofInt,by rw [eK];exact h.mono s,by rw [wL,h1];rfl,q _ hp _ G _ (.refl s) (.int d)⟩
def cutD{α:Type}(xs:List α)(lo hi:Option Int):List α:=(xs.drop (HT.aS xs.length 0 lo)).take (HT.aS xs.length xs.length hi-HT.aS xs.length 0 lo)
theorem um{G:Hp}{vs:List V}{ds:List D}(h:ag Z G vs ds)(lo hi:Option Int):ag Z G (ku vs lo hi) (cutD ds lo hi):=by
 unfold ku cutD;rw [h.length];exact (h.drop _).take _
theorem vd{α β:Type}(f:α→β)(l:List α)(lo hi:Option Int):cutD (l.map f) lo hi=(cutD l lo hi).map f:=by
 unfold cutD;rw [cQ,List.map_take,List.map_drop]
abbrev sq:=DN→(Option Int→Prop)→Prop
def qA:sq:=λ_ P=>P none
def xg(t:aK):sq:=λρ P=>t ρ λd=>match d with
 | .int i=>P (some i)
 |_=>False
def Df(Z:DC)(t:sq):TO:=λσ H Q=>∃(G:Hp)(ρ:DN)(P:Option Int→Prop),az G H∧bF Z G σ ρ∧t ρ P∧∀o,P o→∀G' H',Ext G H G' H'→Q o H'
def DO(Z:DC)(X:Cx)(e:Option Expr)(t:sq):Prop:=PO X e (Df Z t)
theorem PO.imp{e:Option Expr}{t t':TO}(h:PO X e t)(f:∀σ H Q,t' σ H Q→t σ H Q):PO X e t':=λpins s σ H Q I q=>h pins s σ H Q I (f _ _ _ q)
theorem ja:DO Z X none qA:=yF.imp λσ H Q ⟨G,ρ,P,s,e,p,q⟩=>q _ p G H (.refl s)
theorem jb(h:DE Z X e te):DO Z X (some e) (xg te):=by
 refine (yG h).imp ?_;rintro σ H Q ⟨G,ρ,P,s,e,h,q⟩;refine ⟨G,ρ,_,s,e,h,λd hd v G1 H1 x1 dv=>?_⟩;cases dv<;>first|exact hd.elim|skip
 exact ⟨_,rfl,q _ hd G1 H1 x1⟩
def Fd(te:aK)(tl th:sq):aK:=λρ P=>te ρ λx=>tl ρ λlo=>th ρ λhi=>match x with
 | .lst l=>P (.lst (cutD l lo hi))
 | .tup l=>¬(HT.aS l.length 0 lo=0∧HT.aS l.length l.length hi=l.length)∧P (.tup (cutD l lo hi))
 | .fY l=>P (.lst ((cutD l lo hi).map D.int))
 |_=>False
variable {lo hi:Option Expr} {tl th:sq} {p2:Pos}
theorem gY(he:DE Z X e te)(hl:DO Z X lo tl)(hu:DO Z X hi th)(eK:X.K=Z.K:=by rfl):DE Z X (.Subscript e (.Slice lo hi none p2) pos) (Fd te tl th):=by
 refine (vZ (yV.or AS) he hl hu).imp ?_;rintro σ H Q ⟨G,ρ,P,s,en,h,q⟩;refine ⟨G,ρ,_,s,en,h,λd hd v G1 H1 x1 dv=>?_⟩;refine ⟨G1,ρ,_,x1.sub,en.mono x1.gg,hd,λl hl G2 H2 x2=>?_⟩;refine ⟨G2,ρ,_,x2.sub,(en.mono x1.gg).mono x2.gg,hl,λu hu G3 H3 x3=>?_⟩;have x:=(x1.trans x2).trans x3;have dv:=(dv.mono x2.gg).mono x3.gg;cases dv<;>first|exact hu.elim|skip
 ·rename_i h e
  exact .inl ⟨_,_,rfl,bq.of (x3.sub _ _ h),λp hn=>q _ hu _ _ _ (x.trans (.new x3.sub hn)) (.lst ak ((um e l u).mono (aH (x3.sub.free hn) _)))⟩
 ·rename_i h e
  refine .inr ⟨_,_,rfl,cg.of (x3.sub _ _ h),by rw [e.length];exact hu.1,λp hn=>q _ hu.2 _ _ _ (x.trans (.new x3.sub hn)) (.tup ak ((um e l u).mono (aH (x3.sub.free hn) _)))⟩
 ·rename_i h _
  refine .inl ⟨_,_,rfl,by rw [eK];exact h.mono x3.sub,λp hn=>q _ hu _ _ _ (x.trans (.new x3.sub hn)) (.lst ak ?_)⟩
  show ag Z _ (cutD _ l u) _;rw [vd];exact .ints _
def gb:bX:=λds P=>match ds with
 | [.lst l]=>P (.int l.length)
 | [.tup l]=>P (.int l.length)
 | [.fY l]=>P (.int l.length)
 |_=>False
theorem cI(eK:X.K=Z.K:=by rfl):CallR X (.builtin "len") (fQ Z gb):=by
 refine mP.imp ?_;rintro xs H Q ⟨G,ds,P,s,dv,hr,q⟩;unfold gb at hr
 split at hr
 ·obtain ⟨_,rfl,a⟩:=dv.ofOne
  obtain ⟨_,_,rfl,h,e⟩:=a.fT;exact ⟨_,_,rfl, .inl (bq.of (s _ _ h)),by rw [e.length];exact q _ hr _ G H (.refl s) (.int _)⟩
 ·obtain ⟨_,rfl,a⟩:=dv.ofOne
  obtain ⟨_,_,rfl,h,e⟩:=a.iQ;exact ⟨_,_,rfl, .inr (cg.of (s _ _ h)),by rw [e.length];exact q _ hr _ G H (.refl s) (.int _)⟩
 ·obtain ⟨_,rfl,a⟩:=dv.ofOne
  obtain ⟨_,rfl,h,_⟩:=a.yq;exact ⟨_,_,rfl, .inl (by rw [eK];exact h.mono s),by rw [cQ];exact q _ hr _ G H (.refl s) (.int _)⟩
 ·exact hr.elim
def wO:bX:=λds P=>match ds with
 | [.lst l]=>P (.lst l)
 | [.tup l]=>P (.lst l)
 |_=>False
theorem lE:CallR X (.type "list") (fQ Z wO):=by
 refine mQ.imp ?_;rintro xs H Q ⟨G,ds,P,s,dv,hr,q⟩;unfold wO at hr
 split at hr
 ·obtain ⟨_,rfl,a⟩:=dv.ofOne
  obtain ⟨_,_,rfl,h,e⟩:=a.fT;exact ⟨_,_,rfl, .inl (bq.of (s _ _ h)),λp hn=>q _ hr _ _ _ (.new s hn) (.lst ak (e.mono (aH (s.free hn) _)))⟩
 ·obtain ⟨_,rfl,a⟩:=dv.ofOne
  obtain ⟨_,_,rfl,h,e⟩:=a.iQ;exact ⟨_,_,rfl, .inr (cg.of (s _ _ h)),λp hn=>q _ hr _ _ _ (.new s hn) (.lst ak (e.mono (aH (s.free hn) _)))⟩
 ·exact hr.elim
def uj:bX:=λds P=>match ds with
 | [.lst l]=>P (.tup l)
 | [.tup l]=>P (.tup l)
 |_=>False
theorem vb:CallR X (.type "tuple") (fQ Z uj):=by
 refine lD.imp ?_;rintro xs H Q ⟨G,ds,P,s,dv,hr,q⟩;unfold uj at hr
 split at hr
 ·obtain ⟨_,rfl,a⟩:=dv.ofOne
  obtain ⟨_,_,rfl,h,e⟩:=a.fT;exact ⟨_,_,rfl, .inl ⟨bq.of (s _ _ h),λp hn=>q _ hr _ _ _ (.new s hn) (.tup ak (e.mono (aH (s.free hn) _)))⟩⟩
 ·obtain ⟨_,rfl,a⟩:=dv.ofOne
  obtain ⟨_,_,rfl,h,e⟩:=a.iQ;exact ⟨_,_,rfl, .inr ⟨cg.of (s _ _ h),q _ hr _ _ _ (.refl s) (.tup h e)⟩⟩
 ·exact hr.elim
def wN:bX:=λds P=>match ds with
 | [.int i]=>P (.int i)
 | [.bl b]=>P (.int (if b then 1 else 0))
 |_=>False
theorem zw:CallR X (.type "int") (fQ Z wN):=by
 refine sD.imp ?_;rintro xs H Q ⟨G,ds,P,s,dv,hr,q⟩;unfold wN at hr
 split at hr
 ·obtain ⟨_,rfl,a⟩:=dv.ofOne
  exact .inl ⟨_,by rw [a.ofInt],q _ hr _ G H (.refl s) (.int _)⟩
 ·obtain ⟨_,rfl,a⟩:=dv.ofOne
  exact .inr ⟨_,by rw [a.Hn],q _ hr _ G H (.refl s) (.int _)⟩
 ·exact hr.elim
def Gi:String→D→Bool
 |"int", .int _=>true
 |"int", .bl _=>true
 |"bool", .bl _=>true
 |"list", .lst _=>true
 |"tuple", .tup _=>true
 |_,_=>false
def Dl(n:String):Bool:=n=="int"||n=="bool"||n=="list"||n=="tuple"
def BM:D→Bool
 | .aC=>true
 | .bl _=>true
 | .int _=>true
 | .str _=>true
 | .lst _=>true
 | .tup _=>true
 |_=>false
def E6(n:String)(t:aK):aK:=λρ P=>t ρ λd=>BM d=true∧P (.bl (Gi n d))
theorem z7{K:PySem.W.Frag}{H:Hp}{v:V}{d:D}{n:String}(hn:Dl n=true)(hd:BM d=true)(h:Dv Z H v d):∃t,eZ K H v t∧PySem.W.kitOne K t (.type n)=some (Gi n d):=by
 unfold Dl at hn;rw [Bool.or_eq_true,Bool.or_eq_true,Bool.or_eq_true,beq_iff_eq,beq_iff_eq,beq_iff_eq,beq_iff_eq] at hn;cases h with
 |aC=>refine ⟨_, .aC,?_⟩;rcases hn with ((rfl|rfl) |rfl) |rfl<;>kernel_rfl
 |bl b=>refine ⟨_, .bl b,?_⟩;rcases hn with ((rfl|rfl) |rfl) |rfl<;>kernel_rfl
 |int b=>refine ⟨_, .int b,?_⟩;rcases hn with ((rfl|rfl) |rfl) |rfl<;>kernel_rfl
 |str b=>refine ⟨_, .str b,?_⟩;rcases hn with ((rfl|rfl) |rfl) |rfl<;>kernel_rfl
 |lst h a=>refine ⟨_, .lst h,?_⟩;rcases hn with ((rfl|rfl) |rfl) |rfl<;>kernel_rfl
 |tup h a=>refine ⟨_, .tup h,?_⟩;rcases hn with ((rfl|rfl) |rfl) |rfl<;>kernel_rfl
 |_=>cases hd
end
section
variable {Z:DC} {X:Cx} {a b c e:Expr} {ta tb tc te:aK} {pos:Pos}
theorem uv(n:String){x:Str}{p p':Pos}(ha:DE Z X a ta)(hg:Gl X "isinstance")(hm:X.mg "isinstance"=none)(KR:Gl X x)(xX:X.mg x=none)(hv:bootBuiltins x=some (.type n))(ok:Dl n=true:=by decide)
  (hn:x≠"__name__":=by decide) (hd:(x==("__debug__":Str))=false:=by decide) (hs:starEach [a, .Name x p'] X.env=(false,eval a X.env)::starEach [.Name x p'] X.env:=by rfl)
  (b3:(backTo pos (starEach [.Name x p'] X.env)).any (·.1)=false:=by rfl) (iL:starEach [.Name x p'] X.env=(false,eval (.Name x p') X.env)::starEach [] X.env:=by rfl):
  DE Z X (.Call (.Name "isinstance" p) [a, .Name x p'] [] pos) (E6 n ta):=by
 have hb:PE X (.Name x p') (tC (.ty n)):=rG KR xX hv rfl hn hd;refine (kd oy hg hm (by decide+kernel) (bL ha (bL hb fe iL) hs) (by decide) (by decide) hs b3).imp ?_
 rintro σ H Q ⟨G,ρ,P,s,e,h,q⟩;refine ⟨G,ρ,_,s,e,h,?_⟩;rintro d ⟨hk,hp⟩ v G1 H1 x1 dv;obtain ⟨t,ht,qU⟩:=z7 (K:=X.K) (H:=H1) ok hk (dv.mono x1.sub);exact ⟨v,n,t,_,rfl,ht,qU,q _ hp _ G1 H1 x1 (.bl _)⟩
def lY(Z:DC)(g:cf):TG:=λv σ H Q=>∃(G:Hp)(ρ:DN)(d:D)(P:DN→Prop),az G H∧bF Z G σ ρ∧Dv Z G v d∧g d ρ P∧∀aw,P aw→∀aq,bF Z G aq aw→Q aq H
def DG(Z:DC)(X:Cx)(e:Expr)(g:cf):Prop:=PG X e (lY Z g)
theorem PG.imp{e:Expr}{t t':TG}(h:PG X e t)(f:∀v σ H Q,t' v σ H Q→t v σ H Q):PG X e t':=λpins s σ H v u Q I r q=>h pins s σ H v u Q I r (f _ _ _ _ q)
def gZ(i:Nat):cf:=λd ρ P=>P (ρ.set i (some d))
theorem cj(i:Nat){x:Str}(hN:X.N.Nodup)(hi:X.N[i]? =some x:=by rfl)(hx:Loc X.env.scope x:=by exact Or.inl rfl)(hf:X.fn x=true∨X.env.scope.names.lookup x=some .local:=by first|exact .inl rfl|exact .inr rfl|assumption):DG Z X (.Name x pos) (gZ i):=
 (rJ hN hi hx hf).imp λv σ H Q ⟨G,ρ,d,P,s,e,dv,h,q⟩=>q _ h _ (e.set dv)
abbrev f7:=List D→DN→(DN→Prop)→Prop
def z9(Z:DC)(g:f7):mN:=λvs σ H Q=>∃(G:Hp)(ρ:DN)(ds:List D)(P:DN→Prop),az G H∧bF Z G σ ρ∧ag Z G vs ds∧g ds ρ P∧∀aw,P aw→∀aq,bF Z G aq aw→Q aq H
def zo(Z:DC)(X:Cx)(es:List Expr)(g:f7):Prop:=om X es (z9 Z g)
theorem om.imp{es:List Expr}{t t':mN}(h:om X es t)(f:∀v σ H Q,t' v σ H Q→t v σ H Q):om X es t':=λpins s σ H v u Q I r q=>h pins s σ H v u Q I r (f _ _ _ _ q)
def xk:f7:=λds ρ P=>ds= []∧P ρ
def ux(g:cf)(gs:f7):f7:=λds ρ P=>match ds with
 |d::r=>g d ρ λaw=>gs r aw P
 | []=>False
theorem xp:zo Z X [] xk:=rK.imp λv σ H Q ⟨G,ρ,ds,P,s,e,dv,⟨h,p⟩,q⟩=>by
 subst h;cases dv;exact ⟨rfl,q _ p _ e⟩
theorem nz{es:List Expr}{g:cf}{gs:f7}(h1:DG Z X e g)(h2:zo Z X es gs)(hs:(assignEach (e::es) X.env).map (·.2)=assign e X.env::(assignEach es X.env).map (·.2):=by rfl):zo Z X (e::es) (ux g gs):=by
 refine (nX h1 h2 hs).imp ?_;rintro v σ H Q ⟨G,ρ,ds,P,s,e,dv,h,q⟩;cases dv with
 |nil=>exact h.elim
 |cons a as=>
  refine ⟨_,_,rfl,G,ρ,_,_,s,e,a,h,λaw hp aq e'=>?_⟩;exact ⟨G,aw,_,P,s,e',as,hp,q⟩
def xl(n:Nat)(gs:f7):cf:=λd ρ P=>match d with
 | .tup l=>l.length=n∧gs l ρ P
 |_=>False
theorem zD(n:Nat){es:List Expr}{k:Nat}{gs:f7}(hc:X.calm=true)(h:zo Z X es gs)(hn:(assignEach es X.env).length=n:=by rfl)(jm:(assignEach es X.env).findIdx? (·.1)=none:=by rfl):DG Z X (.Tuple es k pos) (xl n gs):=by
 refine (uQ hc h hn jm).imp ?_;rintro v σ H Q ⟨G,ρ,d,P,s,e,dv,h,q⟩;cases dv<;>first|exact h.elim|skip
 rename_i a xs ds ha es
 exact ⟨a,xs,rfl,cg.of (s _ _ ha),by rw [es.length];exact h.1,G,ρ,_,P,s,e,es,h.2,q⟩
def lb(Z:DC)(G:Hp)(J:It)(ds:List D):Prop:=∀G2 H2,az G G2→az G2 H2→∀i:Nat,(i<ds.length→J.go i H2)∧(ds.length≤i→J.stop i H2)∧
 ∀x H',i<ds.length→J.yld i H2 x H'→∃G3 d,Ext G2 H2 G3 H'∧ds[i]? =some d∧Dv Z G3 x d
def pE(Z:DC)(wi:fK):TI:=λσ H R=>∃(G:Hp)(ρ:DN)(P:List D→Prop),az G H∧bF Z G σ ρ∧wi ρ P∧∀ds,P ds→∀J G' H',Ext G H G' H'→lb Z G' J ds→R J H'
def DI(Z:DC)(X:Cx)(tg e:Expr)(wi:fK):Prop:=PI X tg e (pE Z wi)
theorem PI.imp{tg e:Expr}{t t':TI}(h:PI X tg e t)(f:∀σ H Q,t' σ H Q→t σ H Q):PI X tg e t':=λpins s σ H Q I q=>h pins s σ H Q I (f _ _ _ q)
def CD(t:aK):fK:=λρ P=>t ρ λd=>match d with
 | .lst l=>P l
 |_=>False
theorem ye{K:PySem.W.Frag}{G:Hp}{a:Addr}{xs:List V}{ds:List D}(h:G a=some (.lst xs))(e:ag Z G xs ds):lb Z G (B0 K a) ds:=by
 intro G2 H2 s1 s2 i;have h2:=bq.of (K:=K) (s2 _ _ (s1 _ _ h));have l:=e.length;refine ⟨λhi=>⟨xs,xs[i],h2,iU (by omega)⟩,λhi=>⟨xs,h2,by omega⟩,?_⟩
 rintro x H' hi ⟨rfl,hx⟩;obtain ⟨d,hd,dv⟩:=e.xH (hx _ h2);exact ⟨G2,d, .refl s2,hd,dv.mono s1⟩
theorem ck{tg:Expr}(h:DE Z X e te):DI Z X tg e (CD te):=by
 refine (yE h).imp ?_;rintro σ H Q ⟨G,ρ,P,s,en,h,q⟩;refine ⟨G,ρ,_,s,en,h,λd hd v G1 H1 x1 dv=>?_⟩;cases dv<;>first|exact hd.elim|skip
 rename_i ha e
 exact ⟨_,rfl,⟨_,bq.of (x1.sub _ _ ha)⟩,q _ hd _ G1 H1 x1 (ye ha e)⟩
def ba(lo:Int)(n:Nat):List D:=(List.range n).map λ(k:Nat)=>D.int (lo+(k:Int))
theorem kE{lo:Int}{n i:Nat}(h:i<n):(ba lo n)[i]? =some (.int (lo+i)):=by
 unfold ba;rw [cP,List.getElem?_range h];rfl
theorem j2{G:Hp}(lo:Int)(n:Nat):lb Z G (wG lo n) (ba lo n):=by
 intro G2 H2 s1 s2 i;have l:(ba lo n).length=n:=by unfold ba;simp
 rw [l];refine ⟨λhi=>hi,λhi=>hi,?_⟩;rintro x H' hi ⟨rfl,rfl⟩;exact ⟨G2,_, .refl s2,kE hi, .int _⟩
def Bz(t:eh):fK:=λρ P=>t ρ λds=>match ds with
 | [.int j]=>(-(2^62)≤j∧j<2^62)∧P (ba 0 j.toNat)
 |_=>False
def Fw(t:eh):fK:=λρ P=>t ρ λds=>match ds with
 | [.int i, .int j]=>(-(2^62)≤i∧i<2^62∧-(2^62)≤j∧j<2^62)∧P (ba i (j-i).toNat)
 |_=>False
variable {t:eh}
theorem lI{tg:Expr}{p:Pos}(hg:Gl X "range")(hm:X.mg "range"=none)(ha:DA Z X [a] t)(hs:starEach [a] X.env= [(false,eval a X.env)]:=by rfl):DI Z X tg (.Call (.Name "range" p) [a] [] pos) (Bz t):=by
 refine (mv hg hm ha hs).imp ?_;rintro σ H Q ⟨G,ρ,P,s,en,h,q⟩;refine ⟨G,ρ,_,s,en,h,λds hd vs G1 H1 x1 dv=>?_⟩
 split at hd
 ·obtain ⟨_,rfl,a⟩:=dv.ofOne
  exact ⟨_,by rw [a.ofInt],hd.1.1,hd.1.2,q _ hd.2 _ G1 H1 x1 (j2 0 _)⟩
 ·exact hd.elim
def cX(l:List D):List D:=l.mapIdx λi x=> .tup [.int (i:Int),x]
def zF(t:eh):fK:=λρ P=>t ρ λds=>match ds with
 | [.lst l]=>P (cX l)
 |_=>False
theorem yd{K:PySem.W.Frag}{G:Hp}{a:Addr}{xs:List V}{ds:List D}(h:G a=some (.lst xs))(e:ag Z G xs ds):lb Z G (BZ K a) (cX ds):=by
 intro G2 H2 s1 s2 i;have h2:=bq.of (K:=K) (s2 _ _ (s1 _ _ h));have l:=e.length;rw [show (cX ds).length=ds.length by unfold cX;simp]
 refine ⟨λhi=>⟨xs,xs[i],h2,iU (by omega)⟩,λhi=>⟨xs,h2,by omega⟩,?_⟩
 rintro x H' hi ⟨t,y,rfl,ht,rfl,hx⟩;obtain ⟨d,hd,dv⟩:=e.xH (hx _ h2);refine ⟨_,_, .new s2 ht,by unfold cX;rw [List.getElem?_mapIdx,hd];rfl,?_⟩
 exact .tup ak (.cons (.int _) (.cons ((dv.mono s1).mono (aH (s2.free ht) _)) .nil))
theorem eD{p:Pos}{es:List Expr}{k1}{tp:Pos}(hg:Gl X "enumerate")(hm:X.mg "enumerate"=none)(ha:DA Z X [a] t)(hs:starEach [a] X.env= [(false,eval a X.env)]:=by rfl):DI Z X (.Tuple es k1 tp) (.Call (.Name "enumerate" p) [a] [] pos) (zF t):=by
 refine (yD hg hm ha hs).imp ?_;rintro σ H Q ⟨G,ρ,P,s,en,h,q⟩;refine ⟨G,ρ,_,s,en,h,λds hd vs G1 H1 x1 dv=>?_⟩
 split at hd
 ·obtain ⟨_,rfl,a⟩:=dv.ofOne
  obtain ⟨_,_,rfl,h,e⟩:=a.fT;exact ⟨_,rfl,⟨_,x1.sub _ _ h⟩,q _ hd _ G1 H1 x1 (yd h e)⟩
 ·exact hd.elim
def nZ(src:List (Option Nat))(ρ:DN):DN:=src.map λo=>o.bind λi=>(ρ[i]?).bind id
theorem bF.src{G:Hp}{σ:St}{ρ:DN}(e:bF Z G σ ρ)(src:List (Option Nat)):bF Z G (ix src σ) (nZ src ρ):=by
 refine ⟨by unfold ix nZ;simp,λi d h=>?_⟩
 unfold nZ at h;unfold ix;rw [cP] at h ⊢;cases k:src[i]? with
 |none=>rw [k] at h;cases h
 |some o=>
  rw [k] at h;cases o with
  |none=>cases h
  |some j=>
   have h':(ρ[j]?).bind id=some d:=Option.some.inj h;cases m:ρ[j]? with
   |none=>rw [m] at h';cases h'
   |some z=>
    rw [m] at h';have h2:z=some d:=h';subst h2;obtain ⟨v,hv,dv⟩:=e.at_ j d m;exact ⟨v,by show some ((σ[j]?).bind id)=_;rw [hv];rfl,dv⟩
def ic(g:cf)(tt:bY)(te:aK):List D→DN→List D→(DN→List D→Prop)→Prop
 | [],ρ,acc,N=>N ρ acc
 |x::xs,ρ,acc,N=>g x ρ λbD=>tt bD λb=>if b=true then te bD λd=>acc.length<sizeLine∧ic g tt te xs bD (acc++ [d]) N else ic g tt te xs bD acc N
def Cv(wi:fK)(g:cf)(tt:bY)(te:aK)(src:List (Option Nat)):aK:=λρ P=>wi ρ λds=>ic g tt te ds (nZ src ρ) [] λ_ out=>P (.lst out)
def uq:bY:=λ_ P=>P true
def wD(Z:DC)(X:Cx)(ifs:List Expr)(t:bY):Prop:=mL X ifs (liftT Z t)
theorem mL.imp{ifs:List Expr}{t t':TT}(h:mL X ifs t)(f:∀σ H Q,t' σ H Q→t σ H Q):mL X ifs t':=λpins s σ H Q I q=>h pins s σ H Q I (f _ _ _ q)
theorem fw:wD Z X [] uq:=rN.imp λσ H Q ⟨G,ρ,P,s,e,p,q⟩=>q _ p G H (.refl s)
theorem qE{tA:bY}(h:DT Z X c tA):wD Z X [c] tA:=yJ h
def CS(Z:DC)(G1 H1:Hp)(Ad:Addr)(ρ:DN)(acc:List D)(σ:St)(H:Hp):Prop:=
 ∃(G:Hp)(ys:List V),az G1 G∧az G H∧az H1 H∧(∀b,H1 b≠none→G1 b=none→G b=none)∧G Ad=none∧H Ad=some (.lst ys)∧ag Z G ys acc∧bF Z G σ ρ
theorem dn{H H':Hp}(s:az H H'){b:Addr}(h:H b≠none):H' b≠none:=λz=>by
 cases e:H b with
 |none=>exact h e
 |some o=>rw [s b o e] at z;cases z
theorem lJ{α:Type}{l:List α}{i:Nat}{x:α}(h:l[i]? =some x):l.drop i=x::l.drop (i+1):=by
 obtain ⟨hi,e⟩:=f6.mp h;rw [List.drop_eq_getElem_cons hi,e]
theorem nP{G1 H1:Hp}{Ad:Addr}{J:It}{ds:List D}{g:cf}{tt:bY}{te:aK}{N:DN→List D→Prop}(hA:H1 Ad=none)(G0:Hp)(it:lb Z G0 J ds)(i:Nat)(ρ:DN)(acc:List D)(σ:St)(H:Hp)
  (c:CS Z G1 H1 Ad ρ acc σ H) (hG:∀G,az G1 G→az G0 G) (hi:i<ds.length) (h:ic g tt te (ds.drop i) ρ acc N):
  J.go i H∧∀x H3,J.yld i H x H3→lY Z g x σ H3 λgx H4=>liftT Z tt gx H4 λb H5=>
   if b=true then bP Z te gx H5 λv H6=>∃ys,H6 Ad=some (.lst ys)∧ys.length<sizeLine∧(∃aw kh,CS Z G1 H1 Ad aw kh gx (upd H6 Ad (.lst (ys++ [v])))∧ic g tt te (ds.drop (i+1)) aw kh N)
   else ∃aw kh,CS Z G1 H1 Ad aw kh gx H5∧ic g tt te (ds.drop (i+1)) aw kh N:=by
 obtain ⟨G2,ys,s1,s2,s3,off,gA,lM,aM,en⟩:=c;obtain ⟨go,_,yld⟩:=it G2 H (hG _ s1) s2 i;refine ⟨go hi,λx H3 y=>?_⟩;obtain ⟨G3,d,x3,hd,dv⟩:=yld x H3 hi y;rw [lJ hd] at h;refine ⟨G3,ρ,d,_,x3.sub,en.mono x3.gg,dv,h,λbD h1 gx sO=>?_⟩;refine ⟨G3,bD,_,x3.sub,sO,h1,λb hb G5 H5 x5=>?_⟩;have r8:=x3.trans x5;have yt:∀{G BW:Hp},Ext G2 H G BW→G Ad=none:=λx=>x.off Ad (by rw [lM];exact λz=>nomatch z) gA
 have BL:∀{G BW:Hp},Ext G2 H G BW→∀b,H1 b≠none→G1 b=none→G b=none:=λx b h1 h2=>x.off b (dn s3 h1) (off b h1 h2);cases b with
 |false=>
  refine aZ ⟨bD,acc,⟨G5,ys,s1.trans r8.gg,r8.sub,s3.trans r8.hh,BL r8,yt r8,r8.hh _ _ lM,aM.mono r8.gg,sO.mono x5.gg⟩,?_⟩;simpa using hb
 |true=>
  refine bG ⟨G5,bD,_,x5.sub,sO.mono x5.gg,(by simpa using hb),λd' gr v G6 H6 x6 Kg=>?_⟩
  have x:=r8.trans x6;refine ⟨ys,x.hh _ _ lM,by rw [aM.length];exact gr.1,bD,_,⟨G6,ys++ [v],s1.trans x.gg,λb o e=>?_,λb o e=>?_,BL x,yt x,ak,(aM.mono x.gg).snoc Kg,(sO.mono x5.gg).mono x6.gg⟩,gr.2⟩
  ·rw [ar (aE e (yt x))];exact x.sub _ _ e
  ·rw [ar (aE e hA)];exact (s3.trans x.hh) _ _ e
theorem CS.done{G H G1 H1 H2:Hp}{Ad:Addr}{ρ:DN}{acc:List D}{σ:St}(c:CS Z G1 H1 Ad ρ acc σ H2)(x1:Ext G H G1 H1)(hA:H1 Ad=none):∃G',Ext G H G' H2∧Dv Z G' (.ref Ad) (.lst acc):=by
 obtain ⟨G2,ys,s1,s2,s3,off,gA,lM,aM,en⟩:=c;refine ⟨upd G2 Ad (.lst ys),⟨(x1.gg.trans s1).trans (aH gA _),λb o e=>?_,x1.hh.trans s3,λb hb hg=>?_⟩, .lst ak (aM.mono (aH gA _))⟩
 ·by_cases z:b=Ad
  ·subst z;rw [ak] at e;cases e;exact lM
  ·rw [ar z] at e;exact s2 _ _ e
 ·have h1:=dn x1.hh hb
  rw [ar (λz=>h1 (by rw [z];exact hA))]
  exact off b h1 (x1.off b hb hg)
theorem CS.begin{G1 H1:Hp}{Ad:Addr}{ρ:DN}{σ:St}(s:az G1 H1)(hA:H1 Ad=none)(en:bF Z G1 σ ρ):CS Z G1 H1 Ad ρ [] σ (upd H1 Ad (.lst [])):=
 ⟨G1,[], .refl _,λb o e=>by rw [ar (aE e (s.free hA))];exact s _ _ e,aH hA _,λ_ _ h=>h,s.free hA,ak, .nil,en⟩
variable {tg iter elt:Expr} {ifs:List Expr} {scope:Scope} {NC:List Str} {src:List (Option Nat)} {wi:fK} {g:cf} {tt:bY}
theorem uI:∀σ H Q,bP Z (Cv wi g tt te src) σ H Q→y9 (pE Z wi) (lY Z g) (liftT Z tt) (bP Z te) src σ H Q:=by
 rintro σ H Q ⟨G,ρ,P,s,en,h,q⟩;refine ⟨G,ρ,_,s,en,h,λds hd J G1 H1 x1 it Ad hA=>?_⟩;refine ⟨λi m eX H2=>m=ds.length-i∧i≤ds.length∧∃eW acc,CS Z G1 H1 Ad eW acc eX H2∧ic g tt te (ds.drop i) eW acc λ_ out=>P (.lst out),⟨_,rfl,iD _,_,[], .begin x1.sub hA ((en.mono x1.gg).src src),hd⟩,?_⟩;rintro i m eX H2 ⟨rfl,hi,eW,acc,c,hl⟩
 by_cases dU:i<ds.length
 ·obtain ⟨go,turn⟩:=nP hA G1 it i eW acc eX H2 c (λ_ s=>s) dU hl
  exact .inr ⟨go,_,λaq H' n=>⟨ds.length-(i+1),by omega,rfl,dU,n⟩,turn⟩
 ·have e:ds.drop i= []:=u0 (by omega)
  rw [e] at hl;obtain ⟨G',x,dv⟩:=c.done x1 hA;obtain ⟨G2,ys,s1,s2,_⟩:=c;exact .inl ⟨(it G2 H2 s1 s2 i).2.1 (by omega),q _ hl _ G' H2 x dv⟩
theorem lH(hc:X.calm=true)(c:bw X scope)(dM:bN scope X.N src NC)(hi:DI Z X tg iter wi)
  (hg:∀ex s H,DG Z (dA X scope NC ex s H) tg g) (ht:∀ex s H,wD Z (dA X scope NC ex s H) ifs tt) (he:∀ex s H,DE Z (dA X scope NC ex s H) elt te)
  (hs:∀x,foldedSetIterable iter X.env x=pure x:=by intro _;rfl):DE Z X (.ListComp elt [⟨tg,iter,ifs,0⟩] scope pos) (Cv wi g tt te src):=(Dw hc c dM hi hg ht he hs).imp uI
variable {t0 i0 t1 i1:Expr} {f0 f1:List Expr} {ID:fK} {g1:cf} {rW:bY}
end
inductive bC (R:V→D→List Addr→Prop):List V→List D→List Addr→Prop
 |nil:bC R [] [] []
 |cons {v:V} {vs:List V} {d:D} {ds:List D} {f fs:List Addr}:R v d f→bC R vs ds fs→bC R (v::vs) (d::ds) (f++fs)
def Gj:D→Bool
 | .lst _=>true
 |_=>false
def Own(Z:DC)(G H:Hp):Nat→V→D→List Addr→Prop
 |0,v,d,fp=>Dv Z G v d∧fp= []
 |n+1,v,d,fp=>(∃a xs ds cx,v= .ref a∧d= .lst ds∧H a=some (.lst xs)∧fp=a::cx∧bC (Own Z G H n) xs ds cx)∨(1≤n∧∃a xs ds,v= .ref a∧d= .tup ds∧G a=some (.tup xs)∧bC (λv d f=>(Gj d=true∧Own Z G H n v d f)∨(Gj d=false∧Dv Z G v d∧f= [])) xs ds fp)∨(∃a φ,v= .ref a∧H a=some (.ext φ)∧fp= [a]∧((n=98∧∃b ns,d= .set b ns∧φ=Be b a ns)∨(n=97∧∃k,d= .x k∧wK G a φ k)))
theorem Own.lst{Z:DC}{G H:Hp}{n:Nat}{v:V}{ds:List D}{fp:List Addr}(o:Own Z G H (n+1) v (.lst ds) fp):∃a xs dj cx,v= .ref a∧D.lst ds= .lst dj∧H a=some (.lst xs)∧fp=a::cx∧bC (Own Z G H n) xs dj cx:=by
 rcases o with o| ⟨_,a,xs,ds,_,e,_⟩ | ⟨a,φ,_,_,_,⟨_,b,ns,e,_⟩ | ⟨_,k,e,_⟩⟩
 ·exact o
 ·cases e
 ·cases e
 ·cases e
theorem Own.one{Z:DC}{G H:Hp}{v:V}{d:D}{fp:List Addr}(o:Own Z G H 1 v d fp):∃a xs ds cx,v= .ref a∧d= .lst ds∧H a=some (.lst xs)∧fp=a::cx∧bC (Own Z G H 0) xs ds cx:=by
 rcases o with o| ⟨z,_⟩ | ⟨_,_,_,_,_,⟨z,_⟩ | ⟨z,_⟩⟩
 ·exact o
 ·exact absurd z (by decide)
 ·exact absurd z (by decide)
 ·exact absurd z (by decide)
theorem bC.imp{R R':V→D→List Addr→Prop}:∀{vs:List V}{ds:List D}{fp:List Addr},bC R vs ds fp→(∀v d f,(∀b∈f,b∈fp)→R v d f→R' v d f)→bC R' vs ds fp
 |_,_,_, .nil,_=> .nil
 |_,_,_, .cons a as,h=> .cons (h _ _ _ (λb hb=>iB _ hb) a) (as.imp λv d f hf r=>h v d f (λb hb=>dQ _ (hf b hb)) r)
theorem bC.length{R:V→D→List Addr→Prop}:∀{vs:List V}{ds:List D}{fp:List Addr},bC R vs ds fp→vs.length=ds.length
 |_,_,_, .nil=>rfl
 |_,_,_, .cons _ as=>congrArg (·+1) as.length
section
variable {Z:DC} {G G' H H':Hp}
theorem Own.keep:∀{n:Nat}{v:V}{d:D}{fp:List Addr},Own Z G H n v d fp→az G G'→(∀b∈fp,H' b=H b)→Own Z G' H' n v d fp
 |0,_,_,_,⟨a,b⟩,s,_=>⟨a.mono s,b⟩
 |n+1,_,_,_, .inl ⟨a,xs,ds,cx,hv,hd,ha,hf,ho⟩,s,k=>by
  subst hf;exact .inl ⟨a,xs,ds,cx,hv,hd,by rw [k a (fI ..)];exact ha,rfl,ho.imp λv d f hb r=>Own.keep r s λb q=>k b (fu _ (hb b q))⟩
 |n+1,_,_,_, .inr (.inl ⟨h1,a,xs,ds,hv,hd,ha,ho⟩),s,k=> .inr (.inl ⟨h1,a,xs,ds,hv,hd,s _ _ ha,ho.imp λv d f hb r=>r.imp (λr=>⟨r.1,Own.keep r.2 s λb q=>k b (hb b q)⟩) λr=>⟨r.1,r.2.1.mono s,r.2.2⟩⟩)
 |n+1,_,_,_, .inr (.inr ⟨a,φ,hv,ha,hf,hx⟩),s,k=> .inr (.inr ⟨a,φ,hv,by rw [k a (by rw [hf];exact fI ..)];exact ha,hf,hx.imp id λ⟨h1,k,h2,h3⟩=>⟨h1,k,h2,h3.mono s⟩⟩)
theorem bC.qF{R:V→D→List Addr→Prop}:∀{vs:List V}{ds:List D}{fp:List Addr},bC R vs ds fp→(∀v d f,(∀b∈f,b∈fp)→R v d f→Dv Z G' v d)→ag Z G' vs ds
 |_,_,_, .nil,_=> .nil
 |_,_,_, .cons a as,k=> .cons (k _ _ _ (λb hb=>iB _ hb) a) (as.qF λv d f hf r=>k v d f (λb hb=>dQ _ (hf b hb)) r)
theorem Own.dv:∀{n:Nat}{v:V}{d:D}{fp:List Addr},Own Z G H n v d fp→az G G'→(∀b∈fp,∀o,H b=some o→G' b=some o)→Dv Z G' v d
 |0,_,_,_,⟨a,_⟩,s,_=>a.mono s
 |n+1,_,_,_, .inl ⟨a,xs,ds,cx,hv,hd,ha,hf,ho⟩,s,k=>by
  subst hf hv hd;exact .lst (k a (fI ..) _ ha) (ho.qF λv d f hf r=>Own.dv r s λb hb=>k b (fu _ (hf b hb)))
 |n+1,_,_,_, .inr (.inl ⟨_,a,xs,ds,hv,hd,ha,ho⟩),s,k=>by
  subst hv hd;exact .tup (s _ _ ha) (ho.qF λv d f hf r=>r.elim (λr=>Own.dv r.2 s λb hb=>k b (hf b hb)) λr=>r.2.1.mono s)
 |n+1,_,_,_, .inr (.inr ⟨a,φ,hv,ha,hf,hx⟩),s,k=>by
  subst hv hf
  rcases hx with ⟨_,b,ns,hd,hp⟩ | ⟨_,kx,hd,hp⟩
  ·subst hd hp
   exact .set (k a (fI ..) _ ha)
  ·subst hd
   exact .x (k a (fI ..) _ ha) (hp.mono s)
theorem bC.flat:∀{vs:List V}{ds:List D}{fp:List Addr},bC (Own Z G H 0) vs ds fp→ag Z G vs ds∧fp= []
 |_,_,_, .nil=>⟨.nil,rfl⟩
 |_,_,_, .cons a as=>by
  obtain ⟨h1,h2⟩:=as.flat;obtain ⟨a1,a2⟩:=a;exact ⟨.cons a1 h1,by rw [a2,h2];rfl⟩
theorem ag.own:∀{vs:List V}{ds:List D},ag Z G vs ds→bC (Own Z G H 0) vs ds []
 |_,_, .nil=> .nil
 |_,_, .cons a as=> .cons (f:= []) (fs:= []) ⟨a,rfl⟩ as.own
end
mutual
def gw:D→Bool
 | .aC=>true
 | .bl _=>true
 | .int _=>true
 | .str _=>true
 | .tup l=>uK l
 |_=>false
def uK:List D→Bool
 | []=>true
 |d::ds=>gw d&&uK ds
end
mutual
theorem Dv.gw{Z:DC}{G G':Hp}(k:∀b xs,G b=some (.tup xs)→G' b=some (.tup xs)):∀{v:V}{d:D},Dv Z G v d→L2.gw d=true→Dv Z G' v d
 |_,_, .aC,_=> .aC
 |_,_, .bl b,_=> .bl b
 |_,_, .int i,_=> .int i
 |_,_, .str x h,_=> .str x h
 |_,_, .tup h a,f=> .tup (k _ _ h) (ag.gw k a (by rw [L2.gw] at f;exact f))
 |_,_, .lst _ _,f=>by simp [L2.gw] at f
 |_,_, .obj _,f=>by simp [L2.gw] at f
 |_,_, .rng _,f=>by simp [L2.gw] at f
 |_,_, .fY _ _,f=>by simp [L2.gw] at f
 |_,_, .fG _ _ _ _ _,f=>by simp [L2.gw] at f
 |_,_, .set _,f=>by simp [L2.gw] at f
 |_,_, .x _ _,f=>by simp [L2.gw] at f
 |_,_, .err _ _ _,f=>by simp [L2.gw] at f
theorem ag.gw{Z:DC}{G G':Hp}(k:∀b xs,G b=some (.tup xs)→G' b=some (.tup xs)):∀{vs:List V}{ds:List D},ag Z G vs ds→uK ds=true→ag Z G' vs ds
 |_,_, .nil,_=> .nil
 |_,_, .cons a as,f=>by
  rw [uK,mG] at f;exact .cons (Dv.gw k a f.1) (ag.gw k as f.2)
end
def BO:HO→Bool
 | .lst _=>true
 | .ext _=>true
 |_=>false
theorem Own.CF{Z:DC}{G G' H:Hp}:∀{n:Nat}{v:V}{d:D}{fp:List Addr},Own Z G H n v d fp→az G G'→(∀b∈fp,∀o,BO o=true→H b=some o→G' b=some o)→Dv Z G' v d
 |0,_,_,_,⟨a,_⟩,s,_=>a.mono s
 |n+1,_,_,_, .inl ⟨a,xs,ds,cx,hv,hd,ha,hf,ho⟩,s,k=>by
  subst hf hv hd;exact .lst (k a (fI ..) _ rfl ha) (ho.qF λv d f hf r=>Own.CF r s λb hb=>k b (fu _ (hf b hb)))
 |n+1,_,_,_, .inr (.inl ⟨_,a,xs,ds,hv,hd,ha,ho⟩),s,k=>by
  subst hv hd;exact .tup (s _ _ ha) (ho.qF λv d f hf r=>r.elim (λr=>Own.CF r.2 s λb hb=>k b (hf b hb)) λr=>r.2.1.mono s)
 |n+1,_,_,_, .inr (.inr ⟨a,φ,hv,ha,hf,hx⟩),s,k=>by
  subst hv hf
  rcases hx with ⟨_,b,ns,hd,hp⟩ | ⟨_,kx,hd,hp⟩
  ·subst hd hp
   exact .set (k a (fI ..) _ rfl ha)
  ·subst hd
   exact .x (k a (fI ..) _ rfl ha) (hp.mono s)
structure Bs where
 G₀:Hp
 H₀:Hp
 Gf:Hp
structure SIx (Z:DC) (B:Bs) (md:List Nat) (ρ:DN) (σ:St) (H G:Hp) (fp:Nat→List Addr):Prop where
 ex:Ext B.G₀ B.H₀ G H
 fl:az B.Gf G
 len:ρ.length=σ.length
 at_:∀(i:Nat)(d:D),ρ[i]? =some (some d)→∃v,σ[i]? =some (some v)∧Own Z G H (md.getD i 0) v d (fp i)
 nd:∀i,(fp i).Nodup
 ap:∀i j b,i≠j→b∈fp i→b∉fp j
 nw:∀i b,b∈fp i→B.H₀ b=none∧H b≠none∧G b=none
def SI(Z:DC)(B:Bs)(md:List Nat)(ρ:DN)(σ:St)(H:Hp):Prop:=∃G fp,SIx Z B md ρ σ H G fp
def bB:List Nat→DN→DN
 |_,[]=> []
 | [],o::ρ=>o::ρ
 |0::md,o::ρ=>o::bB md ρ
 | (_+1)::md,_::ρ=>none::bB md ρ
theorem iS:∀(md:List Nat)(ρ:DN),(bB md ρ).length=ρ.length
 |md,[]=>by cases md<;>rfl
 | [],o::ρ=>rfl
 |0::md,o::ρ=>by rw [bB,cR,iS md ρ,cR]
 | (_+1)::md,_::ρ=>by rw [bB,cR,iS md ρ,cR]
theorem kf{d:D}:∀(md:List Nat)(ρ:DN)(i:Nat),(bB md ρ)[i]? =some (some d)→md.getD i 0=0∧ρ[i]? =some (some d)
 |md,[],i,h=>by cases md<;>simp [bB] at h
 | [],o::ρ,i,h=>⟨by simp,h⟩
 |0::md,o::ρ,0,h=>⟨rfl,by simpa [bB] using h⟩
 |0::md,o::ρ,i+1,h=>by
  rw [bB,uZ] at h;obtain ⟨a,b⟩:=kf md ρ i h;exact ⟨by rw [List.getD_cons_succ];exact a,by rw [uZ];exact b⟩
 | (_+1)::md,_::ρ,0,h=>by simp [bB] at h
 | (_+1)::md,_::ρ,i+1,h=>by
  rw [bB,uZ] at h;obtain ⟨a,b⟩:=kf md ρ i h;exact ⟨by rw [List.getD_cons_succ];exact a,by rw [uZ];exact b⟩
def ub(md:List Nat):Bool→DN→DN
 |true,ρ=>ρ
 |false,ρ=>bB md ρ
def g0:Bool→D→Prop
 |true,d=>gw d=true
 |false,_=>True
section
variable {Z:DC} {B:Bs} {md:List Nat} {ρ:DN} {σ:St} {H G:Hp} {fp:Nat→List Addr}
theorem tV{i:Nat}{d:D}(h:(bB md ρ)[i]? =some (some d)):md.getD i 0=0∧ρ[i]? =some (some d):=kf md ρ i h
theorem SIx.nG(S:SIx Z B md ρ σ H G fp):bF Z G σ (bB md ρ):=by
 refine ⟨by rw [iS];exact S.len,λi d h=>?_⟩
 obtain ⟨z,h⟩:=tV h;obtain ⟨v,hv,o⟩:=S.at_ i d h;rw [z] at o;exact ⟨v,hv,o.1⟩
theorem SIx.BA(S:SIx Z B md ρ σ H G fp):bF Z H σ ρ:=by
 refine ⟨S.len,λi d h=>?_⟩;obtain ⟨v,hv,o⟩:=S.at_ i d h;exact ⟨v,hv,o.dv S.ex.sub λb _ u e=>e⟩
theorem SIx.grow{G' H':Hp}(S:SIx Z B md ρ σ H G fp)(x:Ext G H G' H'):SIx Z B md ρ σ H' G' fp where
 ex:=S.ex.trans x
 fl:=S.fl.trans x.gg
 len:=S.len
 at_:=λi d h=>by
  obtain ⟨v,hv,o⟩:=S.at_ i d h;refine ⟨v,hv,o.keep x.gg λb hb=>?_⟩;cases e:H b with
  |none=>exact absurd e (S.nw i b hb).2.1
  |some u=>exact x.hh _ _ e
 nd:=S.nd
 ap:=S.ap
 nw:=λi b hb=>let ⟨h1,h2,h3⟩:=S.nw i b hb;⟨h1,dn x.hh h2,x.off b h2 h3⟩
theorem Ext.all{G' H':Hp}(s:az G H)(x:Ext H H G' H'):Ext G H G H':=⟨.refl _,s.trans x.hh,x.hh,λ_ _ h=>h⟩
open Classical in
noncomputable def dH(G H:Hp)(fp:Nat→List Addr):Hp:=λb=>if ∃i,b∈fp i then (match H b with|some (.lst xs)=>some (.lst xs) |some (.ext φ)=>some (.ext φ) |_=>none) else G b
open Classical in
noncomputable def j4(G:Hp)(fp:Nat→List Addr):Hp:=λb=>if ∃i,b∈fp i then none else G b
theorem wA{b:Addr}{o:HO}(i:Nat)(h:b∈fp i)(ho:BO o=true)(e:H b=some o):dH G H fp b=some o:=by
 unfold dH;rw [if_pos ⟨i,h⟩,e];cases o<;>first|rfl|cases ho
theorem iT{b:Addr}(h:¬∃i,b∈fp i):dH G H fp b=G b:=if_neg h
theorem SIx.BB(S:SIx Z B md ρ σ H G fp):az G (dH G H fp)∧az (dH G H fp) H∧bF Z (dH G H fp) σ ρ:=by
 have s1:az G (dH G H fp):=λb o e=>by
  by_cases h:∃i,b∈fp i
  ·obtain ⟨i,hi⟩:=h
   rw [(S.nw i b hi).2.2] at e;cases e
  ·rw [iT h];exact e
 refine ⟨s1,λb o e=>?_,S.len,λi d h=>?_⟩
 ·by_cases h:∃i,b∈fp i
  ·unfold dH at e
   rw [if_pos h] at e
   split at e
   ·next xs hx=>rw [hx];exact e
   ·next φ hx=>rw [hx];exact e
   ·cases e
  ·rw [iT h] at e;exact S.ex.sub _ _ e
 ·obtain ⟨v,hv,o⟩:=S.at_ i d h
  exact ⟨v,hv,o.CF s1 λb hb u hu hx=>wA i hb hu hx⟩
theorem SIx.Ho{G' H':Hp}(S:SIx Z B md ρ σ H G fp)(x:Ext (dH G H fp) H G' H'):Ext G H (j4 G' fp) H'∧∀b xs,G' b=some (.tup xs)→j4 G' fp b=some (.tup xs):=by
 obtain ⟨s1,s2,_⟩:=S.BB;refine ⟨⟨λb o e=>?_,λb o e=>?_,x.hh,λb hb hg=>?_⟩,λb xs e=>?_⟩
 ·have h:¬∃i,b∈fp i:=by
   rintro ⟨i,hi⟩;rw [(S.nw i b hi).2.2] at e;cases e
  unfold j4;rw [if_neg h];exact x.gg _ _ (s1 _ _ e)
 ·unfold j4 at e
  split at e
  ·cases e
  ·exact x.sub _ _ e
 ·unfold j4
  split
  ·rfl
  ·next h=>exact x.off b hb (by rw [iT h];exact hg)
 ·have h:¬∃i,b∈fp i:=by
   rintro ⟨i,hi⟩;have hb:=(S.nw i b hi).2.1;cases hw:dH G H fp b with
   |none=>rw [x.off b hb hw] at e;cases e
   |some o=>
    have:=x.gg _ _ hw
    rw [e] at this;cases this;unfold dH at hw;rw [if_pos ⟨i,hi⟩] at hw
    split at hw<;>cases hw
  unfold j4;rw [if_neg h];exact e
theorem SIx.ev{t:aK}{P:D→Prop}{Q:VK}(S:SIx Z B md ρ σ H G fp)(m:Bool)(h:t (ub md m ρ) P)
  (hq:∀d,P d→g0 m d∧∀v G' H',SIx Z B md ρ σ H' G' fp→Ext G H G' H'→Dv Z G' v d→Q v H'):bP Z t σ H Q:=by
 cases m with
 |false=>exact ⟨G,_,P,S.ex.sub,S.nG,h,λd hd v G' H' x dv=>(hq d hd).2 v G' H' (S.grow x) x dv⟩
 |true=>
  obtain ⟨s1,s2,e⟩:=S.BB;refine ⟨dH G H fp,_,P,s2,e,h,λd hd v G' H' x dv=>?_⟩;obtain ⟨x',k⟩:=S.Ho x;exact (hq d hd).2 v _ H' (S.grow x') x' (dv.gw k (hq d hd).1)
theorem SIx.FC{t:bY}{P:Bool→Prop}{Q:Bool→Hp→Prop}(S:SIx Z B md ρ σ H G fp)(h:t ρ P)(hq:∀b,P b→∀H',SIx Z B md ρ σ H' G fp→Q b H'):liftT Z t σ H Q:=
 ⟨H,ρ,P, .refl _,S.BA,h,λb hb G' H' x=>hq b hb H' (S.grow (Ext.all S.ex.sub x))⟩
theorem SIx.rQ{i:Nat}{v:V}{d:D}(S:SIx Z B md ρ σ H G fp)(hm:md.getD i 0=0)(dv:Dv Z G v d):SIx Z B md (ρ.set i (some d)) (σ.set i (some v)) H G (λj=>if j=i then [] else fp j) where
 ex:=S.ex
 fl:=S.fl
 len:=by rw [dS,dS];exact S.len
 at_:=λj c h=>by
  by_cases z:i=j
  ·subst z
   by_cases hi:i<ρ.length
   ·rw [gn hi] at h
    cases h;exact ⟨v,gn (by rw [←S.len];exact hi),by rw [hm,if_pos rfl];exact ⟨dv,rfl⟩⟩
   ·rw [n5 (cS hi),dq (cS hi)] at h;cases h
  ·rw [iC z] at h ⊢
   rw [if_neg (Ne.symm z)];exact S.at_ j c h
 nd:=λj=>by split;exact jO;exact S.nd j
 ap:=λj k b ne hj hk=>by
  split at hj
  ·cases hj
  ·split at hk
   ·cases hk
   ·exact S.ap j k b ne hj hk
 nw:=λj b hb=>by
  split at hb
  ·cases hb
  ·exact S.nw j b hb
theorem SIx.HM{i n:Nat}{v:V}{d:D}{f:List Addr}(S:SIx Z B md ρ σ H G fp)(hm:md.getD i 0=n)(o:Own Z G H n v d f)(nd:f.Nodup)(nw:∀b∈f,B.H₀ b=none∧H b≠none∧G b=none)(ap:∀b∈f,∀j,j≠i→b∉fp j):
  SIx Z B md (ρ.set i (some d)) (σ.set i (some v)) H G (λj=>if j=i then f else fp j) where
 ex:=S.ex
 fl:=S.fl
 len:=by rw [dS,dS];exact S.len
 at_:=λj c h=>by
  by_cases z:i=j
  ·subst z
   by_cases hi:i<ρ.length
   ·rw [gn hi] at h
    cases h;exact ⟨v,gn (by rw [←S.len];exact hi),by rw [hm,if_pos rfl];exact o⟩
   ·rw [n5 (cS hi),dq (cS hi)] at h;cases h
  ·rw [iC z] at h ⊢
   rw [if_neg (Ne.symm z)];exact S.at_ j c h
 nd:=λj=>by split;exact nd;exact S.nd j
 ap:=λj k b ne hj hk=>by
  split at hj
  ·next z=>
   rw [if_neg (λw=>ne (z.trans w.symm))] at hk;exact ap b hj k (λw=>ne (z.trans w.symm)) hk
  ·next z=>
   split at hk
   ·exact ap b hk j z hj
   ·exact S.ap j k b ne hj hk
 nw:=λj b hb=>by
  split at hb
  ·exact nw b hb
  ·exact S.nw j b hb
noncomputable def plus(G H:Hp)(F:Addr→Prop):Hp:=λb=>open Classical in if F b then H b else G b
theorem gK{F:Addr→Prop}{b:Addr}(h:F b):plus G H F b=H b:=by unfold plus;rw [if_pos h]
theorem ee{F:Addr→Prop}{b:Addr}(h:¬F b):plus G H F b=G b:=by unfold plus;rw [if_neg h]
theorem hJ{F:Addr→Prop}(s:az G H):az (plus G H F) H:=λb o e=>by
 by_cases h:F b
 ·rw [gK h] at e;exact e
 ·rw [ee h] at e;exact s _ _ e
theorem cF{F:Addr→Prop}(s:az G H):az G (plus G H F):=λb o e=>by
 by_cases h:F b
 ·rw [gK h];exact s _ _ e
 ·rw [ee h];exact e
theorem SIx.Kk{t:aK}{P:D→Prop}{Q:VK}(S:SIx Z B md ρ σ H G fp)(h:t ρ P)(hq:∀d,P d→∀v G' H',Ext B.G₀ B.H₀ G' H'→Dv Z G' v d→Q v H'):bP Z t σ H Q:=by
 let F:Addr→Prop:=λb=>∃i,b∈fp i
 have s:=S.ex.sub
 have x0:Ext B.G₀ B.H₀ (plus G H F) H:=⟨S.ex.gg.trans (cF s),hJ s,S.ex.hh,λb hb hg=>by
  rw [ee (λ⟨i,hi⟩=>hb (S.nw i b hi).1)];exact S.ex.off b hb hg⟩
 refine ⟨plus G H F,ρ,P,hJ s,⟨S.len,λi d h=>?_⟩,h,λd hd v G' H' x dv=>hq d hd v G' H' (x0.trans x) dv⟩;obtain ⟨v,hv,o⟩:=S.at_ i d h;exact ⟨v,hv,o.dv (cF s) λb hb u e=>by rw [gK ⟨i,hb⟩];exact e⟩
end
structure bb where
 nx:DN→Prop
 rt:D→Prop
 bk:DN→Prop:=λ_=>False
 ct:DN→Prop:=λ_=>False
 xc:DN→D→Prop:=λ_ _=>False
abbrev bE:=bb→DN→Prop
structure Meets (Z:DC) (X:Cx) (B:Bs) (md:List Nat) (rn:Nat) (E:bb) (Dn:Ends):Prop where
 nx:∀ρ,E.nx ρ→∀σ H,SI Z B md ρ σ H→Dn.nx σ H
 rt:∀d,E.rt d→∀v f G' H',Ext B.G₀ B.H₀ G' H'→Own Z G' H' rn v d f→f.Nodup→(∀b∈f,B.H₀ b=none∧H' b≠none∧G' b=none)→Dn.rt v H'
 bk:∀ρ,E.bk ρ→∀σ H,SI Z B md ρ σ H→Dn.bk σ H
 ct:∀ρ,E.ct ρ→∀σ H,SI Z B md ρ σ H→Dn.ct σ H
 xc:∀ρ d,E.xc ρ d→∀σ H G fp a,SIx Z B md ρ σ H G fp→Dv Z G (.ref a) d→qf X σ H a
def fR(Z:DC)(X:Cx)(md:List Nat)(rn:Nat)(t:bE):TS:=λDn σ H=>∃(B:Bs)(ρ:DN)(E:bb),SI Z B md ρ σ H∧t E ρ∧Meets Z X B md rn E Dn
def DSt(Z:DC)(X:Cx)(md:List Nat)(rn:Nat)(st:Stmt)(t:bE):Prop:=PS X st (fR Z X md rn t)
def ia(Z:DC)(X:Cx)(md:List Nat)(rn:Nat)(y3:List Stmt)(t:bE):Prop:=eY X y3 (fR Z X md rn t)
theorem PS.imp{X:Cx}{st:Stmt}{t t':TS}(h:PS X st t)(f:∀D σ H,t' D σ H→t D σ H):PS X st t':=λpins s σ H D I q=>h pins s σ H D I (f _ _ _ q)
theorem eY.imp{X:Cx}{st:List Stmt}{t t':TS}(h:eY X st t)(f:∀D σ H,t' D σ H→t D σ H):eY X st t':=λpins s σ H D I q=>h pins s σ H D I (f _ _ _ q)
section
variable {Z:DC} {X:Cx} {md:List Nat} {rn:Nat} {st:Stmt} {y3:List Stmt} {t u:bE} {e:Expr} {te:aK} {pos:Pos}
def xf:bE:=λE ρ=>E.nx ρ
def By(t u:bE):bE:=λE ρ=>t {E with nx:=u E} ρ
theorem aJ:ia Z X md rn [] xf:=yH.imp λD σ H ⟨B,ρ,E,S,h,M⟩=>M.nx _ h _ _ S
theorem ah(h1:DSt Z X md rn st t)(h2:ia Z X md rn y3 u):ia Z X md rn (st::y3) (By t u):=
 (fA h1 h2).imp λD σ H ⟨B,ρ,E,S,h,M⟩=>⟨B,ρ,_,S,h,⟨λaw h' aq H' S'=>⟨B,aw,E,S',h',M⟩,M.rt,M.bk,M.ct,M.xc⟩⟩
theorem aj(h1:DSt Z X md rn st t):ia Z X md rn [st] t:=rM h1
theorem nB:DSt Z X md rn st (λ_ _=>False):=v7.imp λD σ H ⟨B,ρ,E,S,h,M⟩=>h
def Bx(te:aK):bE:=λE ρ=>te ρ E.rt
theorem aD(he:DE Z X e te):DSt Z X md 0 (.Return (some e) pos) (Bx te):=(AH he).imp λD σ H ⟨B,ρ,E,⟨G,fp,S⟩,h,M⟩=>S.Kk h λd hd v G' H' x dv=>M.rt d hd v [] G' H' x ⟨dv,rfl⟩ jO (λb hb=>by cases hb)
def Bu(c:bY)(t u:bE):bE:=λE ρ=>c ρ λb=>if b=true then t E ρ else u E ρ
theorem bj{c:Expr}{a b:List Stmt}{tc:bY}(hc:DT Z X c tc)(ha:ia Z X md rn a t)(hb:ia Z X md rn b u):DSt Z X md rn (.If c a b pos) (Bu tc t u):=by
 refine (DD hc ha hb).imp ?_;rintro D σ H ⟨B,ρ,E,⟨G,fp,S⟩,h,M⟩;refine S.FC h λb hb H' S'=>?_;cases b with
 |true=>exact bG ⟨B,ρ,E,⟨G,fp,S'⟩,(by simpa using hb),M⟩
 |false=>exact aZ ⟨B,ρ,E,⟨G,fp,S'⟩,(by simpa using hb),M⟩
def dSet(md:List Nat)(m:Bool)(i:Nat)(te:aK):bE:=λE ρ=>te (ub md m ρ) λd=>g0 m d∧E.nx (ρ.set i (some d))
theorem aI(m:Bool)(i:Nat){x:Str}{pos':Pos}(hN:X.N.Nodup)(he:DE Z X e te)(hm:md.getD i 0=0:=by rfl)(hi:X.N[i]? =some x:=by rfl)(hx:Loc X.env.scope x:=by first|exact Or.inl rfl|exact Or.inr rfl)(hs:swapsWith e (some (.Name x pos')) pos.line X.env=pure false:=by rfl)
  (hf:X.fn x=true∨X.env.scope.names.lookup x=some .local:=by first|exact .inl rfl|exact .inr rfl|assumption):DSt Z X md rn (.Assign [.Name x pos'] e pos) (dSet md m i te):=by
 refine (pT hN hi hx he hs hf).imp ?_;rintro D σ H ⟨B,ρ,E,⟨G,fp,S⟩,h,M⟩;exact S.ev m h λd hd=>⟨hd.1,λv G' H' S' x dv=>M.nx _ hd.2 _ _ ⟨G',_,S'.rQ hm dv⟩⟩
theorem nE(i:Nat){x:Str}{px gT:Pos}{tg iter elt:Expr}{ifs:List Expr}{scope:Scope}{NC:List Str}{src:List (Option Nat)}{wi:fK}{g:cf}{tt:bY}(hc:X.calm=true)(hN:X.N.Nodup)(c:bw X scope)(dM:bN scope X.N src NC)(hi:DI Z X tg iter wi)
  (hg:∀ex s H,DG Z (dA X scope NC ex s H) tg g) (ht:∀ex s H,wD Z (dA X scope NC ex s H) ifs tt) (he:∀ex s H,DE Z (dA X scope NC ex s H) elt te)
  (iM:swapsWith (.ListComp elt [⟨tg,iter,ifs,0⟩] scope pos) (some (.Name x px)) gT.line X.env=pure true:=by rfl) (hm:md.getD i 0=0:=by rfl) (tj:X.N[i]? =some x:=by rfl) (hx:Loc X.env.scope x:=by first|exact Or.inl rfl|exact Or.inr rfl)
  (hf:X.fn x=true∨X.env.scope.names.lookup x=some .local:=by first|exact .inl rfl|exact .inr rfl|assumption)
  (hs:∀x,foldedSetIterable iter X.env x=pure x:=by intro _;rfl):DSt Z X md rn (.Assign [.Name x px] (.ListComp elt [⟨tg,iter,ifs,0⟩] scope pos) gT) (dSet md false i (Cv wi g tt te src)):=by
 refine (ke hc hN tj hx c dM hi hg ht he iM hf hs).imp ?_;rintro D σ H ⟨B,ρ,E,⟨G,fp,S⟩,h,M⟩;refine uI σ H _ (S.ev false h λd hd=>⟨hd.1,λv G' H' S' x dv=>M.nx _ hd.2 _ _ ⟨G',_,S'.rQ hm dv⟩⟩)
end
end L2
namespace L2
open PySem PySem.Spec PyProof.Rows
section
variable {Z:DC} {X:Cx} {B:Bs} {md:List Nat} {rn:Nat} {ρ:DN} {σ:St} {H G:Hp} {fp:Nat→List Addr}
def uH(Z:DC)(md:List Nat)(g:cf):TG:=λv σ H Q=>∃(B:Bs)(ρ:DN)(d:D)(P:DN→Prop)(G:Hp)(fp:Nat→List Addr),SIx Z B md ρ σ H G fp∧Dv Z G v d∧g d ρ P∧∀aw,P aw→∀aq iH,SIx Z B md aw aq H G iH→Q aq H
def yk(Z:DC)(md:List Nat)(g:f7):mN:=λvs σ H Q=>∃(B:Bs)(ρ:DN)(ds:List D)(P:DN→Prop)(G:Hp)(fp:Nat→List Addr),SIx Z B md ρ σ H G fp∧ag Z G vs ds∧g ds ρ P∧∀aw,P aw→∀aq iH,SIx Z B md aw aq H G iH→Q aq H
def u3(Z:DC)(X:Cx)(md:List Nat)(e:Expr)(g:cf):Prop:=PG X e (uH Z md g)
def uh(Z:DC)(X:Cx)(md:List Nat)(es:List Expr)(g:f7):Prop:=om X es (yk Z md g)
theorem aL(i:Nat){x:Str}{pos:Pos}(hN:X.N.Nodup)(hm:md.getD i 0=0:=by rfl)(hi:X.N[i]? =some x:=by rfl)(hx:Loc X.env.scope x:=by first|exact Or.inl rfl|exact Or.inr rfl)(hf:X.fn x=true∨X.env.scope.names.lookup x=some .local:=by first|exact .inl rfl|exact .inr rfl|assumption):u3 Z X md (.Name x pos) (gZ i):=
 (rJ hN hi hx hf).imp λv σ H Q ⟨B,ρ,d,P,G,fp,S,dv,h,q⟩=>q _ h _ _ (S.rQ hm dv)
theorem cW:uh Z X md [] xk:=rK.imp λv σ H Q ⟨B,ρ,ds,P,G,fp,S,dv,⟨h,p⟩,q⟩=>by
 subst h;cases dv;exact ⟨rfl,q _ p _ _ S⟩
theorem aY{e:Expr}{es:List Expr}{g:cf}{gs:f7}(h1:u3 Z X md e g)(h2:uh Z X md es gs)(hs:(assignEach (e::es) X.env).map (·.2)=assign e X.env::(assignEach es X.env).map (·.2):=by rfl):uh Z X md (e::es) (ux g gs):=by
 refine (nX h1 h2 hs).imp ?_;rintro v σ H Q ⟨B,ρ,ds,P,G,fp,S,dv,h,q⟩;cases dv with
 |nil=>exact h.elim
 |cons a as=>exact ⟨_,_,rfl,B,ρ,_,_,G,fp,S,a,h,λaw hp aq iH S'=>⟨B,aw,_,P,G,iH,S',as,hp,q⟩⟩
theorem fN(n:Nat){es:List Expr}{k:Nat}{pos:Pos}{gs:f7}(hc:X.calm=true)(h:uh Z X md es gs)(hn:(assignEach es X.env).length=n:=by rfl)(jm:(assignEach es X.env).findIdx? (·.1)=none:=by rfl):u3 Z X md (.Tuple es k pos) (xl n gs):=by
 refine (uQ hc h hn jm).imp ?_;rintro v σ H Q ⟨B,ρ,d,P,G,fp,S,dv,h,q⟩;cases dv<;>first|exact h.elim|skip
 rename_i a xs ds ha es
 exact ⟨a,xs,rfl,cg.of (S.ex.sub _ _ ha),by rw [es.length];exact h.1,B,ρ,_,P,G,fp,S,es,h.2,q⟩
def E3(md:List Nat)(te:aK)(g:cf):bE:=λE ρ=>te (bB md ρ) λd=>g d ρ E.nx
theorem zG{tg e:Expr}{te:aK}{g:cf}{pos:Pos}(he:DE Z X e te)(hg:u3 Z X md tg g)(hs:swapsWithSole [tg] e pos.line X.env=pure false:=by rfl)(hw:swappedStores [tg] e X.env=pure none:=by rfl)
  (h1:(assignEach [tg] X.env).map (·.2)= [assign tg X.env]:=by rfl):DSt Z X md rn (.Assign [tg] e pos) (E3 md te g):=by
 refine (uR he hg hs hw h1).imp ?_;rintro D σ H ⟨B,ρ,E,⟨G,fp,S⟩,h,M⟩;exact S.ev false h λd hd=>⟨trivial,λv G' H' S' x dv=>⟨B,ρ,d,E.nx,G',fp,S',dv,hd,λaw h' aq iH S2=>M.nx _ h' _ _ ⟨G',iH,S2⟩⟩⟩
def ig(g:cf)(tb:bE)(E:bb):List D→DN→Prop
 | [],ρ=>E.nx ρ
 |x::xs,ρ=>g x ρ λbD=>tb {nx:=ig g tb E xs,ct:=ig g tb E xs,bk:=E.nx,rt:=E.rt,xc:=E.xc} bD
def Bt(md:List Nat)(m:Bool)(wi:fK)(g:cf)(tb:bE):bE:=λE ρ=>wi (ub md m ρ) λds=>ig g tb E ds ρ
theorem nK{D':Ends}{J:It}{ds:List D}{g:cf}{tb:bE}{E:bb}(S:SIx Z B md ρ σ H G fp)(it:lb Z G J ds)(hd:ig g tb E ds ρ)(M:Meets Z X B md rn E D'):
  ∃W:Nat→Nat→St→Hp→Prop,(∃m,W 0 m σ H)∧∀i m σ H,W i m σ H→
   (J.stop i H∧D'.nx σ H)∨(J.go i H∧∃N:St→Hp→Prop,(∀aq H',N aq H'→∃m',m'<m∧W (i+1) m' aq H')∧∀x H',J.yld i H x H'→uH Z md g x σ H' λeX H2=>fR Z X md rn tb {D' with nx:=N,ct:=N,bk:=D'.nx} eX H2):=by
 let B1:Bs:={B with Gf:=G}
 have back:∀ρ σ H,SI Z B1 md ρ σ H→SI Z B md ρ σ H:=λρ σ H ⟨G2,sR,S2⟩=>⟨G2,sR,⟨S2.ex,S.fl.trans S2.fl,S2.len,S2.at_,S2.nd,S2.ap,S2.nw⟩⟩;have S1:SIx Z B1 md ρ σ H G fp:=⟨S.ex, .refl _,S.len,S.at_,S.nd,S.ap,S.nw⟩;refine ⟨λi m σ H=>m=ds.length-i∧i≤ds.length∧∃ρ,SI Z B1 md ρ σ H∧ig g tb E (ds.drop i) ρ,⟨_,rfl,iD _,ρ,⟨G,fp,S1⟩,hd⟩,?_⟩;rintro i m eX H2 ⟨rfl,hi,eW,⟨G2,sR,S2⟩,hf⟩;obtain ⟨go,stop,yld⟩:=it G2 H2 S2.fl S2.ex.sub i
 by_cases dU:i<ds.length
 ·refine .inr ⟨go dU,λaq H'=>∃aw,SI Z B1 md aw aq H'∧ig g tb E (ds.drop (i+1)) aw,λaq H' n=>⟨ds.length-(i+1),by omega,rfl,dU,n⟩,λx H' y=>?_⟩
  obtain ⟨G3,d,x3,CQ,dv⟩:=yld x H' dU y;rw [lJ CQ] at hf;refine ⟨B1,eW,d,_,G3,sR,S2.grow x3,dv,hf,λOl h4 gx Km S4=>?_⟩;exact ⟨B1,Ol,_,⟨G3,Km,S4⟩,h4,⟨λaw h' aq H' s'=>⟨aw,s',h'⟩,M.rt,λaw h' aq H' s'=>M.nx _ h' _ _ (back _ _ _ s'),λaw h' aq H' s'=>⟨aw,s',h'⟩,λaw d h' aq H' G' iH a' s' fk=>M.xc aw d h' aq H' G' iH a' ⟨s'.ex,S.fl.trans s'.fl,s'.len,s'.at_,s'.nd,s'.ap,s'.nw⟩ fk⟩⟩
 ·have e:ds.drop i= []:=u0 (by omega)
  rw [e] at hf;exact .inl ⟨stop (by omega),M.nx _ hf _ _ (back _ _ _ ⟨G2,sR,S2⟩)⟩
variable {tg iter:Expr} {body:List Stmt} {wi:fK} {g:cf} {tb:bE} {pos:Pos}
theorem df(hc:X.calm=true)(hp:PassesOwn (model X.prog X.w) X.A X.env X.xe)(hi:DI Z X tg iter wi)(hg:u3 Z X md tg g)(hb:ia Z X md rn body tb)
  (hs:∀x,foldedSetIterable iter X.env x=pure x:=by intro _;rfl):DSt Z X md rn (.For tg iter body [] pos) (Bt md false wi g tb):=by
 refine (uS hp hc hi hg hb hs).imp ?_;rintro D σ H ⟨B,ρ,E,⟨G,fp,S⟩,h,M⟩;exact ⟨G,_,_,S.ex.sub,S.nG,h,λds hd J G1 H1 x1 it=>nK (S.grow x1) it hd M⟩
def Ab(Z:DC)(wi:fK):TI:=λσ H R=>∃(G:Hp)(ρ:DN)(P:List D→Prop),az G H∧bF Z G σ ρ∧wi ρ P∧∀ds,P ds→∀J G' H',Ext G H G' H'→(∀G2,lb Z G2 J ds)→R J H'
def BV(Z:DC)(X:Cx)(tg e:Expr)(wi:fK):Prop:=PI X tg e (Ab Z wi)
theorem jc(hc:X.calm=true)(hp:PassesOwn (model X.prog X.w) X.A X.env X.xe)(hi:BV Z X tg iter wi)(hg:u3 Z X md tg g)(hb:ia Z X md rn body tb)
  (hs:∀x,foldedSetIterable iter X.env x=pure x:=by intro _;rfl):DSt Z X md rn (.For tg iter body [] pos) (Bt md true wi g tb):=by
 refine (uS hp hc hi hg hb hs).imp ?_;rintro D σ H ⟨B,ρ,E,⟨G,fp,S⟩,h,M⟩;exact ⟨H,ρ,_, .refl _,S.BA,h,λds hd J G1 H1 x1 it=>nK (S.grow (Ext.all S.ex.sub x1)) (it _) hd M⟩
variable {a b e:Expr} {ta te:aK} {t:eh}
theorem iF{p:Pos}(hg:Gl X "range")(hm:X.mg "range"=none)(ha:DA Z X [a] t)(hs:starEach [a] X.env= [(false,eval a X.env)]:=by rfl):BV Z X tg (.Call (.Name "range" p) [a] [] pos) (Bz t):=by
 refine (mv hg hm ha hs).imp ?_;rintro σ H Q ⟨G,ρ,P,s,en,h,q⟩;refine ⟨G,ρ,_,s,en,h,λds hd vs G1 H1 x1 dv=>?_⟩
 split at hd
 ·obtain ⟨_,rfl,a⟩:=dv.ofOne
  exact ⟨_,by rw [a.ofInt],hd.1.1,hd.1.2,q _ hd.2 _ G1 H1 x1 λ_=>j2 0 _⟩
 ·exact hd.elim
theorem sI{p:Pos}(hg:Gl X "range")(hm:X.mg "range"=none)(ha:DA Z X [a,b] t)(hs:starEach [a,b] X.env= [(false,eval a X.env),(false,eval b X.env)]:=by rfl)(iL:starEach [b] X.env= [(false,eval b X.env)]:=by rfl):BV Z X tg (.Call (.Name "range" p) [a,b] [] pos) (Fw t):=by
 refine (tT hg hm ha hs iL).imp ?_;rintro σ H Q ⟨G,ρ,P,s,en,h,q⟩;refine ⟨G,ρ,_,s,en,h,λds hd vs G1 H1 x1 dv=>?_⟩
 split at hd
 ·obtain ⟨u1,u2,rfl,da,db⟩:=dv.Dk
  exact ⟨_,_,by rw [da.ofInt,db.ofInt],hd.1,q _ hd.2 _ G1 H1 x1 λ_=>j2 _ _⟩
 ·exact hd.elim
def uo(c:bY)(tb:bE):bE:=λE ρ=>∃W:Nat→DN→Prop,(∃m,W m ρ)∧∀m ρ,W m ρ→c ρ λb=>if b=true then tb {nx:=λaw=>∃m',m'<m∧W m' aw,ct:=λaw=>∃m',m'<m∧W m' aw,bk:=E.nx,rt:=E.rt,xc:=E.xc} ρ else E.nx ρ
theorem vj{c:Expr}{tc:bY}(hp:PassesOwn (model X.prog X.w) X.A X.env X.xe)(hc:DT Z X c tc)(hb:ia Z X md rn body tb):DSt Z X md rn (.While c body [] pos) (uo tc tb):=by
 refine (v9 hp hc hb).imp ?_;rintro D σ H ⟨B,ρ,E,S,⟨W,⟨m0,w0⟩,turn⟩,M⟩;refine ⟨λm σ H=>∃ρ,SI Z B md ρ σ H∧W m ρ,⟨m0,ρ,S,w0⟩,?_⟩;rintro m eX H2 ⟨eW,⟨G2,sR,S2⟩,w2⟩;refine S2.FC (turn m eW w2) λb hb H' S'=>?_;cases b with
 |false=>exact aZ (M.nx _ (by simpa using hb) _ _ ⟨G2,sR,S'⟩)
 |true=>
  refine bG ⟨λaq H'=>∃aw m',m'<m∧SI Z B md aw aq H'∧W m' aw,λaq H' ⟨aw,m',h1,h2,h3⟩=>⟨m',h1,aw,h2,h3⟩,B,eW,_,⟨G2,sR,S'⟩,(by simpa using hb),?_⟩
  exact ⟨λaw ⟨m',h1,h2⟩ aq H' s'=>⟨aw,m',h1,s',h2⟩,M.rt,M.nx,λaw ⟨m',h1,h2⟩ aq H' s'=>⟨aw,m',h1,s',h2⟩,M.xc⟩
abbrev kJ:=DN→(List D→Prop)→Prop
def lX(Z:DC)(n:Nat)(t:kJ):TE:=λσ H Q=>∃(G:Hp)(ρ:DN)(P:List D→Prop),az G H∧bF Z G σ ρ∧t ρ P∧∀ds,P ds→∀v f G' H',Ext G H G' H'→Own Z G' H' n v (.lst ds) f→f.Nodup→(∀b∈f,H b=none∧H' b≠none∧G' b=none)→Q v H'
def DF(Z:DC)(X:Cx)(n:Nat)(e:Expr)(t:kJ):Prop:=PE X e (lX Z n t)
theorem Ext.side{p:Addr}{o:HO}{G1 H1:Hp}(x:Ext G H G1 H1)(hp:H1 p=none):Ext G H G1 (upd H1 p o):=
 ⟨x.gg,λb u e=>by rw [ar (aE e (x.sub.free hp))];exact x.sub _ _ e,x.hh.trans (aH hp _),x.off⟩
theorem yy{p:Addr}{xs:List V}{ds:List D}{G1 H1:Hp}(x:Ext G H G1 H1)(hp:H1 p=none)(dv:ag Z G1 xs ds):
  Own Z G1 (upd H1 p (.lst xs)) 1 (.ref p) (.lst ds) [p]∧([p]:List Addr).Nodup∧∀b∈([p]:List Addr),H b=none∧(upd H1 p (.lst xs)) b≠none∧G1 b=none:=by
 refine ⟨.inl ⟨p,xs,ds,[],rfl,rfl,ak,rfl,dv.own⟩,by simp,λb hb=>?_⟩
 have:b=p:=by simpa using hb
 subst this;exact ⟨x.hh.free hp,(by rw [ak];exact λz=>nomatch z),x.sub.free hp⟩
def BD(t:eh):kJ:=λρ P=>t ρ λds=>ds.length≤sizeLine∧P ds
theorem i9{es:List Expr}(h:DA Z X es t):DF Z X 1 (.List es pos) (BD t):=by
 refine (uO h).imp ?_;rintro σ H Q ⟨G,ρ,P,s,e,h,q⟩;refine ⟨G,ρ,_,s,e,h,?_⟩;rintro ds ⟨hl,hp⟩ vs G1 H1 x1 aM;refine ⟨by rw [aM.length];exact hl,λp mX=>?_⟩
 obtain ⟨o1,o2,o3⟩:=yy x1 mX aM;exact q _ hp _ _ _ _ (x1.side mX) o1 o2 o3
def FE(wi:fK)(g:cf)(tt:bY)(te:aK)(src:List (Option Nat)):kJ:=λρ P=>wi ρ λds=>ic g tt te ds (nZ src ρ) [] λ_ out=>P out
theorem yj{src:List (Option Nat)}{tt:bY}:∀σ H Q,lX Z 1 (FE wi g tt te src) σ H Q→y9 (pE Z wi) (lY Z g) (liftT Z tt) (bP Z te) src σ H Q:=by
 rintro σ H Q ⟨G,ρ,P,s,en,h,q⟩;refine ⟨G,ρ,_,s,en,h,λds hd J G1 H1 x1 it Ad hA=>?_⟩;refine ⟨λi m eX H2=>m=ds.length-i∧i≤ds.length∧∃eW acc,CS Z G1 H1 Ad eW acc eX H2∧ic g tt te (ds.drop i) eW acc λ_ out=>P out,⟨_,rfl,iD _,_,[], .begin x1.sub hA ((en.mono x1.gg).src src),hd⟩,?_⟩;rintro i m eX H2 ⟨rfl,hi,eW,acc,c,hl⟩
 by_cases dU:i<ds.length
 ·obtain ⟨go,turn⟩:=nP hA G1 it i eW acc eX H2 c (λ_ s=>s) dU hl
  exact .inr ⟨go,_,λaq H' n=>⟨ds.length-(i+1),by omega,rfl,dU,n⟩,turn⟩
 ·have e:ds.drop i= []:=u0 (by omega)
  rw [e] at hl;obtain ⟨G2,ys,s1,s2,s3,off,gA,lM,aM,en⟩:=c;refine .inl ⟨(it G2 H2 s1 s2 i).2.1 (by omega),q _ hl (.ref Ad) [Ad] G2 H2 ⟨x1.gg.trans s1,s2,x1.hh.trans s3,λb hb hg=>off b (dn x1.hh hb) (x1.off b hb hg)⟩ (.inl ⟨Ad,ys,acc,[],rfl,rfl,lM,rfl,aM.own⟩) (by simp) λb hb=>?_⟩
  have:b=Ad:=by simpa using hb
  subst this;exact ⟨x1.hh.free hA,(by rw [lM];exact λz=>nomatch z),gA⟩
variable {elt:Expr} {ifs:List Expr} {scope:Scope} {NC:List Str} {src:List (Option Nat)} {tt:bY}
def xb(md:List Nat)(i:Nat)(t:kJ):bE:=λE ρ=>t (bB md ρ) λds=>E.nx (ρ.set i (some (.lst ds)))
theorem j5{n i:Nat}{t:kJ}{D':Ends}{E:bb}(hm:md.getD i 0=n)(S:SIx Z B md ρ σ H G fp)(h:t (bB md ρ) λds=>E.nx (ρ.set i (some (.lst ds))))(M:Meets Z X B md rn E D'):lX Z n t σ H λv H'=>D'.nx (σ.set i (some v)) H':=by
 refine ⟨G,_,_,S.ex.sub,S.nG,h,λds hd v f G' H' x o nd nw=>?_⟩;refine M.nx _ hd _ _ ⟨G',_,(S.grow x).HM hm o nd (λb hb=>⟨S.ex.hh.free (nw b hb).1,(nw b hb).2⟩) λb hb j _ hj=>(S.nw j b hj).2.1 (nw b hb).1⟩
theorem kS(i:Nat){n:Nat}{x:Str}{pos':Pos}{t:kJ}(hN:X.N.Nodup)(he:DF Z X n e t)(hm:md.getD i 0=n:=by rfl)(hi:X.N[i]? =some x:=by rfl)(hx:Loc X.env.scope x:=by first|exact Or.inl rfl|exact Or.inr rfl)(hs:swapsWith e (some (.Name x pos')) pos.line X.env=pure false:=by rfl)
  (hf:X.fn x=true∨X.env.scope.names.lookup x=some .local:=by first|exact .inl rfl|exact .inr rfl|assumption):DSt Z X md rn (.Assign [.Name x pos'] e pos) (xb md i t):=by
 refine (pT hN hi hx he hs hf).imp ?_;rintro D σ H ⟨B,ρ,E,⟨G,fp,S⟩,h,M⟩;exact j5 hm S h M
theorem vi(i:Nat){x:Str}{px gT:Pos}(hc:X.calm=true)(hN:X.N.Nodup)(c:bw X scope)(dM:bN scope X.N src NC)(hi:DI Z X tg iter wi)
  (hg:∀ex s H,DG Z (dA X scope NC ex s H) tg g) (ht:∀ex s H,wD Z (dA X scope NC ex s H) ifs tt) (he:∀ex s H,DE Z (dA X scope NC ex s H) elt te)
  (iM:swapsWith (.ListComp elt [⟨tg,iter,ifs,0⟩] scope pos) (some (.Name x px)) gT.line X.env=pure true:=by rfl) (hm:md.getD i 0=1:=by rfl) (tj:X.N[i]? =some x:=by rfl) (hx:Loc X.env.scope x:=by first|exact Or.inl rfl|exact Or.inr rfl)
  (hf:X.fn x=true∨X.env.scope.names.lookup x=some .local:=by first|exact .inl rfl|exact .inr rfl|assumption)
  (hs:∀x,foldedSetIterable iter X.env x=pure x:=by intro _;rfl):DSt Z X md rn (.Assign [.Name x px] (.ListComp elt [⟨tg,iter,ifs,0⟩] scope pos) gT) (xb md i (FE wi g tt te src)):=by
 refine (ke hc hN tj hx c dM hi hg ht he iM hf hs).imp ?_;rintro D σ H ⟨B,ρ,E,⟨G,fp,S⟩,h,M⟩;exact yj σ H _ (j5 hm S h M)
end
section
variable {Z:DC} {X:Cx} {B:Bs} {md:List Nat} {rn:Nat} {ρ:DN} {σ:St} {H G:Hp} {fp:Nat→List Addr} {a e k o:Expr} {ta te tk tp:aK} {pos apos aP p2:Pos}
theorem SIx.mut{i:Nat}{v:V}{d':D}{b:Addr}{c:HO}(S:SIx Z B md ρ σ H G fp)(hi:σ[i]? =some (some v))(hb:b∈fp i)(o:Own Z G (upd H b c) (md.getD i 0) v d' (fp i)):SIx Z B md (ρ.set i (some d')) σ (upd H b c) G fp where
 ex:=by
  obtain ⟨h1,h2,h3⟩:=S.nw i b hb;exact ⟨S.ex.gg,λx u e=>by rw [ar (aE e h3)];exact S.ex.sub _ _ e,λx u e=>by rw [ar (aE e h1)];exact S.ex.hh _ _ e,S.ex.off⟩
 fl:=S.fl
 len:=by rw [dS];exact S.len
 at_:=λj w h=>by
  by_cases z:i=j
  ·subst z
   by_cases hl:i<ρ.length
   ·rw [gn hl] at h
    cases h;exact ⟨v,hi,o⟩
   ·rw [n5 (cS hl),dq (cS hl)] at h;cases h
  ·rw [iC z] at h
   obtain ⟨u,hu,ow⟩:=S.at_ j w h;exact ⟨u,hu,ow.keep (.refl _) λx hx=>ar λq=>S.ap i j b z hb (by rw [←q];exact hx)⟩
 nd:=S.nd
 ap:=S.ap
 nw:=λj x hx=>by
  obtain ⟨h1,h2,h3⟩:=S.nw j x hx;refine ⟨h1,?_,h3⟩
  by_cases z:x=b
  ·rw [z,ak];exact λq=>nomatch q
  ·rw [ar z];exact h2
theorem SIx.one{i:Nat}{d:D}(S:SIx Z B md ρ σ H G fp)(hm:md.getD i 0=1)(h:ρ[i]? =some (some d)):∃l xs ds,d= .lst ds∧σ[i]? =some (some (.ref l))∧H l=some (.lst xs)∧ag Z G xs ds∧
  ∀dY dj,ag Z G dY dj→SIx Z B md (ρ.set i (some (.lst dj))) σ (upd H l (.lst dY)) G fp:=by
 obtain ⟨v,hv,o⟩:=S.at_ i d h;rw [hm] at o;obtain ⟨l,xs,ds,cx,rfl,rfl,hl,hf,ol⟩:=o.one;obtain ⟨dv,rfl⟩:=ol.flat;refine ⟨l,xs,ds,rfl,hv,hl,dv,λdY dj fk=>S.mut hv (by rw [hf];simp) ?_⟩
 rw [hm,hf];exact .inl ⟨l,dY,dj,[],rfl,rfl,ak,rfl,fk.own⟩
theorem bC.Ez:∀{ys:List V}{jd:List D}{cx:List Addr}(p:Nat){dp:D},bC (Own Z G H 1) ys jd cx→cx.Nodup→jd[p]? =some dp→∃l xs ds,dp= .lst ds∧ys[p]? =some (.ref l)∧H l=some (.lst xs)∧ag Z G xs ds∧l∈cx∧
  ∀dY dj,ag Z G dY dj→bC (Own Z G (upd H l (.lst dY)) 1) ys (jd.set p (.lst dj)) cx
 |_,_,_,_,_, .nil,_,h=>by simp at h
 |_,_,_,0,dp, .cons (f:=f) (fs:=fs) a as,nd,h=>by
  simp at h;subst h;obtain ⟨l,xs,ds,cx,rfl,rfl,hl,hf,ol⟩:=a.one;obtain ⟨dv,rfl⟩:=ol.flat;subst hf;refine ⟨l,xs,ds,rfl,rfl,hl,dv,by simp,λdY dj fk=> .cons (.inl ⟨l,dY,dj,[],rfl,rfl,ak,rfl,fk.own⟩) (as.imp λv d f hf r=>r.keep (.refl _) λb hb=>ar λz=>?_)⟩
  have:=(jN.mp nd).1
  exact this (by subst z;exact hf _ hb)
 |_,_,_,p+1,dp, .cons (f:=f) (fs:=fs) a as,nd,h=>by
  obtain ⟨OY,Dj,M9⟩:=List.nodup_append.mp nd;obtain ⟨l,xs,ds,e1,e2,e3,e4,e5,e6⟩:=bC.Ez p (dp:=dp) as Dj (by simpa using h)
  refine ⟨l,xs,ds,e1,by simpa using e2,e3,e4,dQ _ e5,λdY dj fk=>?_⟩
  refine .cons (a.keep (.refl _) λb hb=>ar λz=>?_) (e6 dY dj fk);exact M9 b hb l e5 z
theorem SIx.two{i p:Nat}{jd:List D}{dp:D}(S:SIx Z B md ρ σ H G fp)(hm:md.getD i 0=2)(h:ρ[i]? =some (some (.lst jd)))(hp:jd[p]? =some dp):∃T ys l xs ds,dp= .lst ds∧σ[i]? =some (some (.ref T))∧H T=some (.lst ys)∧ys.length=jd.length∧ys[p]? =some (.ref l)∧H l=some (.lst xs)∧ag Z G xs ds∧
  ∀dY dj,ag Z G dY dj→SIx Z B md (ρ.set i (some (.lst (jd.set p (.lst dj))))) σ (upd H l (.lst dY)) G fp:=by
 obtain ⟨v,hv,o⟩:=S.at_ i _ h;rw [hm] at o;obtain ⟨T,ys,OD,cx,rfl,e0,hT,hf,ol⟩:=o.lst;cases e0;have nd:=S.nd i;rw [hf] at nd;obtain ⟨nT,Dj⟩:=jN.mp nd;obtain ⟨l,xs,ds,e1,e2,e3,e4,e5,e6⟩:=bC.Ez p ol Dj hp;refine ⟨T,ys,l,xs,ds,e1,hv,hT,ol.length,e2,e3,e4,λdY dj fk=>S.mut hv (by rw [hf];exact fu _ e5) ?_⟩
 rw [hm,hf];exact .inl ⟨T,ys,_,cx,rfl,rfl,by rw [ar (λz=>nT (by rw [z];exact e5))];exact hT,rfl,e6 dY dj fk⟩
theorem ty_list{K:PySem.W.Frag}{l:Addr}{xs:List V}(h:H l=some (.lst xs)):A5 K "list" (.ref l) H:= .inl ⟨rfl,_,bq.of h⟩
def E2(md:List Nat)(m:Bool)(i:Nat)(te:aK):bE:=λE ρ=>∃ds,ρ[i]? =some (some (.lst ds))∧te (ub md m ρ) λd=>g0 m d∧ds.length<sizeLine∧E.nx (ρ.set i (some (.lst (ds++ [d]))))
theorem oM(m:Bool)(i:Nat){x:Str}{px:Pos}(he:DE Z X e te)(hm:md.getD i 0=1:=by rfl)(hi:X.N[i]? =some x:=by rfl)(hv:lj X.env.scope x:=by first|exact Or.inl rfl|exact Or.inr (Or.inl rfl) |exact Or.inr (Or.inr rfl))(hd:(x==("__debug__":Str))=false:=by decide)(cL:(x==("__classdict__":Str))=false:=by decide)
  (cy:attributeBase (.Name x px) "append" X.env (eval (.Name x px) X.env)=eval (.Name x px) X.env:=by rfl)
  (jk:((backTo aP (starEach [e] X.env)).all (λx=>!x.1)&&(backToKw aP (keywordEach [] X.env)).all (λx=>x.1.isSome)&&decide (([e]:List Expr).length+([]:List Keyword).length+(if ([]:List Keyword).isEmpty then 0 else 1)<30))=true:=by rfl)
  (cY:(apos.endLine==aP.line)=true:=by rfl) (hs:starEach [e] X.env=(false,eval e X.env)::starEach [] X.env:=by rfl) (dW:(backTo aP (starEach [] X.env)).any (·.1)=false:=by rfl)
  (iM:swapsWith (.Call (.Attribute (.Name x px) "append" apos) [e] [] aP) none pos.line X.env=pure false:=by rfl):
  DSt Z X md rn (.Expr (.Call (.Attribute (.Name x px) "append" apos) [e] [] aP) pos) (E2 md m i te):=by
 refine (gL (pQ PySem.F.plainAttrs_list PySem.F.slot_list_append PySem.F.type_list_append iO (pv i hi hv hd cL) (bL he fe hs) cy jk cY hs dW) iM).imp ?_;rintro D σ H ⟨B,ρ,E,⟨G,fp,S⟩,⟨ds,h1,h⟩,M⟩;obtain ⟨l,xs,_,_,e2,e3,_⟩:=S.one hm h1;refine ⟨_,e2,ty_list e3,S.ev m h λd hd=>⟨hd.1,λv G' H' S' x dv=>?_⟩⟩;obtain ⟨_,h2,h3⟩:=hd;obtain ⟨l',dY,dj,e1,fO,sN,aM,put⟩:=S'.one hm h1;cases e1;rw [e2] at fO;cases fO;exact ⟨l,dY,v,rfl,rfl,sN,by rw [aM.length];exact h2,M.nx _ h3 _ _ ⟨G',fp,put _ _ (aM.snoc dv)⟩⟩
theorem ag.ins{vs:List V}{ds:List D}{v:V}{d:D}(n:Nat)(h:ag Z G vs ds)(dv:Dv Z G v d):ag Z G (Wb.ins vs n v) (Wb.ins ds n d):=(h.take n).append (.cons dv (h.drop n))
def E5(md:List Nat)(m:Bool)(i:Nat)(tk te:aK):bE:=λE ρ=>∃ds,ρ[i]? =some (some (.lst ds))∧tk ρ λkk=>∃k,kk= .int k∧te (ub md m ρ) λd=>g0 m d∧(0≤k∧k≤ds.length∧ds.length<sizeLine)∧E.nx (ρ.set i (some (.lst (Wb.ins ds k.toNat d))))
theorem zH(m:Bool)(i:Nat){x:Str}{px:Pos}(hk:DE Z X k tk)(he:DE Z X e te)(hm:md.getD i 0=1:=by rfl)(hi:X.N[i]? =some x:=by rfl)(hv:lj X.env.scope x:=by first|exact Or.inl rfl|exact Or.inr (Or.inl rfl) |exact Or.inr (Or.inr rfl))(hd:(x==("__debug__":Str))=false:=by decide)(cL:(x==("__classdict__":Str))=false:=by decide)
  (cy:attributeBase (.Name x px) "insert" X.env (eval (.Name x px) X.env)=eval (.Name x px) X.env:=by rfl)
  (jk:((backTo aP (starEach [k,e] X.env)).all (λx=>!x.1)&&(backToKw aP (keywordEach [] X.env)).all (λx=>x.1.isSome)&&decide (([k,e]:List Expr).length+([]:List Keyword).length+(if ([]:List Keyword).isEmpty then 0 else 1)<30))=true:=by rfl)
  (cY:(apos.endLine==aP.line)=true:=by rfl) (hs:starEach [k,e] X.env=(false,eval k X.env)::starEach [e] X.env:=by rfl) (iL:starEach [e] X.env=(false,eval e X.env)::starEach [] X.env:=by rfl) (dW:(backTo aP (starEach [e] X.env)).any (·.1)=false:=by rfl)
  (iM:swapsWith (.Call (.Attribute (.Name x px) "insert" apos) [k,e] [] aP) none pos.line X.env=pure false:=by rfl):
  DSt Z X md rn (.Expr (.Call (.Attribute (.Name x px) "insert" apos) [k,e] [] aP) pos) (E5 md m i tk te):=by
 refine (gL (pQ PySem.F.plainAttrs_list PySem.F.slot_list_insert PySem.F.type_list_insert me (pv i hi hv hd cL) (bL hk (bL he fe iL) hs) cy jk cY hs dW) iM).imp ?_;rintro D σ H ⟨B,ρ,E,⟨G,fp,S⟩,⟨ds,h1,h⟩,M⟩;obtain ⟨l,xs,_,_,e2,e3,_⟩:=S.one hm h1;refine ⟨_,e2,ty_list e3,S.ev true h ?_⟩;rintro _ ⟨k,rfl,h⟩;refine ⟨rfl,λv1 G1 H1 S1 x1 xr=>S1.ev m h λd hd=>⟨hd.1,λv G' H' S' x dv=>?_⟩⟩;cases xr;obtain ⟨_,⟨h2,Ks,FL⟩,h3⟩:=hd;obtain ⟨l',dY,dj,e1,fO,sN,aM,put⟩:=S'.one hm h1;cases e1;rw [e2] at fO;cases fO;exact ⟨l,dY,k,v,rfl,rfl,sN,h2,by rw [aM.length];exact Ks,by rw [aM.length];exact FL,M.nx _ h3 _ _ ⟨G',fp,put _ _ (aM.ins _ dv)⟩⟩
theorem zt{α:Type}{xs:List α}{i:Int}{j n:Nat}{v:α}(hn:xs.length=n)(h:jq n i=some j)(e:xs[j]? =some v):ek xs i=some v:=by unfold ek;rw [hn,h];exact e
def sH(md:List Nat)(m:Bool)(i:Nat)(tp tk te:aK):bE:=λE ρ=>∃jd,ρ[i]? =some (some (.lst jd))∧tp ρ λpp=>∃p j ds,pp= .int p∧jq jd.length p=some j∧jd[j]? =some (.lst ds)∧
 tk ρ λkk=>∃q,kk= .int q∧te (ub md m ρ) λd=>g0 m d∧(0≤q∧q≤ds.length∧ds.length<sizeLine)∧E.nx (ρ.set i (some (.lst (jd.set j (.lst (Wb.ins ds q.toNat d))))))
theorem qD(m:Bool)(i:Nat){x:Str}{px ps:Pos}{r:Expr}(hp:DE Z X r tp)(hk:DE Z X k tk)(he:DE Z X e te)(hm:md.getD i 0=2:=by rfl)(K6:lh r:=by exact λ_ _=>rfl)(hi:X.N[i]? =some x:=by rfl)(hv:lj X.env.scope x:=by first|exact Or.inl rfl|exact Or.inr (Or.inl rfl) |exact Or.inr (Or.inr rfl))(hd:(x==("__debug__":Str))=false:=by decide)(cL:(x==("__classdict__":Str))=false:=by decide)
  (cy:attributeBase (.Subscript (.Name x px) r ps) "insert" X.env (eval (.Subscript (.Name x px) r ps) X.env)=eval (.Subscript (.Name x px) r ps) X.env:=by rfl)
  (jk:((backTo aP (starEach [k,e] X.env)).all (λx=>!x.1)&&(backToKw aP (keywordEach [] X.env)).all (λx=>x.1.isSome)&&decide (([k,e]:List Expr).length+([]:List Keyword).length+(if ([]:List Keyword).isEmpty then 0 else 1)<30))=true:=by rfl)
  (cY:(apos.endLine==aP.line)=true:=by rfl) (hs:starEach [k,e] X.env=(false,eval k X.env)::starEach [e] X.env:=by rfl) (iL:starEach [e] X.env=(false,eval e X.env)::starEach [] X.env:=by rfl) (dW:(backTo aP (starEach [e] X.env)).any (·.1)=false:=by rfl)
  (iM:swapsWith (.Call (.Attribute (.Subscript (.Name x px) r ps) "insert" apos) [k,e] [] aP) none pos.line X.env=pure false:=by rfl):
  DSt Z X md rn (.Expr (.Call (.Attribute (.Subscript (.Name x px) r ps) "insert" apos) [k,e] [] aP) pos) (sH md m i tp tk te):=by
 refine (gL (pQ PySem.F.plainAttrs_list PySem.F.slot_list_insert PySem.F.type_list_insert me (yB rf (pv i hi hv hd cL) hp K6) (bL hk (bL he fe iL) hs) cy jk cY hs dW) iM).imp ?_;rintro D σ H ⟨B,ρ,E,⟨G,fp,S⟩,⟨jd,h1,h⟩,M⟩;obtain ⟨v0,ya,o⟩:=S.at_ i _ h1;refine ⟨_,ya,S.ev true h ?_⟩;rintro _ ⟨p,j,ds,rfl,hj,hd,h⟩;refine ⟨rfl,λv1 G1 H1 S1 x1 xr=>?_⟩;cases xr;obtain ⟨T,ys,l,xs,dj,e1,e2,e3,e4,e5,e6,aM,_⟩:=S1.two hm h1 hd;rw [e2] at ya;cases ya;refine ⟨T,ys,p, .ref l,rfl,rfl,bq.of e3,zt e4 hj e5,ty_list e6,S1.ev true h ?_⟩;rintro _ ⟨q,rfl,h⟩;refine ⟨rfl,λv2 G2 H2 S2 x2 oN=>S2.ev m h λd gr=>⟨gr.1,λv G' H' S' x dv=>?_⟩⟩;cases oN;obtain ⟨T',Oh,l',dY,OE,Kh,fO,sN,OF,Fx,Ki,xu,put⟩:=S'.two hm h1 hd;cases Kh;rw [e2] at fO;cases fO
 have:Oh=ys:=by
  have:=(x2.trans x).hh _ _ e3
  rw [sN] at this;cases this;rfl
 rw [this,e5] at Fx;cases Fx;obtain ⟨_,⟨q1,q2,q3⟩,q4⟩:=gr;exact ⟨l,dY,q,v,rfl,rfl,Ki,q1,by rw [xu.length];exact q2,by rw [xu.length];exact q3,M.nx _ q4 _ _ ⟨G',fp,put _ _ (xu.ins _ dv)⟩⟩
def zB(md:List Nat)(m:Bool)(i:Nat)(tk te:aK):bE:=λE ρ=>te (ub md m ρ) λd=>g0 m d∧∃ds,ρ[i]? =some (some (.lst ds))∧tk ρ λkk=>∃k j,kk= .int k∧jq ds.length k=some j∧E.nx (ρ.set i (some (.lst (ds.set j d))))
theorem nD(m:Bool)(i:Nat){x:Str}{px ps:Pos}(hk:DE Z X k tk)(he:DE Z X e te)(hm:md.getD i 0=1:=by rfl)(hi:X.N[i]? =some x:=by rfl)(hv:lj X.env.scope x:=by first|exact Or.inl rfl|exact Or.inr (Or.inl rfl) |exact Or.inr (Or.inr rfl))(hd:(x==("__debug__":Str))=false:=by decide)(cL:(x==("__classdict__":Str))=false:=by decide)
  (ha:∀v,assign (.Subscript (.Name x px) k ps) X.env v=(do
   let ov ←holding [v] (eval (.Name x px) X.env)
   let iv ←holding [v,ov] (eval k X.env)
   standAt ps
   holding [v,ov,iv] (setItem ov iv v)
   release [v,ov,iv] []):=by intro _;rfl)
  (hs:swapsWithSole [.Subscript (.Name x px) k ps] e pos.line X.env=pure false:=by rfl) (hw:swappedStores [.Subscript (.Name x px) k ps] e X.env=pure none:=by rfl)
  (h1:(assignEach [.Subscript (.Name x px) k ps] X.env).map (·.2)= [assign (.Subscript (.Name x px) k ps) X.env]:=by rfl):DSt Z X md rn (.Assign [.Subscript (.Name x px) k ps] e pos) (zB md m i tk te):=by
 refine (uR he (AE (pv i hi hv hd cL) hk set_list ha) hs hw h1).imp ?_;rintro D σ H ⟨B,ρ,E,⟨G,fp,S⟩,h,M⟩;refine S.ev m h λd hd=>⟨hd.1,λv G' H' S' x dv=>?_⟩;obtain ⟨_,ds,h1,h⟩:=hd;obtain ⟨l,xs,_,_,e2,e3,_⟩:=S'.one hm h1;refine ⟨_,e2,S'.ev true h ?_⟩;rintro _ ⟨k,j,rfl,hj,h3⟩;refine ⟨rfl,λv1 G1 H1 S1 x1 xr=>?_⟩;cases xr;obtain ⟨l',dY,dj,e1,fO,sN,aM,put⟩:=S1.one hm h1;cases e1;rw [e2] at fO;cases fO;exact ⟨l,dY,k,j,rfl,rfl,sN,by rw [aM.length];exact hj,M.nx _ h3 _ _ ⟨G1,fp,put _ _ (aM.set (dv.mono x1.gg) j)⟩⟩
def Fb(md:List Nat)(i j:Nat):bE:=λE ρ=>∃ds d,ρ[j]? =some (some (.lst (ds++ [d])))∧E.nx ((ρ.set j (some (.lst ds))).set i (some d))
theorem zI(i j:Nat){x y:Str}{px py:Pos}(hN:X.N.Nodup)(hm:md.getD i 0=0:=by rfl)(KU:md.getD j 0=1:=by rfl)(hi:X.N[i]? =some x:=by rfl)(hx:Loc X.env.scope x:=by first|exact Or.inl rfl|exact Or.inr rfl)
  (hj:X.N[j]? =some y:=by rfl) (hv:lj X.env.scope y:=by first|exact Or.inl rfl|exact Or.inr (Or.inl rfl) |exact Or.inr (Or.inr rfl)) (hd:(y==("__debug__":Str))=false:=by decide) (cL:(y==("__classdict__":Str))=false:=by decide)
  (cy:attributeBase (.Name y py) "pop" X.env (eval (.Name y py) X.env)=eval (.Name y py) X.env:=by rfl) (cY:(apos.endLine==aP.line)=true:=by rfl)
  (hs:swapsWith (.Call (.Attribute (.Name y py) "pop" apos) [] [] aP) (some (.Name x px)) pos.line X.env=pure false:=by rfl)
  (hf:X.fn x=true∨X.env.scope.names.lookup x=some .local:=by first|exact .inl rfl|exact .inr rfl|assumption):DSt Z X md rn (.Assign [.Name x px] (.Call (.Attribute (.Name y py) "pop" apos) [] [] aP) pos) (Fb md i j):=by
 refine (pT hN hi hx (Aw PySem.F.plainAttrs_list PySem.F.slot_list_pop PySem.F.type_list_pop Ae (pv j hj hv hd cL) cy cY) hs hf).imp ?_;rintro D σ H ⟨B,ρ,E,⟨G,fp,S⟩,⟨ds,d,h1,h⟩,M⟩;obtain ⟨l,xs,dj,e1,e2,e3,aM,put⟩:=S.one KU h1;cases e1;have hl:xs.length=ds.length+1:=by rw [aM.length];simp
 obtain ⟨v,tE,dv⟩:=aM.get (i:=xs.length-1) (d:=d) (by rw [hl];simp)
 refine ⟨_,e2,ty_list e3,l,xs,v,rfl,rfl,e3,tE,M.nx _ h _ _ ⟨G,_,(put xs.dropLast ds ?_).rQ hm dv⟩⟩
 have:=aM.take ds.length
 rw [List.take_left'] at this
 ·rw [List.dropLast_eq_take,hl];exact this
 ·rfl
theorem SIx.AM{j:Nat}{d:D}(S:SIx Z B md ρ σ H G fp)(h:ρ[j]? =some (some d)):∃v,σ[j]? =some (some v)∧Dv Z (plus G H λb=>b∈fp j) v d∧SIx Z B md (ρ.set j none) σ H (plus G H λb=>b∈fp j) (λk=>if k=j then [] else fp k):=by
 have s:=S.ex.sub;obtain ⟨v,hv,o⟩:=S.at_ j d h;refine ⟨v,hv,o.dv (cF s) λb hb u e=>by rw [gK hb];exact e,?_⟩
 refine ⟨⟨S.ex.gg.trans (cF s),hJ s,S.ex.hh,λb hb hg=>?_⟩,S.fl.trans (cF s),by rw [dS];exact S.len,λk c hk=>?_,λk=>by split;exact jO;exact S.nd k,λk k' b ne hk qU=>?_,λk b hb=>?_⟩
 ·rw [ee (λz=>hb (S.nw j b z).1)];exact S.ex.off b hb hg
 ·by_cases z:j=k
  ·subst z
   by_cases hl:j<ρ.length
   ·rw [gn hl] at hk;cases hk
   ·rw [n5 (cS hl),dq (cS hl)] at hk;cases hk
  ·rw [iC z] at hk
   obtain ⟨u,hu,ow⟩:=S.at_ k c hk;exact ⟨u,hu,by rw [if_neg (Ne.symm z)];exact ow.keep (cF s) λ_ _=>rfl⟩
 ·split at hk
  ·cases hk
  ·split at qU
   ·cases qU
   ·exact S.ap k k' b ne hk qU
 ·split at hb
  ·cases hb
  ·next z=>
   obtain ⟨h1,h2,h3⟩:=S.nw k b hb;exact ⟨h1,h2,by rw [ee (λw=>S.ap k j b z hb w)];exact h3⟩
def Cq(md:List Nat)(i j:Nat):bE:=λE ρ=>∃ds d,ρ[i]? =some (some (.lst ds))∧ρ[j]? =some (some d)∧ds.length<sizeLine∧E.nx ((ρ.set j none).set i (some (.lst (ds++ [d]))))
theorem xq(i j:Nat){x y:Str}{px py:Pos}(ij:i≠j:=by decide)(hm:md.getD i 0=1:=by rfl)(hj:X.N[j]? =some y:=by rfl)(Lf:lj X.env.scope y:=by first|exact Or.inl rfl|exact Or.inr (Or.inl rfl) |exact Or.inr (Or.inr rfl))(KI:(y==("__debug__":Str))=false:=by decide)(FX:(y==("__classdict__":Str))=false:=by decide)(hi:X.N[i]? =some x:=by rfl)(hv:lj X.env.scope x:=by first|exact Or.inl rfl|exact Or.inr (Or.inl rfl) |exact Or.inr (Or.inr rfl))(hd:(x==("__debug__":Str))=false:=by decide)(cL:(x==("__classdict__":Str))=false:=by decide)
  (cy:attributeBase (.Name x px) "append" X.env (eval (.Name x px) X.env)=eval (.Name x px) X.env:=by rfl)
  (jk:((backTo aP (starEach [.Name y py] X.env)).all (λx=>!x.1)&&(backToKw aP (keywordEach [] X.env)).all (λx=>x.1.isSome)&&decide (([.Name y py]:List Expr).length+([]:List Keyword).length+(if ([]:List Keyword).isEmpty then 0 else 1)<30))=true:=by rfl)
  (cY:(apos.endLine==aP.line)=true:=by rfl) (hs:starEach [.Name y py] X.env=(false,eval (.Name y py) X.env)::starEach [] X.env:=by rfl) (dW:(backTo aP (starEach [] X.env)).any (·.1)=false:=by rfl)
  (iM:swapsWith (.Call (.Attribute (.Name x px) "append" apos) [.Name y py] [] aP) none pos.line X.env=pure false:=by rfl):
  DSt Z X md rn (.Expr (.Call (.Attribute (.Name x px) "append" apos) [.Name y py] [] aP) pos) (Cq md i j):=by
 refine (gL (pQ PySem.F.plainAttrs_list PySem.F.slot_list_append PySem.F.type_list_append iO (pv i hi hv hd cL) (bL (pv j hj Lf KI FX) fe hs) cy jk cY hs dW) iM).imp ?_;rintro D σ H ⟨B,ρ,E,⟨G,fp,S⟩,⟨ds,d,h1,h2,hz,h⟩,M⟩;obtain ⟨v,tE,dv,S'⟩:=S.AM h2;have Kr:(ρ.set j none)[i]? =some (some (.lst ds)):=by rw [iC (Ne.symm ij)];exact h1
 obtain ⟨l,xs,dj,e1,e2,e3,aM,put⟩:=S'.one hm Kr;cases e1;exact ⟨_,e2,ty_list e3,_,tE,l,xs,v,rfl,rfl,e3,by rw [aM.length];exact hz,M.nx _ h _ _ ⟨_,_,put _ _ (aM.snoc dv)⟩⟩
end
structure D9 (mg:Str→Option Value):Prop where
 len:mg "len"=none
 range:mg "range"=none
 max:mg "max"=none
 min:mg "min"=none
 enumerate:mg "enumerate"=none
 zip:mg "zip"=none
 sorted:mg "sorted"=none
 all:mg "all"=none
 isinstance:mg "isinstance"=none
 int:mg "int"=none
 bool:mg "bool"=none
 list:mg "list"=none
 tuple:mg "tuple"=none
 sum:mg "sum"=none
 reversed:mg "reversed"=none
theorem zv:bootBuiltins "min"=some (.builtin "min"):=by decide+kernel
theorem wR:bootBuiltins "bool"=some (.type "bool"):=by decide+kernel
theorem uk:bootBuiltins "int"=some (.type "int"):=by decide+kernel
theorem lx:bootBuiltins "list"=some (.type "list"):=by decide+kernel
theorem u7:bootBuiltins "tuple"=some (.type "tuple"):=by decide+kernel
theorem cH:bootBuiltins "len"=some (.builtin "len"):=by decide+kernel
section
variable {P:Program} {w:World} {K:PySem.W.Frag} {mg:Str→Option Value} {base:Heap} {Z:DC}
def dh(N:List Str)(ds:List D):DN:=ds.map some++List.replicate (N.length-ds.length) none
def rz(Z:DC)(n:Nat)(sd:bX):Sp:=λvs H Q _=>∃(G:Hp)(ds:List D)(P:D→Prop),az G H∧ag Z G vs ds∧sd ds P∧∀d,P d→∀v f G' H',Ext G H G' H'→Own Z G' H' n v d f→f.Nodup→(∀b∈f,H b=none∧H' b≠none∧G' b=none)→Q v H'
theorem Own.pure{n:Nat}{v:V}{d:D}{f:List Addr}{G H G' H':Hp}(x:Ext G H G' H')(o:Own Z G' H' n v d f)(nw:∀b∈f,H b=none∧H' b≠none∧G' b=none):∃G2,Ext G H G2 H'∧Dv Z G2 v d:=by
 refine ⟨plus G' H' λb=>b∈f,⟨x.gg.trans (cF x.sub),hJ x.sub,x.hh,λb hb hg=>?_⟩,o.dv (cF x.sub) λb hb u e=>by rw [gK hb];exact e⟩
 rw [ee (λz=>hb (nw b z).1)];exact x.off b hb hg
theorem N6{n:Nat}{sd:bX}:∀vs H Q E,aB Z sd vs H Q E→rz Z n sd vs H Q E:=by
 rintro vs H Q E ⟨G,ds,P,s,dv,h,q⟩;exact ⟨G,ds,P,s,dv,h,λd hd v f G' H' x o nd nw=>let ⟨G2,x2,oN⟩:=o.pure x nw;q d hd v G2 H' x2 oN⟩
theorem vo(rn:Nat){x qual:Str}{st:Stmt}{f:Addr}{fd:FuncData}{N ps:List Str}{k:Nat}{sd:bX}(F:ib K x qual st f fd)(S:ax N ps (af st))(md:List Nat)(tu:∀i,i<ps.length→md.getD i 0=0)(len:∀ds P,sd ds P→ds.length=ps.length)
  (cz:∀(aF:Value)(A:Around)(outer:List Env)(s:Shared)(H:Hp)(E:XK)(ds:List D)(R:D→Prop),aW k (A.deeper (envOfC qual (af st) s.heap.objs.size f aF))→sd ds R→
   ∃t,ia Z (el bu P w K mg base N qual (af st) f aF A outer s H E).mj md rn (bx st) t∧t {nx:=λ_=>rn=0∧R .aC,rt:=R} (dh N ds)):FnOk P w K mg base bu (k+1) f fd ps (rz Z rn sd):=by
 refine F.ok S (λvs H Q E h=>?_) (λaF A outer s H vs Q E hr h=>?_)
 ·obtain ⟨G,ds,R,s,dv,h,q⟩:=h
  rw [dv.length];exact len _ _ h
 obtain ⟨G,ds,R,s0,dv,h,q⟩:=h;have Gd:=q;obtain ⟨t,ht,hq⟩:=cz aF A outer s H E ds R hr h;have hl:=len _ _ h;refine ⟨_,ht,⟨G,H,G⟩,_,_,⟨G,λ_=> [],?_⟩,hq,⟨λρ vG aq H' ⟨G',fp,S'⟩=>q _ vG.2 _ [] G' H' S'.ex (by rw [vG.1];exact ⟨.aC,rfl⟩) jO (λb hb=>by cases hb),Gd,λ_ z=>z.elim,λ_ z=>z.elim,λ_ _ z=>z.elim⟩⟩
 refine ⟨.refl s0, .refl _,by unfold dh start;simp [dv.length],λi d hi=>?_,λ_=>jO,(λ_ _ _ _ z=>by cases z),(λ_ _ z=>by cases z)⟩
 unfold dh at hi
 have qT:i<ds.length:=by
  apply Classical.byContradiction;intro z;rw [n4 (by simpa using cS z),jK] at hi
  split at hi<;>cases hi
 rw [jJ (by simpa using qT),cP] at hi
 have gr:ds[i]? =some d:=by
  cases z:ds[i]? with
  |none=>rw [z] at hi;cases hi
  |some d'=>rw [z] at hi;cases hi;rfl
 obtain ⟨v,hv,fk⟩:=dv.get gr;refine ⟨v,?_,by rw [tu i (by omega)];exact ⟨fk,rfl⟩⟩
 unfold start;rw [jJ (by simpa [dv.length] using qT),cP,hv];rfl
theorem aQ{x qual:Str}{st:Stmt}{f:Addr}{fd:FuncData}{N ps:List Str}{k:Nat}{sd:bX}(F:ib K x qual st f fd)(S:ax N ps (af st))(md:List Nat)(tu:∀i,i<ps.length→md.getD i 0=0)(len:∀ds P,sd ds P→ds.length=ps.length)
  (cz:∀(aF:Value)(A:Around)(outer:List Env)(s:Shared)(H:Hp)(E:XK)(ds:List D)(R:D→Prop),aW k (A.deeper (envOfC qual (af st) s.heap.objs.size f aF))→sd ds R→
   ∃t,ia Z (el bu P w K mg base N qual (af st) f aF A outer s H E).mj md 0 (bx st) t∧t {nx:=λ_=>0=0∧R .aC,rt:=R} (dh N ds)):FnOk P w K mg base bu (k+1) f fd ps (aB Z sd):=
 (vo 0 F S md tu len λaF A outer s H E ds R hr h=>let ⟨t,a,b⟩:=cz aF A outer s H E ds R hr h;⟨t,a,b⟩).imp N6
end
section
variable {Z:DC} {X:Cx} {a b c e o:Expr} {ta tb te:aK} {t:eh} {es:List Expr} {pos apos:Pos}
theorem qG{G:Hp}:∀{vs:List V}{ns:List Int},ag Z G vs (ns.map D.int)→vs=ns.map V.int
 |vs,[],h=>by cases h;rfl
 |vs,b::bs,h=>by
  cases h with
  |cons a as=>cases a;rw [qG as];rfl
end
structure wJ (Z:DC):Prop where
 cl:mK Z.K Z.C
 nR:fM Z.K Z.C "rows"
section
variable {Z:DC} {X:Cx} {a b c e o:Expr} {ta tb te:aK} {t:eh} {es:List Expr} {pos apos:Pos}
def Cz(ta:aK):aK:=λρ P=>ta ρ λd=>∃w,d= .fG w∧P (aO w)
theorem qC(T:wJ Z)(ha:DE Z X o ta)(eK:X.K=Z.K:=by rfl)(hb:attributeBase o "rows" X.env (eval o X.env)=eval o X.env:=by rfl):DE Z X (.Attribute o "rows" apos) (Cz ta):=by
 refine (Ax ha hb).imp ?_;rintro σ H Q ⟨G,ρ,P,s,en,h,q⟩;refine ⟨G,ρ,_,s,en,h,?_⟩;rintro _ ⟨w,rfl,hd⟩ v G1 H1 x1 dv;cases dv with
 | @fG p dx R w hp hr g h1 h2=>exact ⟨p,Z.C,dx,_, .ref R,rfl,x1.sub _ _ hp,by rw [eK];exact T.cl,by rw [eK];exact T.nR,rfl,q _ hd _ G1 H1 x1 hr⟩
def w6(sd:bX)(ta:aK)(t:eh):aK:=λρ P=>ta ρ λd=>∃w,d= .fG w∧t ρ λds=>sd (.fG w::ds) P
theorem vL{m:Str}{sd:bX}(hm:([("rows",V.ref 0)]:List (Str×V)).lookup m=none):∀σ H Q,bP Z (w6 sd ta t) σ H Q→za Z.C m (aB Z sd) [] E0 (bP Z ta) (lU Z t) σ H Q:=by
 rintro σ H Q ⟨G,ρ,P,s,en,h,q⟩;refine ⟨G,ρ,_,s,en,h,?_⟩;rintro _ ⟨w,rfl,hd⟩ v G1 H1 x1 dv;have Ke:=dv;cases dv with
 | @fG p dx R w hp hr g h1 h2=>
  refine ⟨p,dx,_,rfl,x1.sub _ _ hp,?_,G1,ρ,_,x1.sub,en.mono x1.gg,hd,λds vB vs G2 H2 x2 aM=>?_⟩
  ·have hz:(m==("rows":Str))=false:=by
    cases z:(m==("rows":Str)) with
    |false=>rfl
    |true=>simp [List.lookup,z] at hm
   simp [List.lookup,hz]
  ·show aB Z sd (V.ref p::(vs++ [])) H2 Q E0
   rw [gq];exact ⟨G2,_,P,x2.sub, .cons (Ke.mono x2.gg) aM,vB,λd hd v G3 H3 x3 Kf=>q d hd v G3 H3 ((x1.trans x2).trans x3) Kf⟩
variable {sd:bX} {k:Nat} {f:Addr} {fd:FuncData} {ps:List Str} {m:Str}
theorem gX{pl:Sem Bool}(T:wJ Z)(ho:DE Z X o ta)(hm:Meth Z.K Z.C m f)(F:FnOk X.prog X.w X.K X.mg X.base bu k f fd ps (aB Z sd))(hr:aW k X.A)(hb:Binds X.K fd ps [])(eK:X.K=Z.K:=by rfl)
  (KW:([("rows",V.ref 0)]:List (Str×V)).lookup m=none:=by decide)
  (ht:eval (.Call (.Attribute o m apos) [] [] pos) X.env=(do
   let ov ←eval o X.env
   standAt apos.atName
   let (f,first) ←holding [ov] (getMethod ov m pl)
   callWith pos f first (backTo pos (starEach [] X.env)) (backToKw pos (keywordEach [] X.env))):=by rfl):DE Z X (.Call (.Attribute o m apos) [] [] pos) (w6 sd ta eo):=
 (vY (pl:=pl) ho (by rw [eK];exact T.cl) (by rw [eK];exact hm) F hr hb .nil tQ ht).imp λσ H Q h=>by
  obtain ⟨G,ρ,P,s,en,h,q⟩:=vL KW σ H Q h;refine ⟨G,ρ,P,s,en,h,λd hd v G1 H1 x1 dv=>?_⟩;obtain ⟨p,dx,fs,h1,h2,h3,G',aw,P',s',OG,h',q'⟩:=q d hd v G1 H1 x1 dv;exact ⟨p,dx,fs,h1,h2,h3,q' _ h' _ G' _ (.refl s') .nil⟩
def rU(Z:DC):Sp:=λvs H Q _=>∃(p dx:Addr)(v:V)(G:Hp)(w:List (List Nat)),vs= [.ref p,v]∧H p=some (.ins Z.C dx [])∧az G H∧G p=none∧Dv Z G v (aO w)∧Wb.Good w∧1≤w.length∧w.length≤14∧
 ∀(R:Addr)(G' H':Hp),az G G'→az G' H'→(∀b o,H b=some o→b≠p→H' b=some o)→(∀b,H b≠none→G b=none→G' b=none)→H' p=some (.ins Z.C dx [("rows", .ref R)])→Dv Z G' (.ref R) (aO w)→Q .aC H'
def Cw(t:eh):aK:=λρ P=>t ρ λds=>∃w,ds= [aO w]∧Wb.Good w∧1≤w.length∧w.length≤14∧P (.fG w)
theorem xj{x:Str}{p:Pos}(M:Mk Z.K Z.C f)(F:FnOk X.prog X.w X.K X.mg X.base bu k f fd ps (rU Z))(hr:aW (k+1) X.A)(hg:Gl X x)(hm:X.mg x=some (.ref Z.C))(hb:Binds X.K fd ps [])
  (ha:DA Z X (e::es) t) (eK:X.K=Z.K:=by rfl) (cC:(x==("__debug__":Str))=false:=by decide) (he:starEach (e::es) X.env=(false,eval e X.env)::starEach es X.env:=by rfl) (b3:(backTo pos (starEach es X.env)).any (·.1)=false:=by rfl):
  DE Z X (.Call (.Name x p) (e::es) [] pos) (Cw t):=by
 refine (yC (by rw [eK];exact M) F hr hg hm hb .nil tQ ha cC he b3).imp ?_
 rintro σ H Q ⟨G,ρ,P,s,en,h,q⟩;refine ⟨G,ρ,_,s,en,h,?_⟩;rintro _ ⟨w,rfl,g,h1,dD,hp⟩ vs G1 H1 x1 aM p dx hx KJ ne;cases aM with
 | @cons v _ _ _ dv aM=>
  cases aM;have C7:upd H1 dx (.own p) p=none:=by rw [ar (Ne.symm ne)];exact hx
  have sJ:=(aH KJ (.own p)).trans (aH C7 (.ins Z.C dx []));refine ⟨p,dx,v,G1,w,rfl,ak,x1.sub.trans sJ,x1.sub.free hx,dv,g,h1,dD,λR G2 H2 g1 g2 kp off K2 oN=>⟨rfl,?_⟩⟩;have gp:G2 p=none:=off p (by rw [ak];exact λz=>nomatch z) (x1.sub.free hx)
  refine q _ hp _ (upd G2 p (.ins Z.C dx [("rows", .ref R)])) H2 ⟨(x1.gg.trans g1).trans (aH gp _),λb o e=>?_,λb o e=>?_,λb hb hg=>?_⟩ (.fG ak (oN.mono (aH gp _)) g h1 dD)
  ·by_cases z:b=p
   ·subst z;rw [ak] at e;cases e;exact K2
   ·rw [ar z] at e;exact g2 _ _ e
  ·have e1:=x1.hh _ _ e
   exact kp b o (sJ _ _ e1) (aE e1 hx)
  ·have FR:=dn x1.hh hb
   have nb:b≠p:=λz=>FR (by rw [z];exact hx)
   rw [ar nb];exact off b (dn sJ FR) (x1.off b hb hg)
end
section
variable {Z:DC} {X:Cx} {pos:Pos}
def yh(g:cf)(tf:kJ):List D→DN→List D→(List D→Prop)→Prop
 | [],_,acc,N=>N acc
 |x::xs,ρ,acc,N=>g x ρ λbD=>tf bD λds=>acc.length<sizeLine∧yh g tf xs bD (acc++ [.lst ds]) N
def BC(wi:fK)(g:cf)(tf:kJ)(src:List (Option Nat)):kJ:=λρ P=>wi ρ λds=>yh g tf ds (nZ src ρ) [] P
def Ea(Z:DC)(n:Nat)(G1 H1:Hp)(Ad:Addr)(ρ:DN)(acc:List D)(σ:St)(H:Hp):Prop:=
 ∃(G:Hp)(ys:List V)(fs:List Addr),az G1 G∧az G H∧az H1 H∧(∀b,H1 b≠none→G1 b=none→G b=none)∧H Ad=some (.lst ys)∧bC (Own Z G H n) ys acc fs∧(Ad::fs).Nodup∧(∀b∈Ad::fs,H1 b=none∧H b≠none∧G b=none)∧bF Z G σ ρ
theorem bC.snoc{R:V→D→List Addr→Prop}:∀{vs:List V}{ds:List D}{fs:List Addr}{v:V}{d:D}{f:List Addr},bC R vs ds fs→R v d f→bC R (vs++ [v]) (ds++ [d]) (fs++f)
 |_,_,_,v,d,f, .nil,r=>by simpa using bC.cons r .nil
 |_,_,_,v,d,f, .cons a as,r=>by rw [List.append_assoc];exact .cons a (as.snoc r)
theorem vK{n:Nat}{src:List (Option Nat)}{wi:fK}{g:cf}{tf:kJ}:∀σ H Q,lX Z (n+1) (BC wi g tf src) σ H Q→y9 (pE Z wi) (lY Z g) ze (lX Z n tf) src σ H Q:=by
 rintro σ H Q ⟨G,ρ,P,s,en,h,q⟩;refine ⟨G,ρ,_,s,en,h,λds hd J G1 H1 x1 it Ad hA=>?_⟩;refine ⟨λi m eX H2=>m=ds.length-i∧i≤ds.length∧∃eW acc,Ea Z n G1 H1 Ad eW acc eX H2∧yh g tf (ds.drop i) eW acc P,⟨_,rfl,iD _,_,[],⟨G1,[],[], .refl _,λb o e=>?_,aH hA _,λ_ _ h=>h,ak, .nil,by simp,λb hb=>?_,(en.mono x1.gg).src src⟩,hd⟩,?_⟩
 ·rw [ar (aE e (x1.sub.free hA))];exact x1.sub _ _ e
 ·have:b=Ad:=by simpa using hb
  subst this;exact ⟨hA,(by rw [ak];exact λz=>nomatch z),x1.sub.free hA⟩
 rintro i m eX H2 ⟨rfl,hi,eW,acc,⟨G2,ys,fs,s1,s2,s3,off,lM,ol,nd,nw,Kj⟩,hl⟩
 by_cases dU:i<ds.length
 ·obtain ⟨go,_,yld⟩:=it G2 H2 s1 s2 i
  refine .inr ⟨go dU,λaq H'=>∃aw kh,Ea Z n G1 H1 Ad aw kh aq H'∧yh g tf (ds.drop (i+1)) aw kh P,λaq H' k=>⟨ds.length-(i+1),by omega,rfl,dU,k⟩,λx H3 y=>?_⟩
  obtain ⟨G3,d,x3,CQ,dv⟩:=yld x H3 dU y;rw [lJ CQ] at hl;refine ⟨G3,eW,d,_,x3.sub,Kj.mono x3.gg,dv,hl,λbD h1 gx sO=>?_⟩;unfold ze;dsimp only;rw [if_pos rfl];refine ⟨G3,bD,_,x3.sub,sO,h1,λdj gr v f G6 H6 x6 ow Kl FG=>?_⟩;have x:=x3.trans x6;have aA:Ad∈Ad::fs:=fI ..
  have j3:∀b∈Ad::fs,H6 b=H2 b∧G6 b=none:=λb hb=>by
   obtain ⟨_,q2,q3⟩:=nw b hb;refine ⟨?_,x.off b q2 q3⟩;cases e:H2 b with
   |none=>exact absurd e q2
   |some o=>exact x.hh _ _ e
  have Kt:H6 Ad=some (.lst ys):=by rw [(j3 Ad aA).1];exact lM
  have FD:∀b∈f,H2 b=none:=λb hb=>x3.hh.free (FG b hb).1;have FF:∀b∈f,∀c∈Ad::fs,b≠c:=λb hb c hc z=>(nw c hc).2.1 (by rw [←z];exact FD b hb)
  refine ⟨ys,Kt,by rw [ol.length];exact gr.1,bD,_,⟨G6,ys++ [v],fs++f,s1.trans x.gg,λb o e=>?_,λb o e=>?_,λb hb hg=>x.off b (dn s3 hb) (off b hb hg),ak,?_,?_,λb hb=>?_,sO.mono x6.gg⟩,gr.2⟩
  ·rw [ar (aE e (j3 Ad aA).2)];exact x.sub _ _ e
  ·rw [ar (aE e hA)];exact (s3.trans x.hh) _ _ e
  ·refine bC.snoc (ol.imp λv d f' hf r=>r.keep x.gg λb hb=>?_) (ow.keep (.refl _) λb hb=>?_)
   ·have oZ:b∈fs:=hf b hb
    rw [ar (λz=>(jN.mp nd).1 (by rw [←z];exact oZ))]
    exact (j3 b (fu _ oZ)).1
   ·exact ar (FF b hb Ad aA)
  ·rw [←List.cons_append]
   exact List.nodup_append.mpr ⟨nd,Kl,λa ha b hb=>Ne.symm (FF b hb a ha)⟩
  ·rw [←List.cons_append] at hb
   by_cases z:b=Ad
   ·subst z
    exact ⟨hA,(by rw [ak];exact λz=>nomatch z),(j3 b aA).2⟩
   ·rcases og.mp hb with hb|hb
    ·rw [ar z,(j3 b hb).1]
     exact ⟨(nw b hb).1,(nw b hb).2.1,(j3 b hb).2⟩
    ·rw [ar z]
     exact ⟨s3.free (FD b hb),(FG b hb).2⟩
 ·have e:ds.drop i= []:=u0 (by omega)
  rw [e] at hl;refine .inl ⟨(it G2 H2 s1 s2 i).2.1 (by omega),q _ hl (.ref Ad) (Ad::fs) G2 H2 ⟨x1.gg.trans s1,s2,x1.hh.trans s3,λb hb hg=>off b (dn x1.hh hb) (x1.off b hb hg)⟩ (.inl ⟨Ad,ys,acc,fs,rfl,rfl,lM,rfl,ol⟩) nd λb hb=>⟨x1.hh.free (nw b hb).1,(nw b hb).2⟩⟩
variable {tg iter elt:Expr} {scope:Scope} {NC:List Str} {src:List (Option Nat)} {wi:fK} {g:cf} {tf:kJ} {md:List Nat} {rn:Nat}
theorem sL(i:Nat){n:Nat}{x:Str}{px gT:Pos}(hc:X.calm=true)(hN:X.N.Nodup)(c:bw X scope)(dM:bN scope X.N src NC)(hi:DI Z X tg iter wi)
  (hg:∀ex s H,DG Z (dA X scope NC ex s H) tg g) (he:∀ex s H,DF Z (dA X scope NC ex s H) n elt tf)
  (iM:swapsWith (.ListComp elt [⟨tg,iter,[],0⟩] scope pos) (some (.Name x px)) gT.line X.env=pure true:=by rfl) (hm:md.getD i 0=n+1:=by rfl) (tj:X.N[i]? =some x:=by rfl) (hx:Loc X.env.scope x:=by first|exact Or.inl rfl|exact Or.inr rfl)
  (hf:X.fn x=true∨X.env.scope.names.lookup x=some .local:=by first|exact .inl rfl|exact .inr rfl|assumption)
  (hs:∀x,foldedSetIterable iter X.env x=pure x:=by intro _;rfl):DSt Z X md rn (.Assign [.Name x px] (.ListComp elt [⟨tg,iter,[],0⟩] scope pos) gT) (xb md i (BC wi g tf src)):=by
 refine (ke hc hN tj hx c dM hi hg (λ_ _ _=>rN) he iM hf hs).imp ?_;rintro D σ H ⟨B,ρ,E,⟨G,fp,S⟩,h,M⟩;exact vK σ H _ (j5 hm S h M)
end
abbrev dZ:=inClass
structure sv (Z:DC) (m qual:Str) (st:Stmt) (ps:List Str) where
 f:Addr
 fd:FuncData
 F:ib Z.K m qual st f fd
 b:Binds Z.K fd ps []
 m:Meth Z.K Z.C m f
def jG(K:PySem.W.Frag):Sp:=λvs H Q _=>∃(a:Addr)(ns:List Int),vs= [.ref a]∧bq K H a (ns.map V.int)∧ns.length≤63∧∀H',Q (.bl true) H'
def uV:bX:=λds P=>∃ns:List Int,ds= [.fY ns]∧ns.length≤63∧P (.bl true)
theorem z8{Z:DC}:∀vs H Q E,jG Z.K vs H Q E→aB Z uV vs H Q E:=by
 rintro vs H Q E ⟨a,ns,rfl,hS,hl,q⟩;exact ⟨H,[.fY ns],λd=>d= .bl true, .refl _, .cons (.fY hS hl) .nil,⟨ns,rfl,hl,rfl⟩,λd hd v G' H' x dv=>by subst hd;cases dv;exact q H'⟩
theorem D3(k:Nat){l:PySem.W.OpenLaw}{q:Program}{loose:List Str}{XP:(Str→Option Value)→Heap→Prop}{YP:World→Heap→Prop}{d:DefRec}{K:Params→PySem.W.Frag}(OM:3*k<150)(hn:l.most=some 63)(td:d.params.defaults= [])
  (hY:∀(w:World)(h:Heap),YP w h→(K w.params).In h)
  (F:∀(w:World)(mg:Str→Option Value)(fa:Addr)(h:Heap),(K w.params).In h→h.Ns mainGlobals mg→mg d.name=some (.ref fa)→
   ∃fd:FuncData,(∀(s:Shared)(u:Value),BindsTo s fd ⟨[u],[]⟩ [("_law_script",u)])∧∀base:Heap,(K w.params).In base→base.Ns mainGlobals mg→FnOk l.prog w (K w.params) mg base bu k fa fd ["_law_script"] (jG (K w.params))):
  PySem.W.WalkO q loose XP YP l.row.toRowW d [] (λf vs=>PySem.call f vs):=
 L2.zj (n:=63) (k:=50) (x:="_law_script") (CX:=λ_=>bu) (sp:=λw=>jG (K w.params)) hn (by decide) td ⟨rfl,by decide,by decide⟩ hY (λw mg fa h a b c=>by
  obtain ⟨fd,h1,h2⟩:=F w mg fa h a b c;exact ⟨fd,h1,λbase x y=>(h2 base x y).mono (by omega)⟩) (λ_ _ a ns hl _ hS=>⟨a,ns,rfl,hS,hl,λ_=>rfl⟩) λ_ _ _ _ _ z=>z
theorem bS{c:Bool}{A B:Prop}(h1:c=true→A)(h2:c=false→B):if c=true then A else B:=by
 cases c with
 |true=>exact bG (h1 rfl)
 |false=>exact aZ (h2 rfl)
theorem jr{i:Nat}{tt:bY}{te:aK}{ρ:DN}{α:Type}(enc:α→D)(p:α→Bool)(f:α→D):∀(ys:List α)(aw:DN)(acc:List D)(N:DN→List D→Prop),(∀y∈ys,∀(Y:D→Prop)(Nn:Prop),(p y=true→Y (f y))→(p y=false→Nn)→tt (ρ.set i (some (enc y))) λb=>if b=true then te (ρ.set i (some (enc y))) Y else Nn)→
  (∃o,aw=ρ.set i o)→acc.length+ys.length≤sizeLine→(∀aw,N aw (acc++(ys.filter p).map f))→ic (gZ i) tt te (ys.map enc) aw acc N
 | [],aw,acc,N,_,_,_,h=>by
  show N aw acc;simpa using h aw
 |y::ys,aw,acc,N,hs,⟨o,ho⟩,hz,h=>by
  show tt (aw.set i (some (enc y))) _;rw [ho,List.set_set];rw [cR] at hz;refine hs y (fI ..) _ _ (λhp=>⟨by omega,?_⟩) (λhp=>?_)
  ·refine jr enc p f ys _ (acc++ [f y]) N (λz hz=>hs z (fu _ hz)) ⟨_,rfl⟩ (by simp;omega) λmI=>?_
   have:=h mI
   rw [List.filter_cons,hp] at this;simpa using this
  ·refine jr enc p f ys _ acc N (λz hz=>hs z (fu _ hz)) ⟨_,rfl⟩ (by omega) λmI=>?_
   have:=h mI
   rw [List.filter_cons,hp] at this;simpa using this
theorem g6{i:Nat}{te:aK}{ρ:DN}{α:Type}(enc:α→D)(f:α→D)(ys:List α)(N:DN→List D→Prop)(hs:∀y∈ys,∀(Y:D→Prop),Y (f y)→te (ρ.set i (some (enc y))) Y)(h0:ρ[i]? =some none)(hz:ys.length≤sizeLine)(h:∀aw,N aw (ys.map f)):ic (gZ i) uq te (ys.map enc) ρ [] N:=by
 refine jr (ρ:=ρ) enc (λ_=>true) f ys ρ [] N (λy hy Y Nn h1 _=>?_) ⟨none,?_⟩ (by simpa using hz) λaw=>by rw [List.filter_eq_self.mpr (λ_ _=>rfl),si];exact h aw
 ·unfold uq
  dsimp only;rw [if_pos rfl];exact hs y hy Y (h1 rfl)
 ·obtain ⟨hi,e⟩:=f6.mp h0
  rw [←e,List.set_getElem_self]
theorem nJ{g:cf}{tb:bE}{E:bb}(I:Nat→DN→Prop):∀(ds:List D)(k:Nat)(ρ:DN),I k ρ→(∀(j:Nat)(d:D)(ρ:DN),ds[j]? =some d→I (k+j) ρ→∀A:DN→Prop,(∀ρ,I (k+j+1) ρ→A ρ)→g d ρ λbD=>tb {nx:=A,ct:=A,bk:=E.nx,rt:=E.rt,xc:=E.xc} bD)→
  (∀ρ,I (k+ds.length) ρ→E.nx ρ)→ig g tb E ds ρ
 | [],k,ρ,h0,hs,he=>he ρ h0
 |d::ds,k,ρ,h0,hs,he=>by
  refine hs 0 d ρ rfl h0 _ λaw h'=>?_
  exact nJ I ds (k+1) aw h' (λj d' eW hj h2 A hA=>by
   refine hs (j+1) d' eW (by simpa using hj) (by rw [show k+(j+1)=k+1+j by omega];exact h2) A λOj h3=>hA Oj ?_
   rw [show k+1+j+1=k+(j+1)+1 by omega];exact h3) (λeW h2=>he eW (by rw [cR,show k+(ds.length+1)=k+1+ds.length by omega];exact h2))
theorem b0{g:cf}{tb:bE}{E:bb}{ds:List D}{ρ:DN}(I:Nat→DN→Prop)(h0:I 0 ρ)(hs:∀(j:Nat)(d:D)(ρ:DN),ds[j]? =some d→I j ρ→∀A:DN→Prop,(∀ρ,I (j+1) ρ→A ρ)→g d ρ λbD=>tb {nx:=A,ct:=A,bk:=E.nx,rt:=E.rt,xc:=E.xc} bD)
  (he:∀ρ,I ds.length ρ→E.nx ρ):ig g tb E ds ρ:=nJ I ds 0 ρ h0 (λj d ρ hj h A hA=>hs j d ρ hj (by simpa using h) A λaw h'=>hA aw (by simpa using h')) (λρ h=>he ρ (by simpa using h))
theorem qL{g:cf}{tb:bE}{E:bb}{lo:Int}{n:Nat}{ρ:DN}(I:Nat→DN→Prop)(h0:I 0 ρ)(hs:∀(j:Nat)(ρ:DN),j<n→I j ρ→∀A:DN→Prop,(∀ρ,I (j+1) ρ→A ρ)→g (.int (lo+j)) ρ λbD=>tb {nx:=A,ct:=A,bk:=E.nx,rt:=E.rt,xc:=E.xc} bD)
  (he:∀ρ,I n ρ→E.nx ρ):ig g tb E (ba lo n) ρ:=by
 have l:(ba lo n).length=n:=by unfold ba;simp
 refine b0 I h0 (λj d ρ hj h A hA=>?_) (λρ h=>he ρ (by rw [l] at h;exact h))
 have dU:j<n:=by
  have:=(f6.mp hj).1
  rw [l] at this;exact this
 rw [kE dU] at hj;cases hj;exact hs j ρ dU h A hA
theorem uc{c:bY}{tb:bE}{E:bb}{ρ:DN}(I:Nat→DN→Prop)(m0:Nat)(h0:I m0 ρ)(hs:∀m ρ,I m ρ→c ρ λb=>if b=true then tb {nx:=λaw=>∃m',m'<m∧I m' aw,ct:=λaw=>∃m',m'<m∧I m' aw,bk:=E.nx,rt:=E.rt,xc:=E.xc} ρ else E.nx ρ):uo c tb E ρ:=⟨I,⟨m0,h0⟩,hs⟩
section
variable {X:Cx} {elt t0 i0 t1 i1:Expr} {f0 f1:List Expr} {scope:Scope} {pos:Pos} {wi ID:TI} {g g1:TG} {tt rW:TT} {te:TE} {src:List (Option Nat)} {NC:List Str}
end
section
variable {Z:DC} {X:Cx} {md:List Nat} {rn:Nat} {elt t0 i0 t1 i1:Expr} {f0 f1:List Expr} {scope:Scope} {pos:Pos} {wi ID:fK} {g g1:cf} {tt rW:bY} {te:aK} {src:List (Option Nat)} {NC:List Str}
end
section
variable {Z:DC} {X:Cx} {md:List Nat} {rn:Nat} {e:Expr} {pos:Pos}
end
theorem fP{l:List D}{j:Nat}{d:D}(h:(cX l)[j]? =some d):∃x,l[j]? =some x∧d= .tup [.int (j:Int),x]:=by
 unfold cX at h;rw [List.getElem?_mapIdx] at h;cases e:l[j]? with
 |none=>rw [e] at h;cases h
 |some x=>rw [e] at h;cases h;exact ⟨x,rfl,rfl⟩
theorem lK(l:List D):(cX l).length=l.length:=by unfold cX;simp
theorem eI{α β:Type}{f:α→β}{l:List α}{j:Nat}{y:β}(h:(l.map f)[j]? =some y):∃x,l[j]? =some x∧y=f x:=by
 rw [cP] at h;cases e:l[j]? with
 |none=>rw [e] at h;cases h
 |some x=>rw [e] at h;cases h;exact ⟨x,rfl,rfl⟩
theorem jU(r:List Nat):(r.map av).all eE=true:=by simp [av,eE]
theorem lP{r:List Nat}{p:Nat}:inD (av p) (r.map av)=decide (p∈r):=by
 unfold inD;rw [List.any_map]
 have:((λy=>jf y (av p))∘av)=λq:Nat=>decide (q=p):=by
  funext q
  simp [av,jf,Function.comp]
  by_cases z:q=p
  ·simp [z]
  ·have:¬(q:Int)=(p:Int):=by omega
   simp [z,this]
 rw [this]
 by_cases h:p∈r
 ·rw [decide_eq_true h,List.any_eq_true];exact ⟨p,h,by simp⟩
 ·rw [decide_eq_false h]
  apply Bool.eq_false_iff.mpr;intro z;rw [List.any_eq_true] at z;obtain ⟨q,hq,e⟩:=z
  exact h (by have:q=p:=by simpa using e
              rw [←this];exact hq)
theorem b6{l:List D}{p:Nat}{d:D}(h:l[p]? =some d):ek l (p:Int)=some d:=qj h
theorem eR{w:List (List Nat)}{p:Nat}(h:p<w.length):(w.map aR)[p]? =some (aR (Wb.row w p)):=by
 rw [cP,Wb.mw h];rfl
section
variable {Z:DC} {X:Cx} {md:List Nat} {rn:Nat} {e:Expr} {te:aK} {pos:Pos}
end
theorem pC{g:cf}{tt:bY}{te:aK}{α:Type}(I:DN→Prop)(enc:α→D)(p:α→Bool)(f:α→D):∀(ys:List α)(aw:DN)(acc:List D)(N:DN→List D→Prop),(∀y∈ys,∀aw,I aw→∀(Y:DN→D→Prop)(Nn:DN→Prop),(∀bD,I bD→p y=true→Y bD (f y))→(∀bD,I bD→p y=false→Nn bD)→g (enc y) aw λbD=>tt bD λb=>if b=true then te bD (Y bD) else Nn bD)→
  I aw→acc.length+ys.length≤sizeLine→(∀aw,I aw→N aw (acc++(ys.filter p).map f))→ic g tt te (ys.map enc) aw acc N
 | [],aw,acc,N,_,hI,_,h=>by
  show N aw acc;simpa using h aw hI
 |y::ys,aw,acc,N,hs,hI,hz,h=>by
  rw [cR] at hz;refine hs y (fI ..) aw hI (λbD d=>acc.length<sizeLine∧ic g tt te (ys.map enc) bD (acc++ [d]) N) (λbD=>ic g tt te (ys.map enc) bD acc N) (λbD h1 hp=>⟨by omega,?_⟩) (λbD h1 hp=>?_)
  ·refine pC I enc p f ys _ (acc++ [f y]) N (λz hz=>hs z (fu _ hz)) h1 (by simp;omega) λmI h2=>?_
   have:=h mI h2
   rw [List.filter_cons,hp] at this;simpa using this
  ·refine pC I enc p f ys _ acc N (λz hz=>hs z (fu _ hz)) h1 (by omega) λmI h2=>?_
   have:=h mI h2
   rw [List.filter_cons,hp] at this;simpa using this
theorem eG{α:Type}{us:List α}(h:us.length=1):∃a0,us= [a0]:=by
 cases us with
 |nil=>cases h
 |cons a l=>
  cases l with
  |nil=>exact ⟨a,rfl⟩
  |cons _ _=>cases h
theorem kC{α:Type}{us:List α}(h:us.length=2):∃a0 a1,us= [a0,a1]:=by
 cases us with
 |nil=>cases h
 |cons a l=>
  obtain ⟨a1,rfl⟩:=eG (Nat.succ.inj h);exact ⟨a,a1,rfl⟩
theorem lR{α:Type}{us:List α}(h:us.length=3):∃a0 a1 a2,us= [a0,a1,a2]:=by
 cases us with
 |nil=>cases h
 |cons a l=>
  obtain ⟨a1,a2,rfl⟩:=kC (Nat.succ.inj h);exact ⟨a,a1,a2,rfl⟩
theorem GI{α:Type}{us:List α}(h:us.length=4):∃a0 a1 a2 a3,us= [a0,a1,a2,a3]:=by
 cases us with
 |nil=>cases h
 |cons a l=>
  obtain ⟨a1,a2,a3,rfl⟩:=lR (Nat.succ.inj h);exact ⟨a,a1,a2,a3,rfl⟩
section
variable {Z:DC} {X:Cx} {e:Expr} {es:List Expr} {t:eh} {pos:Pos}
theorem aG{sd:bX}{k j:Nat}{x:Str}{st:Stmt}{ps:List Str}{p:Pos}(d:cU X.K X.mg x st ps)(F:FnOk X.prog X.w X.K X.mg X.base bu k d.f d.fd ps (aB Z sd))(hr:aW j X.A)(ha:DA Z X (e::es) t)(hg:Gl X x:=by rfl)(hk:k≤j:=by first|decide|omega)
  (cC:(x==("__debug__":Str))=false:=by decide) (he:starEach (e::es) X.env=(false,eval e X.env)::starEach es X.env:=by rfl) (b3:(backTo pos (starEach es X.env)).any (·.1)=false:=by rfl):
  DE Z X (.Call (.Name x p) (e::es) [] pos) (dB sd t):=xi F (hr.mono hk) hg d.m d.F.kp d.b ha cC he b3
theorem oF{scope:Scope}(sc:Scope)(e:X.env.scope=sc:=by rfl)(k:scope.kind= .function:=by rfl)(a:∀x∈scope.names,x.2= .local→scope.names.lookup x.1=some .local:=by decide+kernel)(b:∀x∈scope.names,x.2≠ .cell:=by decide+kernel)
  (c:∀x∈scope.names,x.2= .free→sc.names.lookup x.1=some .cell∨sc.names.lookup x.1=some .free:=by decide+kernel):bw X scope:=bw.of sc e k a b c
end
section
variable {K:PySem.W.Frag} {h:Heap} {mg:Str→Option Value}
abbrev ei(K:PySem.W.Frag)(x:Str)(d:Addr):Prop:=PySem.W.nsIn K mainGlobals x=some (some (.ref d))
abbrev cG(K:PySem.W.Frag)(x qual:Str)(st:Stmt)(d:Addr)(od an:Option Addr)(sl:Array (Option Value))(oc kV dc pm cd ct:Value):Prop:=K.lookup d=some ⟨oc,od, .func (PySem.W.fnOf x qual (eB st) (bx st) (af st) .none kV dc pm an cd ct),sl⟩
def cU.of{x:Str}{st:Stmt}{ps:List Str}{d:Addr}{od an:Option Addr}{sl:Array (Option Value)}{oc kV dc pm cd ct:Value}(X:K.In h)(G:h.Ns mainGlobals mg)(a:ei K x d)(l:cG K x x st d od an sl oc kV dc pm cd ct)(c:PySem.W.codeIn K cd x=true)(k:PySem.W.keepIn K (.ref d)=true)
  (b:∀(kV doc pm:Value)(an:Option Addr)(aF ct:Value)(us:List Value),us.length=ps.length→bindArgs (PySem.W.fnOf x x (eB st) (bx st) (af st) .none kV doc pm an aF ct) ⟨us,[]⟩=pure (ps.zip us)):cU K mg x st ps:=
 ⟨d,_,ji l c k,(ji l c k).binds b,PySem.W.mg_of X G a⟩
def sv.of{Z:DC}{m qual:Str}{st:Stmt}{ps:List Str}{d:Addr}{od an:Option Addr}{sl:Array (Option Value)}{oc kV dc pm cd ct:Value}(a:PySem.W.findIn Z.K (.ref Z.C) m=some (some (.ref d)))(f:PySem.W.isFn Z.K (.ref d)=true)(l:cG Z.K m qual st d od an sl oc kV dc pm cd ct)(c:PySem.W.codeIn Z.K cd qual=true)(k:PySem.W.keepIn Z.K (.ref d)=true)
  (b:∀(kV doc pm:Value)(an:Option Addr)(aF ct:Value)(us:List Value),us.length=ps.length→bindArgs (PySem.W.fnOf m qual (eB st) (bx st) (af st) .none kV doc pm an aF ct) ⟨us,[]⟩=pure (ps.zip us)):sv Z m qual st ps:=
 ⟨d,_,ji l c k,(ji l c k).binds b,⟨a,f,k⟩⟩
end
end L2
namespace Wb
structure RI (w:W) (bs:List Bool) (ws ex:List Nat) (c:Nat):Prop where
 len:bs.length=w.length
 z:bs[0]? =some true
 wt:∀x∈ws,bs[x]? =some true
 cl:∀x,bs[x]? =some true→x∈ws∨x∈ex∨∀q∈row w x,bs[q]? =some true
 cnt:bs.count false+ws.length≤c
theorem RI.pop{w:W}{bs:List Bool}{ws:List Nat}{p c:Nat}(h:RI w bs (ws++ [p]) [] (c+1)):RI w bs ws [p] c:=
 ⟨h.len,h.z,λx hx=>h.wt x (iB _ hx),λx hx=>by
  rcases h.cl x hx with q|q|q
  ·rcases og.mp q with q|q
   ·exact .inl q
   ·exact .inr (.inl q)
  ·cases q
  ·exact .inr (.inr q),by have:=h.cnt;rw [dR] at this;simp at this;omega⟩
theorem RI.push{w:W}{bs:List Bool}{ws ex:List Nat}{q c:Nat}(h:RI w bs ws ex c)(hq:bs[q]? =some false):RI w (bs.set q true) (ws++ [q]) ex c:=by
 obtain ⟨hl,he⟩:=f6.mp hq
 have up:∀x,bs[x]? =some true→(bs.set q true)[x]? =some true:=λx hx=>by
  rw [jL]
  by_cases e:q=x
  ·rw [if_pos e,if_pos hl]
  ·rw [if_neg e];exact hx
 refine ⟨by rw [dS];exact h.len,up _ h.z,λx hx=>?_,λx hx=>?_,?_⟩
 ·rcases og.mp hx with z|z
  ·exact up _ (h.wt x z)
  ·have:x=q:=by simpa using z
   rw [this,jL,if_pos rfl,if_pos hl]
 ·by_cases e:q=x
  ·exact .inl (by rw [e];simp)
  ·rw [jL,if_neg e] at hx
   rcases h.cl x hx with z|z|z
   ·exact .inl (iB _ z)
   ·exact .inr (.inl z)
   ·exact .inr (.inr λy hy=>up _ (z y hy))
 ·have hc:=h.cnt
  have:0<bs.count false:=List.count_pos_iff.mpr (by rw [←he];exact oa hl)
  rw [List.count_set hl,he,dR];simp;omega
theorem RI.close{w:W}{bs:List Bool}{ws:List Nat}{p c:Nat}(h:RI w bs ws [p] c)(hp:∀q∈row w p,bs[q]? =some true):RI w bs ws [] c:=
 ⟨h.len,h.z,h.wt,λx hx=>by
  rcases h.cl x hx with q|q|q
  ·exact .inl q
  ·have:x=p:=by simpa using q
   rw [this];exact .inr (.inr hp)
  ·exact .inr (.inr q),h.cnt⟩
theorem RI.all{w:W}{bs:List Bool}{c:Nat}(g:Good w)(h:RI w bs [] [] c):bs=List.replicate w.length true:=by
 have:=qu g (S:=λx=>bs[x]? =some true) h.z λp q hp hq=>by
  rcases h.cl p hp with z|z|z
  ·cases z
  ·cases z
  ·exact z q hq
 refine List.ext_getElem? λi=>?_
 by_cases hi:i<w.length
 ·rw [this i hi,jK,if_pos hi]
 ·rw [dq (by rw [h.len];omega),dq (by simp;omega)]
end Wb
namespace L2
open PySem PySem.Spec PySem.Calls PyProof.Rows PySem.W
section
variable {X:Cx} {C:Addr} {x:Str} {p pos:Pos} {e:Expr} {es:List Expr} {te:TE} {t:TA}
def zd(C:Addr)(t:TA):TE:=λσ H Q=>t σ H λvs H1=>vs.length≤1000∧∀e,H1 e=none→Q (.ref e) (upd H1 e (u6 C e none))
theorem rP{pins:List (Addr×Obj)}{σ:St}{H:Hp}{s:Shared}{Q:VK}{us:List Value}(M:zr X.K C (.builtin "ValueError.__init__"))(I:Inv X pins σ H s)(hl:us.length≤1000)(h:∀e,H e=none→Q (.ref e) (upd H e (u6 C e none))):
  wpAny (model X.prog X.w) X.A (call (.ref C) us) (EP X pins σ Q) X.xe s:=by
 obtain ⟨nm,q,N,bs,bm,dm,sn,sub,ab,col,dd,k0,k1,k2,k3,k5,hC,cB,cA,cN⟩:=M.obj;have hq:=h (s.heap.objs.size+1) (I.hok.fresh (Nat.le_succ _));have hz:us.length≤sizeLine:=by rw [sizeLine_eq];omega
 have Lg:((s.heap.push {cls:= .type "tuple",data:= .seq us.toArray}).push (bR C s.heap.objs.size none)).get? (s.heap.objs.size+1)=some (bR C s.heap.objs.size none):=by
  have:=Heap.get?_push_size (s.heap.push {cls:= .type "tuple",data:= .seq us.toArray}) (o:=bR C s.heap.objs.size none) rfl
  rwa [Heap.size_push] at this
 obtain ⟨hh,g,d,tk,os⟩:=s
 refine wpAny_call (se (init:= .builtin "ValueError.__init__") PySem.F.excBase_ValueError cB cA cN (I.bO _ _ hC) (PySem.W.looks_specialIn I.bO M.call) (PySem.W.looks_instIn I.bO M.typ) (PySem.W.looks_findIn I.bO M.ini)
  (λself=>PySem.W.Looks.of_pure (PySem.F.excBase_ValueError.init.bind self)) hz ?_)
 refine qJ PySem.F.excBase_ValueError cB (Heap.get?_push_of_some _ (Heap.get?_push_of_some _ (I.bO _ _ hC))) Lg (λh' t' Lh kk=>?_) hz;refine ⟨rfl,⟨V.ref (hh.objs.size+1),_,I.laid (t':=tk) (λb u q=>kk b u ?_ (Heap.get?_push_of_some _ (Heap.get?_push_of_some _ q))) (Nat.le_succ _) (D5 Lh),rfl,hq⟩⟩;exact bA (Nat.lt_succ_of_lt (Heap.lt_size q))
theorem tS(M:zr X.K C (.builtin "ValueError.__init__"))(hg:Gl X x)(hm:X.mg x=some (.ref C))(ha:PA X (e::es) t)(cC:(x==("__debug__":Str))=false:=by decide)
  (he:starEach (e::es) X.env=(false,eval e X.env)::starEach es X.env:=by rfl) (b3:(backTo pos (starEach es X.env)).any (·.1)=false:=by rfl):
  PE X (.Call (.Name x p) (e::es) [] pos) (zd C t):=by
 intro pins s σ H Q I h;refine wpAny_Call_Name_kw (eF I hg hm ?_ cC);refine PySem.W.callWith_K (h₀:=X.base) I.ok.mod.kin M.kp (thn (ha pos pins s σ H _ I h) λus s1 ⟨vs,H1,I1,r,hl,q⟩=>⟨I1.bO,?_⟩) he b3;exact rP M I1 (by rw [si,←r.length];exact hl) q
def A0(X:Cx)(te:TE):TS:=λ_ σ H=>te σ H λv H1=>∃a C d,v= .ref a∧H1 a=some (u6 C a d)∧iV X.K C∧mroIn X.K C (.type "BaseException")=some true∧qf X σ (upd H1 a (gD C a d)) a
theorem v8(hc:X.calm=true)(he:PE X e te):PS X (.Raise (some e) none pos) (A0 X te):=by
 intro pins s σ H D I h;rw [arm_exec_Raise];refine wpAny_bind (wpAny_standAt ?_);simp only [evalOpt,Option.map];unfold raiseStmt;refine wpAny_bind (wpAny_bind (thn (he pins s σ H _ I h) λu s1 ⟨v,H1,I1,rv,a,C,d,ev,ha,xo,hb,q⟩=>wpAny_bind (wpAny_standAt (wpAny_pure ?_))));subst ev;obtain rfl:u=Value.ref a:=rv;obtain ⟨t,et⟩:=A6 I1.hok ha;obtain ⟨nm,q',N,bs,bm,dm,sn,sub,ab,col,dd,k0,k1,k2,k3,k5,hC,cB,cA,cN⟩:=xo.obj;have FN:=I1.bO _ _ hC
 have mU:(Value.ref C::bm).contains (.type "BaseException")=true:=by
  unfold mroIn clsIn at hb;rw [hC] at hb;simpa using hb
 have Iv:Inv X pins σ (upd H1 a (gD C a d)) s1:=by
  have I2:=I1.write (x:=a) (e:=a) (o:=gD C a d) (h':=s1.heap) (t':=s1.toks) (by rw [ha];exact True.intro) (.inl rfl) (λb u hb q=>q) ⟨_,et⟩ (xB (tb:= .none) et)
  obtain ⟨hp,g,dr,tk,os⟩:=s1;exact I2
 have hE:X.xe (.ref a) s1:=q s1 Iv.wQ ⟨C,t, .none,d,ak,et, .inl rfl⟩;have hh:X.A.handled=none:=I.ok.hd hc;obtain ⟨hp,g,dr,tk,os⟩:=s1
 repeat (first|with_reducible refine wpAny_loadPart_at et ?_|with_reducible refine wpAny_loadPart_at FN ?_| (with_reducible refine wpAny_isSubtype_exc FN ?_;rw [mU]) |wp_step)
 exact wpAny_raiseNew_none hh hE
end
section
variable {X:Cx} {k:Nat} {f C:Addr} {fd:FuncData} {ps:List Str} {sp:Sp} {x m:Str} {p pos apos:Pos} {e o:Expr} {es:List Expr} {ta:TE} {t:TA}
def B5(X:Cx)(σ:St):XK:=λe _ H'=>∃a,e= .ref a∧qf X σ H' a
theorem yQ{pins:List (Addr×Obj)}{σ:St}{H:Hp}{s:Shared}{Q:VK}{us:List Value}{vs:List V}(F:FnOk X.prog X.w X.K X.mg X.base (kX X.prog X.w) k f fd ps sp)(hr:aW k X.A)(hb:Binds X.K fd ps [])
  (I:Inv X pins σ H s) (r:Vals vs us) (h:sp vs H Q (B5 X σ)):wpAny (model X.prog X.w) X.A (call (.ref f) us) (EP X pins σ Q) X.xe s:=by
 have hl:(us++ []).length=ps.length:=by rw [gq,←r.length];exact F.len _ _ _ _ h
 have sZ:=hb s us I.bO hl;rw [gq] at sZ;refine wpAny_call (codeAny_mono (F.run X.A X.stack s H ⟨us,[]⟩ us vs Q (B5 X σ) hr I.uB sZ r h) λr s' hq=>?_);cases r with
 |error e=>
  obtain ⟨a,H',rfl,fl,a',ea,q⟩:=hq;cases ea;obtain ⟨I2,f2⟩:=zN I fl;exact q s' I2 f2
 |ok fl=>
  cases fl with
  |ret u=>exact I.after hq
  |next=>exact False.elim hq
  |brk=>exact False.elim hq
  |cont=>exact False.elim hq
def uW(X:Cx)(sp:Sp)(t:TA):TE:=λσ H Q=>t σ H λvs H1=>sp vs H1 Q (B5 X σ)
theorem vV(F:FnOk X.prog X.w X.K X.mg X.base (kX X.prog X.w) k f fd ps sp)(hr:aW k X.A)(hg:Gl X x)(hm:X.mg x=some (.ref f))(hk:PySem.W.keepIn X.K (.ref f)=true)(hb:Binds X.K fd ps [])
  (ha:PA X (e::es) t) (cC:(x==("__debug__":Str))=false:=by decide) (he:starEach (e::es) X.env=(false,eval e X.env)::starEach es X.env:=by rfl) (b3:(backTo pos (starEach es X.env)).any (·.1)=false:=by rfl):
  PE X (.Call (.Name x p) (e::es) [] pos) (uW X sp t):=by
 intro pins s σ H Q I h;refine wpAny_Call_Name_kw (eF I hg hm ?_ cC);refine PySem.W.callWith_K (h₀:=X.base) I.ok.mod.kin hk (thn (ha pos pins s σ H _ I h) λus s1 ⟨vs,H1,I1,r,q⟩=>⟨I1.bO,?_⟩) he b3;exact yQ F hr hb I1 r q
end
section
variable {X:Cx} {pins:List (Addr×Obj)} {σ:St} {H:Hp} {s:Shared}
theorem jj{M:Model}{A:Around}{E:Value→Shared→Prop}{i:Nat}{x:Str}{pos:Pos}{Q:Unit→Shared→Prop}(I:Inv X pins σ H s)(hN:X.N.Nodup)(hi:X.N[i]? =some x)(hk:X.env.scope.names.lookup x=some .local)
  (h:∀s',Inv X pins (σ.set i none) H s'→Q () s'):wpAny M A (do bindName X.env x .none;unbindBehindTheSuite X.env x pos) Q E s:=by
 obtain ⟨m,hn,hl⟩:=id I.loc;have qR:(X.env.scope.kind== .class|| (X.env.scope.kind== .module&&X.env.locals !=X.env.globals))=false:=by rw [I.ok.kind];rfl
 have uE:i<σ.length:=by rw [I.len];exact (f6.mp hi).1
 have lF:=I.lF;refine wpAny_nameGoes_keeps hk hn qR λh' v CY hs=>?_;obtain ⟨oL,_,_,F8,_⟩:=id hn
 have tracked:cw X.prog X.w H h':=λb ob e=>by
  refine (I.hok b ob e).iy (λc w' hc q=>(hs.2 c ?_).trans q) (λ_ q=>q) λ_ _ q=>q;rintro rfl
  rcases hc with rfl|hc
  ·rw [I.free] at e;cases e
  ·rw [I.free] at hc;cases hc
 refine h _ ⟨I.ok,I.os,I.bare,⟨λb o e n hb hx=>?_,λb o e n hb hx=>?_,I.base.free,λb o e hx=>?_,I.base.tups,I.base.frzs,I.base.tbls⟩,⟨_,CY,λj y v' e1 e2 e3=>?_⟩,λy c e=>?_,I.free,I.freeC,λp hp=>?_,tracked,by simpa using I.len⟩
 ·exact (hs.2 b (bA (eV (Heap.lt_size e) I.ok.above))).trans (I.base.keep b o e n hb hx)
 ·obtain ⟨sl,e1⟩:=I.base.slot b o e n hb hx
  exact ⟨sl,(hs.2 b (bA (eV (Heap.lt_size e) I.ok.above))).trans e1⟩
 ·obtain ⟨o',e1⟩:=I.base.there b o e hx
  exact ⟨o',(hs.2 b (bA (eV (Heap.lt_size e) I.ok.above))).trans e1⟩
 ·by_cases hj:j=i
  ·subst hj
   rw [gn uE] at e2;cases e2
  ·rw [iC (Ne.symm hj)] at e2
   obtain ⟨u',r',q⟩:=hl j y v' e1 e2 e3;refine ⟨u',r',?_⟩
   rcases q with ⟨k,e⟩ | ⟨k,c,e,z⟩
   ·refine .inl ⟨k,?_⟩
    have:y≠x:=λe=>hj (j6 hN e1 (e▸hi))
    simp [this,e]
   ·exact .inr ⟨k,c,e,z.sameBut hs (lF y c e)⟩
 ·obtain ⟨w',z⟩:=I.cell y c e
  exact ⟨w',z.sameBut hs (lF y c e)⟩
 ·obtain ⟨e,n,ne,nf,d⟩:=I.pin p hp
  exact ⟨(hs.2 p.1 ne).trans e,n,ne,nf,d⟩
theorem qQ{K:PySem.W.Frag}{C:Addr}{b:Value}{r:Bool}{nm q:Str}{N:Addr}{bs bm:List Value}{dm:Bool}{sn:List Str}{sub:List Value}{ab:Bool}{col:Option Bool}{dd:Option Addr}{k0 k1 k2 k3 k5:Option Value}{newId:String}
  (hC:K.lookup C=some (excClassObj nm q C N bs bm dm sn sub ab col dd k0 k1 k2 k3 k5 newId)) (hb:mroIn K C b=some r):(Value.ref C::bm).contains b=r:=by
 unfold mroIn clsIn at hb;rw [hC] at hb;simpa using hb
theorem xy{M:Model}{A:Around}{E:Value→Shared→Prop}{Q:Bool→Shared→Prop}{K:PySem.W.Frag}{a C Cm t:Addr}{tb:Value}{d:Option Addr}{b:Bool}(X:K.In s.heap)(he:s.heap.get? a=some (dk C t tb d))(xc:iV K C)(xm:iV K Cm)(hm:mroIn K Cm (.type "BaseException")=some true)(hb:mroIn K C (.ref Cm)=some b)
  (h:Q b s):wpAny M A (excMatches (.ref a) (.ref Cm)) Q E s:=by
 obtain ⟨nm,q',N,bs,bm,dm,sn,sub,ab,col,dd,k0,k1,k2,k3,k5,hC,_⟩:=xc.obj;obtain ⟨OZ,O1,N',OB,OA,KH,O6,Ox,Oz,Oq,OC,OS,OT,OU,OV,OW,hM,_⟩:=xm.obj;have h1:=qQ hC hb;have h2:=qQ hM hm
 replace hC:=X _ _ hC
 replace hM:=X _ _ hM
 have f:=tc_notTuple;obtain ⟨hp,g,dr,tk,os⟩:=s;unfold excMatches
 repeat (first|with_reducible refine wpAny_loadPart_at he ?_|with_reducible refine wpAny_loadPart_at hM ?_| (with_reducible refine wpAny_isSubtype_exc hM ?_;rw [h2]) | (with_reducible refine wpAny_isSubtype_exc hC ?_;rw [h1]) |wp_step)
 cases b<;>(wp_walk;exact h)
end
abbrev Cx.pe(X:Cx)(a:Addr):Cx:={X with A:=X.A.mark (some (.ref a)),calm:=false,xe:=λ_ _=>False}
abbrev Cx.tr(X:Cx)(pn:List (Addr×Obj))(E:Value→Shared→Prop):Cx:={X with pn:=pn,xe:=E}
section
variable {X:Cx} {pins pn:List (Addr×Obj)} {σ:St} {H:Hp} {s:Shared} {E:Value→Shared→Prop} {a:Addr}
theorem Inv.pe(I:Inv X pins σ H s)(a:Addr):Inv (X.pe a) pins σ H s:=
 ⟨⟨I.ok.mod,I.ok.kind,I.ok.glob,I.ok.blt,I.ok.above,I.ok.inj,I.ok.has,I.ok.cab,(λz=>nomatch z),I.ok.frames,I.ok.stk,I.ok.exf,I.ok.bs,I.ok.bsz,I.ok.noex,I.ok.exfs,I.ok.funs,I.ok.frf⟩,I.os,I.bare,I.base,I.loc,I.cell,I.free,I.freeC,I.pin,I.hok,I.len⟩
theorem Inv.p8(ok:X.Ok)(I:Inv (X.pe a) pins σ H s):Inv X pins σ H s:=⟨ok,I.os,I.bare,I.base,I.loc,I.cell,I.free,I.freeC,I.pin,I.hok,I.len⟩
theorem Inv.tr(I:Inv X pins σ H s)(E:Value→Shared→Prop):Inv (X.tr (X.pn++pins) E) [] σ H s:=
 ⟨⟨I.ok.mod,I.ok.kind,I.ok.glob,I.ok.blt,I.ok.above,I.ok.inj,I.ok.has,I.ok.cab,I.ok.hd,I.ok.frames,I.ok.stk,I.ok.exf,I.ok.bs,I.ok.bsz,I.ok.noex,I.ok.exfs,I.ok.funs,I.ok.frf⟩,I.os,I.bare,I.base,I.loc,I.cell,I.free,I.freeC,λp hp=>I.pin p (by rw [gq] at hp;exact hp),I.hok,I.len⟩
theorem Inv.r6(ok:X.Ok)(I:Inv (X.tr (X.pn++pins) E) [] σ H s):Inv X pins σ H s:=⟨ok,I.os,I.bare,I.base,I.loc,I.cell,I.free,I.freeC,λp hp=>I.pin p (by rw [gq];exact hp),I.hok,I.len⟩
theorem oQ{M:Model}{A:Around}{Q:Unit→Shared→Prop}{X:Cx}(f:la X H s a)(h:Q () s):wpAny M A (setFlight (.ref a) none) Q E s:=by
 obtain ⟨C,t,tb,d,_,h2,h3⟩:=f
 rcases h3 with rfl| ⟨T,rfl,_,_,_,_,_,o,ts,hT,hd,h3⟩
 ·unfold setFlight
  refine wpAny_bind (wpAny_field (x:= .none) h2 rfl rfl ?_);rw [if_neg (by decide)]
  exact wpAny_pure h
 ·refine wpAny_setFlight_none h2 rfl rfl hT hd (Array.getElem?_eq_some_iff.mp h3).1 ?_
  rw [Heap.update_setField_same _ _ o ts 3 .none hT hd h3];exact h
end
def Fz:Option Nat→Ends→Ends
 |none,D=>D
 |some i,D=>{nx:=λσ H=>D.nx (σ.set i none) H,rt:=D.rt,bk:=λσ H=>D.bk (σ.set i none) H,ct:=λσ H=>D.ct (σ.set i none) H}
def HL:Option Nat→Addr→St→St
 |none,_,σ=>σ
 |some i,a,σ=>σ.set i (some (.ref a))
abbrev wF:=List (Addr×Option Nat×(Addr→TS))
def p7(K:PySem.W.Frag):wF→Ends→St→Hp→Addr→Addr→Prop
 | [],_,_,_,_,_=>False
 | (Cm,n,th)::r,D,σ,H,a,C=>∃b,mroIn K C (.ref Cm)=some b∧if b=true then th a (Fz n D) (HL n a σ) H else p7 K r D σ H a C
def PH(X:Cx)(hs:List ExceptHandler)(l:wF):Prop:=
 ∀(pins:List (Addr×Obj))(σ:St)(H:Hp)(s:Shared)(a C:Addr)(d:Option Addr)(D:Ends),Inv X pins σ H s→la X H s a→H a=some (gD C a d)→iV X.K C→p7 X.K l D σ H a C→wpAny (model X.prog X.w) X.A (handleBy (.ref a) X.env hs) (SP X pins D) X.xe s
section
variable {X:Cx} {pos p:Pos} {c n:Str} {Cm:Addr} {qp:Stmt} {mB:List Stmt} {rest:List ExceptHandler} {l:wF} {th:Addr→TS}
theorem AF:PH X [] []:=λ_ _ _ _ _ _ _ _ _ _ _ _ h=>h.elim
theorem xA{C C' a:Addr}{d d':Option Addr}{t:Addr}{tb:Value}{h:Heap}(e:gD C a d=gD C' a d')(g:h.get? a=some (dk C t tb d)):C=C':=by
 have:=congrArg (λo=>match o with|HO.ext φ=>φ h|_=>True) e
 have hh:∃t tb,h.get? a=some (dk C' t tb d'):=by
  have:(∃t tb,h.get? a=some (dk C t tb d))=(∃t tb,h.get? a=some (dk C' t tb d')):=this
  rw [←this];exact ⟨t,tb,g⟩
 obtain ⟨t',O7,g'⟩:=hh;rw [g] at g';cases g';rfl
theorem DB(i:Nat)(hN:X.N.Nodup)(hi:X.N[i]? =some n)(hk:X.env.scope.names.lookup n=some .local)(hg:Gl X c)(hm:X.mg c=some (.ref Cm))(xm:iV X.K Cm)(iJ:mroIn X.K Cm (.type "BaseException")=some true)(hs:∀a,eY (X.pe a) (qp::mB) (th a))(hr:PH X rest l)(cC:(c==("__debug__":Str))=false:=by decide):
  PH X (.ExceptHandler (some (.Name c p)) (some n) (qp::mB) pos::rest) ((Cm,some i,th)::l):=by
 intro pins σ H s a C d D I fl ha xc h;obtain ⟨C',t,tb,d',h1,h2,h3⟩:=id fl;have eC:C'=C:=xA (Option.some.inj (h1.symm.trans ha)) h2;subst eC;obtain ⟨b,hb,h⟩:=h;refine wpAny_handleBy_cons (codeAny_handlers_test (wpAny_mono (eF (I.pe a) hg hm ?_ cC) (λ_ _ x=>x) λ_ _ z=>z)) (by intro q;cases q)
 refine xy I.bO h2 xc xm iJ hb ?_;cases b with
 |false=>exact hr pins σ H s a C' d D I fl ha xc h
 |true=>
  refine codeAny_handlers_suite_as (oQ fl ?_);refine hV (X:=X.pe a) (v:= .ref a) (I.pe a) hN hi (.inl hk) rfl (λs1 I1=>?_) (.inr hk);refine wpAny_mono (hs a pins s1 _ H _ I1 h) (λf s2 q=>?_) λ_ _ z=>z.elim;cases f with
  |next=>obtain ⟨aq,H',I',q⟩:=q;exact jj (I'.p8 I.ok) hN hi hk λs3 I3=>⟨_,H',I3,q⟩
  |brk=>obtain ⟨aq,H',I',q⟩:=q;exact jj (I'.p8 I.ok) hN hi hk λs3 I3=>⟨_,H',I3,q⟩
  |cont=>obtain ⟨aq,H',I',q⟩:=q;exact jj (I'.p8 I.ok) hN hi hk λs3 I3=>⟨_,H',I3,q⟩
  |ret u=>obtain ⟨v,aq,H',I',r,q⟩:=q;exact jj (I'.p8 I.ok) hN hi hk λs3 I3=>⟨v,_,H',I3,r,q⟩
def Iw(X:Cx)(tb:List (Addr×Obj)→(Value→Shared→Prop)→TS)(to:TS)(l:wF):TS:=λD σ H=>∀pn E,(∀aq H' a C d,H' a=some (gD C a d)→iV X.K C→p7 X.K l D aq H' a C→qf (X.tr pn E) aq H' a)→tb pn E {D with nx:=to D} σ H
theorem AI{body orelse:List Stmt}{h₀:ExceptHandler}{hs:List ExceptHandler}{tb:List (Addr×Obj)→(Value→Shared→Prop)→TS}{to:TS}(jm:X.stack=X.env::X.outer)(xV:X.env.frame=some X.env.locals)
  (hb:∀pn E,eY (X.tr pn E) body (tb pn E)) (ho:eY X orelse to) (hh:PH X (h₀::hs) l):PS X (.Try body (h₀::hs) orelse [] pos) (Iw X tb to l):=by
 intro pins s σ H D I h;refine wpAny_Try_except ?_
 let E':Value→Shared→Prop:=λe s₁=>wpAny (model X.prog X.w) X.A (noteFrame e X.env) (λ_ y4=>wpAny (model X.prog X.w) X.A (setFlight e none) (λ_ y6=>wpAny (model X.prog X.w) X.A (handleBy e X.env (h₀::hs)) (SP X pins D) X.xe y6) X.xe y4) X.xe s₁
 have hw:=h (X.pn++pins) E' λaq H' a C d h1 h2 h3=>by
  intro s1 I1 f1;refine nQ (X:=X.tr (X.pn++pins) E') jm xV I1 f1 λs2 I2 f2=>?_;have IZ:=I2.r6 I.ok;obtain ⟨C',t,tb,d',g1,g2,g3⟩:=f2;refine hh pins aq H' s2 a C d D IZ ⟨C',t,tb,d',g1,g2,g3.imp id λ⟨T,e1,e2,e3,e4,e5,e6⟩=>⟨T,e1,e2,e3,e4,λp hp=>e5 p (iB _ hp),e6⟩⟩ h1 h2 h3
 refine wpAny_mono (hb _ E' [] s σ H _ (I.tr E') hw) (λf s1 q=>?_) λ_ _ z=>z;cases f with
 |next=>obtain ⟨aq,H',I',q⟩:=q;exact ho pins s1 aq H' D (I'.r6 I.ok) q
 |brk=>obtain ⟨aq,H',I',q⟩:=q;exact ⟨aq,H',I'.r6 I.ok,q⟩
 |cont=>obtain ⟨aq,H',I',q⟩:=q;exact ⟨aq,H',I'.r6 I.ok,q⟩
 |ret u=>obtain ⟨v,aq,H',I',r,q⟩:=q;exact ⟨v,aq,H',I'.r6 I.ok,r,q⟩
end
theorem mY:(List.range 100).all (λn=>decide ((Str.ofString (toString (n:Int))).length≤3))=true:=by decide+kernel
theorem int_text{i:Int}(h0:0≤i)(h1:i<100):(Str.ofString (toString i)).length≤3∧i.natAbs.log2<1920:=by
 obtain ⟨n,rfl⟩:∃n:Nat,i=n:=⟨i.toNat,by omega⟩
 refine ⟨of_decide_eq_true (List.all_eq_true.mp mY n (sk.mpr (by omega))),?_⟩
 have:(n:Int).natAbs=n:=by simp
 rw [this];exact Nat.lt_of_le_of_lt (Nat.log2_le_self n) (by omega)
section
variable {X:Cx} {a b:Str} {x y:Expr} {k1 k2:Option String} {p1 p2 p3 p4 pos:Pos} {tx ty:TE}
def N9(tx ty:TE):TE:=λσ H Q=>tx σ H λv H1=>∃i,v= .int i∧0≤i∧i<100∧ty σ H1 λu H2=>∃j,u= .int j∧0≤j∧j<100∧∀z,Q (.str z) H2
theorem Du{k1 k2}(hx:PE X x tx)(hy:PE X y ty)(ha:a.length≤1000)(hb:b.length≤1000):
  PE X (.JoinedStr [.Constant (.str a) k1 p1, .FormattedValue x (-1) none p2, .Constant (.str b) k2 p3, .FormattedValue y (-1) none p4] pos) (N9 tx ty):=by
 intro pins s σ H Q I h;have z1:(Str.empty++a).length≤1000:=by rw [strLen_append];show 0+_≤_;omega
 have sz:∀n,n≤3000→n≤sizeLine:=λn hn=>by rw [sizeLine_eq];omega
 refine wpAny_JoinedStr ?_;refine thn (pR (X:=X) (x:=a) (j:=k1) (pos:=p1) pins s σ H (λv H'=>v= .str a∧H'=H) I ⟨rfl,rfl⟩) λu s1 ⟨v,H1,I1,rv,ev,eH⟩=>?_;subst ev eH;obtain ⟨t1,rfl⟩:∃t,u= .str a t:=rv;refine ⟨a,t1,rfl,sz _ (by omega),?_⟩
 refine wpAny_FormattedValue_plain (thn (hx pins s1 σ H1 _ I1 h) λu s2 ⟨v,H2,I2,rv,i,ev,i0,i1,h2⟩=>?_);subst ev;obtain ⟨t2,rfl⟩:∃t,u= .int i t:=rv;obtain ⟨n1,n2⟩:=int_text i0 i1;refine wpAny_formatField_int n2 ?_;have z2:(Str.empty++a++Str.ofString (toString i)).length≤1003:=by rw [strLen_append];omega
 refine ⟨_,_,rfl,sz _ (by omega),?_⟩
 refine thn (pR (X:=X) (x:=b) (j:=k2) (pos:=p3) pins _ σ H2 (λv H'=>v= .str b∧H'=H2) (I2.tok _) ⟨rfl,rfl⟩) λu s3 ⟨v,H3,I3,rv,ev,eH⟩=>?_;subst ev eH;obtain ⟨t3,rfl⟩:∃t,u= .str b t:=rv;have z3:(Str.empty++a++Str.ofString (toString i)++b).length≤2003:=by rw [strLen_append];omega
 refine ⟨b,t3,rfl,sz _ (by omega),?_⟩
 refine wpAny_FormattedValue_plain (thn (hy pins s3 σ H3 _ I3 h2) λu s4 ⟨v,H4,I4,rv,j,ev,j0,j1,h4⟩=>?_);subst ev;obtain ⟨t4,rfl⟩:∃t,u= .int j t:=rv;obtain ⟨m1,m2⟩:=int_text j0 j1;refine wpAny_formatField_int m2 ?_;have z4:(Str.empty++a++Str.ofString (toString i)++b++Str.ofString (toString j)).length≤2006:=by rw [strLen_append];omega
 refine ⟨_,_,rfl,sz _ (by omega),sz _ (by omega),?_⟩
 exact ⟨.str _,H4,(I4.tok _).tok _,⟨_,rfl⟩,h4 _⟩
end
abbrev u4:=List D→(D→Prop)→(D→Prop)→Prop
def gI(Z:DC)(sd:u4):Sp:=λvs H Q E=>∃(G:Hp)(ds:List D)(P R:D→Prop),az G H∧ag Z G vs ds∧sd ds P R∧(∀d,P d→∀v G' H',Ext G H G' H'→Dv Z G' v d→Q v H')∧∀d,R d→∀a G' H',Ext G H G' H'→Dv Z G' (.ref a) d→E (.ref a) none H'
section
variable {P:Program} {w:World} {K:PySem.W.Frag} {mg:Str→Option Value} {base:Heap} {Z:DC}
theorem ib.Nz{x qual:Str}{st:Stmt}{f:Addr}{fd:FuncData}{N ps:List Str}{k:Nat}{sp:Sp}{CX:h7}(F:ib K x qual st f fd)(S:ax N ps (af st))(len:∀vs H Q E,sp vs H Q E→vs.length=ps.length)
  (cz:∀(aF:Value)(A:Around)(outer:List Env)(s:Shared)(H:Hp)(vs:List V)(Q:VK)(E:XK),aW k (A.deeper (envOfC qual (af st) s.heap.objs.size f aF))→sp vs H Q E→
   ∃t,eY (el CX P w K mg base N qual (af st) f aF A outer s H E) (bx st) t∧t {nx:=λ_ H'=>Q .aC H',rt:=Q} (start N vs) H):FnOk P w K mg base CX (k+1) f fd ps sp:=by
 obtain ⟨oc,od,kV,doc,pm,an,aF,ct,m9,rfl,lk,cL⟩:=F.ex;exact xD lk cL S len λA outer s H vs Q E hr jX=>cz aF A outer s H vs Q E hr jX
theorem nI{x qual:Str}{st:Stmt}{f:Addr}{fd:FuncData}{N ps:List Str}{k:Nat}{sd:u4}(F:ib K x qual st f fd)(S:ax N ps (af st))(md:List Nat)(tu:∀i,i<ps.length→md.getD i 0=0)(len:∀ds P R,sd ds P R→ds.length=ps.length)
  (cz:∀(aF:Value)(A:Around)(outer:List Env)(s:Shared)(H:Hp)(E:XK)(ds:List D)(R Rx:D→Prop),aW k (A.deeper (envOfC qual (af st) s.heap.objs.size f aF))→sd ds R Rx→
   ∃t,ia Z (el (kX P w) P w K mg base N qual (af st) f aF A outer s H E) md 0 (bx st) t∧t {nx:=λ_=>R .aC,rt:=R,xc:=λ_ d=>Rx d} (dh N ds)):FnOk P w K mg base (kX P w) (k+1) f fd ps (gI Z sd):=by
 refine F.Nz S (λvs H Q E h=>?_) (λaF A outer s H vs Q E hr h=>?_)
 ·obtain ⟨G,ds,R,Rx,s,dv,h,q⟩:=h
  rw [dv.length];exact len _ _ _ h
 obtain ⟨G,ds,R,Rx,s0,dv,h,q,qx⟩:=h;obtain ⟨t,ht,hq⟩:=cz aF A outer s H E ds R Rx hr h;have hl:=len _ _ _ h;refine ⟨_,ht,⟨G,H,G⟩,_,_,⟨G,λ_=> [],?_⟩,hq,⟨λρ vG aq H' ⟨G',fp,S'⟩=>q _ vG _ G' H' S'.ex .aC,λd hd v f G' H' x o nd nw=>q d hd v G' H' x o.1,λ_ z=>z.elim,λ_ z=>z.elim,λρ d hd aq H' G' fp a S' fk s2 I2 f2=>xC I2 f2 (qx d hd a G' H' S'.ex fk)⟩⟩;refine ⟨.refl s0, .refl _,by unfold dh start;simp [dv.length],λi d hi=>?_,λ_=>jO,(λ_ _ _ _ z=>by cases z),(λ_ _ z=>by cases z)⟩
 unfold dh at hi
 have qT:i<ds.length:=by
  apply Classical.byContradiction;intro z;rw [n4 (by simpa using cS z),jK] at hi
  split at hi<;>cases hi
 rw [jJ (by simpa using qT),cP] at hi
 have gr:ds[i]? =some d:=by
  cases z:ds[i]? with
  |none=>rw [z] at hi;cases hi
  |some d'=>rw [z] at hi;cases hi;rfl
 obtain ⟨v,hv,fk⟩:=dv.get gr;refine ⟨v,?_,by rw [tu i (by omega)];exact ⟨fk,rfl⟩⟩
 unfold start;rw [jJ (by simpa [dv.length] using qT),cP,hv];rfl
end
section
variable {Z:DC} {X:Cx} {md:List Nat} {rn:Nat} {st:Stmt} {y3:List Stmt} {t:eh} {e x1 y1:Expr} {es:List Expr} {tx ty:aK} {sd:u4} {k j:Nat} {x:Str} {ps:List Str} {p pos aP:Pos}
def zy(md:List Nat)(sd:u4)(t:eh)(K:bb→DN→D→Prop):bE:=λE ρ=>t (bB md ρ) λds=>sd ds (K E ρ) (E.xc ρ)
theorem qr{B:Bs}{ρ:DN}{σ:St}{H G:Hp}{fp:Nat→List Addr}{E:bb}{D':Ends}{K:D→Prop}{Q:VK}(S:SIx Z B md ρ σ H G fp)(h:t (bB md ρ) λds=>sd ds K (E.xc ρ))(M:Meets Z X B md rn E D')
  (q:∀d,K d→∀v G' H',SIx Z B md ρ σ H' G' fp→Dv Z G' v d→Q v H'):uW X (gI Z sd) (lU Z t) σ H Q:=by
 refine ⟨G,_,_,S.ex.sub,S.nG,h,λds hd vs G1 H1 x1 aM=>?_⟩;have S1:=S.grow x1;exact ⟨G1,ds,K,E.xc ρ,x1.sub,aM,hd,λd hk v G' H' x dv=>q d hk v G' H' (S1.grow x) dv,λd hk a G' H' x dv=>⟨a,rfl,M.xc ρ d hk σ H' G' fp a (S1.grow x) dv⟩⟩
theorem nA(d:cU X.K X.mg x st ps)(F:FnOk X.prog X.w X.K X.mg X.base (kX X.prog X.w) k d.f d.fd ps (gI Z sd))(hr:aW j X.A)(ha:DA Z X (e::es) t)(hg:Gl X x:=by rfl)(hk:k≤j:=by first|decide|omega)
  (cC:(x==("__debug__":Str))=false:=by decide) (he:starEach (e::es) X.env=(false,eval e X.env)::starEach es X.env:=by rfl) (b3:(backTo aP (starEach es X.env)).any (·.1)=false:=by rfl) (hs:swapsWith (.Call (.Name x p) (e::es) [] aP) none pos.line X.env=pure false:=by rfl):
  DSt Z X md rn (.Expr (.Call (.Name x p) (e::es) [] aP) pos) (zy md sd t λE ρ _=>E.nx ρ):=by
 refine (gL (vV F (hr.mono hk) hg d.m d.F.kp d.b ha cC he b3) hs).imp ?_;rintro D σ H ⟨B,ρ,E,⟨G,fp,S⟩,h,M⟩;exact qr S h M λd hd v G' H' S' dv=>M.nx _ hd _ _ ⟨G',fp,S'⟩
structure XE (K:PySem.W.Frag) (C:Addr):Prop where
 cls:nr K C
 obj:iV K C
theorem ua(H:Hp)(a:Addr)(o u:HO):upd (upd H a o) a u=upd H a u:=by
 funext b
 by_cases h:b=a
 ·rw [h,ak,ak]
 ·rw [ar h,ar h,ar h]
def xh(md:List Nat)(C:Addr)(tx ty:aK):bE:=λE ρ=>tx (bB md ρ) λd=>∃i,d= .int i∧0≤i∧i<100∧ty (bB md ρ) λd=>∃j,d= .int j∧0≤j∧j<100∧E.xc ρ (.err C [] [])
theorem rO{B:Bs}{ρ:DN}{σ:St}{H G:Hp}{fp:Nat→List Addr}{E:bb}{D':Ends}{C a:Addr}(S:SIx Z B md ρ σ H G fp)(h:E.xc ρ (.err C [] []))(M:Meets Z X B md rn E D')(ha:H a=none):qf X σ (upd (upd H a (u6 C a none)) a (gD C a none)) a:=by
 rw [ua];have x:Ext G H (upd G a (gD C a none)) (upd H a (gD C a none)):= .new S.ex.sub ha;exact M.xc ρ _ h σ _ _ fp a (S.grow x) (.err ak (.inl ⟨rfl,rfl,rfl⟩) .nil)
theorem sM{C:Addr}{a b:Str}{k1 k2}{p1 p2 p3 p4 p5:Pos}(hc:X.calm=true)(M:zr X.K C (.builtin "ValueError.__init__"))(xe:XE X.K C)(hm:X.mg x=some (.ref C))(hx:DE Z X x1 tx)(hy:DE Z X y1 ty)(hg:Gl X x:=by rfl)(ha:a.length≤1000:=by decide+kernel)(hb:b.length≤1000:=by decide+kernel)(cC:(x==("__debug__":Str))=false:=by decide)
  (he:starEach [.JoinedStr [.Constant (.str a) k1 p1, .FormattedValue x1 (-1) none p2, .Constant (.str b) k2 p3, .FormattedValue y1 (-1) none p4] p5] X.env=(false,eval (.JoinedStr [.Constant (.str a) k1 p1, .FormattedValue x1 (-1) none p2, .Constant (.str b) k2 p3, .FormattedValue y1 (-1) none p4] p5) X.env)::starEach [] X.env:=by rfl) (b3:(backTo aP (starEach [] X.env)).any (·.1)=false:=by rfl):
  DSt Z X md rn (.Raise (some (.Call (.Name x p) [.JoinedStr [.Constant (.str a) k1 p1, .FormattedValue x1 (-1) none p2, .Constant (.str b) k2 p3, .FormattedValue y1 (-1) none p4] p5] [] aP)) none pos) (xh md C tx ty):=by
 refine (v8 hc (tS M hg hm (bL (Du hx hy ha hb) fe he) cC he b3)).imp ?_;rintro D σ H ⟨B,ρ,E,⟨G,fp,S⟩,h,M⟩;refine ⟨G,_,_,S.ex.sub,S.nG,h,?_⟩;rintro d ⟨i,rfl,i0,i1,h⟩ v G1 H1 x1 dv;refine ⟨i,dv.ofInt,i0,i1,?_⟩;have S1:=S.grow x1;refine ⟨G1,_,_,S1.ex.sub,S1.nG,h,?_⟩;rintro d ⟨j,rfl,j0,j1,h⟩ v G2 H2 x2 dv;refine ⟨j,dv.ofInt,j0,j1,λz=>?_⟩;have S2:=S1.grow x2;refine ⟨by show 1≤1000;decide,λa ha=>⟨a,C,none,rfl,ak,xe.obj,xe.cls.be,rO S2 h M ha⟩⟩
def xv:Option Nat→bb→bb
 |none,E=>{E with xc:=λ_ _=>False}
 |some i,E=>{nx:=λρ=>E.nx (ρ.set i none),rt:=E.rt,bk:=λρ=>E.bk (ρ.set i none),ct:=λρ=>E.ct (ρ.set i none)}
def yS:Option Nat→D→DN→DN
 |none,_,ρ=>ρ
 |some i,d,ρ=>ρ.set i (some d)
abbrev oi:=List (Addr×Option Nat×bE)
def Ct(K:PySem.W.Frag)(C:Addr):oi→bb→DN→D→Prop
 | [],_,_,_=>False
 | (Cm,n,th)::r,E,ρ,d=>∃b,PySem.W.mroIn K C (.ref Cm)=some b∧if b=true then th (xv n E) (yS n d ρ) else Ct K C r E ρ d
def Cs(K:PySem.W.Frag)(l:oi)(E:bb)(ρ:DN):D→Prop
 | .err C ks ds=>iV K C∧Ct K C l E ρ (.err C ks ds)
 |_=>False
def Fg(K:PySem.W.Frag)(tb to:bE)(l:oi):bE:=λE ρ=>tb {E with nx:=to E,xc:=Cs K l E} ρ
theorem SIx.drop{B:Bs}{ρ:DN}{σ:St}{H G:Hp}{fp:Nat→List Addr}{i:Nat}(S:SIx Z B md ρ σ H G fp):SIx Z B md (ρ.set i none) (σ.set i none) H G fp where
 ex:=S.ex
 fl:=S.fl
 len:=by rw [dS,dS];exact S.len
 at_:=λj c h=>by
  by_cases z:i=j
  ·subst z
   by_cases hi:i<ρ.length
   ·rw [gn hi] at h;cases h
   ·rw [n5 (cS hi),dq (cS hi)] at h;cases h
  ·rw [iC z] at h ⊢
   exact S.at_ j c h
 nd:=S.nd
 ap:=S.ap
 nw:=S.nw
def BF(Z:DC)(X:Cx)(md:List Nat)(rn:Nat)(l:oi):wF:=l.map λc=>(c.1,c.2.1,λa=>fR Z (X.pe a) md rn c.2.2)
def Ah(md:List Nat)(l:oi):Prop:=∀c∈l,∀i,c.2.1=some i→md.getD i 0=0
def DHs(Z:DC)(X:Cx)(md:List Nat)(rn:Nat)(hs:List ExceptHandler)(l:oi):Prop:=PH X hs (BF Z X md rn l)∧Ah md l
theorem nM{B:Bs}{E:bb}{Dn:Ends}(M:Meets Z X B md rn E Dn){ρ:DN}{σ:St}{H G:Hp}{fp:Nat→List Addr}(S:SIx Z B md ρ σ H G fp){a C:Addr}{d:D}(dv:Dv Z G (.ref a) d){K:PySem.W.Frag}:∀(l:oi),Ah md l→Ct K C l E ρ d→p7 K (BF Z X md rn l) Dn σ H a C
 | [],_,h=>h
 | (Cm,n,th)::r,ok,⟨b,hb,h⟩=>by
  refine ⟨b,hb,?_⟩;cases b with
  |false=>exact aZ (nM M S dv r (λc hc=>ok c (fu _ hc)) (by simpa using h))
  |true=>
   have h:th (xv n E) (yS n d ρ):=by simpa using h
   refine bG ?_;cases n with
   |none=>exact ⟨B,ρ,_,⟨G,fp,S⟩,h,⟨M.nx,M.rt,M.bk,M.ct,λ_ _ z=>z.elim⟩⟩
   |some i=>
    refine ⟨B,_,_,⟨G,_,S.rQ (ok _ (fI ..) i rfl) dv⟩,h,⟨λaw h' aq H' ⟨G',iH,S'⟩=>M.nx _ h' _ _ ⟨G',iH,S'.drop⟩,M.rt,λaw h' aq H' ⟨G',iH,S'⟩=>M.bk _ h' _ _ ⟨G',iH,S'.drop⟩,λaw h' aq H' ⟨G',iH,S'⟩=>M.ct _ h' _ _ ⟨G',iH,S'.drop⟩,λ_ _ z=>z.elim⟩⟩
theorem zJ{body orelse:List Stmt}{h₀:ExceptHandler}{hs:List ExceptHandler}{tb to:bE}{l:oi}(hb:∀pn E,ia Z (X.tr pn E) md rn body tb)(ho:ia Z X md rn orelse to)(hh:DHs Z X md rn (h₀::hs) l)(jm:X.stack=X.env::X.outer:=by rfl)(xV:X.env.frame=some X.env.locals:=by rfl):
  DSt Z X md rn (.Try body (h₀::hs) orelse [] pos) (Fg X.K tb to l):=by
 refine (AI (tb:=λpn E=>fR Z (X.tr pn E) md rn tb) jm xV hb ho hh.1).imp ?_;rintro Dn σ H ⟨B,ρ,E,S,h,M⟩ pn E' hE;refine ⟨B,ρ,_,S,h,⟨λaw h' aq H' S'=>⟨B,aw,E,S',h',M⟩,M.rt,M.bk,M.ct,λaw d hd aq H' G fp a S' dv=>?_⟩⟩;cases d<;>first|exact False.elim hd|skip
 rename_i C ks ds
 have oN:=dv;cases dv with
 |err ha hk hx=>exact hE aq H' a C _ (S'.ex.sub _ _ ha) hd.1 (nM M S' oN l hh.2 hd.2)
theorem zE:DHs Z X md rn [] []:=⟨AF,λc hc=>by cases hc⟩
variable {c n:Str} {Cm:Addr} {qp:Stmt} {mB:List Stmt} {rest:List ExceptHandler} {l:oi} {th:bE}
theorem CC(i:Nat)(hN:X.N.Nodup)(hm:X.mg c=some (.ref Cm))(xm:XE X.K Cm)(hs:∀a,ia Z (X.pe a) md rn (qp::mB) th)(hr:DHs Z X md rn rest l)(hg:Gl X c:=by rfl)(cC:(c==("__debug__":Str))=false:=by decide)(hi:X.N[i]? =some n:=by rfl)(hk:X.env.scope.names.lookup n=some .local:=by rfl)(hd:md.getD i 0=0:=by rfl):
  DHs Z X md rn (.ExceptHandler (some (.Name c p)) (some n) (qp::mB) pos::rest) ((Cm,some i,th)::l):=
 ⟨DB i hN hi hk hg hm xm.obj xm.cls.be hs hr.1 cC,λc hc=>by
  rcases eU.mp hc with rfl|hc
  ·intro i z;cases z;exact hd
  ·exact hr.2 c hc⟩
end
section
variable {X:Cx}
theorem xx{P:Program}{w:World}{H:Hp}{h:Heap}{a C:Addr}{od:Option Addr}{ks:List Str}{xs:List V}(hok:cw P w H h)(e:H a=some (gD C a od))(k:u5 H od ks xs):∃ox od,PySem.W.InstAt h a ox C od:=by
 obtain ⟨t,tb,e⟩:=zM hok e
 rcases k with ⟨rfl,_,_⟩ | ⟨dx,rfl,ed,_⟩
 ·exact ⟨_,none,e,rfl,rfl,trivial⟩
 ·obtain ⟨_,mA,⟨o,_,_,e2,_⟩,_⟩:=A7 hok ed
  exact ⟨_,some o,e,rfl,rfl,e2⟩
structure BY (K:PySem.W.Frag):Prop where
 hn:PySem.W.specialIn K (.builtin "object.__class__") "__get__"=some (some (.builtin "getset_descriptor.__get__"))
 htk:PySem.W.takesIn K (.builtin "object.__class__")=some true
theorem mO(i:BY X.K):
  CallR X (.builtin "isinstance") (λxs H Q=>∃(a C:Addr)(od:Option Addr)(ks:List Str)(vs:List V)(c:V)(cu:Value)(b:Bool),xs= [.ref a,c]∧H a=some (gD C a od)∧u5 H od ks vs∧nr X.K C∧ug c cu∧PySem.W.kitOne X.K (.ref C) cu=some b∧Q (.bl b) H):=by
 intro pins s σ H xs us Q I rv h;obtain ⟨a,C,od,ks,vs,c,cu,b,rfl,xa,ka,xc,hc,e,q⟩:=h;obtain ⟨u1,u2,rfl,r1,r2⟩:=rv.two;cases r1;obtain ⟨ox,O0,J⟩:=xx I.hok xa ka
 have hu:u2=cu:=by
  cases hc with
  |own D=>exact r2
  |blt n=>exact r2
 subst hu;exact PySem.W.kia_one (vI xc i.hn i.htk) I.bO J e (λz=>nomatch z) λtk=>⟨.bl b,H,I.tok _,rfl,q⟩
end
section
variable {Z:DC} {X:Cx} {a c:Expr} {cs:List Expr} {ta:aK} {p pos:Pos}
def zA(K:PySem.W.Frag)(cu:Value)(t:aK):aK:=λρ P=>t ρ λd=>match d with
 | .err C _ _=>nr K C∧∃b,PySem.W.kitOne K (.ref C) cu=some b∧P (.bl b)
 |_=>False
theorem aV{K:PySem.W.Frag}{cv:V}{cu:Value}(i:BY K)(hc:ug cv cu)(K4:PE X c (tC cv))(ha:DE Z X a ta)(hg:Gl X "isinstance")(hm:X.mg "isinstance"=none)(hs:starEach [a,c] X.env=(false,eval a X.env)::starEach [c] X.env:=by rfl)
  (b3:(backTo pos (starEach [c] X.env)).any (·.1)=false:=by rfl) (iL:starEach [c] X.env=(false,eval c X.env)::starEach [] X.env:=by rfl) (eK:X.K=K:=by rfl):
  DE Z X (.Call (.Name "isinstance" p) [a,c] [] pos) (zA K cu ta):=by
 subst eK;refine (kd (mO i) hg hm (by decide+kernel) (bL ha (bL K4 fe iL) hs) (by decide) (by decide) hs b3).imp ?_
 rintro σ H Q ⟨G,ρ,P,s,e,h,q⟩;refine ⟨G,ρ,_,s,e,h,λd hd v G1 H1 x1 dv=>?_⟩;cases dv<;>first|exact hd.elim|skip
 rename_i a C od ks xs ds h1 h2 h3
 obtain ⟨xc,b,hb,hp⟩:=hd;exact ⟨a,C,od,ks,xs,cv,cu,b,rfl,x1.sub _ _ h1,h2.mono x1.sub,xc,hc,hb,q _ hp _ G1 H1 x1 (.bl _)⟩
theorem bV{x:Str}{C:Addr}(hm:X.mg x=some (.ref C))(hg:Gl X x:=by rfl)(hd:(x==("__debug__":Str))=false:=by decide):PE X (.Name x pos) (tC (.ref C)):=rH hg hm (v:= .ref C) rfl hd
theorem Ds(hm:X.mg "ValueError"=none)(hg:Gl X "ValueError":=by rfl):PE X (.Name "ValueError" pos) (tC (.ty "ValueError")):=rG hg hm (by decide+kernel) rfl (by decide) (by decide)
def Jc(X:Cx):List Expr→List V→Prop
 | [],[]=>True
 |e::es,v::vs=>PE X e (tC v)∧starEach (e::es) X.env=(false,eval e X.env)::starEach es X.env∧Jc X es vs
 |_,_=>False
end
structure sy (k:Nat) (A:Around):Prop where
 dp:A.depth+3*k+5<recursionLimit
 un:A.units+16*k+200<cLine
theorem aW.Od{k:Nat}{A:Around}{h:Option Value}(r:aW k A)(hk:1≤k:=by decide):sy 1 (A.mark h):=⟨by have:=r.dp;show A.depth+3*1+5<_;omega,by have:=r.un;show A.units+16*1+200<_;omega⟩
structure zp (P:Program) (w:World) (K:PySem.W.Frag) (mg:Str→Option Value) (base:Heap) (k:Nat) (f:Addr) (fd:FuncData) (ps:List Str) (sp:Sp):Prop where
 len:∀vs H Q E,sp vs H Q E→vs.length=ps.length
 run:∀(A:Around)(outer:List Env)(s:Shared)(H:Hp)(args:Args)(us:List Value)(vs:List V)(Q:VK)(E:XK),sy k A→Env0 P w K mg base A outer s H→BindsTo s fd args (ps.zip us)→Vals vs us→sp vs H Q E→
  codeAny (model P w) A (.call (.ref f) args) (CR bu outer P w H s Q E) s
abbrev zx(P:Program)(w:World)(K:PySem.W.Frag)(mg:Str→Option Value)(base:Heap)(N:List Str)(qual:Str)(scope:Scope)(f:Addr)(cd:Value)(A:Around)(outer:List Env)(s:Shared)(H:Hp):Cx:=
 {el bu P w K mg base N qual scope f cd A outer s H E0 with calm:=false,xe:=λ_ _=>False}
section
variable {P:Program} {w:World} {K:PySem.W.Frag} {mg:Str→Option Value} {base:Heap} {Z:DC}
theorem ib.Ah{x qual:Str}{st:Stmt}{f:Addr}{fd:FuncData}{N ps:List Str}{sp:Sp}(F:ib K x qual st f fd)(S:ax N ps (af st))(len:∀vs H Q E,sp vs H Q E→vs.length=ps.length)
  (cz:∀(aF:Value)(A:Around)(outer:List Env)(s:Shared)(H:Hp)(vs:List V)(Q:VK)(E:XK),A.units+64<cLine→sp vs H Q E→
   ∃t,eY (zx P w K mg base N qual (af st) f aF A outer s H) (bx st) t∧t {nx:=λ_ H'=>Q .aC H',rt:=Q} (start N vs) H):zp P w K mg base 1 f fd ps sp:=by
 obtain ⟨oc,od,kV,doc,pm,an,aF,ct,m9,rfl,lk,cL⟩:=F.ex;refine ⟨len,λA outer s H args us vs Q E hr e0 hb r jX=>?_⟩;have hl:=len _ _ _ _ jX;have KX:K.In s.heap:=e0.mod.kin.keeps λb o e=>(e0.bs b o e).1;have lim:s.heap.NoLimit:=e0.mod.nolimit.keeps λb o e=>(e0.bs b o e).1
 have tq:∀y∈ps.zip us,(af st).names.lookup y.1=some .local∨((af st).names.lookup y.1=some .cell∧((cellsFrom (s.heap.objs.size+1) (af st).names []).lookup y.1).isSome=true):=λ⟨n,v⟩ hy=>by
  rcases S.par n (List.of_mem_zip hy).1 with q|q
  ·exact .inl q
  ·exact .inr ⟨q,PySem.W.cellsFrom_some _ _ _ (.inl q)⟩
 refine codeAny_call_function (by have:=hr.dp;omega) (KX _ _ lk) rfl S.co S.gen rfl (PySem.W.codeRec_of KX cL) (hb _ _ _ _ ?_)
 refine wpAny_newFunctionEnv_cells S.kind tq λenv he s1 x=>?_;subst he;refine ⟨lim.keeps x.toInCall.keep,codeAny_func ?_⟩;obtain ⟨t,ht,hq⟩:=cz aF A outer s H vs Q E (by have:=hr.un;omega) jX
 have e1:Env0 P w K mg base {A with handled:=none} outer s H:=⟨e0.frames,e0.mod,e0.bs,e0.bsz,e0.funs,e0.frf,e0.hok,e0.bare⟩
 have I0:=lQ (CX:=bu) (N:=N) (qual:=qual) (f:=f) (cd:=aF) (E:=E0) S (A:={A with handled:=none}) rfl e1 hl r x
 have I:Inv (zx P w K mg base N qual (af st) f aF A outer s H) [] (start N vs) H s1:=
  ⟨⟨I0.ok.mod,I0.ok.kind,I0.ok.glob,I0.ok.blt,I0.ok.above,I0.ok.inj,I0.ok.has,I0.ok.cab,(λz=>nomatch z),I0.ok.frames,I0.ok.stk,I0.ok.exf,I0.ok.bs,I0.ok.bsz,I0.ok.noex,I0.ok.exfs,I0.ok.funs,I0.ok.frf⟩,I0.os,I0.bare,I0.base,I0.loc,I0.cell,I0.free,I0.freeC,I0.pin,I0.hok,I0.len⟩
 refine wpAny_mono (ht [] s1 (start N vs) H _ I hq) (λfl s' hs=>?_) λe s' hs=>hs.elim
 have fin:∀{aq:St}{H':Hp}{v:V}{u:Value},Inv (zx P w K mg base N qual (af st) f aF A outer s H) [] aq H' s'→RelV v u→Q v H'→CE outer P w H s Q u s':=
  λ {aq H' v u} J rv q=>⟨v,H',J.os,J.bare,J.base,J.hok,rv,q⟩
 cases fl with
 |ret u=>
  obtain ⟨v,aq,H',J,rv,q⟩:=hs;exact fin J rv q
 |next=>
  obtain ⟨aq,H',J,q⟩:=hs;exact fin (v:=V.aC) (u:=Value.none) J rfl q
 |brk=>
  obtain ⟨_,_,_,q⟩:=hs;exact False.elim q
 |cont=>
  obtain ⟨_,_,_,q⟩:=hs;exact False.elim q
theorem vp{x qual:Str}{st:Stmt}{f:Addr}{fd:FuncData}{N ps:List Str}{sd:bX}(F:ib K x qual st f fd)(S:ax N ps (af st))(md:List Nat)(tu:∀i,i<ps.length→md.getD i 0=0)(len:∀ds P,sd ds P→ds.length=ps.length)
  (cz:∀(aF:Value)(A:Around)(outer:List Env)(s:Shared)(H:Hp)(ds:List D)(R:D→Prop),A.units+64<cLine→sd ds R→
   ∃t,ia Z (zx P w K mg base N qual (af st) f aF A outer s H) md 0 (bx st) t∧t {nx:=λ_=>R .aC,rt:=R} (dh N ds)):zp P w K mg base 1 f fd ps (aB Z sd):=by
 refine F.Ah S (λvs H Q E h=>?_) (λaF A outer s H vs Q E hr h=>?_)
 ·obtain ⟨G,ds,R,s,dv,h,q⟩:=h
  rw [dv.length];exact len _ _ h
 obtain ⟨G,ds,R,s0,dv,h,q⟩:=h;obtain ⟨t,ht,hq⟩:=cz aF A outer s H ds R hr h;have hl:=len _ _ h;refine ⟨_,ht,⟨G,H,G⟩,_,_,⟨G,λ_=> [],?_⟩,hq,⟨λρ vG aq H' ⟨G',fp,S'⟩=>q _ vG _ G' H' S'.ex .aC,λd hd v f G' H' x o nd nw=>q d hd v G' H' x o.1,λ_ z=>z.elim,λ_ z=>z.elim,λ_ _ z=>z.elim⟩⟩;refine ⟨.refl s0, .refl _,by unfold dh start;simp [dv.length],λi d hi=>?_,λ_=>jO,(λ_ _ _ _ z=>by cases z),(λ_ _ z=>by cases z)⟩
 unfold dh at hi
 have qT:i<ds.length:=by
  apply Classical.byContradiction;intro z;rw [n4 (by simpa using cS z),jK] at hi
  split at hi<;>cases hi
 rw [jJ (by simpa using qT),cP] at hi
 have gr:ds[i]? =some d:=by
  cases z:ds[i]? with
  |none=>rw [z] at hi;cases hi
  |some d'=>rw [z] at hi;cases hi;rfl
 obtain ⟨v,hv,fk⟩:=dv.get gr;refine ⟨v,?_,by rw [tu i (by omega)];exact ⟨fk,rfl⟩⟩
 unfold start;rw [jJ (by simpa [dv.length] using qT),cP,hv];rfl
end
section
variable {Z:DC} {X:Cx} {e:Expr} {es:List Expr} {t:eh} {pos:Pos}
theorem vg{sd:bX}{k:Nat}{x:Str}{st:Stmt}{ps:List Str}{p:Pos}(d:cU X.K X.mg x st ps)(F:zp X.prog X.w X.K X.mg X.base k d.f d.fd ps (aB Z sd))(hr:sy k X.A)(ha:DA Z X (e::es) t)(hg:Gl X x:=by rfl)
  (cC:(x==("__debug__":Str))=false:=by decide) (he:starEach (e::es) X.env=(false,eval e X.env)::starEach es X.env:=by rfl) (b3:(backTo pos (starEach es X.env)).any (·.1)=false:=by rfl):
  DE Z X (.Call (.Name x p) (e::es) [] pos) (dB sd t):=by
 refine PE.imp (t:=λσ H Q=>lU Z t σ H λvs H1=>aB Z sd vs H1 Q E0) ?_ g8;intro pins s σ H Q I h;refine wpAny_Call_Name_kw (eF I hg d.m ?_ cC);refine PySem.W.callWith_K (h₀:=X.base) I.ok.mod.kin d.F.kp (thn (PA.imp ha (λ_ _ _ q=>q) pos pins s σ H _ I h) λus s1 ⟨vs,H1,I1,r,q⟩=>⟨I1.bO,?_⟩) he b3;have hl:(us++ []).length=ps.length:=by rw [gq,←r.length];exact F.len _ _ _ _ q
 have sZ:=d.b s1 us I1.bO hl;rw [gq] at sZ;refine wpAny_call (codeAny_mono (F.run X.A X.stack s1 H1 ⟨us,[]⟩ us vs Q E0 hr I1.uB sZ r q) λr s' hq=>?_);cases r with
 |error e=>exact hq.elim
 |ok fl=>
  cases fl with
  |ret u=>exact I1.after hq
  |next=>exact False.elim hq
  |brk=>exact False.elim hq
  |cont=>exact False.elim hq
end
def zg:List Value→Bool
 | [.type a, .type b, .type c, .type d]=>a=="ValueError"&&b=="Exception"&&c=="BaseException"&&d=="object"
 | [.ref _, .type a, .type b, .type c, .type d]=>a=="ValueError"&&b=="Exception"&&c=="BaseException"&&d=="object"
 |_=>false
theorem wy{tl:List Value}(h:zg tl=true):tl= [.type "ValueError", .type "Exception", .type "BaseException", .type "object"]∨∃M,tl= [.ref M, .type "ValueError", .type "Exception", .type "BaseException", .type "object"]:=by
 unfold zg at h
 split at h
 ·simp only [mG,beq_iff_eq] at h
  obtain ⟨⟨⟨rfl,rfl⟩,rfl⟩,rfl⟩:=h;exact .inl rfl
 ·simp only [mG,beq_iff_eq] at h
  obtain ⟨⟨⟨rfl,rfl⟩,rfl⟩,rfl⟩:=h;exact .inr ⟨_,rfl⟩
 ·cases h
theorem ud{K:PySem.W.Frag}{C N:Addr}{cd:ClassData}{tl:List Value}{nm q:Str}{bs bm:List Value}{dm:Bool}{sn:List Str}{sub:List Value}{ab:Bool}{col:Option Bool}{dd:Option Addr}{k0 k1 k2 k3 k5:Option Value}
  (hd:PySem.W.hasDictIn K C=true) (ga:PySem.W.findIn K (.ref C) "__getattribute__"=some (some (.builtin "BaseException.__getattribute__"))) (gh:PySem.W.findIn K (.ref C) "__getattr__"=some none)
  (sa:PySem.W.findIn K (.ref C) "__setattr__"=some (some (.builtin "object.__setattr__"))) (cl:PySem.W.findIn K (.ref C) "__class__"=some (some (.builtin "object.__class__")))
  (cq:PySem.W.clsIn K C=some cd) (cm:cd.mro= .ref C::tl) (lo:K.lookup C=some (excClassObj nm q C N bs bm dm sn sub ab col dd k0 k1 k2 k3 k5 "ValueError.__new__")) (cb:bm=tl) (ht:zg tl=true):XE K C:=by
 have mro:∀b,PySem.W.mroIn K C b=some ((Value.ref C::tl).contains b):=λb=>by
  unfold PySem.W.mroIn;rw [cq,Option.bind_some,cm];rfl
 subst cb
 rcases wy ht with rfl| ⟨M,rfl⟩
 ·refine ⟨⟨hd,ga,gh,sa,?_,cl,?_,?_⟩,⟨nm,q,N,bs,_,dm,sn,sub,ab,col,dd,k0,k1,k2,k3,k5,lo,rfl,rfl,rfl⟩⟩
  ·unfold pP
   rw [cq];show kW cd.mro=true;rw [cm];rfl
  ·rw [mro];rfl
  ·rw [mro];rfl
 ·refine ⟨⟨hd,ga,gh,sa,?_,cl,?_,?_⟩,⟨nm,q,N,bs,_,dm,sn,sub,ab,col,dd,k0,k1,k2,k3,k5,lo,rfl,rfl,rfl⟩⟩
  ·unfold pP
   rw [cq];show kW cd.mro=true;rw [cm];rfl
  ·rw [mro];rfl
  ·rw [mro];rfl
end L2
namespace oj
open PySem L2 Wb
def top(i:Nat):Stmt:=PySem.Challenge.pw_mapdye_k62_too_many_to_search.main.body.getD i (.Pass ⟨0,0,0,0⟩)
abbrev gO:Stmt:=top 22
abbrev eM:Stmt:=top 23
abbrev ft:Stmt:=top 24
abbrev eQ:Stmt:=top 25
abbrev fq:Stmt:=top 26
abbrev bp:Stmt:=top 27
abbrev eN:Stmt:=top 28
abbrev eO:Stmt:=top 29
abbrev dG:Stmt:=top 31
abbrev cM:Stmt:=top 34
abbrev gP:Stmt:=top 35
abbrev cp:Stmt:=top 36
abbrev de:Stmt:=top 37
abbrev fg:Stmt:=top 38
abbrev dF:Stmt:=top 40
abbrev fo:Stmt:=top 41
abbrev bI:Stmt:=top 42
abbrev eJ:Stmt:=top 43
abbrev fX:Stmt:=top 44
abbrev ff:Stmt:=top 45
abbrev eL:Stmt:=top 46
abbrev tW:Stmt:=top 47
abbrev bM:Stmt:=L2.dZ (top 30) 0
abbrev gN:Stmt:=L2.dZ (top 30) 1
abbrev dX:Stmt:=L2.dZ (top 30) 2
abbrev kG:Stmt:=L2.dZ (top 30) 3
abbrev kF:Stmt:=L2.dZ (top 30) 4
abbrev il:Stmt:=L2.dZ (top 30) 5
theorem jC:ax ["thing","many"] ["thing","many"] (af gO):=⟨rfl,rfl,rfl,by decide+kernel,rfl,by decide+kernel,by decide+kernel⟩
theorem gi:ax ["rows","p","row","q"] ["rows"] (af eM):=⟨rfl,rfl,rfl,by decide+kernel,rfl,by decide+kernel,by decide+kernel⟩
theorem gS:ax ["rows","p","row"] ["rows"] (af ft):=⟨rfl,rfl,rfl,by decide+kernel,rfl,by decide+kernel,by decide+kernel⟩
theorem gm:ax ["rows","p","row","place","q"] ["rows"] (af eQ):=⟨rfl,rfl,rfl,by decide+kernel,rfl,by decide+kernel,by decide+kernel⟩
theorem gR:ax ["rows","p","row","q"] ["rows"] (af fq):=⟨rfl,rfl,rfl,by decide+kernel,rfl,by decide+kernel,by decide+kernel⟩
theorem cO:ax ["rows","reached","waiting","p","q"] ["rows"] (af bp):=⟨rfl,rfl,rfl,by decide+kernel,rfl,by decide+kernel,by decide+kernel⟩
theorem gj:ax ["rows","q","reached"] ["rows"] (af eN):=⟨rfl,rfl,rfl,by decide+kernel,rfl,by decide+kernel,by decide+kernel⟩
theorem gk:ax ["rows","fault"] ["rows"] (af eO):=⟨rfl,rfl,rfl,by decide+kernel,rfl,by decide+kernel,by decide+kernel⟩
theorem fF:ax ["web","most"] ["web","most"] (af dG):=⟨rfl,rfl,rfl,by decide+kernel,rfl,by decide+kernel,by decide+kernel⟩
theorem iw:ax ["turns","lists","dyeing","p","taken"] ["turns","lists","dyeing","p"] (af cM):=⟨rfl,rfl,rfl,by decide+kernel,rfl,by decide+kernel,by decide+kernel⟩
theorem jE:ax ["dyeing","p","dye"] ["dyeing","p","dye"] (af gP):=⟨rfl,rfl,rfl,by decide+kernel,rfl,by decide+kernel,by decide+kernel⟩
theorem fE:ax ["turns","lists","dyeing","counts"] ["turns","lists","dyeing"] (af cp):=⟨rfl,rfl,rfl,by decide+kernel,rfl,by decide+kernel,by decide+kernel⟩
theorem fh:ax ["turns","lists","dyeing","p","left","papers","dye","told"] ["turns","lists","dyeing"] (af de):=⟨rfl,rfl,rfl,by decide+kernel,rfl,by decide+kernel,by decide+kernel⟩
theorem jD:ax ["web","lists"] ["web","lists"] (af fg):=⟨rfl,rfl,rfl,by decide+kernel,rfl,by decide+kernel,by decide+kernel⟩
theorem fD:ax ["_law_script","_law_k"] ["_law_script","_law_k"] (af dF):=⟨rfl,rfl,rfl,by decide+kernel,rfl,by decide+kernel,by decide+kernel⟩
theorem gQ:ax ["_law_cell","_law_mixed"] ["_law_cell"] (af fo):=⟨rfl,rfl,rfl,by decide+kernel,rfl,by decide+kernel,by decide+kernel⟩
theorem dP:ax ["_law_many","_law_number","_law_turns","_law_thin","_law_point","_law_first","_law_other"] ["_law_many","_law_number"] (af bI):=⟨rfl,rfl,rfl,by decide+kernel,rfl,by decide+kernel,by decide+kernel⟩
theorem gd:ax ["_law_many","_law_cell","_law_number","_law_base","_law_wide","_law_found","_law_point","_law_row","_law_k"] ["_law_many","_law_cell","_law_number"] (af eJ):=⟨rfl,rfl,rfl,by decide+kernel,rfl,by decide+kernel,by decide+kernel⟩
theorem iu:ax ["_law_script","_law_most","_law_number","_law_many","_law_turns"] ["_law_script","_law_most"] (af fX):=⟨rfl,rfl,rfl,by decide+kernel,rfl,by decide+kernel,by decide+kernel⟩
theorem jB:ax ["_law_turns"] ["_law_turns"] (af ff):=⟨rfl,rfl,rfl,by decide+kernel,rfl,by decide+kernel,by decide+kernel⟩
theorem gf:ax ["_law_e"] ["_law_e"] (af eL):=⟨rfl,rfl,rfl,by decide+kernel,rfl,by decide+kernel,by decide+kernel⟩
theorem uU:ax ["_law_script","_law_turns","_law_lists","_law_some","_law_e"] ["_law_script"] (af tW):=⟨rfl,rfl,rfl,by decide+kernel,rfl,by decide+kernel,by decide+kernel⟩
theorem fC:ax ["self","turns","rows","fault"] ["self","turns"] (af bM):=⟨rfl,rfl,rfl,by decide+kernel,rfl,by decide+kernel,by decide+kernel⟩
theorem jA:ax ["self"] ["self"] (af gN):=⟨rfl,rfl,rfl,by decide+kernel,rfl,by decide+kernel,by decide+kernel⟩
theorem ip:ax ["self"] ["self"] (af dX):=⟨rfl,rfl,rfl,by decide+kernel,rfl,by decide+kernel,by decide+kernel⟩
structure Txt (Z:DC) (mg:Str→Option Value) where
 B:D9 mg
 d_is_among:cU Z.K mg "is_among" gO ["thing","many"]
 d_alien_fault:cU Z.K mg "alien_fault" eM ["rows"]
 d_self_fault:cU Z.K mg "self_fault" ft ["rows"]
 d_twice_fault:cU Z.K mg "twice_fault" eQ ["rows"]
 d_lone_fault:cU Z.K mg "lone_fault" fq ["rows"]
 d_reached_from_first:cU Z.K mg "reached_from_first" bp ["rows"]
 d_apart_fault:cU Z.K mg "apart_fault" eN ["rows"]
 d_first_fault:cU Z.K mg "first_fault" eO ["rows"]
 d_need_at_most:cU Z.K mg "need_at_most" dG ["web","most"]
 d_dyes_left:cU Z.K mg "dyes_left" cM ["turns","lists","dyeing","p"]
 d_with_dye:cU Z.K mg "with_dye" gP ["dyeing","p","dye"]
 d_chosen_point:cU Z.K mg "chosen_point" cp ["turns","lists","dyeing"]
 d_searched_from:cU Z.K mg "searched_from" de ["turns","lists","dyeing"]
 d_searched:cU Z.K mg "searched" fg ["web","lists"]
 d__law_cell_at:cU Z.K mg "_law_cell_at" dF ["_law_script","_law_k"]
 d__law_drawn:cU Z.K mg "_law_drawn" fo ["_law_cell"]
 d__law_tied_turns:cU Z.K mg "_law_tied_turns" bI ["_law_many","_law_number"]
 d__law_listed:cU Z.K mg "_law_listed" eJ ["_law_many","_law_cell","_law_number"]
 d__law_made:cU Z.K mg "_law_made" fX ["_law_script","_law_most"]
 d__law_web:cU Z.K mg "_law_web" ff ["_law_turns"]
 d__law_others:cU Z.K mg "_law_others" eL ["_law_e"]
 d_law:cU Z.K mg "law" tW ["_law_script"]
 W:wJ Z
 mC:mg "Web"=some (.ref Z.C)
 i_f:Addr
 i_fd:FuncData
 i_F:ib Z.K "__init__" "Web.__init__" bM i_f i_fd
 mkW:Mk Z.K Z.C i_f
 m___init__b:Binds Z.K i_fd ["self","turns"] []
 m_many:sv Z "many" "Web.many" gN ["self"]
 m_turns:sv Z "turns" "Web.turns" dX ["self"]
 m_ties:sv Z "ties" "Web.ties" kG ["self"]
 m_tied:sv Z "tied" "Web.tied" kF ["self","a","b"]
 m_behind:sv Z "behind" "Web.behind" il ["self","p","q"]
 iX:BY Z.K
 x_ValueError:mg "ValueError"=none
 e_MapError:Addr
 g_MapError:mg "MapError"=some (.ref e_MapError)
 e_TooMany:Addr
 g_TooMany:mg "TooMany"=some (.ref e_TooMany)
 e_TooSmall:Addr
 g_TooSmall:mg "TooSmall"=some (.ref e_TooSmall)
 e_NoWeb:Addr
 g_NoWeb:mg "NoWeb"=some (.ref e_NoWeb)
 e_NotPlane:Addr
 g_NotPlane:mg "NotPlane"=some (.ref e_NotPlane)
 e_NoText:Addr
 g_NoText:mg "NoText"=some (.ref e_NoText)
 e_NoCorner:Addr
 g_NoCorner:mg "NoCorner"=some (.ref e_NoCorner)
 e_NoRing:Addr
 g_NoRing:mg "NoRing"=some (.ref e_NoRing)
 e_Alike:Addr
 g_Alike:mg "Alike"=some (.ref e_Alike)
 e_TooFew:Addr
 g_TooFew:mg "TooFew"=some (.ref e_TooFew)
 e_NotFree:Addr
 g_NotFree:mg "NotFree"=some (.ref e_NotFree)
 e_NotFilled:Addr
 g_NotFilled:mg "NotFilled"=some (.ref e_NotFilled)
 e_Odd:Addr
 g_Odd:mg "Odd"=some (.ref e_Odd)
 e_Bridge:Addr
 g_Bridge:mg "Bridge"=some (.ref e_Bridge)
 e_Shared:Addr
 g_Shared:mg "Shared"=some (.ref e_Shared)
 q_MapError:XE Z.K e_MapError
 q_TooMany:XE Z.K e_TooMany
 k_TooMany:zr Z.K e_TooMany (.builtin "ValueError.__init__")
 z_TooMany_TooMany:PySem.W.kitOne Z.K (.ref e_TooMany) (.ref e_TooMany)=some true
 z_TooMany_TooSmall:PySem.W.kitOne Z.K (.ref e_TooMany) (.ref e_TooSmall)=some false
 z_TooMany_NoWeb:PySem.W.kitOne Z.K (.ref e_TooMany) (.ref e_NoWeb)=some false
 z_TooMany_NotPlane:PySem.W.kitOne Z.K (.ref e_TooMany) (.ref e_NotPlane)=some false
 z_TooMany_NoText:PySem.W.kitOne Z.K (.ref e_TooMany) (.ref e_NoText)=some false
 z_TooMany_NoCorner:PySem.W.kitOne Z.K (.ref e_TooMany) (.ref e_NoCorner)=some false
 z_TooMany_NoRing:PySem.W.kitOne Z.K (.ref e_TooMany) (.ref e_NoRing)=some false
 z_TooMany_Alike:PySem.W.kitOne Z.K (.ref e_TooMany) (.ref e_Alike)=some false
 z_TooMany_TooFew:PySem.W.kitOne Z.K (.ref e_TooMany) (.ref e_TooFew)=some false
 z_TooMany_NotFree:PySem.W.kitOne Z.K (.ref e_TooMany) (.ref e_NotFree)=some false
 z_TooMany_NotFilled:PySem.W.kitOne Z.K (.ref e_TooMany) (.ref e_NotFilled)=some false
 z_TooMany_Odd:PySem.W.kitOne Z.K (.ref e_TooMany) (.ref e_Odd)=some false
 z_TooMany_Bridge:PySem.W.kitOne Z.K (.ref e_TooMany) (.ref e_Bridge)=some false
 z_TooMany_Shared:PySem.W.kitOne Z.K (.ref e_TooMany) (.ref e_Shared)=some false
 z_TooMany_ValueError:PySem.W.kitOne Z.K (.ref e_TooMany) (.type "ValueError")=some true
 m_TooMany_MapError:PySem.W.mroIn Z.K e_TooMany (.ref e_MapError)=some true
 t___name__:∃tk,mg "__name__"=some (.str "law_mapdye_k62_too_many_to_search" tk)
 c_MOST_POINTS:∃tk,mg "MOST_POINTS"=some (.int 14 tk)
 c_MOST_SEARCHED:∃tk,mg "MOST_SEARCHED"=some (.int 8 tk)
variable {P:Program} {w:World} {mg:Str→Option Value} {base:Heap} {Z:DC} (T:Txt Z mg)
def yW:bX:=λds P=>∃(i n:Int),ds= [.int i, .int n]∧P (.bl (decide (0≤i∧i<n)))
theorem pN:FnOk P w Z.K mg base bu 1 T.d_is_among.f T.d_is_among.fd ["thing","many"] (aB Z yW):=by
 have nd:=jC.nd;refine aQ T.d_is_among.F jC [0,0] (by decide) (λds R h=>by obtain ⟨_,_,rfl,_⟩:=h;rfl) (λaF A outer s H E ds R hr h=>?_)
 have hu:=hr.units;refine ⟨_,(aj (aD (ur (uv "int" (aa 0) rfl T.B.isinstance rfl T.B.int uk) (ur (zC (uv "bool" (aa 0) rfl T.B.isinstance rfl T.B.bool wR)) (uw (vh tM tN ao (aa 0) (aa 1))))))),?_⟩;obtain ⟨i,n,rfl,q⟩:=h;refine ⟨_,rfl,rfl,true,rfl,bG ⟨_,rfl,rfl,false,rfl,true,rfl,bG ⟨_,rfl,?_⟩⟩⟩;refine ⟨_,rfl,bS (λh0=>⟨_,rfl,?_⟩) (λh0=>?_)⟩
 ·have h0:0≤i:=of_decide_eq_true h0
  show R (.bl (decide (i<n)));rw [show decide (i<n)=decide (0≤i∧i<n) by simp [h0]]
  exact q
 ·have h0:¬0≤i:=of_decide_eq_false h0
  rw [show decide (0≤i∧i<n)=false by simp [h0]] at q
  exact q
def hU:bX:=λds P=>∃(w:W),ds= [aO w]∧Good w∧1≤w.length∧w.length≤14∧P .aC
theorem uY{w:W}{j:Nat}{d:D}(h:(cX (w.map aR))[j]? =some d):j<w.length∧d= .tup [.int (j:Int),aR (row w j)]:=by
 obtain ⟨x,hx,rfl⟩:=fP h;obtain ⟨r,hr,rfl⟩:=eI hx;have hj:j<w.length:=(f6.mp hr).1;refine ⟨hj,?_⟩;rw [AQ hr]
theorem kN:FnOk P w Z.K mg base bu 2 T.d_alien_fault.f T.d_alien_fault.fd ["rows"] (aB Z hU):=by
 have nd:=gi.nd;refine aQ T.d_alien_fault.F gi [0,0,0,0] (by decide) (λds R h=>by obtain ⟨_,rfl,_⟩:=h;rfl) (λaF A outer s H E ds R hr h=>?_)
 have hu:=hr.units
 refine ⟨_,(ah (df rfl PassesOwn.never (eD rfl T.B.enumerate (ae (aa 0) ai)) (fN 2 rfl (aY (aL 1 nd) (aY (aL 2 nd) cW))) (aj (df rfl PassesOwn.never (ck (aa 2)) (aL 3 nd) (aj (bj (je (bQ (aG T.d_is_among (pN T) hr (ae (aa 3) (ae (br cI rfl T.B.len cH (ae (aa 0) ai)) ai))))) (aj (aD (cn (ae cK (ae (aa 1) (ae (aa 3) ai)))))) aJ)))))
   (aj (aD bH))),?_⟩
 obtain ⟨w',rfl,g,h1,dD,q⟩:=h;refine ⟨_,rfl,b0 (λ_ ρ=>∃o1 o2 o3,ρ= [some (aO w'),o1,o2,o3]) ⟨_,_,_,rfl⟩ ?_ ?_⟩
 ·rintro j d _ hd ⟨o1,o2,o3,rfl⟩ A hA
  obtain ⟨hj,rfl⟩:=uY hd;refine ⟨rfl,rfl,?_⟩;refine ⟨_,rfl,b0 (λ_ ρ=>∃o3,ρ= [some (aO w'),some (.int (j:Int)),some (aR (row w' j)),o3]) ⟨_,rfl⟩ ?_ ?_⟩
  ·rintro k d' _ hk ⟨o4,rfl⟩ A' oY
   obtain ⟨x,hx,rfl⟩:=eI hk;refine ⟨_,rfl,_,rfl,_,_,rfl,⟨rfl,?_⟩⟩;have dU:x<w'.length:=g.rng _ _ (n6 hx);rw [show decide ((0:Int)≤(x:Int)∧(x:Int)<((w'.map aR).length:Int))=true by simp;omega]
   exact aZ (oY _ ⟨_,rfl⟩)
  ·rintro _ ⟨o4,rfl⟩
   exact hA _ ⟨_,_,_,rfl⟩
 ·rintro _ ⟨o1,o2,o3,rfl⟩
  exact q
theorem mm:FnOk P w Z.K mg base bu 1 T.d_self_fault.f T.d_self_fault.fd ["rows"] (aB Z hU):=by
 have nd:=gS.nd;refine aQ T.d_self_fault.F gS [0,0,0] (by decide) (λds R h=>by obtain ⟨_,rfl,_⟩:=h;rfl) (λaF A outer s H E ds R hr h=>?_)
 have hu:=hr.units
 refine ⟨_,(ah (df rfl PassesOwn.never (eD rfl T.B.enumerate (ae (aa 0) ai)) (fN 2 rfl (aY (aL 1 nd) (aY (aL 2 nd) cW))) (aj (bj (aU tL (aa 1) (aa 2) (by with_unfolding_all rfl)) (aj (aD (cn (ae cK (ae (aa 1) (ae (aa 1) ai)))))) aJ)))
   (aj (aD bH))),?_⟩
 obtain ⟨w',rfl,g,h1,dD,q⟩:=h;refine ⟨_,rfl,b0 (λ_ ρ=>∃o1 o2,ρ= [some (aO w'),o1,o2]) ⟨_,_,rfl⟩ ?_ ?_⟩
 ·rintro j d _ hd ⟨o1,o2,rfl⟩ A hA
  obtain ⟨hj,rfl⟩:=uY hd;refine ⟨rfl,rfl,?_⟩;refine ⟨_,rfl,_,rfl,rfl,jU _,_,rfl,?_⟩
  have e:inD (.int (j:Int)) ((row w' j).map av)=false:=by
   have:=lP (r:=row w' j) (p:=j)
   rw [decide_eq_false (g.irr j)] at this;exact this
  rw [if_neg fJ,e];exact aZ (hA _ ⟨_,_,rfl⟩)
 ·rintro _ ⟨o1,o2,rfl⟩
  exact q
theorem lG{α:Type}(l:List α)(k:Nat)(h:k≤l.length):cutD l none (some (k:Int))=l.take k:=by
 unfold cutD;have e1:HT.aS l.length 0 none=0:=rfl
 have e2:HT.aS l.length l.length (some (k:Int))=k:=by
  simp only [HT.aS]
  split<;>omega
 rw [e1,e2];simp
theorem kP:FnOk P w Z.K mg base bu 1 T.d_twice_fault.f T.d_twice_fault.fd ["rows"] (aB Z hU):=by
 have nd:=gm.nd;refine aQ T.d_twice_fault.F gm [0,0,0,0,0] (by decide) (λds R h=>by obtain ⟨_,rfl,_⟩:=h;rfl) (λaF A outer s H E ds R hr h=>?_)
 have hu:=hr.units
 refine ⟨_,(ah (df rfl PassesOwn.never (eD rfl T.B.enumerate (ae (aa 0) ai)) (fN 2 rfl (aY (aL 1 nd) (aY (aL 2 nd) cW))) (aj (df rfl PassesOwn.never (eD rfl T.B.enumerate (ae (aa 2) ai)) (fN 2 rfl (aY (aL 3 nd) (aY (aL 4 nd) cW))) (aj (bj (aU tL (aa 4) (gY (aa 2) ja (jb (aa 3))) (by with_unfolding_all rfl)) (aj (aD (cn (ae cK (ae (aa 1) (ae (aa 4) ai)))))) aJ)))))
   (aj (aD bH))),?_⟩
 obtain ⟨w',rfl,g,h1,dD,q⟩:=h;refine ⟨_,rfl,b0 (λ_ ρ=>∃o1 o2 o3 o4,ρ= [some (aO w'),o1,o2,o3,o4]) ⟨_,_,_,_,rfl⟩ ?_ ?_⟩
 ·rintro j d _ hd ⟨o1,o2,o3,o4,rfl⟩ A hA
  obtain ⟨hj,rfl⟩:=uY hd;refine ⟨rfl,rfl,?_⟩;refine ⟨_,rfl,b0 (λ_ ρ=>∃o3 o4,ρ= [some (aO w'),some (.int (j:Int)),some (aR (row w' j)),o3,o4]) ⟨_,_,rfl⟩ ?_ ?_⟩
  ·rintro k d' _ hk ⟨o5,o6,rfl⟩ A' oY
   obtain ⟨y,hy,rfl⟩:=fP hk;obtain ⟨x,hx,rfl⟩:=eI hy;have qU:k<(row w' j).length:=(f6.mp hx).1;refine ⟨rfl,rfl,?_⟩;refine ⟨_,rfl,_,rfl,_,rfl,?_⟩;have ec:cutD ((row w' j).map av) none (some (k:Int))=((row w' j).take k).map av:=by rw [lG _ _ (by simp;omega),List.map_take]
   refine (?_:zz false (av x) (.lst (cutD ((row w' j).map av) none (some (k:Int)))) _);rw [ec];refine ⟨rfl,jU _,_,rfl,?_⟩
   have e:inD (av x) (((row w' j).take k).map av)=false:=by
    rw [lP,decide_eq_false];intro z;obtain ⟨m,hm⟩:=List.getElem?_of_mem z
    have xX:m<k:=by
     have:=(f6.mp hm).1
     rw [sh] at this;omega
    rw [List.getElem?_take_of_lt xX] at hm;exact absurd ((List.getElem?_inj (by omega) (g.nod j)).mp (hm.trans hx.symm)) (by omega)
   rw [if_neg fJ,e];exact aZ (oY _ ⟨_,_,rfl⟩)
  ·rintro _ ⟨o5,o6,rfl⟩
   exact hA _ ⟨_,_,_,_,rfl⟩
 ·rintro _ ⟨o1,o2,o3,o4,rfl⟩
  exact q
theorem ml:FnOk P w Z.K mg base bu 1 T.d_lone_fault.f T.d_lone_fault.fd ["rows"] (aB Z hU):=by
 have nd:=gR.nd;refine aQ T.d_lone_fault.F gR [0,0,0,0] (by decide) (λds R h=>by obtain ⟨_,rfl,_⟩:=h;rfl) (λaF A outer s H E ds R hr h=>?_)
 have hu:=hr.units
 refine ⟨_,(ah (df rfl PassesOwn.never (eD rfl T.B.enumerate (ae (aa 0) ai)) (fN 2 rfl (aY (aL 1 nd) (aY (aL 2 nd) cW))) (aj (df rfl PassesOwn.never (ck (aa 2)) (aL 3 nd) (aj (bj (aU nV (aa 1) (cJ (aa 0) (aa 3)) (by with_unfolding_all rfl)) (aj (aD (cn (ae cK (ae (aa 1) (ae (aa 3) ai)))))) aJ)))))
   (aj (aD bH))),?_⟩
 obtain ⟨w',rfl,g,h1,dD,q⟩:=h;refine ⟨_,rfl,b0 (λ_ ρ=>∃o1 o2 o3,ρ= [some (aO w'),o1,o2,o3]) ⟨_,_,_,rfl⟩ ?_ ?_⟩
 ·rintro j d _ hd ⟨o1,o2,o3,rfl⟩ A hA
  obtain ⟨hj,rfl⟩:=uY hd;refine ⟨rfl,rfl,?_⟩;refine ⟨_,rfl,b0 (λ_ ρ=>∃o3,ρ= [some (aO w'),some (.int (j:Int)),some (aR (row w' j)),o3]) ⟨_,rfl⟩ ?_ ?_⟩
  ·rintro k d' _ hk ⟨o4,rfl⟩ A' oY
   obtain ⟨x,hx,rfl⟩:=eI hk;have Gh:=n6 hx;have dU:x<w'.length:=g.rng _ _ Gh;refine ⟨_,rfl,_,rfl,_,rfl,_,b6 (eR dU),rfl,jU _,_,rfl,?_⟩
   have e:inD (.int (j:Int)) ((row w' x).map av)=true:=by
    have:=lP (r:=row w' x) (p:=j)
    rw [decide_eq_true (g.sym _ _ Gh)] at this;exact this
   rw [if_pos rfl,e];exact aZ (oY _ ⟨_,rfl⟩)
  ·rintro _ ⟨o4,rfl⟩
   exact hA _ ⟨_,_,_,rfl⟩
 ·rintro _ ⟨o1,o2,o3,rfl⟩
  exact q
def lC(bs:List Bool):List D:=bs.map D.bl
theorem wV{bs:List Bool}{i:Nat}{b:Bool}(h:bs[i]? =some b):(lC bs)[i]? =some (.bl b):=by unfold lC;rw [cP,h];rfl
theorem qm(bs:List Bool)(i:Nat)(b:Bool):(lC bs).set i (.bl b)=lC (bs.set i b):=by unfold lC;rw [List.map_set]
theorem ql(bs:List Bool):(lC bs).length=bs.length:=cQ _
theorem g5{n k:Nat}(h:k<n):jq n (k:Int)=some k:=by unfold jq;rw [if_pos (by omega),if_pos (by omega)];simp
def tZ:bX:=λds P=>∃(w:W),ds= [aO w]∧Good w∧1≤w.length∧w.length≤14∧P (.lst (lC (List.replicate w.length true)))
theorem fV:FnOk P w Z.K mg base bu 1 T.d_reached_from_first.f T.d_reached_from_first.fd ["rows"] (aB Z tZ):=by
 have nd:=cO.nd;refine aQ T.d_reached_from_first.F cO [0,1,1,0,0] (by decide) (λds R h=>by obtain ⟨_,rfl,_⟩:=h;rfl) (λaF A outer s H E ds R hr h=>?_)
 have hu:=hr.units
 refine ⟨_,(ah (vi 1 (NC:= ["row"]) (src:= [none]) rfl nd (oF (af bp)) trivial (ck (aa 0)) (λ_ _ _=>(cj 0 (show (["row"]:List Str).Nodup from by decide+kernel))) (λ_ _ _=>fw) (λ_ _ _=>eu))
   (ah (nD false 1 ao eu)
   (ah (kS 2 nd (i9 (ae ao ai)))
   (ah (vj PassesOwn.never (bQ (aa 2)) (ah (zI 3 2 nd)
   (aj (df rfl PassesOwn.never (ck (cJ (aa 0) (aa 3))) (aL 4 nd) (aj (bj (je (bQ (cJ (aa 1) (aa 4)))) (ah (nD false 1 (aa 4) eu)
   (aj (oM false 2 (aa 4)))) aJ))))))
   (aj (aD (aa 1))))))),?_⟩
 obtain ⟨w',rfl,g,h1,dD,q⟩:=h;refine ⟨_,rfl,g6 (ρ:= [none]) aR (λ_=> .bl false) w' _ (λy hy Y h=>h) rfl (small (by omega)) λaw=>?_⟩
 have e0:w'.map (λ_=>D.bl false)=lC (List.replicate w'.length false):=by unfold lC;rw [List.map_replicate,List.map_const']
 rw [e0];refine ⟨trivial,_,rfl,0,0,rfl,by rw [ql,iA];exact g5 (k:=0) (by omega),?_⟩
 rw [qm];refine ⟨by show 1≤sizeLine;decide,?_⟩
 refine uc (λm ρ=>∃(bs:List Bool)(ws:List Nat)(o3 o4:Option D),ρ= [some (aO w'),some (.lst (lC bs)),some (.lst (ws.map av)),o3,o4]∧RI w' bs ws [] m∧m≤14∧bs.count false+ws.length=m) w'.length ?_ ?_
 ·refine ⟨_,[0],none,none,rfl,⟨by simp,?_,?_,λx hx=>?_,?_⟩,dD,?_⟩
  ·rw [jL,if_pos rfl,if_pos (by rw [iA];omega)]
  ·intro x hx
   have:x=0:=by simpa using hx
   rw [this,jL,if_pos rfl,if_pos (by rw [iA];omega)]
  ·by_cases e:0=x
   ·exact .inl (by rw [←e];simp)
   ·rw [jL,if_neg e,jK] at hx
    split at hx<;>cases hx
  ·rw [List.count_set (by rw [iA];omega),List.count_replicate_self,List.getElem_replicate]
   simp;omega
  ·rw [List.count_set (by rw [iA];omega),List.count_replicate_self,List.getElem_replicate]
   simp;omega
 ·rintro m _ ⟨bs,ws,o3,o4,rfl,ri,hc,FY⟩
  refine ⟨_,rfl,rfl,?_⟩
  rcases List.eq_nil_or_concat ws with rfl| ⟨D4,p,e⟩
  ·refine aZ ?_
   have e:=ri.all g;rw [←e] at q;exact ⟨_,rfl,q⟩
  ·rw [List.concat_eq_append] at e
   subst e;rw [show rV (.lst ((D4++ [p]).map av))=true by simp [rV]]
   refine bG ?_;rw [dR] at FY;simp only [List.length_singleton] at FY;obtain ⟨c',rfl⟩:∃c',m=c'+1:=⟨m-1,by omega⟩
   have NT:=ri.pop;have hp:bs[p]? =some true:=ri.wt p (by simp)
   have K5:p<w'.length:=by rw [←ri.len];exact (f6.mp hp).1
   refine ⟨D4.map av,av p,by rw [mH];rfl,?_⟩
   refine ⟨_,rfl,_,rfl,_,b6 (eR K5),b0 (λj ρ=>∃(iZ:List Bool)(nk:List Nat)(o4:Option D),ρ= [some (aO w'),some (.lst (lC iZ)),some (.lst (nk.map av)),some (av p),o4]∧RI w' iZ nk [p] c'∧(∀k y,k<j→(row w' p)[k]? =some y→iZ[y]? =some true)∧iZ.count false+nk.length=c') ?_ ?_ ?_⟩
   ·exact ⟨bs,D4,_,rfl,NT,(λk n hk=>by omega),by omega⟩
   ·rintro j x _ hx ⟨iZ,nk,o5,rfl,yP,uy,B9⟩ A hA
    obtain ⟨n,hn,rfl⟩:=eI hx;have KZ:=g.rng _ _ (n6 hn);have CZ:n<iZ.length:=by rw [yP.len];exact KZ
    have xM:iZ[n]? =some (iZ[n]):=iU CZ;refine ⟨_,rfl,_,rfl,_,b6 (wV xM),rfl,?_⟩;generalize iZ[n]=bn at xM;cases bn with
    |true=>
     refine aZ (hA _ ⟨iZ,nk,_,rfl,yP,λk y hk hy=>?_,B9⟩)
     by_cases e:k=j
     ·rw [e,hn] at hy;cases hy;exact xM
     ·exact uy k y (by omega) hy
    |false=>
     refine bG ?_;refine ⟨trivial,_,rfl,_,rfl,_,n,rfl,by rw [ql];exact g5 CZ,?_⟩
     rw [qm];have AN:=yP.push xM;have Oo:=AN.cnt;refine ⟨_,rfl,_,rfl,trivial,cE (by rw [cQ];omega),?_⟩
     have er:nk.map av++ [av n]=(nk++ [n]).map av:=by rw [mH];rfl
     rw [er];refine hA _ ⟨iZ.set n true,nk++ [n],_,rfl,AN,λk y hk hy=>?_,?_⟩
     ·rw [jL]
      by_cases e:n=y
      ·rw [if_pos e,if_pos CZ]
      ·rw [if_neg e]
       refine uy k y ?_ hy;apply Classical.byContradiction;intro z
       have:k=j:=by omega
       rw [this,hn] at hy;cases hy;exact e rfl
     ·obtain ⟨hl,he⟩:=f6.mp xM
      have:0<iZ.count false:=List.count_pos_iff.mpr (by rw [←he];exact oa hl)
      rw [List.count_set hl,he,dR];simp;omega
   ·rintro _ ⟨iZ,nk,o5,rfl,yP,uy,B9⟩
    have AN:=yP.close λy hy=>by
     obtain ⟨k,hk⟩:=List.getElem?_of_mem hy;exact uy k y (by rw [cQ];exact (f6.mp hk).1) hk
    exact ⟨c',by omega,iZ,nk,_,_,rfl,AN,by omega,B9⟩
theorem kO:FnOk P w Z.K mg base bu 2 T.d_apart_fault.f T.d_apart_fault.fd ["rows"] (aB Z hU):=by
 have nd:=gj.nd;refine aQ T.d_apart_fault.F gj [0,0,0] (by decide) (λds R h=>by obtain ⟨_,rfl,_⟩:=h;rfl) (λaF A outer s H E ds R hr h=>?_)
 have hu:=hr.units
 refine ⟨_,(ah (df rfl PassesOwn.never (eD rfl T.B.enumerate (ae (aG T.d_reached_from_first (fV T) hr (ae (aa 0) ai)) ai)) (fN 2 rfl (aY (aL 1 nd) (aY (aL 2 nd) cW))) (aj (bj (je (bQ (aa 2))) (aj (aD (cn (ae cK (ae ao (ae (aa 1) ai)))))) aJ)))
   (aj (aD bH))),?_⟩
 obtain ⟨w',rfl,g,h1,dD,q⟩:=h;refine ⟨_,rfl,w',rfl,g,h1,dD,b0 (λ_ ρ=>∃o1 o2,ρ= [some (aO w'),o1,o2]) ⟨_,_,rfl⟩ ?_ ?_⟩
 ·rintro j d _ hd ⟨o1,o2,rfl⟩ A hA
  obtain ⟨y,hy,rfl⟩:=fP hd
  have ey:y= .bl true:=by
   obtain ⟨b,hb,rfl⟩:=eI hy
   have:=n6 hb
   rw [List.mem_replicate] at this;rw [this.2]
  subst ey;refine ⟨rfl,rfl,?_⟩;exact ⟨_,rfl,rfl,aZ (hA _ ⟨_,_,rfl⟩)⟩
 ·rintro _ ⟨o1,o2,rfl⟩
  exact q
theorem gc:FnOk P w Z.K mg base bu 3 T.d_first_fault.f T.d_first_fault.fd ["rows"] (aB Z hU):=by
 have nd:=gk.nd;refine aQ T.d_first_fault.F gk [0,0] (by decide) (λds R h=>by obtain ⟨_,rfl,_⟩:=h;rfl) (λaF A outer s H E ds R hr h=>?_)
 have hu:=hr.units
 refine ⟨_,(ah (aI false 1 nd (aG T.d_alien_fault (kN T) hr (ae (aa 0) ai)))
   (ah (bj (aU j8 (aa 1) bH (bg _)) (aj (aI false 1 nd (aG T.d_self_fault (mm T) hr (ae (aa 0) ai)))) aJ)
   (ah (bj (aU j8 (aa 1) bH (bg _)) (aj (aI false 1 nd (aG T.d_twice_fault (kP T) hr (ae (aa 0) ai)))) aJ)
   (ah (bj (aU j8 (aa 1) bH (bg _)) (aj (aI false 1 nd (aG T.d_lone_fault (ml T) hr (ae (aa 0) ai)))) aJ)
   (ah (bj (aU j8 (aa 1) bH (bg _)) (aj (aI false 1 nd (aG T.d_apart_fault (kO T) hr (ae (aa 0) ai)))) aJ)
   (aj (aD (aa 1)))))))),?_⟩
 obtain ⟨w',rfl,g,h1,dD,q⟩:=h;have no:∀(u:bE)(E:bb)(ρ:DN)(te:aK),ρ[1]? =some (some .aC)→E.nx ρ→Bu (oJ (di (w4 false) (bJ 1) (dC .aC))) u xf E ρ→True:=λ_ _ _ _ _ _ _=>trivial;refine ⟨_,rfl,w',rfl,g,h1,dD,trivial,?_⟩;refine ⟨_,rfl,_,rfl,bG ⟨_,rfl,w',rfl,g,h1,dD,trivial,?_⟩⟩;refine ⟨_,rfl,_,rfl,bG ⟨_,rfl,w',rfl,g,h1,dD,trivial,?_⟩⟩;refine ⟨_,rfl,_,rfl,bG ⟨_,rfl,w',rfl,g,h1,dD,trivial,?_⟩⟩;refine ⟨_,rfl,_,rfl,bG ⟨_,rfl,w',rfl,g,h1,dD,trivial,?_⟩⟩;exact ⟨_,rfl,q⟩
theorem kb{P:Program}{w:World}{mg:Str→Option Value}{base:Heap}{Z:DC}(T:Txt Z mg):FnOk P w Z.K mg base bu 4 T.i_f T.i_fd ["self","turns"] (rU Z):=by
 have xG:=gc (P:=P) (w:=w) (base:=base) T;have nd:=fC.nd;refine T.i_F.ok fC (λvs H Q E h=>?_) (λaF A outer s H vs Q E hr h=>?_)
 ·obtain ⟨p,dx,v,G,w',rfl,_⟩:=h;rfl
 obtain ⟨p,dx,v,G,w',rfl,hp,sG,gp,dv,g,h1,dD,q⟩:=h;have hu:=hr.units
 refine ⟨_,fA (t:=fR Z _ [0,0,0,0] 0 _)
   (bj (je (vk tM tM ao (br cI rfl T.B.len cH (ae (aa 1) ai)) (ny rfl T.c_MOST_POINTS))) (aj nB) aJ)
  (fA (t:=fR Z _ [0,0,0,0] 0 _)
   (nE 2 (NC:= ["row"]) (src:= [none]) rfl nd (oF (af bM)) trivial (ck (aa 1)) (λ_ _ _=>(cj 0 (show (["row"]:List Str).Nodup from by decide+kernel))) (λ_ _ _=>fw) (λ_ _ _=>(ez lE rfl T.B.list lx (ae (aa 0) ai))))
  (fA (t:=fR Z _ [0,0,0,0] 0 _)
   (aI false 3 nd (aG T.d_first_fault (gc T) hr (ae (aa 2) ai)))
  (fA (t:=fR Z _ [0,0,0,0] 0 _)
   (bj (aU vT (aa 3) bH (bg _)) (aj nB) aJ)
  (rM (AG (pv 0) (pv 2) rfl))))),?_⟩
 have lw:(w'.map aR).length=w'.length:=cQ _;refine ⟨⟨G,H,G⟩,[some (.obj p),some (aO w'),none,none],{nx:=λρ=>ρ= [some (.obj p),some (aO w'),none,none],rt:=λ_=>False},⟨G,λ_=> [],?_⟩,?_,⟨?_,λ_ z=>z.elim,λ_ z=>z.elim,λ_ z=>z.elim,λ_ _ z=>z.elim⟩⟩
 ·refine ⟨.refl sG, .refl _,rfl,λi d hi=>?_,λ_=>jO,(λ_ _ _ _ z=>by cases z),(λ_ _ z=>by cases z)⟩
  match i,hi with
  |0,hi=>cases hi;exact ⟨_,rfl, .obj p,rfl⟩
  |1,hi=>cases hi;exact ⟨_,rfl,dv,rfl⟩
  |2,hi=>cases hi
  |3,hi=>cases hi
  |i+4,hi=>cases hi
 ·have e1:D.bl (decide ((1:Int)≤((w'.map aR).length:Int)))= .bl true:=congrArg D.bl (decide_eq_true (by rw [lw];omega))
  have e2:D.bl (decide (((w'.map aR).length:Int)≤14))= .bl true:=congrArg D.bl (decide_eq_true (by rw [lw];omega))
  exact ⟨_,rfl,true,e1,bG ⟨true,e2,aZ rfl⟩⟩
 rintro _ rfl uf H1 S1;refine ⟨⟨G,H,G⟩,_,{nx:=λρ=>ρ= [some (.obj p),some (aO w'),some (aO w'),none],rt:=λ_=>False},S1,?_,⟨?_,λ_ z=>z.elim,λ_ z=>z.elim,λ_ z=>z.elim,λ_ _ z=>z.elim⟩⟩
 ·exact ⟨_,rfl,g6 (ρ:= [none]) aR aR w' _ (λy hy Y h=>⟨_,rfl,h⟩) rfl (small (by omega)) λaw=>⟨trivial,rfl⟩⟩
 rintro _ rfl eX H2 S2;refine ⟨⟨G,H,G⟩,_,{nx:=λρ=>ρ= [some (.obj p),some (aO w'),some (aO w'),some .aC],rt:=λ_=>False},S2,?_,⟨?_,λ_ z=>z.elim,λ_ z=>z.elim,λ_ z=>z.elim,λ_ _ z=>z.elim⟩⟩
 ·exact ⟨_,rfl,w',rfl,g,h1,dD,trivial,rfl⟩
 rintro _ rfl kQ H3 S3;refine ⟨⟨G,H,G⟩,_,{nx:=λρ=>ρ= [some (.obj p),some (aO w'),some (aO w'),some .aC],rt:=λ_=>False},S3,?_,⟨?_,λ_ z=>z.elim,λ_ z=>z.elim,λ_ z=>z.elim,λ_ _ z=>z.elim⟩⟩
 ·exact ⟨_,rfl,_,rfl,aZ rfl⟩
 rintro _ rfl gx H4 ⟨G4,fp,S4⟩;obtain ⟨v0,ya,o0⟩:=S4.at_ 0 _ rfl;obtain ⟨v2,qW,o2⟩:=S4.at_ 2 _ rfl;obtain ⟨d0,_⟩:=o0;obtain ⟨d2,_⟩:=o2;cases d0;have J0:=d2;cases d2 with
 | @lst R xs ds hR e=>
  have K3:=S4.ex.hh _ _ hp;refine ⟨_,qW,_,ya,p,Z.C,dx,[],rfl,K3,T.W.cl,T.W.nR,by decide,?_⟩
  have g4:G4 p=none:=S4.ex.off p (by show H p≠none;rw [hp];exact λz=>nomatch z) gp
  refine q R G4 _ S4.ex.gg (λb o eb=>?_) (λb o eb nb=>?_) S4.ex.off ak J0
  ·rw [ar (aE eb g4)];exact S4.ex.sub _ _ eb
  ·rw [ar nb];exact S4.ex.hh _ _ eb
def AW:bX:=λds P=>∃(w:W),ds= [.fG w]∧P (.int (w.length:Int))
theorem fU:FnOk P w Z.K mg base bu 1 T.m_many.f T.m_many.fd ["self"] (aB Z AW):=by
 have nd:=jA.nd;refine aQ T.m_many.F jA [0] (by decide) (λds R h=>by obtain ⟨_,rfl,_⟩:=h;rfl) (λaF A outer s H E ds R hr h=>?_)
 have hu:=hr.units;refine ⟨_,(aj (aD (br cI rfl T.B.len cH (ae (qC T.W (aa 0)) ai)))),?_⟩;obtain ⟨w',rfl,q⟩:=h;refine ⟨_,rfl,w',rfl,?_⟩;refine (?_:R (.int ((w'.map aR).length:Int)));rw [cQ];exact q
def yZ:bX:=λds P=>∃(w:W),ds= [.fG w]∧w.length≤14∧P (aO w)
theorem m6:FnOk P w Z.K mg base bu 1 T.m_turns.f T.m_turns.fd ["self"] (aB Z yZ):=by
 have nd:=ip.nd;refine aQ T.m_turns.F ip [0] (by decide) (λds R h=>by obtain ⟨_,rfl,_⟩:=h;rfl) (λaF A outer s H E ds R hr h=>?_)
 have hu:=hr.units;refine ⟨_,(aj (aD (lH (NC:= ["row"]) (src:= [none]) rfl (oF (af dX)) trivial (ck (qC T.W (aa 0))) (λ_ _ _=>(cj 0 (show (["row"]:List Str).Nodup from by decide+kernel))) (λ_ _ _=>fw) (λ_ _ _=>(ez lE rfl T.B.list lx (ae (aa 0) ai)))))),?_⟩
 obtain ⟨w',rfl,dD,q⟩:=h;exact ⟨_,rfl,w',rfl,g6 (ρ:= [none]) aR aR w' _ (λy hy Y h=>⟨_,rfl,h⟩) rfl (small (by omega)) λaw=>q⟩
end oj
namespace Wy
section
variable {α β:Type}
end
theorem vw{α:Type}(l:List α)(x d:α)(i j:Nat):(l.set i x).getD j d=if i=j∧i<l.length then x else l.getD j d:=by
 simp only [fZ,jL]
 by_cases e:i=j
 ·subst e
  by_cases h:i<l.length
  ·rw [if_pos rfl,if_pos h,if_pos ⟨rfl,h⟩];rfl
  ·rw [if_pos rfl,if_neg h,if_neg (λz=>h z.2),dq (by omega)]
 ·rw [if_neg e,if_neg (λz=>e z.1)]
end Wy
namespace oj
open PySem L2 Wb
variable {P:Program} {w:World} {mg:Str→Option Value} {base:Heap} {Z:DC} (T:Txt Z mg)
open Wy
theorem sF{α:Type}(l:List α)(k:Nat)(h:k≤l.length):cutD l (some (k:Int)) none=l.drop k:=by
 unfold cutD
 have e1:HT.aS l.length 0 (some (k:Int))=k:=by
  simp only [HT.aS]
  split<;>omega
 have e2:HT.aS l.length l.length none=l.length:=rfl;rw [e1,e2];exact List.take_of_length_le (by simp)
def bc(l:List Int):List D:=l.map D.int
theorem cD(l:List Int):(bc l).length=l.length:=cQ _
theorem yT{α:Type}(l:List α)(k:Nat)(x:α)(h:k<l.length):l.take k++ [x]++l.drop (k+1)=l.set k x:=by
 rw [List.set_eq_take_append_cons_drop,if_pos h];simp
theorem fS(a b:Int)(h:0<b):0≤a%b∧a%b<b:=⟨Int.emod_nonneg _ (by omega),Int.emod_lt_of_pos _ h⟩
theorem jV{g:cf}{tb:bE}{E:bb}{n:Nat}{ρ:DN}(I:Nat→DN→Prop)(h0:I 0 ρ)(hs:∀(j:Nat)(ρ:DN),j<n→I j ρ→∀A:DN→Prop,(∀ρ,I (j+1) ρ→A ρ)→g (av j) ρ λbD=>tb {nx:=A,ct:=A,bk:=E.nx,rt:=E.rt,xc:=E.xc} bD)
  (he:∀ρ,I n ρ→E.nx ρ):ig g tb E (ba 0 n) ρ:=qL I h0 (λj ρ hj h A hA=>by
 have:=hs j ρ hj h A hA
 unfold av at this;rw [Int.zero_add];exact this) he
end oj
namespace Ws
open Wb
abbrev Dy:=List (Option Int)
def b5(dy:Dy)(p:Nat):Option Int:=dy.getD p none
def lst(ls:List (List Int))(p:Nat):List Int:=ls.getD p []
def left(w:W)(ls:List (List Int))(dy:Dy)(p:Nat):List Int:=(lst ls p).filter λd=>!decide (some d∈(row w p).map λq=>b5 dy q)
def Ok(w:W)(ls:List (List Int))(dy:Dy):Prop:=dy.length=w.length∧∀p d,b5 dy p=some d→d∈lst ls p∧∀q∈row w p,b5 dy q≠some d
def Full(w:W)(dy:Dy):Prop:=∀p,p<w.length→b5 dy p≠none
theorem oq{dy:Dy}{p q:Nat}{d:Int}(h:p<dy.length):b5 (dy.set p (some d)) q=if p=q then some d else b5 dy q:=by
 unfold b5;rw [Wy.vw]
 by_cases e:p=q
 ·rw [if_pos ⟨e,h⟩,if_pos e]
 ·rw [if_neg (λz=>e z.1),if_neg e]
theorem vN{w:W}{ls:List (List Int)}{dy:Dy}{p:Nat}{d:Int}:d∈left w ls dy p↔d∈lst ls p∧∀q∈row w p,b5 dy q≠some d:=by
 unfold left;rw [sj];simp only [Bool.not_eq_true',decide_eq_false_iff_not,List.mem_map,not_exists,not_and]
theorem Ok.put{w:W}{ls:List (List Int)}{dy:Dy}{p:Nat}{d:Int}(g:Good w)(o:Ok w ls dy)(hp:p<w.length)(hn:b5 dy p=none)(hd:d∈left w ls dy p):Ok w ls (dy.set p (some d)):=by
 obtain ⟨h1,h2⟩:=vN.mp hd;have hl:p<dy.length:=by rw [o.1];exact hp
 refine ⟨by rw [dS];exact o.1,λq e hq=>?_⟩
 rw [oq hl] at hq
 by_cases e1:p=q
 ·rw [if_pos e1] at hq
  cases hq;subst e1;refine ⟨h1,λr hr=>?_⟩;rw [oq hl]
  by_cases e2:p=r
  ·subst e2;exact absurd hr (g.irr p)
  ·rw [if_neg e2];exact h2 r hr
 ·rw [if_neg e1] at hq
  obtain ⟨h3,h4⟩:=o.2 q e hq;refine ⟨h3,λr hr=>?_⟩;rw [oq hl]
  by_cases e2:p=r
  ·subst e2
   rw [if_pos rfl];intro z;cases z;exact h2 q (g.sym _ _ hr) hq
  ·rw [if_neg e2];exact h4 r hr
def nj(dy:Dy):Nat:=dy.countP λo=>o.isNone
theorem r0{dy:Dy}{p:Nat}{d:Int}(hp:p<dy.length)(hn:b5 dy p=none):nj (dy.set p (some d))+1=nj dy:=by
 unfold b5 at hn;unfold nj;rw [fZ,iU hp] at hn;have hn:dy[p]=none:=hn;rw [List.countP_set hp,hn]
 have:0<dy.countP λo=>o.isNone:=List.countP_pos_iff.mpr ⟨dy[p],oa hp,by rw [hn];rfl⟩
 simp;omega
inductive mM where
 |full (p:Nat)
 |B8 (p:Nat) (ps:List (Option mM))
def pk(w:W)(ls:List (List Int)):Nat→Dy→mM→Prop
 |0,_,_=>False
 |_+1,dy, .full p=>p<w.length∧b5 dy p=none∧left w ls dy p= []
 |m+1,dy, .B8 p ps=>p<w.length∧b5 dy p=none∧ps.length=(lst ls p).length∧
   ∀(i:Nat)(d:Int),(lst ls p)[i]? =some d→(d∈left w ls dy p→∃q,ps[i]? =some (some q)∧pk w ls m (dy.set p (some d)) q)∧(d∉left w ls dy p→ps[i]? =some none)
end Ws
namespace L2
open PySem PySem.Spec PyProof.Rows
section
variable {pr:Program} {wd:World} {A:Around} {R:Result→Shared→Prop} {qb:Addr} {cx kg:List Addr} {n:Nat} {Pv:Nat→Value→Prop} {Sv:Nat→Heap→Prop}
def so(pr:Program)(wd:World)(A:Around)(T:Heap→Prop)(Pv:Nat→Value→Prop)(bt:Nat→Nat→Bool):Prop:=
 ∀i j u v (s:Shared) (Q:Value→Shared→Prop) (E:Value→Shared→Prop),T s.heap→Pv i u→Pv j v→Q (.bool (bt i j)) s→wpAny (model pr wd) A (richCompare .Lt u v) Q E s
theorem tK(wk:Walks pr wd A.in1 qb cx kg n Pv Sv)(bt:Nat→Nat→Bool)(T:Heap→Prop)(cmp:so pr wd A.in1 T Pv bt)(L:Addr)(nL:L∉cx)
  (kT:∀h h':Heap,T h→(∀b o,b∉kg→b≠L→h.get? b=some o→h'.get? b=some o)→T h'):
  ∀(d j:Nat)(s:Shared)(best:Value)(c:Nat),n-(j+1)=d→j+1≤n→Sv (j+1) s.heap→T s.heap→Pv (argBest bt j) best→
  s.heap.get? L=some {cls:= .type "list",dict:=none,data:= .seq #[best,best] c,slots:= #[]}→
  (∀v h' t,Pv (argBest bt (n-1)) v→(∀b o,b∉kg→b≠L→s.heap.get? b=some o→h'.get? b=some o)→R (.ok (.ret v)) {s with heap:=h',toks:=t})→
  codeAny (model pr wd) A (.builtin "min.loop" ⟨[.ref qb, .none, .ref L],[]⟩) R s:=by
 have nW:L∉kg:=λh=>nL (wk.sub _ h);have nm:(toString "min"++toString ".loop":String)="min.loop":=by decide
 intro d
 induction d with
 |zero=>
  intro j s best c hd hj q0 t0 pb hL fin;have en:j+1=n:=by omega
  refine codeAny_builtin PySem.F.entry_min_loop ?_;rw [Around.under_plainId PySem.F.plain_min_loop _];refine wpAny_bind (wpAny_seqItems hL rfl ?_);refine wpAny_bind (wpAny_tryCatch (wk.done s _ _ (en▸q0) λh1 t1 k1=>?_));show wpAny _ A.in1 ((updateSeq L (λ_=> #[]))>>=_) _ _ _;refine wpAny_bind ?_;refine wpAny_updateSeq (k1 L _ nW hL) rfl (wpAny_bind (wpAny_letGo (wpAny_pure ?_)));exact fin best _ t1 (by rw [←en];exact pb) λb o nb nl e=>(Heap.get?_update_other _ _ (Ne.symm nl)).trans (k1 b o nb e)
 |succ d ih=>
  intro j s best c hd hj q0 t0 pb hL fin;have lt:j+1<n:=by omega
  refine codeAny_builtin PySem.F.entry_min_loop ?_;rw [Around.under_plainId PySem.F.plain_min_loop _];refine wpAny_bind (wpAny_seqItems hL rfl ?_);refine wpAny_bind (wpAny_tryCatch (wk.item (j+1) s _ _ lt q0 λv h1 t1 pv q1 k1=>?_));have vA:=k1 L _ nW hL;have rW:T h1:=kT _ _ t0 λb o nb _ e=>k1 b o nb e;show wpAny _ A.in1 ((tryCatch (holding [v,v] (richCompare .Lt v best>>=_)) _)>>=_) _ _ _;refine wpAny_bind (wpAny_tryCatch (wpAny_holding (wpAny_bind (cmp (j+1) (argBest bt j) v best _ _ _ rW pv pb ?_))));refine wpAny_bind (wpAny_holding (wpAny_truthy_bool ?_));refine wpAny_bind (wpAny_letGo (wpAny_pure ?_));cases eb:bt (j+1) (argBest bt j) with
  |true=>
   simp only [if_true];refine wpAny_bind ?_;refine wpAny_updateSeq vA rfl (wpAny_bind (wpAny_letGo ?_));rw [nm];refine wpAny_pure ⟨plainId_quiet PySem.F.plain_min_loop _,ih (j+1) _ v _ (by omega) lt (wk.frame _ _ _ q1 λb hb o e=>?_) (kT _ _ rW λb o _ nl e=>?_) ?_ (Heap.get?_update_self _ vA rfl) λv2 h2 t2 p2 k2=>?_⟩
   ·exact (Heap.get?_update_other _ _ (λz:L=b=>nL (z▸hb))).trans e
   ·exact (Heap.get?_update_other _ _ (Ne.symm nl)).trans e
   ·simp only [argBest,eb,if_true];exact pv
   ·exact fin v2 h2 t2 p2 λb o nb nl e=>k2 b o nb nl ((Heap.get?_update_other _ _ (Ne.symm nl)).trans (k1 b o nb e))
  |false=>
   simp only [sg,if_false];refine wpAny_bind (wpAny_letGo ?_);rw [nm];refine wpAny_pure ⟨plainId_quiet PySem.F.plain_min_loop _,ih (j+1) _ best c (by omega) lt q1 rW ?_ vA λv2 h2 t2 p2 k2=>?_⟩
   ·simp only [argBest,eb,sg,if_false];exact pb
   ·exact fin v2 h2 t2 p2 λb o nb nl e=>k2 b o nb nl (k1 b o nb e)
theorem tJ(wk:Walks pr wd A.in1 qb cx kg n Pv Sv)(bt:Nat→Nat→Bool)(T:Heap→Prop)(cmp:so pr wd A.in1 T Pv bt)(L:Addr)(nL:L∉cx)
  (kT:∀h h':Heap,T h→(∀b o,b∉kg→b≠L→h.get? b=some o→h'.get? b=some o)→T h') (hn:0<n) {s:Shared} {c:Nat} (q0:Sv 0 s.heap) (t0:T s.heap)
  (hL:s.heap.get? L=some {cls:= .type "list",dict:=none,data:= .seq #[] c,slots:= #[]})
  (fin:∀v h' t,Pv (argBest bt (n-1)) v→(∀b o,b∉kg→b≠L→s.heap.get? b=some o→h'.get? b=some o)→R (.ok (.ret v)) {s with heap:=h',toks:=t}):
  codeAny (model pr wd) A (.builtin "min.loop" ⟨[.ref qb, .none, .ref L],[]⟩) R s:=by
 have nW:L∉kg:=λh=>nL (wk.sub _ h);have nm:(toString "min"++toString ".loop":String)="min.loop":=by decide
 refine codeAny_builtin PySem.F.entry_min_loop ?_;rw [Around.under_plainId PySem.F.plain_min_loop _];refine wpAny_bind (wpAny_seqItems hL rfl ?_);refine wpAny_bind (wpAny_tryCatch (wk.item 0 s _ _ hn q0 λv h1 t1 pv q1 k1=>?_));have vA:=k1 L _ nW hL;have rW:T h1:=kT _ _ t0 λb o nb _ e=>k1 b o nb e;show wpAny _ A.in1 (updateSeq L (λ_=> #[v,v])>>=_) _ _ _;refine wpAny_bind ?_;refine wpAny_updateSeq vA rfl ?_;rw [nm];refine wpAny_pure ⟨plainId_quiet PySem.F.plain_min_loop _,tK wk bt T cmp L nL kT _ 0 _ v _ rfl hn (wk.frame _ _ _ q1 λb hb o e=>?_) (kT _ _ rW λb o _ nl e=>?_) pv (Heap.get?_update_self _ vA rfl) λv2 h2 t2 p2 k2=>?_⟩
 ·exact (Heap.get?_update_other _ _ (λz:L=b=>nL (z▸hb))).trans e
 ·exact (Heap.get?_update_other _ _ (Ne.symm nl)).trans e
 ·exact fin v2 h2 t2 p2 λb o nb nl e=>k2 b o nb nl ((Heap.get?_update_other _ _ (Ne.symm nl)).trans (k1 b o nb e))
end
section
variable {pr:Program} {wd:World} {A:Around} {E:Value→Shared→Prop} {s:Shared}
theorem vO{x:Value}{Q:Value→Shared→Prop}(T:Heap→Prop)
  (h:wpAny (model pr wd) A.in1 (pyIter x) (λit s2=>∃qb cx kg n Pv Sv bt,it= .ref qb∧Walks pr wd A.in1 qb cx kg n Pv Sv∧Sv 0 s2.heap∧(∀b∈cx,b<s2.heap.objs.size)∧0<n∧so pr wd A.in1 T Pv bt∧T s2.heap∧
   (∀h h':Heap,T h→(∀b o,b∉kg→b≠s2.heap.objs.size→h.get? b=some o→h'.get? b=some o)→T h')∧
   ∀v h' tk,Pv (argBest bt (n-1)) v→(∀b o,b∉kg→s2.heap.get? b=some o→h'.get? b=some o)→Q v {s2 with heap:=h',toks:=tk}) E s):
  wpAny (model pr wd) A (call (.builtin "min") [x]) Q E s:=by
 have nm:(toString "min"++toString ".loop":String)="min.loop":=by decide
 refine call_function_tree PySem.F.kind_min PySem.F.plain_min PySem.F.entry_min (PySem.F.args_min1 _) ?_;show wpAny _ A.in1 (Builtin.Builtins.bindParams "min" ["key","default"] 0 ⟨[],[]⟩>>=_) _ _ s;refine wpAny_bind (wpAny_of_eq (rfl:Builtin.Builtins.bindParams "min" ["key","default"] 0 ⟨[],[]⟩=pure [none,none]) ?_);refine wpAny_bind (wpAny_pure ?_);refine wpAny_bind (wpAny_mono h (λit s2 h2=>?_) λ_ _ e=>e);obtain ⟨qb,cx,kg,n,Pv,Sv,bt,rfl,wk,q0,hf,hn,cmp,t0,kT,hQ⟩:=h2;refine wpAny_bind (wpAny_newObj_type ?_);have nL:s2.heap.objs.size∉cx:=λhm=>eS _ (hf _ hm);rw [nm];refine wpAny_pure ⟨plainId_quiet PySem.F.plain_min_loop _,tJ wk bt T cmp s2.heap.objs.size nL kT hn (wk.frame _ _ _ q0 λb _ o e=>Heap.get?_push_of_some _ e) (kT _ _ t0 λb o _ _ e=>Heap.get?_push_of_some _ e) (Heap.get?_push_size _ rfl) λv h' tk hP hk=>?_⟩;exact hQ v h' tk hP λb o KD e=>hk b o KD (bA (Heap.lt_size e)) (Heap.get?_push_of_some _ e)
end
theorem ki(bt:Nat→Nat→Bool):∀k,argBest bt k≤k
 |0=>bW _
 |k+1=>by
  unfold argBest
  split
  ·exact bW _
  ·exact Nat.le_succ_of_le (ki bt k)
theorem iW{f:Nat→List Int}:∀k i,i≤k→HT.lexLt (f i) (f (argBest (λi j=>HT.lexLt (f i) (f j)) k))=false
 |0,i,h=>by
  obtain rfl:i=0:=by omega
  exact lT _
 |k+1,i,h=>by
  have ih:=iW (f:=f) k;unfold argBest
  by_cases c:HT.lexLt (f (k+1)) (f (argBest (λi j=>HT.lexLt (f i) (f j)) k))=true
  ·rw [if_pos c]
   by_cases z:i=k+1
   ·subst z;exact lT _
   ·have:=ih i (by omega)
    cases e:HT.lexLt (f i) (f (k+1)) with
    |false=>rfl
    |true=>rw [uG _ _ _ e c] at this;cases this
  ·rw [if_neg c]
   by_cases z:i=k+1
   ·subst z;exact Bool.eq_false_iff.mpr c
   ·exact ih i (by omega)
section
variable {X:Cx} {Z:DC}
theorem sE(hc:X.calm=true)(hu:X.A.units+64<cLine):CallR X (.builtin "min") (λxs H Q=>∃(p:Addr)(L:List (Addr×List Int)),xs= [.ref p]∧H p=some (.lst (L.map λe=>V.ref e.1))∧(∀e∈L,H e.1=some (.tup (e.2.map V.int)))∧L≠ []∧
  ∀e∈L,(∀f∈L,HT.lexLt f.2 e.2=false)→Q (.ref e.1) H):=by
 intro pins s σ H xs us Q I rv h;obtain ⟨p,L,rfl,hp,hL,F6,q⟩:=h;obtain ⟨u,rfl,ru⟩:=rv.one;cases ru;obtain ⟨its,r,pl,hz⟩:=I.list (bq.of hp);have hl:=r.length;rw [cQ] at hl;have Ou:0<L.length:=List.length_pos_iff.mpr F6
 have rb:∀i:Nat,(hi:i<L.length)→its[i]? =some (.ref L[i].1):=λi hi=>by
  obtain ⟨w,hw,yR⟩:=r.get (i:=i) (x:= .ref L[i].1) (by rw [cP,iU hi];rfl)
  cases yR;exact hw
 refine vO (λh=>∀b o,s.heap.get? b=some o→h.get? b=some o) (wpAny_pyIter_list pl.isList ?_)
 have qV:p≠s.heap.objs.size:=by
  obtain ⟨o,ho,_⟩:=pl.isList;exact bA (Heap.lt_size ho)
 let f:Nat→List Int:=λi=>(L.getD i (0,[])).2
 refine ⟨_,_,_,its.toArray.size,_,_,λi j=>HT.lexLt (f i) (f j),rfl,Walks.list (show X.A.in1.handled=none from I.ok.hd hc) s.heap.objs.size p qV its.toArray,⟨⟨_,Heap.get?_push_size _ rfl,rfl,rfl⟩,pl.isList.push _⟩,?_,?_,?_,λb o e=>Heap.get?_push_of_some _ e,?_,?_⟩
 ·intro b hb
  have:b=s.heap.objs.size∨b=p:=by simpa using hb
  obtain ⟨o,ho,_⟩:=pl.isList;have lt:=Heap.lt_size ho;have e:(s.heap.push {cls:= .type "list_iterator",data:= .fields #[.ref p, .int 0 0]}).objs.size=s.heap.objs.size+1:=by simp [Heap.push]
  rcases this with rfl|rfl
  ·exact Nat.lt_of_lt_of_eq (Nat.lt_succ_self _) e.symm
  ·exact Nat.lt_of_lt_of_eq (Nat.lt_succ_of_lt lt) e.symm
 ·rw [cc];omega
 ·intro i j u v s' Q' E' hT Ld tE hq
  have C4:its[i]? =some u:=by simpa using Ld
  have qW:its[j]? =some v:=by simpa using tE
  have hi:i<L.length:=by have:=(f6.mp C4).1;omega
  have hj:j<L.length:=by have:=(f6.mp qW).1;omega
  rw [rb i hi] at C4;rw [rb j hj] at qW;cases C4;cases qW;obtain ⟨t1,r1,p1,_⟩:=I.tuple (cg.of (hL L[i] (oa hi)));obtain ⟨t2,r2,p2,_⟩:=I.tuple (cg.of (hL L[j] (oa hj)));obtain ⟨o1,g1,c1⟩:=p1;obtain ⟨o2,g2,c2⟩:=p2;have i1:IntsAre t1.toArray.toList L[i].2:=intsAre_of r1;have i2:IntsAre t2.toArray.toList L[j].2:=intsAre_of r2
  have ef:∀k,(hk:k<L.length)→f k=L[k].2:=λk hk=>by
   show (L.getD k (0,[])).2=_;rw [fZ,iU hk];rfl
  have tD:Q' (.bool (HT.lexLt L[i].2 L[j].2)) s':=by rw [←ef i hi,←ef j hj];exact hq
  exact HT.rA (A:=X.A.in1) ⟨o1,hT _ _ g1,c1⟩ ⟨o2,hT _ _ g2,c2⟩ i1 i2 (by simp only [Around.in1_units];omega) tD
 ·intro h h' hT hk b o e
  have lt:=Heap.lt_size e;refine hk b o ?_ ?_ (hT b o e)
  ·intro hm
   have:b=s.heap.objs.size:=by simpa using hm
   exact bA lt this
  ·simp only [Heap.push,Array.size_push]
   exact bA (Nat.lt_succ_of_lt lt)
 ·intro v h' tk hP kk
  have kept:∀b o,s.heap.get? b=some o→h'.get? b=some o:=λb o e=>kk b o (by simp;exact bA (Heap.lt_size e)) (Heap.get?_push_of_some _ e)
  have hk:=ki (λi j=>HT.lexLt (f i) (f j)) (its.toArray.size-1);generalize hb:argBest (λi j=>HT.lexLt (f i) (f j)) (its.toArray.size-1)=k at hP hk;rw [cc] at hk;have CU:k<L.length:=by omega
  have qW:its[k]? =some v:=by simpa using hP
  rw [rb k CU] at qW;cases qW;refine ⟨.ref L[k].1,H,I.kept kept,rfl,q L[k] (oa CU) λe he=>?_⟩;obtain ⟨i,hi,rfl⟩:=List.mem_iff_getElem.mp he
  have:=iW (f:=f) (its.toArray.size-1) i (by rw [cc];omega)
  rw [hb] at this
  have ef:∀k,(hk:k<L.length)→f k=L[k].2:=λk hk=>by
   show (L.getD k (0,[])).2=_;rw [fZ,iU hk];rfl
  rw [ef i hi,ef k CU] at this;exact this
def tupI(l:List Int):D:= .tup (l.map D.int)
def B7:bX:=λds P=>∃ls:List (List Int),ds= [.lst (ls.map tupI)]∧ls≠ []∧∀m∈ls,(∀n∈ls,HT.lexLt n m=false)→P (tupI m)
theorem nF{G:Hp}:∀{vs:List V}{ns:List (List Int)},ag Z G vs (ns.map tupI)→∃L:List (Addr×List Int),vs=L.map (λe=>V.ref e.1)∧L.map (·.2)=ns∧∀e∈L,G e.1=some (.tup (e.2.map V.int))
 |vs,[],h=>by rw [h.yp];exact ⟨[],rfl,rfl,λp hp=>by cases hp⟩
 |vs,n::ns,h=>by
  obtain ⟨v,us,rfl,a,as⟩:=h.pL;obtain ⟨L,rfl,h2,h3⟩:=nF as;obtain ⟨p,xs,rfl,hp,e⟩:=a.iQ;rw [qG e] at hp;refine ⟨(p,n)::L,rfl,by rw [←h2];rfl,λq hq=>?_⟩
  rcases eU.mp hq with rfl|hq
  ·exact hp
  ·exact h3 q hq
theorem wX(hc:X.calm=true)(hu:X.A.units+64<cLine):CallR X (.builtin "min") (fQ Z B7):=by
 refine (sE hc hu).imp ?_;rintro xs H Q ⟨G,ds,P,s,dv,⟨ls,rfl,qV,hp⟩,q⟩;obtain ⟨v,rfl,a⟩:=dv.ofOne;obtain ⟨p,vs,rfl,h,e⟩:=a.fT;obtain ⟨L,rfl,rfl,h3⟩:=nF e;refine ⟨p,L,rfl,s _ _ h,λx hx=>s _ _ (h3 x hx),λz=>qV (by rw [z];rfl),λx hx hm=>?_⟩
 exact q _ (hp x.2 (List.mem_map_of_mem hx) λn hn=>by
  obtain ⟨y,hy,rfl⟩:=List.mem_map.mp hn;exact hm y hy) _ G H (.refl s) (.tup (h3 x hx) (.ints _))
end
end L2
set_option maxHeartbeats 1000000
namespace HT
open PySem PyProof.Rows
open PySem.SeqAt
open PySem.AutoSeq1 (wpAny_loadPart')
open PySem.MeetsSeq PySem.MeetsSeq2 PySem.MeetsSeq3
section
variable {prog:Program} {w:World} {A:Around} {E:Value→Shared→Prop} {s:Shared}
end
end HT
namespace L2
open PySem PySem.Spec PyProof.Rows
section
variable {Z:DC} {X:Cx} {e:Expr} {te:aK} {pos p2:Pos} {lo hi:Option Expr} {tl th:sq}
theorem vq{P:Program}{w:World}{K:PySem.W.Frag}{mg:Str→Option Value}{base:Heap}{f:Addr}{fd:FuncData}{ps:List Str}:FnOk P w K mg base bu 0 f fd ps (aB Z (λ_ _=>False)):=
 ⟨λvs H Q E h=>let ⟨_,_,_,_,_,z,_⟩:=h;z.elim,λA outer s H args us vs Q E _ _ _ _ h=>let ⟨_,_,_,_,_,z,_⟩:=h;z.elim⟩
end
end L2
set_option maxHeartbeats 4000000
namespace oj
open PySem L2 Wb
variable {P:Program} {w:World} {mg:Str→Option Value} {base:Heap} {Z:DC} (T:Txt Z mg)
open Wy Ws
def bo:Option Int→D
 |none=> .aC
 |some d=> .int d
def oO(dy:Dy):D:= .lst (dy.map bo)
def ju(ls:List (List Int)):D:= .lst (ls.map λl=> .lst (bc l))
mutual
def uM:mM→D
 | .full p=> .tup [.str "full",av p]
 | .B8 p ps=> .tup [.str "choose",av p, .tup (mn ps)]
def mn:List (Option mM)→List D
 | []=> []
 |o::os=>uN o::mn os
def uN:Option mM→D
 |none=> .aC
 |some q=>uM q
end
theorem mr:∀ps:List (Option mM),mn ps=ps.map uN
 | []=>by rw [mn];rfl
 |o::os=>by rw [mn,mr os];rfl
structure Sz (w:W) (ls:List (List Int)) (dy:Dy):Prop where
 g:Good w
 n1:1≤w.length
 n8:w.length≤8
 ll:ls.length=w.length
 ld:dy.length=w.length
 lr:∀p,(lst ls p).length≤100
 rl:∀p,(row w p).length≤100
theorem uJ{ls:List (List Int)}{p:Nat}(h:p<ls.length):(ls.map λl=>D.lst (bc l))[p]? =some (.lst (bc (lst ls p))):=by
 unfold lst;rw [cP,iU h,fZ,iU h];rfl
theorem uA{dy:Dy}{p:Nat}(h:p<dy.length):(dy.map bo)[p]? =some (bo (b5 dy p)):=by
 unfold b5;rw [cP,iU h,fZ,iU h];rfl
theorem vn(l:List (Option Int)):(l.map bo).all eE=true:=by
 rw [List.all_map,List.all_eq_true];intro o _;cases o<;>rfl
theorem yc{l:List (Option Int)}{d:Int}:inD (.int d) (l.map bo)=decide (some d∈l):=by
 unfold inD;rw [List.any_map]
 have:((λy=>jf y (.int d))∘bo)=λo:Option Int=>decide (o=some d):=by
  funext o
  cases o with
  |none=>simp [bo,jf,Function.comp]
  |some e=>
   simp [bo,jf,Function.comp]
   by_cases h:e=d<;>simp [h]
 rw [this];rw [Bool.eq_iff_iff];simp
theorem yb{l:List Int}{d:Int}:inD (.int d) (bc l)=decide (d∈l):=by
 unfold inD bc;rw [List.any_map]
 have:((λy=>jf y (.int d))∘D.int)=λo:Int=>decide (o=d):=by
  funext o
  simp [jf,Function.comp]
  by_cases h:o=d<;>simp [h]
 rw [this,Bool.eq_iff_iff];simp
theorem qK(l:List Int):(bc l).all eE=true:=by simp [bc,eE]
def AU:bX:=λds P=>∃(w:W)(ls:List (List Int))(dy:Dy)(p:Nat),ds= [aO w,ju ls,oO dy,av p]∧Sz w ls dy∧p<w.length∧P (.lst (bc (left w ls dy p)))
theorem ik:FnOk P w Z.K mg base bu 1 T.d_dyes_left.f T.d_dyes_left.fd ["turns","lists","dyeing","p"] (aB Z AU):=by
 have nd:=iw.nd;refine aQ T.d_dyes_left.F iw [0,0,0,0,0] (by decide) (λds R h=>by obtain ⟨_,_,_,_,rfl,_⟩:=h;rfl) (λaF A outer s H E ds R hr h=>?_)
 have hu:=hr.units
 refine ⟨_,(ah (aI false 4 nd (lH (NC:= ["q","dyeing"]) (src:= [none,some 2]) rfl (oF (af cM)) ⟨rfl,rfl,trivial⟩ (ck (cJ (aa 0) (aa 3))) (λ_ _ _=>(cj 0 (show (["q","dyeing"]:List Str).Nodup from by decide+kernel))) (λ_ _ _=>fw) (λ_ _ _=>(cJ (aa 1) (aa 0)))))
   (aj (aD (lH (NC:= ["dye","taken"]) (src:= [none,some 4]) rfl (oF (af cM)) ⟨rfl,rfl,trivial⟩ (ck (cJ (aa 1) (aa 3))) (λ_ _ _=>(cj 0 (show (["dye","taken"]:List Str).Nodup from by decide+kernel))) (λ_ _ _=>(qE (aU nV (aa 0) (aa 1) (by with_unfolding_all rfl)))) (λ_ _ _=>(aa 0)))))),?_⟩
 obtain ⟨w',ls,dy,p,rfl,z,hp,q⟩:=h;refine ⟨_,rfl,_,rfl,_,b6 (eR hp),g6 (ρ:= [none,some (oO dy)]) av (λq=>bo (b5 dy q)) (row w' p) _ (λy hy Y h=>?_) rfl (small (by have:=z.rl p;omega)) λaw=>⟨trivial,?_⟩⟩
 ·exact ⟨_,rfl,_,rfl,_,b6 (uA (by rw [z.ld];exact z.g.rng _ _ hy)),h⟩
 have e0:(row w' p).map (λq=>bo (b5 dy q))=((row w' p).map λq=>b5 dy q).map bo:=by rw [List.map_map];rfl
 rw [e0];refine ⟨_,rfl,_,rfl,_,b6 (uJ (by rw [z.ll];exact hp)),jr (ρ:= [none,some (.lst (((row w' p).map λq=>b5 dy q).map bo))]) D.int (λd=>!decide (some d∈(row w' p).map λq=>b5 dy q)) D.int (lst ls p) _ [] _ (λy hy Y Nn t1 t2=>?_) ⟨none,rfl⟩ (by have:=z.lr p;simp;exact small (by omega)) λaw=>?_⟩
 ·refine ⟨_,rfl,_,rfl,rfl,vn _,_,rfl,?_⟩
  rw [if_pos rfl,yc];exact bS (λe=>⟨_,rfl,t1 e⟩) (λe=>t2 e)
 ·rw [si]
  exact q
def t5:bX:=λds P=>∃(dy:Dy)(p:Nat)(d:Int),ds= [oO dy,av p, .int d]∧p<dy.length∧dy.length≤8∧P (oO (dy.set p (some d)))
theorem pO:FnOk P w Z.K mg base bu 1 T.d_with_dye.f T.d_with_dye.fd ["dyeing","p","dye"] (aB Z t5):=by
 have nd:=jE.nd;refine aQ T.d_with_dye.F jE [0,0,0] (by decide) (λds R h=>by obtain ⟨_,_,_,rfl,_⟩:=h;rfl) (λaF A outer s H E ds R hr h=>?_)
 have hu:=hr.units;refine ⟨_,(aj (aD (ay bT (ay bT (gY (aa 0) ja (jb (aa 1))) (gW (ae (aa 2) ai))) (gY (aa 0) (jb (ay bT (aa 1) ao)) ja)))),?_⟩;obtain ⟨dy,p,d,rfl,hp,h8,q⟩:=h;have CG:cutD (dy.map bo) none (some (p:Int))=(dy.take p).map bo:=by rw [lG _ _ (by simp;omega),List.map_take]
 have Fy:cutD (dy.map bo) (some ((p:Int)+1)) none=(dy.drop (p+1)).map bo:=by
  have:=sF (dy.map bo) (p+1) (by simp;omega)
  rw [List.map_drop,←this];rfl
 have l1:(dy.take p).length≤8:=by rw [sh];omega
 have l2:(dy.drop (p+1)).length≤8:=by rw [List.length_drop];omega
 refine ⟨_,rfl,_,rfl,_,rfl,by show 1≤sizeLine;decide,small ?_,_,rfl,_,rfl,small ?_,?_⟩
 ·rw [CG,cQ];show _+1≤1000;omega
 ·rw [CG]
  refine (?_:_+(cutD (dy.map bo) (some ((p:Int)+1)) none).length≤1000);rw [Fy,dR,cQ,cQ];show _+1+_≤1000;omega
 ·refine (?_:R (.lst (cutD (dy.map bo) none (some (p:Int))++ [.int d]++cutD (dy.map bo) (some ((p:Int)+1)) none)))
  rw [CG,Fy]
  have:(dy.take p).map bo++ [.int d]++(dy.drop (p+1)).map bo=(dy.set p (some d)).map bo:=by
   rw [←yT dy p (some d) hp,mH,mH];rfl
  rw [this];exact q
theorem xw(dy:Dy):cX (dy.map bo)=(List.range dy.length).map λ(p:Nat)=>D.tup [.int (p:Int),bo (b5 dy p)]:=by
 refine List.ext_getElem? λi=>?_;rw [cP]
 by_cases h:i<dy.length
 ·rw [List.getElem?_range h]
  have hl:i<(cX (dy.map bo)).length:=by rw [lK,cQ];exact h
  rw [iU hl];obtain ⟨x,hx,e⟩:=fP (iU hl);rw [uA h] at hx;cases hx;rw [e];rfl
 ·rw [dq (by rw [lK,cQ];omega),dq (by simpa using cS h)];rfl
def wm:bX:=λds P=>∃(w:W)(ls:List (List Int))(dy:Dy),ds= [aO w,ju ls,oO dy]∧Sz w ls dy∧((∀p,p<w.length→b5 dy p≠none)→P .aC)∧∀p,p<w.length→b5 dy p=none→P (av p)
theorem kc:FnOk P w Z.K mg base bu 2 T.d_chosen_point.f T.d_chosen_point.fd ["turns","lists","dyeing"] (aB Z wm):=by
 have nd:=fE.nd;refine aQ T.d_chosen_point.F fE [0,0,0,0] (by decide) (λds R h=>by obtain ⟨_,_,_,rfl,_⟩:=h;rfl) (λaF A outer s H E ds R hr h=>?_)
 have hu:=hr.units
 refine ⟨_,(ah (nE 3 (NC:= ["p","dye","turns","lists","dyeing"]) (src:= [none,none,some 0,some 1,some 2]) rfl nd (oF (af cp)) ⟨rfl,rfl,rfl,rfl,rfl,rfl,trivial⟩ (eD rfl T.B.enumerate (ae (aa 2) ai)) (λ_ _ _=>(zD 2 rfl (nz (cj 0 (show (["p","dye","turns","lists","dyeing"]:List Str).Nodup from by decide+kernel)) (nz (cj 1 (show (["p","dye","turns","lists","dyeing"]:List Str).Nodup from by decide+kernel)) xp)))) (λ_ _ _=>(qE (aU j8 (aa 1) bH (bg _)))) (λ_ _ _=>(cn (ae (br cI rfl T.B.len cH (ae (aG T.d_dyes_left (ik T) hr (ae (aa 2) (ae (aa 3) (ae (aa 4) (ae (aa 0) ai))))) ai)) (ae (aa 0) ai)))))
   (aj (aD (CA (bQ (aa 3)) (cJ (br (wX rfl hu) rfl T.B.min zv (ae (aa 3) ai)) ao) bH)))),?_⟩
 obtain ⟨w',ls,dy,rfl,z,q1,q2⟩:=h;refine ⟨_,rfl,?_⟩;refine (?_:ic _ _ _ (cX (dy.map bo)) _ _ _);rw [xw];refine pC (λρ=>∃o0 o1,ρ= [o0,o1,some (aO w'),some (ju ls),some (oO dy)]) (λ(p:Nat)=>D.tup [.int (p:Int),bo (b5 dy p)]) (λp=>(b5 dy p).isNone) (λp=>tupI [((left w' ls dy p).length:Int),(p:Int)]) _ _ [] _ ?_ ⟨_,_,rfl⟩ (by have:=z.ld;have:=z.n8;simp;exact small (by omega)) ?_
 ·rintro p hp _ ⟨o0,o1,rfl⟩ Y Nn hY hN
  have mX:p<w'.length:=by rw [←z.ld];simpa using hp
  refine ⟨rfl,rfl,?_⟩;refine ⟨_,rfl,_,rfl,?_⟩;have en:pj (bo (b5 dy p))=(b5 dy p).isNone:=by cases b5 dy p<;>rfl
  rw [if_neg fJ,en];refine bS (λe=>?_) (λe=>hN _ ⟨_,_,rfl⟩ e);refine ⟨_,rfl,_,rfl,_,rfl,_,rfl,w',ls,dy,p,rfl,z,mX,?_⟩;refine ⟨_,rfl,by show 2≤sizeLine;decide,?_⟩
  have:(D.tup [.int ((bc (left w' ls dy p)).length:Int), .int (p:Int)])=tupI [((left w' ls dy p).length:Int),(p:Int)]:=by rw [cD];rfl
  refine (?_:Y _ (D.tup [.int ((bc (left w' ls dy p)).length:Int), .int (p:Int)]));rw [this];exact hY _ ⟨_,_,rfl⟩ e
 ·rintro _ ⟨o0,o1,rfl⟩
  refine ⟨trivial,?_⟩;rw [si];generalize hf:(List.range dy.length).filter (λp=>(b5 dy p).isNone)=fs
  have mf:∀p,p∈fs→p<w'.length∧b5 dy p=none:=λp hp=>by
   rw [←hf,sj,sk,z.ld] at hp;exact ⟨hp.1,by cases h:b5 dy p with|none=>rfl|some _=>rw [h] at hp;cases hp.2⟩
  refine ⟨_,rfl,?_⟩;cases fs with
  |nil=>
   refine ⟨rfl,aZ (q1 λp hp hn=>?_)⟩
   have:p∈(List.range dy.length).filter (λp=>(b5 dy p).isNone):=by
    rw [sj,sk,z.ld];exact ⟨hp,by rw [hn];rfl⟩
   rw [hf] at this;cases this
  |cons f fs=>
   refine ⟨rfl,bG ⟨_,rfl,(f::fs).map (λp=> [((left w' ls dy p).length:Int),(p:Int)]),by rw [List.map_map];rfl,by simp,λm hm _=>?_⟩⟩
   obtain ⟨p,hp,rfl⟩:=List.mem_map.mp hm;obtain ⟨a,b⟩:=mf p hp;exact ⟨.int (p:Int),rfl,q2 p a b⟩
def spS(m:Nat):bX:=λds P=>∃(w:W)(ls:List (List Int))(dy:Dy),ds= [aO w,ju ls,oO dy]∧Sz w ls dy∧Ok w ls dy∧nj dy<m∧(∀dz,Ok w ls dz→Full w dz→P (.tup [.str "dyed",oO dz]))∧∀q,pk w ls (nj dy) dy q→P (.tup [.str "none",uM q])
def Ic(m:Nat):bX:=spS (m+1)
theorem wZ{a b:Str}{P:D→Prop}(h:P (.bl (decide (a=b)))):qw (.str a) (.str b) P:=⟨.str a, .str b,rfl,rfl,by simp [PyData.depth],by
 have:PyData.eqv (.str a) (.str b)=decide (a=b):=by
  rw [PyData.eqv]
  by_cases z:a=b<;>simp [z]
 rw [if_neg fJ,this];exact h⟩
theorem Sz.put{w:W}{ls:List (List Int)}{dy:Dy}(z:Sz w ls dy)(p:Nat)(d:Int):Sz w ls (dy.set p (some d)):=⟨z.g,z.n1,z.n8,z.ll,by rw [dS];exact z.ld,z.lr,z.rl⟩
theorem CI{i j:Int}{P:D→Prop}{ρ:DN}(h:P (.bl (decide (i=j)))):dC (.int j) ρ (λb=>qw (.int i) b P):=qz h
theorem FA{i j:Str}{P:D→Prop}{ρ:DN}(h:P (.bl (decide (i=j)))):dC (.str j) ρ (λb=>qw (.str i) b P):=wZ h
theorem wz{l:List Int}:rV (.lst (bc l))= !l.isEmpty:=by cases l<;>rfl
def kR(w:W)(ls:List (List Int))(dy:Dy)(p m i:Nat)(ps:List (Option mM)):Prop:=ps.length=i∧∀(k:Nat)(d:Int),k<i→(lst ls p)[k]? =some d→
 (d∈left w ls dy p→∃q,ps[k]? =some (some q)∧pk w ls m (dy.set p (some d)) q)∧(d∉left w ls dy p→ps[k]? =some none)
theorem kR.snoc{w:W}{ls:List (List Int)}{dy:Dy}{p m i:Nat}{ps:List (Option mM)}(h:kR w ls dy p m i ps){d:Int}(hd:(lst ls p)[i]? =some d){o:Option mM}
  (ho:(d∈left w ls dy p→∃q,o=some q∧pk w ls m (dy.set p (some d)) q)∧(d∉left w ls dy p→o=none)):kR w ls dy p m (i+1) (ps++ [o]):=by
 refine ⟨by simp [h.1],λk e hk he=>?_⟩
 by_cases z:k<i
 ·rw [jJ (by rw [h.1];exact z)]
  exact h.2 k e z he
 ·have:k=i:=by omega
  subst this;rw [hd] at he;cases he;rw [n4 (by rw [h.1];exact bW _),h.1,Nat.sub_self]
  refine ⟨λa=>?_,λa=>?_⟩
  ·obtain ⟨q,e,hq⟩:=ho.1 a
   exact ⟨q,by rw [e];rfl,hq⟩
  ·rw [ho.2 a];rfl
theorem jH(m k:Nat)(hk:2≤k)(jW:FnOk P w Z.K mg base bu k T.d_searched_from.f T.d_searched_from.fd ["turns","lists","dyeing"] (aB Z (spS m))):FnOk P w Z.K mg base bu (k+1) T.d_searched_from.f T.d_searched_from.fd ["turns","lists","dyeing"] (aB Z (Ic m)):=by
 have nd:=fh.nd;refine aQ T.d_searched_from.F fh [0,0,0,0,0,1,0,0] (by decide) (λds R h=>by obtain ⟨_,_,_,rfl,_⟩:=h;rfl) (λaF A outer s H E ds R hr h=>?_)
 have hu:=hr.units
 refine ⟨_,(ah (aI false 3 nd (aG T.d_chosen_point (kc T) hr (ae (aa 0) (ae (aa 1) (ae (aa 2) ai)))))
   (ah (bj (aU j8 (aa 3) bH (bg _)) (aj (aD (cn (ae cK (ae (aa 2) ai))))) aJ)
   (ah (aI false 4 nd (aG T.d_dyes_left (ik T) hr (ae (aa 0) (ae (aa 1) (ae (aa 2) (ae (aa 3) ai))))))
   (ah (bj (je (bQ (aa 4))) (aj (aD (cn (ae cK (ae (cn (ae cK (ae (aa 3) ai))) ai))))) aJ)
   (ah (kS 5 nd (i9 ai))
   (ah (df rfl PassesOwn.never (ck (cJ (aa 1) (aa 3))) (aL 6 nd) (aj (bj (aU tL (aa 6) (aa 4) (by with_unfolding_all rfl)) (ah (aI false 7 nd (aG T.d_searched_from jW hr (ae (aa 0) (ae (aa 1) (ae (aG T.d_with_dye (pO T) hr (ae (aa 2) (ae (aa 3) (ae (aa 6) ai)))) ai)))))
   (ah (bj (aU (j7 hu) (cJ (aa 7) ao) cK (bg _)) (aj (aD (aa 7))) aJ)
   (aj (oM false 5 (cJ (aa 7) ao))))) (aj (oM false 5 bH)))))
   (aj (aD (cn (ae cK (ae (cn (ae cK (ae (aa 3) (ae (ez vb rfl T.B.tuple u7 (ae (aa 5) ai)) ai)))) ai))))))))))),?_⟩
 obtain ⟨w',ls,dy,rfl,z,ok,OR,q1,q2⟩:=h;refine ⟨_,rfl,_,rfl,_,rfl,w',ls,dy,rfl,z,λall=>?_,λp hp hn=>?_⟩
 ·refine ⟨trivial,?_⟩
  refine ⟨_,rfl,_,rfl,bG ?_⟩;exact ⟨_,rfl,by show 2≤sizeLine;decide,q1 dy ok all⟩
 ·refine ⟨trivial,?_⟩
  refine ⟨_,rfl,_,rfl,aZ ?_⟩;have C0:p<dy.length:=by rw [z.ld];exact hp
  refine ⟨_,rfl,_,rfl,_,rfl,_,rfl,w',ls,dy,p,rfl,z,hp,trivial,?_⟩;obtain ⟨m',xX⟩:∃m',nj dy=m'+1:=⟨nj (dy.set p (some 0)),(r0 C0 hn).symm⟩;rw [xX] at q2;refine ⟨_,rfl,rfl,bS (λe=>?_) (λe=>?_)⟩
  ·have hl:left w' ls dy p= []:=by
    rw [wz] at e;simpa using e
   exact ⟨_,rfl,by show 2≤sizeLine;decide,by show 2≤sizeLine;decide,q2 (.full p) ⟨hp,hn,hl⟩⟩
  ·refine ⟨by show 0≤sizeLine;decide,?_⟩
   have zl:=z.lr p;refine ⟨_,rfl,_,rfl,_,b6 (uJ (by rw [z.ll];exact hp)),b0 (λj ρ=>∃(ps:List (Option mM))(o6 o7:Option D),ρ= [some (aO w'),some (ju ls),some (oO dy),some (av p),some (.lst (bc (left w' ls dy p))),some (.lst (ps.map uN)),o6,o7]∧kR w' ls dy p m' j ps) ⟨[],_,_,rfl,rfl,λk _ hk=>by omega⟩ ?_ ?_⟩
   ·rintro j x _ hx ⟨ps,o6,o7,rfl,up⟩ A' hA
    obtain ⟨d,hd,rfl⟩:=eI hx;have hj:j<(lst ls p).length:=(f6.mp hd).1;have lp:=up.1;have sm:(ps.map uN).length<sizeLine:=cE (by rw [cQ];omega)
    refine ⟨_,rfl,_,rfl,rfl,qK _,_,rfl,?_⟩;rw [if_neg fJ,yb];refine bS (λe=>?_) (λe=>?_)
    ·have zU:d∈left w' ls dy p:=of_decide_eq_true e
     have us:=r0 (d:=d) C0 hn;refine ⟨_,rfl,_,rfl,_,rfl,_,rfl,_,rfl,dy,p,d,rfl,C0,by rw [z.ld];exact z.n8,w',ls,dy.set p (some d),rfl,z.put p d,ok.put z.g hp hn zU,by omega,λdz a b=>?_,λq hq=>?_⟩
     ·refine ⟨trivial,?_⟩
      refine ⟨_,rfl,_,rfl,FA ⟨true,congrArg D.bl (decide_eq_true rfl),bG ?_⟩⟩;exact ⟨_,rfl,q1 dz a b⟩
     ·refine ⟨trivial,?_⟩
      refine ⟨_,rfl,_,rfl,FA ⟨false,congrArg D.bl (by decide+kernel),aZ ?_⟩⟩
      refine ⟨_,rfl,_,rfl,_,rfl,trivial,sm,hA _ ⟨ps++ [some q],some (.int d),some (.tup [.str "none",uM q]),?_,up.snoc hd ⟨λ_=>⟨q,rfl,?_⟩,λn=>absurd zU n⟩⟩⟩
      ·rw [mH];rfl
      ·rw [show nj (dy.set p (some d))=m' by omega] at hq;exact hq
    ·have zU:d∉left w' ls dy p:=of_decide_eq_false e
     refine ⟨_,rfl,trivial,sm,hA _ ⟨ps++ [none],some (.int d),o7,?_,up.snoc hd ⟨λn=>absurd n zU,λ_=>rfl⟩⟩⟩;rw [mH];rfl
   ·rintro _ ⟨ps,o6,o7,rfl,up⟩
    rw [cD] at up;refine ⟨_,rfl,_,rfl,by show 3≤sizeLine;decide,by show 2≤sizeLine;decide,?_⟩
    have:=q2 (.B8 p ps) ⟨hp,hn,up.1,λi d hi=>up.2 i d (f6.mp hi).1 hi⟩
    rw [uM,mr] at this;exact this
theorem jw{P:Program}{w:World}{mg:Str→Option Value}{base:Heap}{Z:DC}(T:Txt Z mg):FnOk P w Z.K mg base bu 11 T.d_searched_from.f T.d_searched_from.fd ["turns","lists","dyeing"] (aB Z (spS 9)):=by
 have all:∀m,FnOk P w Z.K mg base bu (2+m) T.d_searched_from.f T.d_searched_from.fd ["turns","lists","dyeing"] (aB Z (spS m)):=by
  intro m
  induction m with
  |zero=>
   refine ((vq (Z:=Z)).imp ?_).mono (iD _);rintro vs H Q E ⟨G,ds,R,s,dv,⟨w,ls,dy,_,_,_,h,_⟩,q⟩;exact absurd h (Nat.not_lt_zero _)
  |succ m ih=>exact jH T m (2+m) (by omega) ih
 exact all 9
theorem zu{n p:Nat}:b5 (List.replicate n none) p=none:=by
 unfold b5;rw [fZ,jK]
 split<;>rfl
theorem Aj{w:W}{ls:List (List Int)}:Ok w ls (List.replicate w.length none):=⟨by simp,λp d h=>by rw [zu] at h;cases h⟩
theorem zi(n:Nat):nj (List.replicate n none)=n:=by
 unfold nj;rw [List.countP_replicate];rfl
theorem yO(n:Nat):(ba 0 n).map (λ_=>D.aC)=(List.replicate n none).map bo:=by
 unfold ba;rw [List.map_map,List.map_replicate];refine List.ext_getElem? λi=>?_;rw [cP,jK]
 by_cases h:i<n
 ·rw [List.getElem?_range h,if_pos h];rfl
 ·rw [dq (by simpa using cS h),if_neg h];rfl
theorem yi{te:aK}{n:Nat}{N:DN→List D→Prop}(ht:te=dC .aC)(hz:n≤sizeLine)(h:∀aw,N aw ((List.replicate n none).map bo)):ic (gZ 0) uq te (ba 0 n) [none] [] N:=by
 subst ht
 have:=g6 (i:=0) (ρ:= [none]) (λd:D=>d) (λ_=>D.aC) (ba 0 n) N (λy hy Y h=>h) rfl (by unfold ba;simpa using hz) (λaw=>by rw [yO];exact h aw) (te:=dC .aC)
 simpa using this
end oj
namespace Wb
theorem bz{u:W}{k o:Nat}(h:o<u.length):row (u++List.replicate k []) o=row u o:=by
 unfold row;rw [fZ,jJ h,←fZ]
theorem eg{u:W}{k o:Nat}(h:u.length≤o):row (u++List.replicate k []) o= []:=by
 unfold row;rw [fZ,n4 h,jK]
 split<;>rfl
theorem nH{u v:W}(hl:u.length=v.length)(h:∀x,x<u.length→row u x=row v x):u=v:=by
 refine List.ext_getElem? λi=>?_
 by_cases c:i<u.length
 ·rw [mw c,mw (by omega),h i c]
 ·rw [dq (by omega),dq (by omega)]
theorem wx{u:W}{k o q:Nat}(h:o<u.length):jI (u++List.replicate (k+1) []) o q u.length 0=leaf u o q++List.replicate k []:=by
 have l1:(u++List.replicate (k+1) ([]:List Nat)).length=u.length+(k+1):=by simp
 refine nH (by rw [b4,l1,dR,b8,iA];omega) λx hx=>?_
 rw [b4,l1] at hx;rw [gM (by omega) (by omega)]
 by_cases c:u.length=x
 ·rw [if_pos c,eg (bW _),bz (u:=leaf u o q) (by rw [b8];omega),fB h,if_pos c.symm]
  unfold ins;simp
 ·rw [if_neg c]
  by_cases d:o=x
  ·rw [if_pos d,bz h,bz (u:=leaf u o q) (by rw [b8];omega),fB h,if_neg (by omega),if_pos d]
  ·rw [if_neg d]
   by_cases e:x<u.length
   ·rw [bz e,bz (u:=leaf u o q) (by rw [b8];omega),fB h,if_neg (by omega),if_neg d]
   ·rw [eg (by omega),eg (by rw [b8];omega)]
theorem zf{u:W}{k o q p:Nat}(h:o<u.length)(hp:p<u.length):jI (u++List.replicate k []) o q p 0=jI u o q p 0++List.replicate k []:=by
 have l1:(u++List.replicate k ([]:List Nat)).length=u.length+k:=by simp
 refine nH (by rw [b4,l1,dR,b4,iA]) λx hx=>?_
 rw [b4,l1] at hx;rw [gM (by omega) (by omega)]
 by_cases e:x<u.length
 ·rw [bz (u:=jI u o q p 0) (by rw [b4];exact e),gM h hp,bz h,bz hp,bz e]
 ·rw [if_neg (by omega),if_neg (by omega),eg (by omega),eg (by rw [b4];omega)]
end Wb
namespace oj
open PySem L2 Wb
variable {P:Program} {w:World} {mg:Str→Option Value} {base:Heap} {Z:DC} (T:Txt Z mg)
open Wy Ws
def wj:bX:=λds P=>∃(ns:List Int)(k:Nat),ds= [.fY ns,av k]∧∀v:Int,P (.int v)
theorem cZ:FnOk P w Z.K mg base bu 1 T.d__law_cell_at.f T.d__law_cell_at.fd ["_law_script","_law_k"] (aB Z wj):=by
 have nd:=fD.nd;refine aQ T.d__law_cell_at.F fD [0,0] (by decide) (λds R h=>by obtain ⟨_,_,rfl,_⟩:=h;rfl) (λaF A outer s H E ds R hr h=>?_)
 have hu:=hr.units
 refine ⟨_,(ah (bj (aU tN (aa 1) (br cI rfl T.B.len cH (ae (aa 0) ai)) (bg _)) (aj (aD (cJ (aa 0) (aa 1)))) aJ)
   (aj (aD ao))),?_⟩
 obtain ⟨ns,k,rfl,q⟩:=h;refine ⟨_,rfl,_,rfl,?_⟩;refine ⟨_,rfl,bS (λe=>?_) (λe=>?_)⟩
 ·have hk:k<ns.length:=by
   have:=of_decide_eq_true e
   omega
  exact ⟨_,rfl,_,rfl,_,qj (iU hk),q _⟩
 ·exact q 0
def yX:bX:=λds P=>∃(c:Int),ds= [.int c]∧∀v:Int,P (.int v)
theorem gJ:FnOk P w Z.K mg base bu 1 T.d__law_drawn.f T.d__law_drawn.fd ["_law_cell"] (aB Z yX):=by
 have nd:=gQ.nd;refine aQ T.d__law_drawn.F gQ [0,0] (by decide) (λds R h=>by obtain ⟨_,rfl,_⟩:=h;rfl) (λaF A outer s H E ds R hr h=>?_)
 have hu:=hr.units
 refine ⟨_,(ah (bj (DW.dt (gF (aU (j7 hu) (aa 0) ao (bg _)) (kU (DW.dt (uz (aU (j7 hu) (ay bU (aa 0) ao) ao (bg _)) (qH (aU pI (aa 0) (ay pK ao ao) (bg _)))))))) (aj (aD (ay b9 (aa 0) ao))) aJ)
   (ah (aI false 1 nd (ay bU (ay bT (ay pJ (ay bU (aa 0) ao) ao) ao) ao))
   (ah (aI false 1 nd (ay bU (ay bT (ay pJ (aa 1) (aa 1)) ao) ao))
   (aj (aD (ay b9 (ay pK (ay bT (aa 1) ao) ao) ao)))))),?_⟩
 obtain ⟨c,rfl,q⟩:=h;have m1:=fS (c%2147483629*48271+7919) 2147483647 (by decide)
 have m2:=fS ((c%2147483629*48271+7919)%2147483647*((c%2147483629*48271+7919)%2147483647)+104729) 2147483629 (by decide)
 have fin:∀v:Int,R (.int v):=q;refine ⟨_,rfl,CI ⟨_,rfl,bS (λ_=>bG ⟨_,rfl,⟨by decide,by decide⟩,q _⟩) (λ_=>?_)⟩⟩
 refine ⟨_,rfl,(by show (0:Int)<2;decide),CI ⟨_,rfl,bS (λ_=>⟨_,rfl,⟨by decide,by decide,by decide⟩,_,rfl,bS (λ_=>⟨_,rfl,⟨by decide,by decide⟩,q _⟩) (λ_=>?_)⟩) (λ_=>aZ ?_)⟩⟩
 ·refine ⟨_,rfl,(by show (0:Int)<2147483629;decide), .inr ⟨by decide,by decide⟩,(by show (0:Int)<2147483647;decide),trivial,?_⟩
  refine ⟨_,rfl,_,rfl, .inl ⟨by dsimp only;omega,by dsimp only;omega⟩,(by show (0:Int)<2147483629;decide),trivial,?_⟩
  exact ⟨_,rfl,⟨by decide,by decide,by dsimp only;omega⟩,⟨by decide,by decide⟩,q _⟩
 ·refine ⟨_,rfl,(by show (0:Int)<2147483629;decide), .inr ⟨by decide,by decide⟩,(by show (0:Int)<2147483647;decide),trivial,?_⟩
  refine ⟨_,rfl,_,rfl, .inl ⟨by dsimp only;omega,by dsimp only;omega⟩,(by show (0:Int)<2147483629;decide),trivial,?_⟩
  exact ⟨_,rfl,⟨by decide,by decide,by dsimp only;omega⟩,⟨by decide,by decide⟩,q _⟩
theorem rq{i:Nat}:∀(items:List D)(ρ:DN)(acc:List D)(N:List D→Prop),acc.length+items.length≤sizeLine→N (acc++List.replicate items.length (.lst []))→yh (gZ i) (BD eo) items ρ acc N
 | [],ρ,acc,N,_,h=>by
  show N acc;simpa using h
 |x::xs,ρ,acc,N,hz,h=>by
  rw [cR] at hz;refine ⟨by show 0≤sizeLine;decide,by omega,?_⟩
  refine rq xs _ (acc++ [.lst []]) N (by simp;omega) ?_
  rw [List.append_assoc];exact h
theorem n0(w:W)(i:Nat)(r:List Nat):(w.map aR).set i (aR r)=(w.set i r).map aR:=by rw [List.map_set]
theorem nN(r:List Nat)(i x:Nat):ins (r.map av) i (av x)=(ins r i x).map av:=by
 unfold ins;simp [List.map_take,List.map_drop]
def yY:bX:=λds P=>∃(n:Nat)(m:Int),ds= [av n, .int m]∧1≤n∧n≤14∧∀w,Good w→w.length=n→P (aO w)
theorem ie:FnOk P w Z.K mg base bu 1 T.d__law_tied_turns.f T.d__law_tied_turns.fd ["_law_many","_law_number"] (aB Z yY):=by
 have nd:=dP.nd;refine aQ T.d__law_tied_turns.F dP [0,0,2,0,0,0,0] (by decide) (λds R h=>by obtain ⟨_,_,rfl,_⟩:=h;rfl) (λaF A outer s H E ds R hr h=>?_)
 have hu:=hr.units
 refine ⟨_,(ah (sL 2 (NC:= ["_law_k"]) (src:= [none]) rfl nd (oF (af bI)) trivial (lI rfl T.B.range (ae (aa 0) ai)) (λ_ _ _=>(cj 0 (show (["_law_k"]:List Str).Nodup from by decide+kernel))) (λ_ _ _=>(i9 ai)))
   (ah (aI false 3 nd (ay bT ao (ay bU (aa 1) ao)))
   (ah (aI false 1 nd (ay b9 (aa 1) ao))
   (ah (jc rfl PassesOwn.never (sI rfl T.B.range (ae ao (ae (aa 0) ai))) (aL 4 nd) (ah (aI false 5 nd (ay bU (aa 1) (aa 4)))
   (ah (aI false 1 nd (ay b9 (aa 1) (aa 4)))
   (aj (jc rfl PassesOwn.never (iF rfl T.B.range (ae (aa 4) ai)) (aL 6 nd) (ah (bj (DW.dt (gF (aU (j7 hu) (aa 6) (aa 5) (bg _)) (kU (aU (j7 hu) (ay bU (aa 1) (aa 3)) ao (bg _))))) (ah (qD false 2 (aa 6) (ay bU (ay b9 (aa 1) (aa 3)) (ay bT (br cI rfl T.B.len cH (ae (cJ (aa 2) (aa 6)) ai)) ao)) (aa 4))
   (aj (qD false 2 (aa 4) ao (aa 6)))) aJ)
   (aj (aI true 1 nd (ay b9 (ay b9 (aa 1) (aa 3)) (ay bT (br cI rfl T.B.len cH (ae (cJ (aa 2) (aa 6)) ai)) ao))))))))))
   (aj (aD (aa 2))))))),?_⟩
 obtain ⟨n,m,rfl,h1,h8,q⟩:=h;refine ⟨_,rfl,⟨by show-(2^62)≤(n:Int);omega,by show (n:Int)<2^62;omega⟩,?_⟩
 have lr:(ba 0 n).length=n:=by unfold ba;simp
 refine rq _ _ [] _ (by show 0+(ba 0 n).length≤_;rw [lr];exact small (by omega)) ?_
 have e0:D.lst ([]++List.replicate (ba 0 ((n:Int)).toNat).length (.lst []))=aO (List.replicate n []):=by
  unfold aO;rw [show ((n:Int)).toNat=n by omega,lr,List.map_replicate];rfl
 rw [e0];have tk:=fS m 4 (by decide)
 refine ⟨_,rfl,(by show (0:Int)<4;decide),trivial,?_⟩
 refine ⟨_,rfl,⟨by decide,by decide⟩,trivial,?_⟩
 refine ⟨_,rfl,⟨by decide,by decide,by show-(2^62)≤(n:Int);omega,by show (n:Int)<2^62;omega⟩,?_⟩
 rw [show ((n:Int)-1).toNat=n-1 by omega]
 generalize OQ:1+m%4=th;have D2:0<th∧th<1073741824:=by omega
 refine qL (λj ρ=>∃(x:Int)(v:W)(o4 o5 o6:Option D),ρ= [some (av n),some (.int x),some (aO (v++List.replicate (n-j-1) [])),some (.int th),o4,o5,o6]∧Good v∧v.length=j+1) ?_ ?_ ?_
 ·refine ⟨m / 4,[[]],none,none,none,?_,vy,rfl⟩
  have:List.replicate n ([]:List Nat)= [[]]++List.replicate (n-0-1) []:=by
   obtain ⟨k,rfl⟩:∃k,n=k+1:=⟨n-1,by omega⟩
   rfl
  rw [this];rfl
 ·rintro j _ hj ⟨x,v,o4,o5,o6,rfl,gv,lv⟩ A hA
  have C1:(0:Int)<1+(j:Int):=by omega
  have fi:=fS x (1+(j:Int)) C1;refine ⟨_,rfl,_,rfl,C1,trivial,?_⟩;refine ⟨_,rfl,_,rfl,⟨C1,by show 1+(j:Int)<1073741824;omega⟩,trivial,?_⟩
  refine ⟨_,rfl,⟨by show-(2^62)≤1+(j:Int);omega,by show 1+(j:Int)<2^62;omega⟩,?_⟩
  rw [show ((1:Int)+(j:Int)).toNat=j+1 by omega]
  obtain ⟨fs,F2⟩:∃fs,fs=x%(1+(j:Int)):=⟨_,rfl⟩;rw [←F2] at fi;refine jV (λo ρ=>∃(y:Int)(u:W)(o6:Option D)(k:Nat),ρ= [some (av n),some (.int y),some (aO (u++List.replicate k [])),some (.int th),some (.int (1+(j:Int))),some (.int fs),o6]∧Good u∧u.length+k=n∧((u.length=j+1∧¬fs<o)∨(u.length=j+2∧∀a∈row u (j+1),a<o))) ?_ ?_ ?_
  ·exact ⟨x / (1+(j:Int)),v,o6,n-j-1,by rw [F2];rfl,gv,by omega, .inl ⟨lv,by omega⟩⟩
  ·rintro o _ ho ⟨y,u,o6,k,rfl,gu,lu,hs⟩ A' oY
   have lo:o<u.length:=by omega
   have rl:∀x,(row u x).length≤14:=λx=>by have:=mx gu x;omega
   have fin:∀(E':bb)(u':W)(k':Nat),E'.nx=A'→Good u'→u'.length+k'=n→((u'.length=j+1∧¬fs<((o+1:Nat):Int))∨(u'.length=j+2∧∀a∈row u' (j+1),a<o+1))→
     dSet [0,0,2,0,0,0,0] true 1 (di i8 (di i8 (bJ 1) (bJ 3)) (di nv (dB gb (cV (di ve (bJ 2) (bJ 6)) eo)) (dC (D.int 1)))) E' [some (av n),some (.int y),some (aO (u'++List.replicate k' [])),some (.int th),some (.int (1+(j:Int))),some (.int fs),some (av o)]:=by
    intro E' u' k' hE zQ Di C2;have MM:o<u'.length:=by omega
    have O2:(row u' o).length≤14:=by have:=mx zQ o;omega
    have e1:ek ((u'++List.replicate k' []).map aR) ((o:Nat):Int)=some (aR (row u' o)):=by
     have:=b6 (eR (w:=u'++List.replicate k' []) (p:=o) (by rw [dR];omega))
     rw [bz MM] at this;exact this
    refine ⟨_,rfl,_,rfl,D2,_,rfl,_,rfl,_,e1,?_⟩;dsimp only [eo,gb,aR];refine ⟨⟨by show (0:Int)<(((row u' o).map av).length:Int)+1;omega,by show (((row u' o).map av).length:Int)+1<1073741824;rw [cQ];omega⟩,rfl,?_⟩
    rw [hE];exact oY _ ⟨_,u',_,k',rfl,zQ,Di,C2⟩
   have l1:(u++List.replicate k ([]:List Nat)).length=n:=by rw [dR,iA];exact lu
   have lm:∀v:W,(v.map aR).length=v.length:=λv=>cQ _
   have put:∀(E':bb),E'.nx=A'→By (sH [0,0,2,0,0,0,0] false 2 (bJ 6) (di Bw (di i8 (bJ 1) (bJ 3)) (di nv (dB gb (cV (di ve (bJ 2) (bJ 6)) eo)) (dC (D.int 1)))) (bJ 4)) (sH [0,0,2,0,0,0,0] false 2 (bJ 4) (dC (D.int 0)) (bJ 6))
     {E' with nx:=dSet [0,0,2,0,0,0,0] true 1 (di i8 (di i8 (bJ 1) (bJ 3)) (di nv (dB gb (cV (di ve (bJ 2) (bJ 6)) eo)) (dC (D.int 1)))) E'} [some (av n),some (.int y),some (aO (u++List.replicate k [])),some (.int th),some (.int (1+(j:Int))),some (.int fs),some (av o)]:=by
    intro E' hE
    have e1:ek ((u++List.replicate k []).map aR) ((o:Nat):Int)=some (aR (row u o)):=by
     have:=b6 (eR (w:=u++List.replicate k []) (p:=o) (by omega))
     rw [bz lo] at this;exact this
    have e2:((u++List.replicate k []).map aR)[o]? =some (.lst ((row u o).map av)):=by
     have:=eR (w:=u++List.replicate k []) (p:=o) (by omega)
     rw [bz lo] at this;exact this
    refine ⟨_,rfl,_,rfl,_,o,_,rfl,by rw [lm,l1];exact g5 (by omega),e2,_,rfl,_,rfl,D2,_,rfl,_,rfl,_,e1,?_⟩
    dsimp only [eo,gb,aR];have O4:=rl o;have lq:(((row u o).map av).length:Int)=((row u o).length:Int):=by rw [cQ]
    have mq:=fS (y / th) (((row u o).length:Int)+1) (by omega)
    refine ⟨by show (0:Int)<(((row u o).map av).length:Int)+1;omega,_,rfl,_,rfl,trivial,⟨?_,?_,cE (by rw [cQ];omega)⟩,?_⟩
    ·rw [lq];exact mq.1
    ·rw [lq];show y / th%(((row u o).length:Int)+1)≤_;omega
    generalize (((λi j=>i%j) (y / th) (((row u o).map av).length+1:Int)).toNat)=iq;have l2:((u++List.replicate k ([]:List Nat)).set o (ins (row u o) iq (j+1))).length=n:=by rw [dS,l1]
    have es:((u++List.replicate k []).map aR).set o (.lst (ins ((row u o).map av) iq (.int (1+(j:Int)))))=((u++List.replicate k []).set o (ins (row u o) iq (j+1))).map aR:=by
     rw [←n0]
     congr 1
     unfold aR;rw [←nN];unfold av;rw [show ((j+1:Nat):Int)=1+(j:Int) by omega]
    have er:row ((u++List.replicate k []).set o (ins (row u o) iq (j+1))) (j+1)=row (u++List.replicate k []) (j+1):=by
     rw [jz (by omega),if_neg (by omega)]
    have O3:(row (u++List.replicate k []) (j+1)).length≤14:=by
     by_cases c:j+1<u.length
     ·rw [bz c];exact rl _
     ·rw [eg (by omega)];exact iD _
    refine ⟨((u++List.replicate k []).set o (ins (row u o) iq (j+1))).map aR,by rw [←es];rfl,_,rfl,1+(j:Int),j+1,(row (u++List.replicate k []) (j+1)).map av,rfl,?_,?_,0,rfl,_,rfl,trivial,⟨by decide,by omega,cE (by rw [cQ];omega)⟩,?_⟩
    ·rw [lm,l2,show 1+(j:Int)=((j+1:Nat):Int) by omega];exact g5 (by omega)
    ·have:=eR (w:=(u++List.replicate k []).set o (ins (row u o) iq (j+1))) (p:=j+1) (by omega)
     rw [er] at this;exact this
    have e3:D.lst ((((u++List.replicate k []).set o (ins (row u o) iq (j+1))).map aR).set (j+1) (.lst (ins ((row (u++List.replicate k []) (j+1)).map av) (0:Int).toNat (av o))))=aO (jI (u++List.replicate k []) o iq (j+1) 0):=by
     have e5:=n0 ((u++List.replicate k []).set o (ins (row u o) iq (j+1))) (j+1) (ins (row (u++List.replicate k []) (j+1)) 0 o)
     have e4:aR (ins (row (u++List.replicate k []) (j+1)) 0 o)= .lst (ins ((row (u++List.replicate k []) (j+1)).map av) 0 (av o)):=by
      unfold aR;rw [←nN]
     rw [e4] at e5;unfold jI aO;rw [bz lo,←e5];rfl
    obtain ⟨u',k',eT,zQ,Di,C2⟩:∃u' k',jI (u++List.replicate k []) o iq (j+1) 0=u'++List.replicate k' []∧Good u'∧u'.length+k'=n∧((u'.length=j+1∧¬fs<((o+1:Nat):Int))∨(u'.length=j+2∧∀a∈row u' (j+1),a<o+1)):=by
     rcases hs with ⟨h,hf⟩ | ⟨h,ha⟩
     ·obtain ⟨k',rfl⟩:∃k',k=k'+1:=⟨k-1,by omega⟩
      refine ⟨leaf u o iq,k',?_,sX gu lo,by rw [b8];omega, .inr ⟨by rw [b8];omega,λa ha=>?_⟩⟩
      ·have:=wx (k:=k') (q:=iq) lo
       rw [h] at this;exact this
      ·rw [fB lo,if_pos h.symm] at ha
       have:a=o:=by simpa using ha
       omega
     ·have nt:j+1∉row u o:=λz=>absurd (ha o (gu.sym _ _ z)) (eS _)
      refine ⟨jI u o iq (j+1) 0,k,zf lo (by omega),vz gu lo (by omega) (by omega) nt,by rw [b4];exact lu, .inr ⟨by rw [b4];exact h,λa hm=>?_⟩⟩
      rw [gM lo (by omega),if_pos rfl,aX] at hm
      rcases hm with hm|hm
      ·omega
      ·have:=ha a hm;omega
    have:=fin E' u' k' hE zQ Di C2
    rw [←eT,←e3] at this;exact this
   have NW:∀(E':bb),E'.nx=A'→¬(o:Int)=fs→dSet [0,0,2,0,0,0,0] true 1 (di i8 (di i8 (bJ 1) (bJ 3)) (di nv (dB gb (cV (di ve (bJ 2) (bJ 6)) eo)) (dC (D.int 1)))) E' [some (av n),some (.int y),some (aO (u++List.replicate k [])),some (.int th),some (.int (1+(j:Int))),some (.int fs),some (av o)]:=λE' hE ne=>
    fin E' u k hE gu lu (by
     rcases hs with ⟨h,hf⟩ | ⟨h,ha⟩
     ·exact .inl ⟨h,by omega⟩
     ·exact .inr ⟨h,λa hm=>by have:=ha a hm;omega⟩)
   refine ⟨_,rfl,_,rfl,qz ⟨_,rfl,bS (λ_=>bG (put _ rfl)) (λe=>?_)⟩⟩;have ne:¬(o:Int)=fs:=of_decide_eq_false e;exact ⟨_,rfl,_,rfl,D2.1,CI ⟨_,rfl,bS (λ_=>put _ rfl) (λ_=>NW _ rfl ne)⟩⟩
  ·rintro _ ⟨y,u,o6,k,rfl,gu,lu,hs⟩
   have:u.length=j+2:=by
    rcases hs with h|h
    ·exact absurd (show fs<((j+1:Nat):Int) by omega) h.2
    ·exact h.1
   refine hA _ ⟨y,u,some (.int (1+(j:Int))),some (.int fs),o6,?_,gu,by omega⟩
   rw [show n-(j+1)-1=k by omega]
 ·rintro _ ⟨x,v,o4,o5,o6,rfl,gv,lv⟩
  refine ⟨_,rfl,?_⟩;rw [show n-(n-1)-1=0 by omega,List.replicate_zero,gq]
  exact q v gv (by omega)
variable {P:Program} {w:World} {mg:Str→Option Value} {base:Heap} {Z:DC} (T:Txt Z mg)
theorem vH(r:List Int)(i:Nat)(x:Int):ins (bc r) i (.int x)=bc (ins r i x):=by
 unfold ins bc;simp [List.map_take,List.map_drop]
def AX:bX:=λds P=>∃(w:W),ds= [aO w]∧Good w∧1≤w.length∧w.length≤14∧P (.fG w)
theorem pM:FnOk P w Z.K mg base bu 6 T.d__law_web.f T.d__law_web.fd ["_law_turns"] (aB Z AX):=by
 have nd:=jB.nd;refine aQ T.d__law_web.F jB [0] (by decide) (λds R h=>by obtain ⟨_,rfl,_⟩:=h;rfl) (λaF A outer s H E ds R hr h=>?_)
 have hu:=hr.units;refine ⟨_,(aj (aD (xj T.mkW (kb T) (hr.mono (by decide)) rfl T.mC T.m___init__b (ae (lH (NC:= ["_law_row"]) (src:= [none]) rfl (oF (af ff)) trivial (ck (aa 0)) (λ_ _ _=>(cj 0 (show (["_law_row"]:List Str).Nodup from by decide+kernel))) (λ_ _ _=>fw) (λ_ _ _=>(ez lE rfl T.B.list lx (ae (aa 0) ai)))) ai)))),?_⟩
 obtain ⟨w',rfl,g,h1,dD,q⟩:=h;exact ⟨_,rfl,g6 (ρ:= [none]) aR aR w' _ (λy hy Y h=>⟨_,rfl,h⟩) rfl (small (by omega)) λaw=>⟨w',rfl,g,h1,dD,q⟩⟩
theorem B6{t:bE}{E:bb}{ρ:DN}(aw:DN)(e:ρ=aw)(h:t E aw):t E ρ:=by rw [e];exact h
theorem A4{x:Int}{a b:D}(h:x=0∨x=1):ek [a,b] x=some a∨ek [a,b] x=some b:=by
 rcases h with e|e
 ·left;rw [e];rfl
 ·right;rw [e];rfl
theorem Kp{i j:Int}{P:D→Prop}{ρ:DN}(h:P (.bl (decide (j<i)))):dC (.int j) ρ (λb=>Cr (.int i) b P):=h
theorem MO{i j:Int}{P:D→Prop}{ρ:DN}(h:P (.bl (decide (i<j)))):dC (.int j) ρ (λb=>E7 (.int i) b P):=h
def wo:bX:=λds P=>∃(n:Nat)(c v:Int),ds= [av n, .int c, .int v]∧n≤14∧∀ls:List (List Int),ls.length=n→(∀l∈ls,l.length≤4)→P (ju ls)
theorem kM:FnOk P w Z.K mg base bu 1 T.d__law_listed.f T.d__law_listed.fd ["_law_many","_law_cell","_law_number"] (aB Z wo):=by
 have nd:=gd.nd;refine aQ T.d__law_listed.F gd [0,0,0,0,0,1,0,1,0] (by decide) (λds R h=>by obtain ⟨_,_,_,rfl,_⟩:=h;rfl) (λaF A outer s H E ds R hr h=>?_)
 have hu:=hr.units
 refine ⟨_,(ah (aI false 3 nd (cJ (gW (ae ao (ae (ay uL (ay bU (aa 1) (ay uL (ay pK ao ao) ao)) ao) ai))) (ay b9 (ay bU (aa 1) ao) ao)))
   (ah (aI false 4 nd (ay bT ao (ay bU (aa 2) ao)))
   (ah (aI false 2 nd (ay b9 (aa 2) ao))
   (ah (kS 5 nd (i9 ai))
   (ah (jc rfl PassesOwn.never (iF rfl T.B.range (ae (aa 0) ai)) (aL 6 nd) (ah (kS 7 nd (i9 ai))
   (ah (jc rfl PassesOwn.never (iF rfl T.B.range (ae (aa 4) ai)) (aL 8 nd) (ah (bj (DW.dt (uz (aU pI (ay bU (aa 2) ao) ao (bg _)) (qH (aU tN (br cI rfl T.B.len cH (ae (aa 7) ai)) ao (bg _))))) (ah (zH false 7 (ay bU (ay b9 (aa 2) ao) (ay bT (br cI rfl T.B.len cH (ae (aa 7) ai)) ao)) (ay bT (aa 3) (aa 8)))
   (aj (aI true 2 nd (ay b9 (aa 2) (br cI rfl T.B.len cH (ae (aa 7) ai)))))) aJ)
   (aj (aI false 2 nd (ay b9 (aa 2) ao)))))
   (aj (xq 5 7)))))
   (aj (aD (aa 5)))))))),?_⟩
 obtain ⟨n,c,v,rfl,dD,q⟩:=h;have m3:=fS c 3 (by decide)
 have m5:=fS v 5 (by decide)
 obtain ⟨base,cy⟩:∃b:Int,ek [D.int 0, .int (c%(10^60-10)-9)] (c%3 / 2)=some (.int b):=by
  rcases A4 (x:=c%3 / 2) (a:=D.int 0) (b:= .int (c%(10^60-10)-9)) (by omega) with e|e
  ·exact ⟨_,e⟩
  ·exact ⟨_,e⟩
 refine ⟨_,rfl,⟨by decide,by decide,by decide⟩,(by show (0:Int)<10^60-10;decide),by show 2≤sizeLine;decide,_,rfl,(by show (0:Int)<3;decide),⟨by decide,by decide⟩,_,cy,trivial,?_⟩
 refine ⟨_,rfl,(by show (0:Int)<5;decide),trivial,?_⟩
 obtain ⟨k,hk,k5⟩:∃k:Nat,(1:Int)+v%5=(k:Int)∧k≤5:=⟨(1+v%5).toNat,by omega,by omega⟩
 have e1:D.int (1+v%5)=av k:=by unfold av;rw [hk]
 dsimp only;rw [e1];refine ⟨_,rfl,⟨by decide,by decide⟩,trivial,?_⟩
 refine ⟨by show 0≤sizeLine;decide,?_⟩
 refine ⟨_,rfl,⟨by show-(2^62)≤(n:Int);omega,by show (n:Int)<2^62;omega⟩,?_⟩
 rw [show ((n:Int)).toNat=n by omega]
 refine jV (λj ρ=>∃(x:Int)(ls:List (List Int))(o6 o7 o8:Option D),ρ= [some (av n),some (.int c),some (.int x),some (.int base),some (av k),some (ju ls),o6,o7,o8]∧ls.length=j∧∀l∈ls,l.length≤4) ?_ ?_ ?_
 ·exact ⟨v / 5,[],_,_,_,rfl,rfl,λl hl=>by cases hl⟩
 ·rintro j _ hj ⟨x,ls,o6,o7,o8,rfl,L,ll⟩ A hA
  refine ⟨by show 0≤sizeLine;decide,?_⟩
  refine ⟨_,rfl,⟨by show-(2^62)≤(k:Int);omega,by show (k:Int)<2^62;omega⟩,?_⟩
  rw [show ((k:Int)).toNat=k by omega]
  refine jV (λi ρ=>∃(y:Int)(l:List Int)(o8:Option D),ρ= [some (av n),some (.int c),some (.int y),some (.int base),some (av k),some (ju ls),some (av j),some (.lst (bc l)),o8]∧l.length≤4) ?_ ?_ ?_
  ·exact ⟨x,[],_,rfl,by decide⟩
  ·rintro i _ hi ⟨y,l,o8,rfl,hl⟩ A' oY
   have fin:∀(E':bb)(y':Int)(l':List Int),E'.nx=A'→l'.length≤4→dSet [0,0,0,0,0,1,0,1,0] false 2 (di i8 (bJ 2) (dC (D.int 4))) E' [some (av n),some (.int c),some (.int y'),some (.int base),some (av k),some (ju ls),some (av j),some (.lst (bc l')),some (av i)]:=λE' y' l' hE CV=>by
    refine ⟨_,rfl,⟨by decide,by decide⟩,trivial,?_⟩
    rw [hE];exact oY _ ⟨_,l',_,rfl,CV⟩
   refine ⟨_,rfl,(by show (0:Int)<4;decide),Kp ⟨_,rfl,bS (λ_=>⟨_,rfl,?_⟩) (λ_=>aZ (fin _ y l rfl hl))⟩⟩
   dsimp only [eo,gb];refine MO ⟨_,rfl,bS (λe=>?_) (λ_=>fin _ y l rfl hl)⟩;have l4:l.length<4:=by have:=of_decide_eq_true e;rw [cD] at this;omega
   have mq:=fS (y / 4) ((l.length:Int)+1) (by omega)
   refine ⟨_,rfl,_,rfl,⟨by decide,by decide⟩,_,rfl,?_⟩
   dsimp only [eo,gb];have lq:((bc l).length:Int)=(l.length:Int):=by rw [cD]
   refine ⟨by show (0:Int)<((bc l).length:Int)+1;omega,_,rfl,_,rfl,_,rfl,trivial,⟨?_,?_,cE (by rw [cD];omega)⟩,?_⟩
   ·rw [lq];exact mq.1
   ·rw [lq];show y / 4%((l.length:Int)+1)≤_;omega
   generalize ((λi j=>i%j) (y / 4) (((bc l).length:Int)+1)).toNat=iq;refine B6 [some (av n),some (.int c),some (.int y),some (.int base),some (av k),some (ju ls),some (av j),some (.lst (bc (ins l iq (base+(i:Int))))),some (av i)] (by rw [←vH];rfl) ?_
   refine ⟨_,rfl,_,rfl,?_⟩;dsimp only [eo,gb];refine ⟨⟨by show (0:Int)<((bc (ins l iq (base+(i:Int)))).length:Int);rw [cD,jo];omega,by show ((bc (ins l iq (base+(i:Int)))).length:Int)<1073741824;rw [cD,jo];omega⟩,rfl,?_⟩
   exact fin _ _ _ rfl (by rw [jo];omega)
  ·rintro _ ⟨y,l,o8,rfl,hl⟩
   refine ⟨_,_,rfl,rfl,cE (by rw [cQ,L];omega),?_⟩
   refine hA _ ⟨y,ls++ [l],some (av j),none,o8,?_,by rw [dR,L];rfl,λl' CV=>?_⟩
   ·unfold ju
    rw [mH];rfl
   ·rcases og.mp CV with h|h
    ·exact ll l' h
    ·rw [List.mem_singleton.mp h];exact hl
 ·rintro _ ⟨x,ls,o6,o7,o8,rfl,L,ll⟩
  exact ⟨_,rfl,q ls L ll⟩
def AV:bX:=λds P=>∃(ns:List Int)(m:Nat),ds= [.fY ns,av m]∧1≤m∧m≤14∧∀(w:W)(ls:List (List Int)),Good w→1≤w.length→w.length≤m→ls.length=w.length→(∀l∈ls,l.length≤4)→P (.tup [aO w,ju ls])
theorem m7:FnOk P w Z.K mg base bu 2 T.d__law_made.f T.d__law_made.fd ["_law_script","_law_most"] (aB Z AV):=by
 have nd:=iu.nd;refine aQ T.d__law_made.F iu [0,0,0,0,0] (by decide) (λds R h=>by obtain ⟨_,_,rfl,_⟩:=h;rfl) (λaF A outer s H E ds R hr h=>?_)
 have hu:=hr.units
 refine ⟨_,(ah (aI false 2 nd (aG T.d__law_drawn (gJ T) hr (ae (aG T.d__law_cell_at (cZ T) hr (ae (aa 0) (ae ao ai))) ai)))
   (ah (aI false 3 nd (ay bT ao (ay bU (aa 2) (aa 1))))
   (ah (aI false 4 nd (aG T.d__law_tied_turns (ie T) hr (ae (aa 3) (ae (ay b9 (aa 2) (aa 1)) ai))))
   (aj (aD (cn (ae (aa 4) (ae (aG T.d__law_listed (kM T) hr (ae (aa 3) (ae (aG T.d__law_cell_at (cZ T) hr (ae (aa 0) (ae ao ai))) (ae (aG T.d__law_drawn (gJ T) hr (ae (aG T.d__law_cell_at (cZ T) hr (ae (aa 0) (ae ao ai))) ai)) ai)))) ai)))))))),?_⟩
 obtain ⟨ns,m,rfl,h1,h8,q⟩:=h;have m1:(0:Int)<(m:Int):=by omega
 refine ⟨_,rfl,ns,0,rfl,λv0=>⟨v0,rfl,λv=>⟨trivial,?_⟩⟩⟩;refine ⟨_,rfl,_,rfl,m1,trivial,?_⟩
 obtain ⟨n,hn,n1,nm⟩:∃n:Nat,(1:Int)+v%(m:Int)=(n:Int)∧1≤n∧n≤m:=by
  have:=fS v m m1
  exact ⟨(1+v%(m:Int)).toNat,by omega,by omega,by omega⟩
 have e1:D.int (1+v%(m:Int))=av n:=by unfold av;rw [hn]
 dsimp only;rw [e1];refine ⟨_,rfl,_,rfl,_,rfl,⟨m1,by show (m:Int)<1073741824;omega⟩,n,_,rfl,n1,by omega,λw' g lw=>⟨trivial,?_⟩⟩
 refine ⟨_,rfl,_,rfl,_,rfl,ns,2,rfl,λv2=>⟨_,rfl,ns,1,rfl,λv3=>⟨v3,rfl,λv4=>⟨n,v2,v4,rfl,by omega,λls l1 l2=>?_⟩⟩⟩⟩
 exact ⟨by show 2≤sizeLine;decide,q w' ls g (by omega) (by omega) (by omega) l2⟩
variable {P:Program} {w:World} {mg:Str→Option Value} {base:Heap} {Z:DC} (T:Txt Z mg)
def tY(c:Addr):u4:=λds P R=>∃(w:W)(m:Int),ds= [.fG w, .int m]∧w.length≤14∧0≤m∧m<100∧((w.length:Int)≤m→P .aC)∧(m<(w.length:Int)→R (.err c [] []))
theorem jv:FnOk P w Z.K mg base (kX P w) 2 T.d_need_at_most.f T.d_need_at_most.fd ["web","most"] (gI Z (tY T.e_TooMany)):=by
 have nd:=fF.nd;refine nI T.d_need_at_most.F fF [0,0] (by decide) (λds R Rx h=>by obtain ⟨_,_,rfl,_⟩:=h;rfl) (λaF A outer s H E ds R Rx hr h=>?_)
 have hu:=hr.units;refine ⟨_,(aj (bj (aU pI (gX T.W (aa 0) T.m_many.m (fU T) (hr.mono (by decide)) T.m_many.b) (aa 1) (bg _)) (aj (sM rfl T.k_TooMany T.q_TooMany T.g_TooMany (aa 1) (gX T.W (aa 0) T.m_many.m (fU T) (hr.mono (by decide)) T.m_many.b))) aJ)),?_⟩
 obtain ⟨w',m,rfl,dD,m0,m1,q1,q2⟩:=h;refine ⟨_,rfl,w',rfl,w',rfl,_,rfl,_,rfl,bS (λe=>?_) (λe=>?_)⟩
 ·have e:m<(w'.length:Int):=of_decide_eq_true e
  exact ⟨_,rfl,m,rfl,m0,m1,_,rfl,w',rfl,w',rfl,_,rfl,by omega,by omega,q2 e⟩
 ·have e:¬m<(w'.length:Int):=of_decide_eq_false e
  exact q1 (by omega)
def pX(c:Addr):u4:=λds P R=>∃(w:W)(ls:List (List Int)),ds= [.fG w,ju ls]∧w.length≤14∧(w.length≤8→Sz w ls (List.replicate w.length none))∧(w.length≤8→∀d,P d)∧(8<w.length→R (.err c [] []))
theorem mZ:FnOk P w Z.K mg base (kX P w) 12 T.d_searched.f T.d_searched.fd ["web","lists"] (gI Z (pX T.e_TooMany)):=by
 have nd:=jD.nd;refine nI T.d_searched.F jD [0,0] (by decide) (λds R Rx h=>by obtain ⟨_,_,rfl,_⟩:=h;rfl) (λaF A outer s H E ds R Rx hr h=>?_)
 have hu:=hr.units
 refine ⟨_,(ah (nA T.d_need_at_most (jv T) hr (ae (aa 0) (ae (ny rfl T.c_MOST_SEARCHED) ai)))
   (aj (aD (aG T.d_searched_from (jw T) hr (ae (gX T.W (aa 0) T.m_turns.m (m6 T) (hr.mono (by decide)) T.m_turns.b) (ae (aa 1) (ae (lH (NC:= ["p"]) (src:= [none]) rfl (oF (af fg)) trivial (lI rfl T.B.range (ae (gX T.W (aa 0) T.m_many.m (fU T) (hr.mono (by decide)) T.m_many.b) ai)) (λ_ _ _=>(cj 0 (show (["p"]:List Str).Nodup from by decide+kernel))) (λ_ _ _=>fw) (λ_ _ _=>bH)) ai))))))),?_⟩
 obtain ⟨w',ls,rfl,dD,z,q1,q2⟩:=h;refine ⟨_,rfl,w',8,rfl,dD,by decide,by decide,λe=>?_,λe=>q2 (by omega)⟩
 have n8:w'.length≤8:=by omega
 refine ⟨_,rfl,w',rfl,w',rfl,by omega,_,rfl,_,rfl,w',rfl,w',rfl,⟨by omega,by omega⟩,?_⟩
 rw [show ((w'.length:Int)).toNat=w'.length by omega]
 refine yi rfl (small (by omega)) λaw=>?_
 exact ⟨w',ls,List.replicate w'.length none,rfl,z n8,Aj,by rw [zi];omega,λdz _ _=>q1 n8 _,λq _=>q1 n8 _⟩
def wq(c:Addr):bX:=λds P=>∃(ks:List Str)(l:List D),ds= [.err c ks l]∧P (.bl false)
theorem j9:zp P w Z.K mg base 1 T.d__law_others.f T.d__law_others.fd ["_law_e"] (aB Z (wq T.e_TooMany)):=by
 have nd:=gf.nd;refine vp T.d__law_others.F gf [0] (by decide) (λds R h=>by obtain ⟨_,_,rfl,_⟩:=h;rfl) (λaF A outer s H ds R hu h=>?_)
 refine ⟨_,(ah (bj (DW.dt (gF (bQ (aV T.iX (.own _) (bV T.g_Alike) (aa 0) rfl T.B.isinstance)) (gF (bQ (aV T.iX (.own _) (bV T.g_TooFew) (aa 0) rfl T.B.isinstance)) (gF (bQ (aV T.iX (.own _) (bV T.g_NotFree) (aa 0) rfl T.B.isinstance)) (kU (bQ (aV T.iX (.own _) (bV T.g_Odd) (aa 0) rfl T.B.isinstance))))))) (aj (aD eu)) aJ)
   (ah (bj (DW.dt (gF (bQ (aV T.iX (.own _) (bV T.g_NoWeb) (aa 0) rfl T.B.isinstance)) (gF (bQ (aV T.iX (.own _) (bV T.g_NoText) (aa 0) rfl T.B.isinstance)) (gF (bQ (aV T.iX (.own _) (bV T.g_NoCorner) (aa 0) rfl T.B.isinstance)) (kU (bQ (aV T.iX (.own _) (bV T.g_NoRing) (aa 0) rfl T.B.isinstance))))))) (aj (aD eu)) aJ)
   (aj (aD (CB (aV T.iX (.own _) (bV T.g_Bridge) (aa 0) rfl T.B.isinstance) (uw (aV T.iX (.own _) (bV T.g_Shared) (aa 0) rfl T.B.isinstance))))))),?_⟩
 obtain ⟨ks,l,rfl,q⟩:=h;have x:=T.q_TooMany.cls;refine ⟨_,rfl,⟨x,_,T.z_TooMany_Alike,rfl,aZ ?_⟩⟩;refine ⟨_,rfl,⟨x,_,T.z_TooMany_TooFew,rfl,aZ ?_⟩⟩;refine ⟨_,rfl,⟨x,_,T.z_TooMany_NotFree,rfl,aZ ?_⟩⟩;refine ⟨_,rfl,⟨x,_,T.z_TooMany_Odd,rfl,aZ ?_⟩⟩;refine ⟨_,rfl,⟨x,_,T.z_TooMany_NoWeb,rfl,aZ ?_⟩⟩;refine ⟨_,rfl,⟨x,_,T.z_TooMany_NoText,rfl,aZ ?_⟩⟩;refine ⟨_,rfl,⟨x,_,T.z_TooMany_NoCorner,rfl,aZ ?_⟩⟩;refine ⟨_,rfl,⟨x,_,T.z_TooMany_NoRing,rfl,aZ ?_⟩⟩;exact ⟨_,rfl,⟨x,_,T.z_TooMany_Bridge,false,rfl,aZ ⟨_,rfl,⟨x,_,T.z_TooMany_Shared,q⟩⟩⟩⟩
variable {P:Program} {w:World} {mg:Str→Option Value} {base:Heap} {Z:DC} (T:Txt Z mg)
theorem qy{a b:List Bool}{P:D→Prop}(ha:a.length≤20)(h:P (.bl (decide (a=b)))):qw (.lst (a.map D.bl)) (.lst (b.map D.bl)) P:=by
 have py:∀l:List Bool,fW (l.map D.bl)=some (l.map PyData.bool):=by
  intro l
  induction l with
  |nil=>rfl
  |cons x l ih=>rw [oh,fW,ih];rfl
 have dp:∀l:List Bool,PyData.depthAll (l.map PyData.bool)≤1:=by
  intro l
  induction l with
  |nil=>simp [PyData.depthAll]
  |cons x l ih=>simp [PyData.depthAll,PyData.depth];omega
 have ev:∀a b:List Bool,PyData.eqvAll (a.map PyData.bool) (b.map PyData.bool)=decide (a=b):=by
  intro a
  induction a with
  |nil=>intro b;cases b<;>simp [PyData.eqvAll]
  |cons x a ih=>
   intro b;cases b with
   |nil=>simp [PyData.eqvAll]
   |cons y b=>simp only [oh,PyData.eqvAll,ih];cases x<;>cases y<;>simp [PyData.eqv]
 refine ⟨.list (a.map PyData.bool), .list (b.map PyData.bool),by rw [D.py,py];rfl,by rw [D.py,py];rfl,by simp only [PyData.depth];have:=dp a;omega,?_⟩
 rw [show PyData.eqv (.list (a.map PyData.bool)) (.list (b.map PyData.bool))=decide (a=b) by simp only [PyData.eqv];exact ev a b]
 exact h
theorem Ai:FnOk P w Z.K mg base bu 13 T.d_law.f T.d_law.fd ["_law_script"] (aB Z uV):=by
 have nd:=uU.nd;refine aQ T.d_law.F uU [0,0,0,0,0] (by decide) (λds R h=>by obtain ⟨_,rfl,_⟩:=h;rfl) (λaF A outer s H E ds R hr h=>?_)
 have hu:=hr.units
 refine ⟨_,(ah (zG (aG T.d__law_made (m7 T) hr (ae (aa 0) (ae ao ai))) (fN 2 rfl (aY (aL 1 nd) (aY (aL 2 nd) cW))))
   (ah (aI false 3 nd (gW ai))
   (ah (zJ (λ_ _=>by exact (aj (nA T.d_searched (mZ T) hr (ae (aG T.d__law_web (pM T) hr (ae (aa 1) ai)) (ae (aa 2) ai))))) aJ (CC 4 nd T.g_MapError T.q_MapError (λ_=>by exact (ah (aI false 3 nd (gW (ae (aV T.iX (.blt _) (Ds T.x_ValueError) (aa 4) rfl T.B.isinstance) (ae (aV T.iX (.own _) (bV T.g_TooMany) (aa 4) rfl T.B.isinstance) (ae (aV T.iX (.own _) (bV T.g_TooSmall) (aa 4) rfl T.B.isinstance) (ae (aV T.iX (.own _) (bV T.g_NotPlane) (aa 4) rfl T.B.isinstance) ai))))))
   (aj (aI false 3 nd (ay bT (aa 3) (gW (ae (aV T.iX (.own _) (bV T.g_NotFilled) (aa 4) rfl T.B.isinstance) (ae (vg T.d__law_others (j9 T) hr.Od (ae (aa 4) ai)) ai)))))))) zE))
   (aj (aD (uu (j7 hu) (aa 3) (gY (gW (ae eu (ae eu (ae eu (ae eu (ae eu (ae eu ai))))))) ja (jb (ay pJ ao (ez zw rfl T.B.int uk (ae (uu pI (br cI rfl T.B.len cH (ae (aa 1) ai)) ao (bg _)) ai))))) (bg _))))))),?_⟩
 obtain ⟨ns,rfl,tw,q⟩:=h;have lw:∀v:W,(v.map aR).length=v.length:=λv=>cQ _;refine ⟨_,rfl,ns,14,rfl,by decide,by decide,λw' ls g w1 O8 l0 l4=>?_⟩
 refine ⟨rfl,rfl,?_⟩;refine ⟨by show 0≤sizeLine;decide,trivial,?_⟩
 have fin:∀(xs:List Bool),(w'.length≤8→xs= [])→(8<w'.length→xs= [true,true,false,false,false,false])→∀o4,Bx (di qw (bJ 3) (Fd (Bv (cV (dC (.bl true)) (cV (dC (.bl true)) (cV (dC (.bl false)) (cV (dC (.bl false)) (cV (dC (.bl false)) (cV (dC (.bl false)) eo))))))) qA (xg (di w9 (dC (.int 6)) (dB wN (cV (di Cr (dB gb (cV (bJ 1) eo)) (dC (.int 8))) eo)))))) {nx:=λ_=>0=0∧R .aC,rt:=R} [some (.fY ns),some (aO w'),some (ju ls),some (.lst (xs.map D.bl)),o4]:=by
  intro xs h1 h2 o4;refine ⟨_,rfl,by show 6≤sizeLine;decide,⟨_,rfl,?_⟩⟩
  refine (?_:qa 6 (if decide ((8:Int)<((w'.map aR).length:Int))=true then 1 else 0)∧qw (.lst (xs.map D.bl)) (.lst (cutD (List.map D.bl [true,true,false,false,false,false]) none (some (6*(if decide ((8:Int)<((w'.map aR).length:Int))=true then 1 else 0))))) R);rw [lw];refine ⟨.inl ⟨by decide,by decide⟩,?_⟩
  by_cases e:8<w'.length
  ·rw [if_pos (decide_eq_true (by omega)),show cutD (List.map D.bl [true,true,false,false,false,false]) none (some (6*1))=List.map D.bl [true,true,false,false,false,false] from rfl]
   refine qy (by rw [h2 e];decide) ?_
   rw [h2 e,decide_eq_true rfl];exact q
  ·rw [if_neg (by rw [decide_eq_false (by omega)];decide),show cutD (List.map D.bl [true,true,false,false,false,false]) none (some (6*0))=List.map D.bl [] from rfl]
   refine qy (by rw [h1 (by omega)];decide) ?_
   rw [h1 (by omega),decide_eq_true rfl];exact q
 refine ⟨_,rfl,w',rfl,g,w1,by omega,?_⟩
 refine ⟨_,rfl,w',ls,rfl,by omega,λn8=>⟨g,w1,n8,l0,by rw [iA],λp=>?_,λp=>?_⟩,λn8 d=>?_,λn8=>?_⟩
 ·unfold lst
  rw [fZ];cases e:ls[p]? with
  |none=>exact iD _
  |some l=>have:=l4 l (n6 e);simp;omega
 ·have:=mx g p;omega
 ·exact fin [] (λ_=>rfl) (λz=>absurd z (by omega)) none
 ·have x:=T.q_TooMany.cls
  refine ⟨T.q_TooMany.obj,true,T.m_TooMany_MapError,bG ?_⟩;refine ⟨_,rfl,⟨x,_,T.z_TooMany_ValueError,?_⟩⟩;refine ⟨_,rfl,⟨x,_,T.z_TooMany_TooMany,?_⟩⟩;refine ⟨_,rfl,⟨x,_,T.z_TooMany_TooSmall,?_⟩⟩;refine ⟨_,rfl,⟨x,_,T.z_TooMany_NotPlane,?_⟩⟩;refine ⟨by show 4≤sizeLine;decide,trivial,?_⟩
  refine ⟨_,rfl,_,rfl,⟨x,_,T.z_TooMany_NotFilled,?_⟩⟩;refine ⟨_,rfl,[],[],rfl,?_⟩;refine ⟨by show 2≤sizeLine;decide,by show 6≤sizeLine;decide,trivial,?_⟩
  exact fin [true,true,false,false,false,false] (λz=>absurd z (by omega)) (λ_=>rfl) none
theorem all_mk{l:PySem.W.OpenLaw}{w:World}{K:PySem.W.Frag}{h:Heap}{mg:Str→Option Value}{fa C:Addr}{Iz:Tok}{IA:Tok}(X:K.In h)(G:h.Ns mainGlobals mg)(KQ:mg "law"=some (.ref fa)){IC:Tok}
  {d0:Addr} {Nm Jq:Option Addr} {NX:Array (Option Value)} {Nb Mp J4 NF EA JQ:Value}
  {d1:Addr} {Np Jr:Option Addr} {NY:Array (Option Value)} {Nc Mq J5 NG EB JR:Value}
  {d2:Addr} {Nq Js:Option Addr} {rS:Array (Option Value)} {Nd Mr J6 NH EC JS:Value}
  {d3:Addr} {Nr Jt:Option Addr} {NZ:Array (Option Value)} {Nf Ms J7 NI ED JT:Value}
  {d4:Addr} {Nt Ju:Option Addr} {N0:Array (Option Value)} {Ng Mt J8 NJ EE JU:Value}
  {d5:Addr} {Nu Jv:Option Addr} {N1:Array (Option Value)} {Nh Mu J9 NK EF JV:Value}
  {d6:Addr} {Nv Jw:Option Addr} {N2:Array (Option Value)} {Ni Mv Ka NL EG JW:Value}
  {d7:Addr} {Nw Jx:Option Addr} {N3:Array (Option Value)} {Nj Mw Kb NM EH JX:Value}
  {d8:Addr} {Nx Jy:Option Addr} {N4:Array (Option Value)} {Nk Mx Kc NN EI JY:Value}
  {d9:Addr} {Ny Jz:Option Addr} {N5:Array (Option Value)} {Nl My Kd NO EJ JZ:Value}
  {Ca:Addr} {Hb El:Option Addr} {HN:Array (Option Value)} {GR Gu Fi Hq Bg EM:Value}
  {Cb:Addr} {Hc Em:Option Addr} {HP:Array (Option Value)} {GS Gv Fj Hr Bh EN:Value}
  {Cc:Addr} {Hd En:Option Addr} {HQ:Array (Option Value)} {GU Gw Fl Hs Bi EO:Value}
  {Cd:Addr} {He Eo:Option Addr} {HR:Array (Option Value)} {GV Gx Fm Ht Bj ER:Value}
  {Ce:Addr} {Hf Ep:Option Addr} {HS:Array (Option Value)} {GW Gy Fn Hu Bk ES:Value}
  {Cf:Addr} {Hg Er:Option Addr} {HU:Array (Option Value)} {GX Gz Fo Hv Bl ET:Value}
  {Cg:Addr} {Hh Es:Option Addr} {HV:Array (Option Value)} {GY GA Fp Hw Bm EU:Value}
  {Ci:Addr} {Hi Et:Option Addr} {HW:Array (Option Value)} {GZ GB Fq Hx Bn EV:Value}
  {Cj:Addr} {Hj Eu:Option Addr} {HX:Array (Option Value)} {G7 GC Fs Hy Bo EW:Value}
  {Ck:Addr} {Hk Ew:Option Addr} {HY:Array (Option Value)} {G8 GD Ft Hz Bp EX:Value}
  {Cn:Addr} {Hl Ex:Option Addr} {HZ:Array (Option Value)} {G9 GF Fu HA Bq EY:Value}
  {Co:Addr} {Hm Ey:Option Addr} {H0:Array (Option Value)} {Ha GG Fv HB Br EZ:Value}
  {i0:Addr} {Lq LD:Option Addr} {LX:Array (Option Value)} {Lk Lx LK LQ Gm L6:Value}
  {i1:Addr} {Lr LF:Option Addr} {LY:Array (Option Value)} {Ll Ly LL LR Gn L7:Value}
  {i2:Addr} {Ls LG:Option Addr} {LZ:Array (Option Value)} {Lm Lz LM LS Gp L8:Value}
  {i3:Addr} {Lu LH:Option Addr} {L3:Array (Option Value)} {Ln LA LN LU Gq L9:Value}
  {i4:Addr} {Lv LI:Option Addr} {L4:Array (Option Value)} {Lo LB LO LV Gr Ma:Value}
  {i5:Addr} {Lw LJ:Option Addr} {L5:Array (Option Value)} {Lp LC LP LW Gs Mb:Value}
  {aN:Addr}
  {au:Addr}
  {gB:Addr}
  {kZ:Addr}
  {gz:Addr}
  {jR:Addr}
  {gy:Addr}
  {jQ:Addr}
  {kY:Addr}
  {jT:Addr}
  {iE:Addr}
  {fL:Addr}
  {sr:Addr}
  {jP:Addr}
  {jS:Addr}
  {qc:Addr} {i6:ClassData} {pH q_MapError:Str} {ou iY ni:List Value} {lN oo:Bool} {pW:List Str} {mS:Option Bool} {oK:Option Addr} {pq pw pz pA pB:Option Value}
  {sx:Addr} {km:ClassData} {rF q_TooMany:Str} {qo kj pZ:List Value} {mW qg:Bool} {rT:List Str} {oG:Option Bool} {qB:Option Addr} {rg rh rj rk rm:Option Value}
  (gC:PySem.W.nsIn K mainGlobals "Web"=some (some (.ref C)))
  (a0:ei K "is_among" d0)
  (l0:cG K "is_among" "is_among" gO d0 Nm Jq NX Nb Mp J4 NF EA JQ)
  (c0:PySem.W.codeIn K EA "is_among"=true)
  (k0:PySem.W.keepIn K (.ref d0)=true)
  (a1:ei K "alien_fault" d1)
  (l1:cG K "alien_fault" "alien_fault" eM d1 Np Jr NY Nc Mq J5 NG EB JR)
  (c1:PySem.W.codeIn K EB "alien_fault"=true)
  (k1:PySem.W.keepIn K (.ref d1)=true)
  (a2:ei K "self_fault" d2)
  (l2:cG K "self_fault" "self_fault" ft d2 Nq Js rS Nd Mr J6 NH EC JS)
  (c2:PySem.W.codeIn K EC "self_fault"=true)
  (k2:PySem.W.keepIn K (.ref d2)=true)
  (a3:ei K "twice_fault" d3)
  (l3:cG K "twice_fault" "twice_fault" eQ d3 Nr Jt NZ Nf Ms J7 NI ED JT)
  (c3:PySem.W.codeIn K ED "twice_fault"=true)
  (k3:PySem.W.keepIn K (.ref d3)=true)
  (a4:ei K "lone_fault" d4)
  (l4:cG K "lone_fault" "lone_fault" fq d4 Nt Ju N0 Ng Mt J8 NJ EE JU)
  (c4:PySem.W.codeIn K EE "lone_fault"=true)
  (k4:PySem.W.keepIn K (.ref d4)=true)
  (a5:ei K "reached_from_first" d5)
  (l5:cG K "reached_from_first" "reached_from_first" bp d5 Nu Jv N1 Nh Mu J9 NK EF JV)
  (c5:PySem.W.codeIn K EF "reached_from_first"=true)
  (k5:PySem.W.keepIn K (.ref d5)=true)
  (a6:ei K "apart_fault" d6)
  (l6:cG K "apart_fault" "apart_fault" eN d6 Nv Jw N2 Ni Mv Ka NL EG JW)
  (c6:PySem.W.codeIn K EG "apart_fault"=true)
  (k6:PySem.W.keepIn K (.ref d6)=true)
  (a7:ei K "first_fault" d7)
  (l7:cG K "first_fault" "first_fault" eO d7 Nw Jx N3 Nj Mw Kb NM EH JX)
  (c7:PySem.W.codeIn K EH "first_fault"=true)
  (k7:PySem.W.keepIn K (.ref d7)=true)
  (a8:ei K "need_at_most" d8)
  (l8:cG K "need_at_most" "need_at_most" dG d8 Nx Jy N4 Nk Mx Kc NN EI JY)
  (c8:PySem.W.codeIn K EI "need_at_most"=true)
  (k8:PySem.W.keepIn K (.ref d8)=true)
  (a9:ei K "dyes_left" d9)
  (l9:cG K "dyes_left" "dyes_left" cM d9 Ny Jz N5 Nl My Kd NO EJ JZ)
  (c9:PySem.W.codeIn K EJ "dyes_left"=true)
  (k9:PySem.W.keepIn K (.ref d9)=true)
  (Je:ei K "with_dye" Ca)
  (MA:cG K "with_dye" "with_dye" gP Ca Hb El HN GR Gu Fi Hq Bg EM)
  (JA:PySem.W.codeIn K Bg "with_dye"=true)
  (Mc:PySem.W.keepIn K (.ref Ca)=true)
  (Jf:ei K "chosen_point" Cb)
  (MB:cG K "chosen_point" "chosen_point" cp Cb Hc Em HP GS Gv Fj Hr Bh EN)
  (JB:PySem.W.codeIn K Bh "chosen_point"=true)
  (Md:PySem.W.keepIn K (.ref Cb)=true)
  (Jg:ei K "searched_from" Cc)
  (MC:cG K "searched_from" "searched_from" de Cc Hd En HQ GU Gw Fl Hs Bi EO)
  (JC:PySem.W.codeIn K Bi "searched_from"=true)
  (Me:PySem.W.keepIn K (.ref Cc)=true)
  (Jh:ei K "searched" Cd)
  (MD:cG K "searched" "searched" fg Cd He Eo HR GV Gx Fm Ht Bj ER)
  (JD:PySem.W.codeIn K Bj "searched"=true)
  (Mf:PySem.W.keepIn K (.ref Cd)=true)
  (Ji:ei K "_law_cell_at" Ce)
  (ME:cG K "_law_cell_at" "_law_cell_at" dF Ce Hf Ep HS GW Gy Fn Hu Bk ES)
  (JE:PySem.W.codeIn K Bk "_law_cell_at"=true)
  (Mg:PySem.W.keepIn K (.ref Ce)=true)
  (Jj:ei K "_law_drawn" Cf)
  (MF:cG K "_law_drawn" "_law_drawn" fo Cf Hg Er HU GX Gz Fo Hv Bl ET)
  (JF:PySem.W.codeIn K Bl "_law_drawn"=true)
  (Mh:PySem.W.keepIn K (.ref Cf)=true)
  (Jk:ei K "_law_tied_turns" Cg)
  (MG:cG K "_law_tied_turns" "_law_tied_turns" bI Cg Hh Es HV GY GA Fp Hw Bm EU)
  (JG:PySem.W.codeIn K Bm "_law_tied_turns"=true)
  (Mi:PySem.W.keepIn K (.ref Cg)=true)
  (Jl:ei K "_law_listed" Ci)
  (MH:cG K "_law_listed" "_law_listed" eJ Ci Hi Et HW GZ GB Fq Hx Bn EV)
  (JH:PySem.W.codeIn K Bn "_law_listed"=true)
  (Mj:PySem.W.keepIn K (.ref Ci)=true)
  (Jm:ei K "_law_made" Cj)
  (MI:cG K "_law_made" "_law_made" fX Cj Hj Eu HX G7 GC Fs Hy Bo EW)
  (JI:PySem.W.codeIn K Bo "_law_made"=true)
  (Ml:PySem.W.keepIn K (.ref Cj)=true)
  (Jn:ei K "_law_web" Ck)
  (MJ:cG K "_law_web" "_law_web" ff Ck Hk Ew HY G8 GD Ft Hz Bp EX)
  (JJ:PySem.W.codeIn K Bp "_law_web"=true)
  (Mm:PySem.W.keepIn K (.ref Ck)=true)
  (Jo:ei K "_law_others" Cn)
  (MK:cG K "_law_others" "_law_others" eL Cn Hl Ex HZ G9 GF Fu HA Bq EY)
  (JK:PySem.W.codeIn K Bq "_law_others"=true)
  (Mn:PySem.W.keepIn K (.ref Cn)=true)
  (Ej:ei K "law" Co)
  (ML:cG K "law" "law" tW Co Hm Ey H0 Ha GG Fv HB Br EZ)
  (JL:PySem.W.codeIn K Br "law"=true)
  (Mo:PySem.W.keepIn K (.ref Co)=true)
  (m0:PySem.W.findIn K (.ref C) "__init__"=some (some (.ref i0)))
  (f0:PySem.W.isFn K (.ref i0)=true)
  (M3:cG K "__init__" "Web.__init__" bM i0 Lq LD LX Lk Lx LK LQ Gm L6)
  (MP:PySem.W.codeIn K Gm "Web.__init__"=true)
  (MV:PySem.W.keepIn K (.ref i0)=true)
  (m1:PySem.W.findIn K (.ref C) "many"=some (some (.ref i1)))
  (f1:PySem.W.isFn K (.ref i1)=true)
  (M4:cG K "many" "Web.many" gN i1 Lr LF LY Ll Ly LL LR Gn L7)
  (MQ:PySem.W.codeIn K Gn "Web.many"=true)
  (MW:PySem.W.keepIn K (.ref i1)=true)
  (m2:PySem.W.findIn K (.ref C) "turns"=some (some (.ref i2)))
  (f2:PySem.W.isFn K (.ref i2)=true)
  (M5:cG K "turns" "Web.turns" dX i2 Ls LG LZ Lm Lz LM LS Gp L8)
  (MR:PySem.W.codeIn K Gp "Web.turns"=true)
  (MX:PySem.W.keepIn K (.ref i2)=true)
  (m3:PySem.W.findIn K (.ref C) "ties"=some (some (.ref i3)))
  (f3:PySem.W.isFn K (.ref i3)=true)
  (M6:cG K "ties" "Web.ties" kG i3 Lu LH L3 Ln LA LN LU Gq L9)
  (MS:PySem.W.codeIn K Gq "Web.ties"=true)
  (MY:PySem.W.keepIn K (.ref i3)=true)
  (m4:PySem.W.findIn K (.ref C) "tied"=some (some (.ref i4)))
  (f4:PySem.W.isFn K (.ref i4)=true)
  (M7:cG K "tied" "Web.tied" kF i4 Lv LI L4 Lo LB LO LV Gr Ma)
  (MT:PySem.W.codeIn K Gr "Web.tied"=true)
  (MZ:PySem.W.keepIn K (.ref i4)=true)
  (m5:PySem.W.findIn K (.ref C) "behind"=some (some (.ref i5)))
  (f5:PySem.W.isFn K (.ref i5)=true)
  (M8:cG K "behind" "Web.behind" il i5 Lw LJ L5 Lp LC LP LW Gs Mb)
  (MU:PySem.W.codeIn K Gs "Web.behind"=true)
  (M0:PySem.W.keepIn K (.ref i5)=true)
  (ND:PySem.W.plainGet K C Str.empty=true)
  (zS:PySem.W.hasDictIn K C=true)
  (NP:PySem.W.plainOver K C=true)
  (NV:PySem.W.findIn K (.ref C) "__setattr__"=some (some (.builtin "object.__setattr__")))
  (M1:PySem.W.makesIn K C=true)
  (Mz:PySem.W.keepIn K (.ref C)=true)
  (nR:PySem.W.findIn K (.ref C) "rows"=some none)
  (xn:PySem.W.specialIn K (.builtin "object.__class__") "__get__"=some (some (.builtin "getset_descriptor.__get__")))
  (xt:PySem.W.takesIn K (.builtin "object.__class__")=some true)
  (Oi:PySem.W.nsIn K mainGlobals "ValueError"=some none)
  (oS:PySem.W.nsIn K mainGlobals "MapError"=some (some (.ref aN)))
  (qN:PySem.W.nsIn K mainGlobals "TooMany"=some (some (.ref au)))
  (oW:PySem.W.nsIn K mainGlobals "TooSmall"=some (some (.ref gB)))
  (vv:PySem.W.nsIn K mainGlobals "NoWeb"=some (some (.ref kZ)))
  (oV:PySem.W.nsIn K mainGlobals "NotPlane"=some (some (.ref gz)))
  (sU:PySem.W.nsIn K mainGlobals "NoText"=some (some (.ref jR)))
  (oU:PySem.W.nsIn K mainGlobals "NoCorner"=some (some (.ref gy)))
  (sT:PySem.W.nsIn K mainGlobals "NoRing"=some (some (.ref jQ)))
  (vt:PySem.W.nsIn K mainGlobals "Alike"=some (some (.ref kY)))
  (sW:PySem.W.nsIn K mainGlobals "TooFew"=some (some (.ref jT)))
  (qM:PySem.W.nsIn K mainGlobals "NotFree"=some (some (.ref iE)))
  (mT:PySem.W.nsIn K mainGlobals "NotFilled"=some (some (.ref fL)))
  (zP:PySem.W.nsIn K mainGlobals "Odd"=some (some (.ref sr)))
  (sS:PySem.W.nsIn K mainGlobals "Bridge"=some (some (.ref jP)))
  (sV:PySem.W.nsIn K mainGlobals "Shared"=some (some (.ref jS)))
  (pd:PySem.W.hasDictIn K aN=true)
  (oR:PySem.W.findIn K (.ref aN) "__getattribute__"=some (some (.builtin "BaseException.__getattribute__")))
  (oX:PySem.W.findIn K (.ref aN) "__getattr__"=some none)
  (pV:PySem.W.findIn K (.ref aN) "__setattr__"=some (some (.builtin "object.__setattr__")))
  (oB:PySem.W.findIn K (.ref aN) "__class__"=some (some (.builtin "object.__class__")))
  (oH:PySem.W.clsIn K aN=some i6)
  (oE:i6.mro= .ref aN:: [.type "ValueError", .type "Exception", .type "BaseException", .type "object"])
  (pG:K.lookup aN=some (excClassObj pH q_MapError aN qc ou iY lN pW ni oo mS oK pq pw pz pA pB "ValueError.__new__"))
  (oz:iY= [.type "ValueError", .type "Exception", .type "BaseException", .type "object"])
  (kz:PySem.W.hasDictIn K au=true)
  (kv:PySem.W.findIn K (.ref au) "__getattribute__"=some (some (.builtin "BaseException.__getattribute__")))
  (ky:PySem.W.findIn K (.ref au) "__getattr__"=some none)
  (kH:PySem.W.findIn K (.ref au) "__setattr__"=some (some (.builtin "object.__setattr__")))
  (kn:PySem.W.findIn K (.ref au) "__class__"=some (some (.builtin "object.__class__")))
  (kr:PySem.W.clsIn K au=some km)
  (ko:km.mro= .ref au:: [.ref aN, .type "ValueError", .type "Exception", .type "BaseException", .type "object"])
  (kD:K.lookup au=some (excClassObj rF q_TooMany au sx qo kj mW rT pZ qg oG qB rg rh rj rk rm "ValueError.__new__"))
  (kl:kj= [.ref aN, .type "ValueError", .type "Exception", .type "BaseException", .type "object"])
  (qq:PySem.W.specialIn K (.ref au) "__call__"=some (some (.builtin "type.__call__")))
  (rZ:PySem.W.instIn K (.ref au) (.type "type")=some true)
  (qX:PySem.W.findIn K (.ref au) "__init__"=some (some (.builtin "ValueError.__init__")))
  (rp:PySem.W.keepIn K (.ref au)=true)
  (z_TooMany_TooSmall:PySem.W.kitOne K (.ref au) (.ref gB)=some false)
  (z_TooMany_NoWeb:PySem.W.kitOne K (.ref au) (.ref kZ)=some false)
  (z_TooMany_NotPlane:PySem.W.kitOne K (.ref au) (.ref gz)=some false)
  (z_TooMany_NoText:PySem.W.kitOne K (.ref au) (.ref jR)=some false)
  (z_TooMany_NoCorner:PySem.W.kitOne K (.ref au) (.ref gy)=some false)
  (z_TooMany_NoRing:PySem.W.kitOne K (.ref au) (.ref jQ)=some false)
  (z_TooMany_Alike:PySem.W.kitOne K (.ref au) (.ref kY)=some false)
  (z_TooMany_TooFew:PySem.W.kitOne K (.ref au) (.ref jT)=some false)
  (z_TooMany_NotFree:PySem.W.kitOne K (.ref au) (.ref iE)=some false)
  (z_TooMany_NotFilled:PySem.W.kitOne K (.ref au) (.ref fL)=some false)
  (z_TooMany_Odd:PySem.W.kitOne K (.ref au) (.ref sr)=some false)
  (z_TooMany_Bridge:PySem.W.kitOne K (.ref au) (.ref jP)=some false)
  (z_TooMany_Shared:PySem.W.kitOne K (.ref au) (.ref jS)=some false)
  (z_TooMany_ValueError:PySem.W.kitOne K (.ref au) (.type "ValueError")=some true)
  (m_TooMany_MapError:PySem.W.mroIn K au (.ref aN)=some true)
  (EL:PySem.W.nsIn K mainGlobals "__name__"=some (some (.str "law_mapdye_k62_too_many_to_search" IC)))
  (JM:PySem.W.nsIn K mainGlobals "MOST_POINTS"=some (some (.int 14 Iz)))
  (JN:PySem.W.nsIn K mainGlobals "MOST_SEARCHED"=some (some (.int 8 IA)))
  (IH:PySem.W.nsIn K mainGlobals "len"=some none)
  (A8:PySem.W.nsIn K mainGlobals "range"=some none)
  (II:PySem.W.nsIn K mainGlobals "max"=some none)
  (IJ:PySem.W.nsIn K mainGlobals "min"=some none)
  (sf:PySem.W.nsIn K mainGlobals "enumerate"=some none)
  (IL:PySem.W.nsIn K mainGlobals "zip"=some none)
  (zk:PySem.W.nsIn K mainGlobals "sorted"=some none)
  (IF:PySem.W.nsIn K mainGlobals "all"=some none)
  (p9:PySem.W.nsIn K mainGlobals "isinstance"=some none)
  (IG:PySem.W.nsIn K mainGlobals "int"=some none)
  (D6:PySem.W.nsIn K mainGlobals "bool"=some none)
  (D7:PySem.W.nsIn K mainGlobals "list"=some none)
  (A9:PySem.W.nsIn K mainGlobals "tuple"=some none)
  (IK:PySem.W.nsIn K mainGlobals "sum"=some none)
  (ue:PySem.W.nsIn K mainGlobals "reversed"=some none)
  :∃fd:FuncData,(∀(s:Shared)(v:Value),BindsTo s fd ⟨[v],[]⟩ [("_law_script",v)])∧∀base:Heap,K.In base→base.Ns mainGlobals mg→FnOk l.prog w K mg base bu 40 fa fd ["_law_script"] (L2.jG K):=by
 have e:=KQ.symm.trans (PySem.W.mg_of X G Ej);cases e;have E0:=ji (st:=bM) M3 MP MV;have e0:=E0.binds (ps:= ["self","turns"]) (λ_ _ _ _ _ _ _ hl=>by obtain ⟨_,_,rfl⟩:=L2.kC hl;rfl)
 let Z:DC:=⟨K,C⟩
 let T:Txt Z mg:=⟨⟨PySem.W.mg_none_of X G IH,PySem.W.mg_none_of X G A8,PySem.W.mg_none_of X G II,PySem.W.mg_none_of X G IJ,PySem.W.mg_none_of X G sf,PySem.W.mg_none_of X G IL,PySem.W.mg_none_of X G zk,PySem.W.mg_none_of X G IF,PySem.W.mg_none_of X G p9,PySem.W.mg_none_of X G IG,PySem.W.mg_none_of X G D6,PySem.W.mg_none_of X G D7,PySem.W.mg_none_of X G A9,PySem.W.mg_none_of X G IK,PySem.W.mg_none_of X G ue⟩, .of X G a0 l0 c0 k0 (λ_ _ _ _ _ _ _ hl=>by obtain ⟨_,_,rfl⟩:=L2.kC hl;rfl), .of X G a1 l1 c1 k1 (λ_ _ _ _ _ _ _ hl=>by obtain ⟨_,rfl⟩:=L2.eG hl;rfl), .of X G a2 l2 c2 k2 (λ_ _ _ _ _ _ _ hl=>by obtain ⟨_,rfl⟩:=L2.eG hl;rfl), .of X G a3 l3 c3 k3 (λ_ _ _ _ _ _ _ hl=>by obtain ⟨_,rfl⟩:=L2.eG hl;rfl), .of X G a4 l4 c4 k4 (λ_ _ _ _ _ _ _ hl=>by obtain ⟨_,rfl⟩:=L2.eG hl;rfl), .of X G a5 l5 c5 k5 (λ_ _ _ _ _ _ _ hl=>by obtain ⟨_,rfl⟩:=L2.eG hl;rfl), .of X G a6 l6 c6 k6 (λ_ _ _ _ _ _ _ hl=>by obtain ⟨_,rfl⟩:=L2.eG hl;rfl), .of X G a7 l7 c7 k7 (λ_ _ _ _ _ _ _ hl=>by obtain ⟨_,rfl⟩:=L2.eG hl;rfl), .of X G a8 l8 c8 k8 (λ_ _ _ _ _ _ _ hl=>by obtain ⟨_,_,rfl⟩:=L2.kC hl;rfl), .of X G a9 l9 c9 k9 (λ_ _ _ _ _ _ _ hl=>by obtain ⟨_,_,_,_,rfl⟩:=L2.GI hl;rfl), .of X G Je MA JA Mc (λ_ _ _ _ _ _ _ hl=>by obtain ⟨_,_,_,rfl⟩:=L2.lR hl;rfl), .of X G Jf MB JB Md (λ_ _ _ _ _ _ _ hl=>by obtain ⟨_,_,_,rfl⟩:=L2.lR hl;rfl), .of X G Jg MC JC Me (λ_ _ _ _ _ _ _ hl=>by obtain ⟨_,_,_,rfl⟩:=L2.lR hl;rfl), .of X G Jh MD JD Mf (λ_ _ _ _ _ _ _ hl=>by obtain ⟨_,_,rfl⟩:=L2.kC hl;rfl), .of X G Ji ME JE Mg (λ_ _ _ _ _ _ _ hl=>by obtain ⟨_,_,rfl⟩:=L2.kC hl;rfl), .of X G Jj MF JF Mh (λ_ _ _ _ _ _ _ hl=>by obtain ⟨_,rfl⟩:=L2.eG hl;rfl), .of X G Jk MG JG Mi (λ_ _ _ _ _ _ _ hl=>by obtain ⟨_,_,rfl⟩:=L2.kC hl;rfl), .of X G Jl MH JH Mj (λ_ _ _ _ _ _ _ hl=>by obtain ⟨_,_,_,rfl⟩:=L2.lR hl;rfl), .of X G Jm MI JI Ml (λ_ _ _ _ _ _ _ hl=>by obtain ⟨_,_,rfl⟩:=L2.kC hl;rfl), .of X G Jn MJ JJ Mm (λ_ _ _ _ _ _ _ hl=>by obtain ⟨_,rfl⟩:=L2.eG hl;rfl), .of X G Jo MK JK Mn (λ_ _ _ _ _ _ _ hl=>by obtain ⟨_,rfl⟩:=L2.eG hl;rfl), .of X G Ej ML JL Mo (λ_ _ _ _ _ _ _ hl=>by obtain ⟨_,rfl⟩:=L2.eG hl;rfl),⟨⟨ND,zS,NP,NV⟩,nR⟩,PySem.W.mg_of X G gC,i0,_,E0,⟨M1,m0,f0,Mz⟩,e0, .of m1 f1 M4 MQ MW (λ_ _ _ _ _ _ _ hl=>by obtain ⟨_,rfl⟩:=L2.eG hl;rfl), .of m2 f2 M5 MR MX (λ_ _ _ _ _ _ _ hl=>by obtain ⟨_,rfl⟩:=L2.eG hl;rfl), .of m3 f3 M6 MS MY (λ_ _ _ _ _ _ _ hl=>by obtain ⟨_,rfl⟩:=L2.eG hl;rfl), .of m4 f4 M7 MT MZ (λ_ _ _ _ _ _ _ hl=>by obtain ⟨_,_,_,rfl⟩:=L2.lR hl;rfl), .of m5 f5 M8 MU M0 (λ_ _ _ _ _ _ _ hl=>by obtain ⟨_,_,_,rfl⟩:=L2.lR hl;rfl),⟨xn,xt⟩,PySem.W.mg_none_of X G Oi,aN,PySem.W.mg_of X G oS,au,PySem.W.mg_of X G qN,gB,PySem.W.mg_of X G oW,kZ,PySem.W.mg_of X G vv,gz,PySem.W.mg_of X G oV,jR,PySem.W.mg_of X G sU,gy,PySem.W.mg_of X G oU,jQ,PySem.W.mg_of X G sT,kY,PySem.W.mg_of X G vt,jT,PySem.W.mg_of X G sW,iE,PySem.W.mg_of X G qM,fL,PySem.W.mg_of X G mT,sr,PySem.W.mg_of X G zP,jP,PySem.W.mg_of X G sS,jS,PySem.W.mg_of X G sV,ud pd oR oX pV oB oH oE pG oz rfl,ud kz kv ky kH kn kr ko kD kl rfl,⟨(ud kz kv ky kH kn kr ko kD kl rfl).obj,qq,rZ,qX,rp⟩,by unfold PySem.W.kitOne;exact if_pos (beq_self_eq_true _),z_TooMany_TooSmall,z_TooMany_NoWeb,z_TooMany_NotPlane,z_TooMany_NoText,z_TooMany_NoCorner,z_TooMany_NoRing,z_TooMany_Alike,z_TooMany_TooFew,z_TooMany_NotFree,z_TooMany_NotFilled,z_TooMany_Odd,z_TooMany_Bridge,z_TooMany_Shared,z_TooMany_ValueError,m_TooMany_MapError,⟨IC,PySem.W.mg_of X G EL⟩,⟨Iz,PySem.W.mg_of X G JM⟩,⟨IA,PySem.W.mg_of X G JN⟩⟩
 exact ⟨_,λs v=> .of_eq rfl,λbase _ _=>(((Ai (P:=l.prog) (w:=w) (base:=base) T).mono (by decide)).imp (L2.z8 (Z:=Z)))⟩
theorem walk{l:PySem.W.OpenLaw}{q:Program}{loose:List Str}{XP:(Str→Option Value)→Heap→Prop}{YP:World→Heap→Prop}{d:DefRec}{K:Params→PySem.W.Frag}(hn:l.most=some 63)(td:d.params.defaults= [])
  (hY:∀(w:World)(h:Heap),YP w h→(K w.params).In h)
  (F:∀(w:World)(mg:Str→Option Value)(fa:Addr)(h:Heap),(K w.params).In h→h.Ns mainGlobals mg→mg d.name=some (.ref fa)→
   ∃fd:FuncData,(∀(s:Shared)(u:Value),BindsTo s fd ⟨[u],[]⟩ [("_law_script",u)])∧∀base:Heap,(K w.params).In base→base.Ns mainGlobals mg→FnOk l.prog w (K w.params) mg base bu 40 fa fd ["_law_script"] (jG (K w.params))):
  PySem.W.WalkO q loose XP YP l.row.toRowW d [] (λf vs=>PySem.call f vs):=L2.D3 40 (by decide) hn td hY F
end oj
def PySem.W.Fast.tw16987316172126210136:Nat:=0
def PySem.W.Fast.tw2025363111104406785:Nat:=0
def PySem.W.Fast.tw11352127303081951057:Nat:=0
def PySem.W.Fast.tw12912604560471601634:Nat:=0
def PySem.W.Fast.tw8569869165815782877:Nat:=0
def PySem.W.Fast.tw15437203774360626747:Nat:=0
def PySem.W.Fast.tw2773882360586091412:Nat:=0
def PySem.W.Fast.tw9009457783774527246:Nat:=0
def PySem.W.Fast.tw5469330319033870631:Nat:=0
def PySem.W.Fast.tw16924836527202379794:Nat:=0
def PySem.W.Fast.tw17907770294933337765:Nat:=0
def PySem.W.Fast.tw850229722845959630:Nat:=0
def PySem.W.Fast.tw11049492675018094223:Nat:=0
def PySem.W.Fast.tw5770506178590597840:Nat:=0
def PySem.W.Fast.tw10440469264270483051:Nat:=0
def PySem.W.Fast.tw11000612677713849762:Nat:=0
def PySem.W.Fast.tw8972869961516905314:Nat:=0
def PySem.W.Fast.tw8870631183580746515:Nat:=0
def PySem.W.Fast.tw1138605525103749523:Nat:=0
def PySem.W.Fast.tw11125324573573196778:Nat:=0
def PySem.W.Fast.tw14407513681832472435:Nat:=0
def PySem.W.Fast.tw6175938495948953402:Nat:=0
def PySem.W.Fast.tw14434489108915867021:Nat:=0
def PySem.W.Fast.tw3503617380757487715:Nat:=0
def PySem.W.Fast.tw10570916211798936047:Nat:=0
def PySem.W.Fast.tw1126169970840610276:Nat:=0
def PySem.W.Fast.tw14421737753369350803:Nat:=0
def PySem.W.Fast.tw16852572835538790603:Nat:=0
def PySem.W.Fast.tw13706418596344308520:Nat:=0
def PySem.W.Fast.tw16415000159210366510:Nat:=0
def PySem.W.Fast.tw4553350850577383912:Nat:=0
def PySem.W.Fast.tw14386679831155312405:Nat:=0
def PySem.W.Fast.tw12194014977444844157:Nat:=0
def PySem.W.Fast.tw8055732213198227144:Nat:=0
def PySem.W.Fast.tw17281628324584295218:Nat:=0
def PySem.W.Fast.tw4544643803247225066:Nat:=0
def PySem.W.Fast.tw12707737988676080256:Nat:=0
def PySem.W.Fast.tw17844121700239154170:Nat:=0
def PySem.W.Fast.tw13930296142080317562:Nat:=0
def PySem.W.Fast.tw15572115086180508057:Nat:=0
def PySem.W.Fast.tw16762637609508531898:Nat:=0
def PySem.W.Fast.tw4058434601545898788:Nat:=0
def PySem.W.Fast.tw14040535281650851550:Nat:=0
def PySem.W.Fast.tw4738468832911957668:Nat:=0
def PySem.W.Fast.tw17612581736477033510:Nat:=0
def PySem.W.Fast.tw9532569930267055711:Nat:=0
def PySem.W.Fast.tw15633879312747484466:Nat:=0
def PySem.W.Fast.tw8288125958132950543:Nat:=0
def PySem.W.Fast.tw4764182732747257461:Nat:=0
def PySem.W.Fast.tw7038581206360100732:Nat:=0
def PySem.W.Fast.tw10944962356241151901:Nat:=0
def PySem.W.Fast.tw18439364511375195464:Nat:=0
def PySem.W.Fast.tw15194883710007926888:Nat:=0
def PySem.W.Fast.tw3462769800113360647:Nat:=0
def PySem.W.Fast.tw5639483488425332334:Nat:=0
def PySem.W.Fast.tw9722913784640783980:Nat:=0
def PySem.W.Fast.tw12441752339685279043:Nat:=0
def PySem.W.Fast.tw4221294352086397529:Nat:=0
def PySem.W.Fast.tw16328030918831148895:Nat:=0
def PySem.W.Fast.tw10229188246970945052:Nat:=0
def PySem.W.Fast.tw15369573007758831970:Nat:=0
def PySem.W.Fast.tw3748347550483356168:Nat:=0
def PySem.W.Fast.tw10754694738874943987:Nat:=0
def PySem.W.Fast.tw4206593730032819432:Nat:=0
def PySem.W.Fast.tw17801048090761866384:Nat:=0
def PySem.W.Fast.tw8775171348016607904:Nat:=0
def PySem.W.Fast.tw14905026354758910820:Nat:=0
def PySem.W.Fast.tw5383797508962289750:Nat:=0
def PySem.W.Fast.tw837592401611232230:Nat:=0
def PySem.W.Fast.tw8373281585405648642:Nat:=0
def PySem.W.Fast.tw4395356592286525737:Nat:=0
def PySem.W.Fast.tw3423698587781416024:Nat:=0
def PySem.W.Fast.tw13815018619762416475:Nat:=0
def PySem.W.Fast.tw4275953839392913352:Nat:=0
def PySem.W.Fast.tw12426906051283231572:Nat:=0
def PySem.W.Fast.tw5132866150491387568:Nat:=0
def PySem.W.Fast.tw1158086723156769016:Nat:=0
def PySem.W.Fast.tw3177275749037869396:Nat:=0
def PySem.W.Fast.tw1433499075719639310:Nat:=0
def PySem.W.Fast.tw6807711236250236509:Nat:=0
def PySem.W.Fast.tw13054751202584268397:Nat:=0
def PySem.W.Fast.tw12128303023034298670:Nat:=0
def PySem.W.Fast.tw446673857414345760:Nat:=0
def PySem.W.Fast.tw3805179297626578319:Nat:=0
def PySem.W.Fast.tw4046902426897792270:Nat:=0
def PySem.W.Fast.tw3418532419815119956:Nat:=0
def PySem.W.Fast.tw3405987456352504031:Nat:=0
def PySem.W.Fast.tw18033708467963871848:Nat:=0
def PySem.W.Fast.tw11464443988843843576:Nat:=0
def PySem.W.Fast.tw16979110898256135216:Nat:=0
def PySem.W.Fast.tw3941282654343948152:Nat:=0
def PySem.W.Fast.tw15793754386993786091:Nat:=0
def PySem.W.Fast.tw2367660242010177145:Nat:=0
def PySem.W.Fast.tw3070406061326251258:Nat:=0
def PySem.W.Fast.tw5229689164177703423:Nat:=0
def PySem.W.Fast.tw16604120312986464703:Nat:=0
def PySem.W.Fast.tw14263430819812204724:Nat:=0
def PySem.W.Fast.tw2766343075930136767:Nat:=0
def PySem.W.Fast.tw3459324971426430334:Nat:=0
def PySem.W.Fast.tw15566606063075205946:Nat:=0
def PySem.W.Fast.tw7759604307840029058:Nat:=0
def PySem.W.Fast.tw2136170556699372208:Nat:=0
def PySem.W.Fast.tw6093738062798414585:Nat:=0
def PySem.W.Fast.tw9953226754830629970:Nat:=0
def PySem.W.Fast.tw651413579391399123:Nat:=0
def PySem.W.Fast.tw9280912933183930940:Nat:=0
def PySem.W.Fast.tw12142922029527823531:Nat:=0
def PySem.W.Fast.tw12455622109102573461:Nat:=0
def PySem.W.Fast.tw9618682400557172163:Nat:=0
def PySem.W.Fast.tw16562782856353332435:Nat:=0
def PySem.W.Fast.tw16535000294073046580:Nat:=0
def PySem.W.Fast.tw13742667389860858003:Nat:=0
def PySem.W.Fast.tw16254374085014481112:Nat:=0
def PySem.W.Fast.tw17023875275198660214:Nat:=0
def PySem.W.Fast.tw12691245451622164497:Nat:=0
def PySem.W.Fast.tw328819891112802118:Nat:=0
def PySem.W.Fast.tw9276306282678594112:Nat:=0
def PySem.W.Fast.tw13305565141598324701:Nat:=0
def PySem.W.Fast.tw18373938432142847602:Nat:=0
def PySem.W.Fast.tw18138130251549756228:Nat:=0
def PySem.W.Fast.tw2029592863312683080:Nat:=0
def PySem.W.Fast.tw14020067099949157083:Nat:=0
def PySem.W.Fast.tw6677027407595192895:Nat:=0
def PySem.W.Fast.tw3934216371915803011:Nat:=0
def PySem.W.Fast.tw6967493343584087612:Nat:=0
def PySem.W.Fast.tw10458707843856371718:Nat:=0
def PySem.W.Fast.tw6035314876194921113:Nat:=0
def PySem.W.Fast.tw355360670625545700:Nat:=0
def PySem.W.Fast.tw1365514591004242410:Nat:=0
def PySem.W.Fast.tw2396084488973770001:Nat:=0
def PySem.W.Fast.tw6308962232793128835:Nat:=0
def PySem.W.Fast.tw16299174521211283146:Nat:=0
def PySem.W.Fast.tw13561793996165483769:Nat:=0
def PySem.W.Fast.tw12592111424242260693:Nat:=0
def PySem.W.Fast.tw15370048817009344195:Nat:=0
def PySem.W.Fast.tw15046066209742830674:Nat:=0
def PySem.W.Fast.tw5836516981205608844:Nat:=0
def PySem.W.Fast.tw4691047461935441403:Nat:=0
def PySem.W.Fast.tw4038306039577879450:Nat:=0
def PySem.W.Fast.tw9200583033786957625:Nat:=0
def PySem.W.Fast.tw8083614530518178647:Nat:=0
def PySem.W.Fast.tw13740652997391975935:Nat:=0
def PySem.W.Fast.tw11669258407861118439:Nat:=0
def PySem.W.Fast.tw7858597191117625711:Nat:=0
def PySem.W.Fast.tw18077850295306184847:Nat:=0
def PySem.W.Fast.tw11765179957330492759:Nat:=0
def PySem.W.Fast.tw9719056836171684960:Nat:=0
def PySem.W.Fast.tw17707559951807724371:Nat:=0
def PySem.W.Fast.tw2653904867632248583:Nat:=0
def PySem.W.Fast.tw6380754049368390443:Nat:=0
def PySem.W.Fast.tw7173132547208997519:Nat:=0
def PySem.W.Fast.tw646915549689148765:Nat:=0
def PySem.W.Fast.tw9386650315173981054:Nat:=0
def PySem.W.Fast.tw1946766974995725349:Nat:=0
def PySem.W.Fast.tw13969297472395640100:Nat:=0
def PySem.W.Fast.tw4355038566995851279:Nat:=0
def PySem.W.Fast.tw14836918986789694912:Nat:=0
def PySem.W.Fast.tw13556566375302744955:Nat:=0
def PySem.W.Fast.tw8169850635259220696:Nat:=0
def PySem.W.Fast.tw10714889011045260174:Nat:=0
def PySem.W.Fast.tw14741203510962321645:Nat:=0
def PySem.W.Fast.tw11135398564409352399:Nat:=0
def PySem.W.Fast.tw3892580121276669390:Nat:=0
def PySem.W.Fast.tw11968255760420238426:Nat:=0
def PySem.W.Fast.tw7794242275786024830:Nat:=0
def PySem.W.Fast.tw14428163237859380041:Nat:=0
def PySem.W.Fast.tw14871287835052935618:Nat:=0
def PySem.W.Fast.tw15612738064355356072:Nat:=0
def PySem.W.Fast.tw15421423606483281845:Nat:=0
def PySem.W.Fast.tw11220122890815692385:Nat:=0
def PySem.W.Fast.tw2308491786496501553:Nat:=0
def PySem.W.Fast.tw5877475019511643470:Nat:=0
def PySem.W.Fast.tw17803848958289265911:Nat:=0
def PySem.W.Fast.tw11922378321118563404:Nat:=0
def PySem.W.Fast.tw8766089313119089344:Nat:=0
def PySem.W.Fast.tw14997194013352079017:Nat:=0
def PySem.W.Fast.tw1607460268786993344:Nat:=0
def PySem.W.Fast.tw14797739893381070938:Nat:=0
def PySem.W.Fast.tw3425590410244372089:Nat:=0
def PySem.W.Fast.tw3113326687892855193:Nat:=0
def PySem.W.Fast.tw18268750969097990030:Nat:=0
def PySem.W.Fast.tw13577625290605790729:Nat:=0
def PySem.W.Fast.tw9185276287732777217:Nat:=0
def PySem.W.Fast.tw7710472614949625916:Nat:=0
def PySem.W.Fast.tw1307143461513149809:Nat:=0
def PySem.W.Fast.tw3791122308034138625:Nat:=0
def PySem.W.Fast.tw12279395324140130879:Nat:=0
def PySem.W.Fast.tw17070814692663963811:Nat:=0
def PySem.W.Fast.tw8280253527552659310:Nat:=0
def PySem.W.Fast.tw12841694096817379503:Nat:=0
def PySem.W.Fast.tw12966080211583207074:Nat:=0
def PySem.W.Fast.tw14001214130066738333:Nat:=0
def PySem.W.Fast.tw16571660776835904145:Nat:=0
def PySem.W.Fast.tw2800650113614829652:Nat:=0
def PySem.W.Fast.tw15395930489336731903:Nat:=0
def PySem.W.Fast.tw4778687916695846778:Nat:=0
def PySem.W.Fast.tw16107943890024671107:Nat:=0
def PySem.W.Fast.tw13753958349865525063:Nat:=0
def PySem.W.Fast.tw4552401045822311787:Nat:=0
def PySem.W.Fast.tw3827078955232928236:Nat:=0
def PySem.W.Fast.tw14228452321823406921:Nat:=0
def PySem.W.Fast.tw16397668546970664281:Nat:=0
def PySem.W.Fast.tw12575252739038525216:Nat:=0
def PySem.W.Fast.tw1711457196022644721:Nat:=0
def PySem.W.Fast.tw11516531484907371204:Nat:=0
def PySem.W.Fast.tw10031312178512462334:Nat:=0
def PySem.W.Fast.tw1355667578203947449:Nat:=0
def PySem.W.Fast.tw4978238986015579949:Nat:=0
def PySem.W.Fast.tw4628186171767555533:Nat:=0
def PySem.W.Fast.tw224060099442445186:Nat:=0
def PySem.W.Fast.tw15789780438381690065:Nat:=0
def PySem.W.Fast.tw17089365668051712764:Nat:=0
def PySem.W.Fast.tw4712500369741401109:Nat:=0
def PySem.W.Fast.tw13987465875166879378:Nat:=0
def PySem.W.Fast.tw6536789605118326967:Nat:=0
def PySem.W.Fast.tw4688724116618693354:Nat:=0
def PySem.W.Fast.tw9750146030151663655:Nat:=0
def PySem.W.Fast.tw9082406990265322516:Nat:=0
def PySem.W.Fast.tw6897963503497563257:Nat:=0
def PySem.W.Fast.tw14660599961619936151:Nat:=0
def PySem.W.Fast.tw16739430405297665818:Nat:=0
def PySem.W.Fast.tw8082063384305280243:Nat:=0
def PySem.W.Fast.tw9188765013555580745:Nat:=0
def PySem.W.Fast.tw8626300033676671970:Nat:=0
def PySem.W.Fast.tw11819007072759484199:Nat:=0
def PySem.W.Fast.tw14397367860659003642:Nat:=0
def PySem.W.Fast.tw11238131189230489653:Nat:=0
def PySem.W.Fast.tw5451498155534592270:Nat:=0
def PySem.W.Fast.tw4230427044476740827:Nat:=0
def PySem.W.Fast.tw14809683483428593015:Nat:=0
def PySem.W.Fast.tw15841471863682560483:Nat:=0
def PySem.W.Fast.tw7270703772319826931:Nat:=0
def PySem.W.Fast.tw6566700790285725663:Nat:=0
def PySem.W.Fast.tw14063587843806298262:Nat:=0
def PySem.W.Fast.tw4572331034776672481:Nat:=0
def PySem.W.Fast.tw6335061913471036643:Nat:=0
def PySem.W.Fast.tw14062221557430600394:Nat:=0
def PySem.W.Fast.tw13323536782946625172:Nat:=0
def PySem.W.Fast.tw12154688096294917139:Nat:=0
def PySem.W.Fast.tw8989397875465672584:Nat:=0
def PySem.W.Fast.tw4378814559455359597:Nat:=0
def PySem.W.Fast.tw14571742319937822336:Nat:=0
def PySem.W.Fast.tw8704311186458939906:Nat:=0
def PySem.W.Fast.tw10211623418832963722:Nat:=0
def PySem.W.Fast.tw15948162440401139714:Nat:=0
def PySem.W.Fast.tw3100165339016304007:Nat:=0
def PySem.W.Fast.tw15897280755664480621:Nat:=0
def PySem.W.Fast.tw10002486904513990686:Nat:=0
def PySem.W.Fast.tw16901853111313411450:Nat:=0
def PySem.W.Fast.tw9913163533170831612:Nat:=0
def PySem.W.Fast.tw14257194853792659139:Nat:=0
def PySem.W.Fast.tw16132124066466507231:Nat:=0
def PySem.W.Fast.tw17605376777995929773:Nat:=0
def PySem.W.Fast.tw2181526242522394595:Nat:=0
def PySem.W.Fast.tw17350308953547831812:Nat:=0
def PySem.W.Fast.tw2174066198057850615:Nat:=0
def PySem.W.Fast.tw7218219381717315989:Nat:=0
def PySem.W.Fast.tw138715319800678351:Nat:=0
def PySem.W.Fast.tw1890519983299779203:Nat:=0
def PySem.W.Fast.tw5505941434725552591:Nat:=0
def PySem.W.Fast.tw10398708514568673295:Nat:=0
def PySem.W.Fast.tw6696757239270907605:Nat:=0
def PySem.W.Fast.tw17165946362714707732:Nat:=0
def PySem.W.Fast.tw13752198886847618128:Nat:=0
def PySem.W.Fast.tw6933200443817684570:Nat:=0
open PySem PySem.W PyProof.Rows
set_option maxRecDepth 100000 in
set_option maxHeartbeats 0 in
theorem PySem.Challenge.cw_mapdye_k62_too_many_to_search_holds : PySem.Challenge.rw_mapdye_k62_too_many_to_search.Holds := by
 w_on;o_law;k_head;(case hw=>w_witness2)
 k_fill
 refine oj.walk (l:=PySem.Challenge.rw_mapdye_k62_too_many_to_search) rfl rfl (λw h Y=>PySem.W.kIn_of Y) ?F
 case F=>
  intro w mg fa h KX G xY
  refine' oj.all_mk KX G xY ?_ ?_ ?_ ?_ ?_ ?_ ?_ ?_ ?_ ?_ ?_ ?_ ?_ ?_ ?_ ?_ ?_ ?_ ?_ ?_ ?_ ?_ ?_ ?_ ?_ ?_ ?_ ?_ ?_ ?_ ?_ ?_ ?_ ?_ ?_ ?_ ?_ ?_ ?_ ?_ ?_ ?_ ?_ ?_ ?_ ?_ ?_ ?_ ?_ ?_ ?_ ?_ ?_ ?_ ?_ ?_ ?_ ?_ ?_ ?_ ?_ ?_ ?_ ?_ ?_ ?_ ?_ ?_ ?_ ?_ ?_ ?_ ?_ ?_ ?_ ?_ ?_ ?_ ?_ ?_ ?_ ?_ ?_ ?_ ?_ ?_ ?_ ?_ ?_ ?_ ?_ ?_ ?_ ?_ ?_ ?_ ?_ ?_ ?_ ?_ ?_ ?_ ?_ ?_ ?_ ?_ ?_ ?_ ?_ ?_ ?_ ?_ ?_ ?_ ?_ ?_ ?_ ?_ ?_ ?_ ?_ ?_ ?_ ?_ ?_ ?_ ?_ ?_ ?_ ?_ ?_ ?_ ?_ ?_ ?_ ?_ ?_ ?_ ?_ ?_ ?_ ?_ ?_ ?_ ?_ ?_ ?_ ?_ ?_ ?_ ?_ ?_ ?_ ?_ ?_ ?_ ?_ ?_ ?_ ?_ ?_ ?_ ?_ ?_ ?_ ?_ ?_ ?_ ?_ ?_ ?_ ?_ ?_ ?_ ?_ ?_ ?_ ?_ ?_ ?_ ?_ ?_ ?_ ?_ ?_ ?_ ?_ ?_ ?_ ?_ ?_ ?_ ?_ ?_ ?_ ?_ ?_ ?_ ?_
  all_goals (try (first| (show _=_;k_is) | (refine' L2.IQ ?_ ?_ ?_ ?_ ?_ ?_ ?_<;>first| (show _=_;k_is) |rfl) | (refine' L2.IS ?_ ?_ ?_ ?_<;>first| (show _=_;k_is) |rfl) |rfl))
