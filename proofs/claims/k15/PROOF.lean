import PyProof.Rows.All
import Wide.All
import OpenK.AllK
import Wide.FinOn
import Lean
import PyProof.EqAt
import PyProof.EqKinds
import PyProof.TupleCall
import KE.KSortTup
import PyProof.NeKinds
import PyProof.SetKind
import PyProof.SetRoads
import PyProof.SetNew
import PyProof.WalksS
import PyProof.CollectWalk
import PyProof.TupleKey
import PyProof.IsRules
import PyProof.InstEq
import KE.KRevIter
import PyProof.FitsBits
import PyProof.P3Eq
import PyProof.ListRange
import PyProof.MeetsSeq
import PyProof.DictRoadsH
import PyProof.DictTruth
import PyProof.MinMaxWalk
import PySem.Challenge.RW_mapdye_k15_whole_renamed_and_mirrored
set_option Elab.async false
set_option linter.all false
set_option maxRecDepth 100000
abbrev aJ:= @List.length_map
abbrev b9:= @List.getElem?_eq_some_iff
abbrev cC:= @List.getElem?_eq_getElem
abbrev dJ:= @List.getD_eq_getElem?_getD
abbrev cu:= @List.mem_cons_of_mem
abbrev bY:= @List.mem_cons_self
abbrev aU:= @Nat.le_refl
abbrev cS:= @List.mem_of_getElem?
abbrev dq:= @List.getElem?_map
abbrev dU:= @List.size_toArray
abbrev bX:= @Array.length_toList
abbrev bV:= @List.length_append
abbrev cK:= @Bool.false_ne_true
abbrev eu:= @Array.getElem?_toList
abbrev eV:= @List.mem_append_right
abbrev cL:= @List.length_cons
abbrev bL:= @List.map_map
abbrev cE:= @List.mem_append
abbrev bN:= @List.mem_map
abbrev eB:= @Bool.false_eq_true
abbrev bW:= @Nat.ne_of_lt
abbrev fG:= @List.getElem?_eq_none
abbrev ck:= @List.mem_cons
abbrev dB:= @List.map_append
abbrev ji:= @List.getElem?_append_right
abbrev f7:= @List.getElem?_of_mem
abbrev jj:= @List.getElem?_append_left
abbrev f9:= @Nat.lt_of_lt_of_le
abbrev cM:= @Nat.zero_le
abbrev hE:= @Array.toList_append
abbrev jl:= @List.take_append_drop
abbrev gb:= @List.length_set
abbrev iS:= @List.mem_singleton
abbrev kN:= @List.getElem?_set_self
abbrev gd:= @List.mem_range
abbrev fY:= @List.map_cons
abbrev kO:= @List.getElem?_set_ne
abbrev jm:= @List.pairwise_map
abbrev jn:= @List.length_take
abbrev jo:= @Nat.le_of_not_lt
abbrev nV:= @List.take_of_length_le
abbrev jU:= @List.mem_reverse
abbrev qg:= @List.getElem?_cons_succ
abbrev qh:= @Int.eq_ofNat_of_zero_le
abbrev kP:= @Int.toNat_natCast
abbrev rY:= @List.drop_eq_getElem_cons
abbrev mI:= @Nat.lt_of_le_of_lt
abbrev jV:= @List.append_nil
abbrev kQ:= @List.getElem_mem
abbrev rZ:= @List.idxOf_lt_length_iff
abbrev mJ:= @List.length_range
abbrev mK:= @List.nodup_append
abbrev jW:= @List.nodup_nil
abbrev kR:= @List.nodup_cons
abbrev vE:= @List.pairwise_iff_getElem
abbrev nX:= @List.getElem?_set
abbrev r6:= @List.length_replicate
abbrev r8:= @List.mem_append_left
abbrev kS:= @Nat.lt_irrefl
abbrev xN:= @List.nodup_iff_pairwise_ne
abbrev xO:= @List.perm_ext_iff_of_nodup
abbrev jq:= @Nat.le_succ
abbrev vF:= @List.length_pos_of_mem
abbrev vG:= @List.drop_of_length_le
abbrev qi:= @List.ext_getElem?
abbrev qj:= @Bool.eq_false_iff
abbrev r9:= @List.reverse_append
abbrev se:= @List.getElem?_range
abbrev xP:= @Array.getElem?_eq_getElem
abbrev kU:= @Nat.le_trans
abbrev qk:= @List.length_drop
abbrev ql:= @List.lookup_cons
abbrev xQ:= @List.set_eq_of_length_le
abbrev sg:= @List.flatten_cons
abbrev Be:= @Array.getD_eq_getD_getElem?
abbrev mL:= @Nat.sub_self
abbrev Bf:= @Array.getElem?_eq_some_iff
abbrev sh:= @Nat.mod_eq_of_lt
abbrev vH:= @List.append_assoc
abbrev vI:= @List.reverse_perm
abbrev Bg:= @List.getElem?_replicate
abbrev xR:= @List.length_pos_iff
abbrev Bh:= @List.drop_eq_nil_of_le
abbrev xS:= @List.getElem_idxOf
abbrev xT:= @List.getElem?_drop
abbrev xU:= @Array.size_extract
abbrev vJ:= @List.length_nil
abbrev si:= @List.map_take
abbrev Es:= @Array.perm_iff_toList_perm
abbrev xV:= @List.flatMap_cons
abbrev xW:= @Array.toList_push
abbrev xX:= @Nat.lt_succ_of_lt
abbrev Bi:= @Array.toList_reverse
abbrev xY:= @Bool.and_eq_true
abbrev Et:= @List.getElem?_take_of_lt
abbrev xZ:= @List.mem_flatten
abbrev vK:= @List.map_drop
abbrev vL:= @Nat.zero_add
abbrev Bj:= @List.perm_append_comm
abbrev Eu:= @List.reverse_reverse
abbrev zo:= @List.pairwise_append
abbrev rg:= @List.any_cons
abbrev zp:= @List.flatten_append
abbrev vz:= @Bool.eq_iff_iff
abbrev vA:= @List.nil_append
abbrev vB:= @List.mem_filter
abbrev zq:= @List.getElem?_take
abbrev vC:= @List.take_zero
abbrev vD:= @Nat.mul_le_mul
namespace L2
open PySem PySem.Spec PyProof.Rows
abbrev Key:=Sum Int Str
def HU:Key→Value→Bool
 | .inl k,v=>Value.isInt k v
 | .inr x,v=>Value.isStrOf x v
def TZ(w:World):Key→Int
 | .inl k=>hashInt k
 | .inr x=>hashStr w x
theorem cc:∀{k:Key}{v:Value},HU k v=true→(∃i t,k=Sum.inl i∧v=Value.int i t)∨(∃x t,k=Sum.inr x∧v=Value.str x t)
 | .inl i,v,h=>by
  obtain ⟨t,e⟩:=Value.isInt_shape (k:=i) (v:=v) h;exact .inl ⟨i,t,rfl,e⟩
 | .inr x,v,h=>by
  obtain ⟨t,e⟩:=Value.isStrOf_shape (x:=x) (v:=v) h;exact .inr ⟨x,t,rfl,e⟩
theorem Kr(a b:Int):decide ((Sum.inl a:Key)=Sum.inl b)=(a==b):=by
 by_cases e:a=b
 ·subst e;simp
 ·have h:¬(Sum.inl a:Key)=Sum.inl b:=λq=>e (Sum.inl.inj q)
  rw [decide_eq_false h];exact (beq_eq_false_iff_ne.mpr e).symm
theorem Kv(a b:Str):decide ((Sum.inr a:Key)=Sum.inr b)=decide (a=b):=by
 by_cases e:a=b
 ·subst e;simp
 ·have h:¬(Sum.inr a:Key)=Sum.inr b:=λq=>e (Sum.inr.inj q)
  rw [decide_eq_false h,decide_eq_false e]
theorem Ks(a:Int)(b:Str):decide ((Sum.inl a:Key)=Sum.inr b)=false:=decide_eq_false (λq=>nomatch q)
theorem Ku(a:Str)(b:Int):decide ((Sum.inr a:Key)=Sum.inl b)=false:=decide_eq_false (λq=>nomatch q)
def uG(prog:Program)(w:World):PySem.KeyKind prog w Key where
 is:=HU
 hash:=TZ w
 inj:=λv a b ha hb=>by
  rcases cc ha with ⟨i,t,rfl,rfl⟩ | ⟨x,t,rfl,rfl⟩
  ·rcases cc hb with ⟨j,u,rfl,e⟩ | ⟨y,u,rfl,e⟩
   ·injection e with e1 _;rw [e1]
   ·exact nomatch e
  ·rcases cc hb with ⟨j,u,rfl,e⟩ | ⟨y,u,rfl,e⟩
   ·exact nomatch e
   ·injection e with e1 _;rw [e1]
 byValue:=λk v h=>by
  rcases cc h with ⟨i,t,rfl,rfl⟩ | ⟨x,t,rfl,rfl⟩<;>rfl
 pyHash:=λhv h=>by
  rcases cc hv with ⟨i,t,rfl,rfl⟩ | ⟨x,t,rfl,rfl⟩
  ·exact wpAny_pyHash_int h
  ·exact wpAny_pyHash_str h
 eqBool:=λhu hv h=>by
  rcases cc hu with ⟨i,t,rfl,rfl⟩ | ⟨x,t,rfl,rfl⟩
  ·rcases cc hv with ⟨j,u,rfl,rfl⟩ | ⟨y,u,rfl,rfl⟩
   ·rw [Kr] at h;exact wpAny_eqBool_int h
   ·rw [Ks] at h;exact SeqAt.EqAt.int_str i t y u _ _ _ _ h
  ·rcases cc hv with ⟨j,u,rfl,rfl⟩ | ⟨y,u,rfl,rfl⟩
   ·rw [Ku] at h;exact SeqAt.EqAt.str_int x t j u _ _ _ _ h
   ·rw [Kv] at h;exact wpAny_eqBool_str h
 «strs»:=λk x t v h=>by
  rcases cc h with ⟨i,u,rfl,e⟩ | ⟨y,u,rfl,e⟩
  ·exact nomatch e
  ·injection e with e1 _
   subst e1;cases v<;>rfl
inductive V where
 |aM|bl (b:Bool) |int (i:Int) |str (x:Str) |su (b:Array UInt8) |BH (b:UInt64) |ref (a:Addr) |ty (n:String)
 deriving DecidableEq
def RelV:V→Value→Prop
 | .aM,u=>u=Value.none
 | .bl b,u=>u=Value.bool b
 | .int i,u=>∃t,u=Value.int i t
 | .str x,u=>∃t,u=Value.str x t
 | .su b,u=>∃t,u=Value.bytes b t
 | .BH b,u=>∃t,u=Value.float b t
 | .ref a,u=>u=Value.ref a
 | .ty n,u=>u=Value.type n
abbrev Vals:List V→List Value→Prop:=Paired RelV
theorem Vals.length{xs:List V}{us:List Value}(r:Vals xs us):xs.length=us.length:=Paired.length r
theorem Vals.get:∀{xs:List V}{us:List Value}{i:Nat}{x:V},Vals xs us→xs[i]? =some x→∃u,us[i]? =some u∧RelV x u
 |_,_,_,_, .nil,e=>by simp at e
 |_,_,0,_, .cons r _,e=>by simp at e;subst e;exact ⟨_,rfl,r⟩
 |_,_,i+1,x, .cons _ t,e=>by
  obtain ⟨u,h1,h2⟩:=Vals.get (i:=i) (x:=x) t (by simpa using e)
  exact ⟨u,by simpa using h1,h2⟩
theorem Vals.set{x:V}{u:Value}(r:RelV x u):∀{xs:List V}{us:List Value}(i:Nat),Vals xs us→Vals (xs.set i x) (us.set i u)
 |_,_,_, .nil=> .nil
 |_,_,0, .cons _ t=> .cons r t
 |_,_,i+1, .cons q t=> .cons q (Vals.set r i t)
theorem Vals.append:∀{xs ys:List V}{us ws:List Value},Vals xs us→Vals ys ws→Vals (xs++ys) (us++ws)
 |_,_,_,_, .nil,s=>s
 |_,_,_,_, .cons r t,s=> .cons r (Vals.append t s)
theorem Vals.take:∀{xs:List V}{us:List Value}(n:Nat),Vals xs us→Vals (xs.take n) (us.take n)
 |_,_,0,_=> .nil
 |_,_,_+1, .nil=> .nil
 |_,_,n+1, .cons r t=> .cons r (Vals.take n t)
theorem Vals.drop:∀{xs:List V}{us:List Value}(n:Nat),Vals xs us→Vals (xs.drop n) (us.drop n)
 |_,_,0,r=>r
 |_,_,_+1, .nil=> .nil
 |_,_,n+1, .cons _ t=>Vals.drop n t
def nB:Option V→Option Value→Prop
 |some v,some u=>RelV v u
 |none,none=>True
 |_,_=>False
def KV{κ:Type}:List (κ×V)→List (κ×Value)→Prop:=Paired λ(p:κ×V)(q:κ×Value)=>p.1=q.1∧RelV p.2 q.2
def kV:Key→V
 | .inl i=> .int i
 | .inr x=> .str x
inductive HO where
 |lst (xs:List V)
 |tup (xs:List V)
 |dK (dQ:List (Key×V)) |dT (dQ:List (List Key×V))
 |set (S:Int→Bool) (n:Nat)
 |ins (C dx:Addr) (fs:List (Str×V))
 |own (x:Addr)
 |xd (fs:List (Str×V))
 |met (f x:Addr)
 |rng (lo hi:Int)
 |pj (o:Obj) (u:HO)
 |C6 (ps:Array Value)
 |ext (φ:Heap→Prop)
abbrev Hp:=Addr→Option HO
def upd(H:Hp)(a:Addr)(o:HO):Hp:=λb=>if b=a then some o else H b
theorem ab{H:Hp}{a:Addr}{o:HO}:upd H a o a=some o:=by unfold upd;rw [if_pos rfl]
theorem ae{H:Hp}{a b:Addr}{o:HO}(h:b≠a):upd H a o b=H b:=by unfold upd;rw [if_neg h]
theorem qc{H:Hp}{a:Addr}{o u:HO}:upd (upd H a o) a u=upd H a u:=by
 funext b;unfold upd;split<;>rfl
theorem ah{H:Hp}{a b:Addr}{o:HO}(h:H a=some o)(h':H b=none):a≠b:=by
 intro e;subst e;rw [h] at h';cases h'
section
variable (P:Program) (w:World)
def cO(H:Hp)(h:Heap)(a:Addr):HO→Prop
 | .lst xs=>xs.length≤sizeLine∧∃(its:List Value)(n:Nat),Vals xs its∧h.get? a=some {cls:= .type "list",data:= .seq its.toArray n}
 | .tup xs=>xs.length≤sizeLine∧∃its:List Value,Vals xs its∧IsTup h a its.toArray
 | .dK dQ=>dQ.length≤sizeLine∧(a==sysModules)=false∧∃vs,KV dQ vs∧h.DictOf (uG P w) a vs
 | .dT dQ=>dQ.length≤sizeLine∧(a==sysModules)=false∧∃xs:List (List Key×Addr×Value),
   Paired (λ(p:List Key×V)(q:List Key×Addr×Value)=>p.1=q.1∧H q.2.1=some (.tup (p.1.map kV))∧RelV p.2 q.2.2) dQ xs∧
   ∃o es ep,h.get? a=some o∧o.ExactDict∧o.data= .dict es ep∧es.toList=xs.map (entryOfKey (tupleKind (uG P w)))∧(xs.map (·.1)).Nodup
 | .set S n=>h.SetOf (intKind P w) a S n
 | .ins C dx fs=>H dx=some (.own a)∧fs.length≤1000∧dx≠a∧h.get? a=some (PySem.W.instObj C dx)∧
   ∃mA,h.Ns1 dx mA∧(∀f,nB (fs.lookup f) (mA f))∧PySem.Within mA (fs.map (·.1))
 | .own _=>∃o,h.get? a=some o
 | .xd fs=>∃mA,h.Ns1 a mA∧∀f,nB (fs.lookup f) (mA f)
 | .rng lo hi=>∃t u v,h.get? a=some {cls:= .type "range",data:= .fields #[.int lo t, .int hi u, .int 1 v]}
 | .pj o u=>h.get? a=some o∧cO H h a u
 | .C6 ps=>h.get? a=some {cls:= .none,data:= .fields ps}
 | .met f x=>h.get? a=some (PySem.W.methodObj (.ref f) (.ref x))
 | .ext φ=>φ h∧(∃o,h.get? a=some o)∧∀h1 h2:Heap,φ h1→(∀o,h1.get? a=some o→h2.get? a=some o)→φ h2
def hU(H:Hp)(h:Heap):Prop:=∀a o,H a=some o→cO P w H h a o
end
section
variable {P:Program} {w:World} {H H':Hp} {h h':Heap} {a:Addr} {o:HO}
theorem cO.lt(x:cO P w H h a o):a<h.objs.size:=by
 cases o with
 |lst xs=>obtain ⟨_,_,_,_,e⟩:=x;exact Heap.lt_size e
 |tup xs=>obtain ⟨_,_,_,p⟩:=x;exact p.lt
 |dK dQ=>obtain ⟨_,_,_,_,o,_,_,e,_⟩:=x;exact Heap.lt_size e
 |dT dQ=>obtain ⟨_,_,_,_,o,_,_,e,_⟩:=x;exact Heap.lt_size e
 |set S n=>obtain ⟨o,_,_,_,e,_⟩:=x;exact Heap.lt_size e
 |ins C dx fs=>obtain ⟨_,_,_,e,_⟩:=x;exact Heap.lt_size e
 |own y=>obtain ⟨_,e⟩:=x;exact Heap.lt_size e
 |xd fs=>obtain ⟨_,⟨_,_,_,e,_⟩,_⟩:=x;exact Heap.lt_size e
 |rng lo hi=>obtain ⟨_,_,_,e⟩:=x;exact Heap.lt_size e
 |pj ob u=>obtain ⟨e,_⟩:=x;exact Heap.lt_size e
 |C6 ps=>exact Heap.lt_size (show h.get? a=some _ from x)
 |met f y=>exact Heap.lt_size (show h.get? a=some _ from x)
 |ext φ=>obtain ⟨_,⟨_,e⟩,_⟩:=x;exact Heap.lt_size e
theorem Paired.MF{α β:Type}{F G:α→β→Prop}:∀{l₁:List α}{l₂:List β},Paired F l₁ l₂→(∀a b,F a b→G a b)→Paired G l₁ l₂
 |_,_, .nil,_=> .nil
 |_,_, .cons r t,f=> .cons (f _ _ r) (Paired.MF t f)
theorem cO.rU(x:cO P w H h a o)(k:∀b u,(b=a∨H b=some (.own a))→h.get? b=some u→h'.get? b=some u)
  (ho:∀b,H b=some (.own a)→H' b=some (.own a)) (ht:∀b xs,H b=some (.tup xs)→H' b=some (.tup xs)):cO P w H' h' a o:=by
 induction o with
 |lst xs=>obtain ⟨z,its,n,r,e⟩:=x;exact ⟨z,its,n,r,k _ _ (.inl rfl) e⟩
 |tup xs=>obtain ⟨z,its,r,ob,e,c⟩:=x;exact ⟨z,its,r,ob,k _ _ (.inl rfl) e,c⟩
 |dK dQ=>obtain ⟨z,y,vs,r,ob,es,ep,e,c⟩:=x;exact ⟨z,y,vs,r,ob,es,ep,k _ _ (.inl rfl) e,c⟩
 |dT dQ=>
  obtain ⟨z,y,xs,r,ob,es,ep,e,c⟩:=x;exact ⟨z,y,xs,Paired.MF r λp q z=>⟨z.1,ht _ _ z.2.1,z.2.2⟩,ob,es,ep,k _ _ (.inl rfl) e,c⟩
 |set S n=>obtain ⟨ob,es,ep,t,e,c⟩:=x;exact ⟨ob,es,ep,t,k _ _ (.inl rfl) e,c⟩
 |ins C dx fs=>
  obtain ⟨d,z,ne,e,mA,⟨od,es,ep,e2,c⟩,r⟩:=x;exact ⟨ho _ d,z,ne,k _ _ (.inl rfl) e,mA,⟨od,es,ep,k _ _ (.inr d) e2,c⟩,r⟩
 |own y=>obtain ⟨ob,e⟩:=x;exact ⟨ob,k _ _ (.inl rfl) e⟩
 |xd fs=>obtain ⟨mA,⟨od,es,ep,e,c⟩,r⟩:=x;exact ⟨mA,⟨od,es,ep,k _ _ (.inl rfl) e,c⟩,r⟩
 |rng lo hi=>obtain ⟨t,u,v,e⟩:=x;exact ⟨t,u,v,k _ _ (.inl rfl) e⟩
 |pj ob u ih=>obtain ⟨e,q⟩:=x;exact ⟨k _ _ (.inl rfl) e,ih q⟩
 |C6 ps=>
  have e:h.get? a=some {cls:= .none,data:= .fields ps}:=x;show h'.get? a=some {cls:= .none,data:= .fields ps};exact k a _ (.inl rfl) e
 |met f y=>
  have e:h.get? a=some (PySem.W.methodObj (.ref f) (.ref y)):=x;show h'.get? a=some (PySem.W.methodObj (.ref f) (.ref y));exact k a _ (.inl rfl) e
 |ext φ=>obtain ⟨p,⟨o,e⟩,st⟩:=x;exact ⟨st _ _ p λo q=>k _ _ (.inl rfl) q,⟨o,k _ _ (.inl rfl) e⟩,st⟩
theorem hU.lt(x:hU P w H h)(e:H a=some o):a<h.objs.size:=(x a o e).lt
theorem hU.fresh(x:hU P w H h)(e:h.objs.size≤a):H a=none:=by
 cases q:H a with
 |none=>rfl
 |some u=>exact absurd (f9 (x.lt q) e) (kS _)
theorem hU.kept(x:hU P w H h)(k:∀b u,h.get? b=some u→h'.get? b=some u):hU P w H h':=λa o e=>
 (x a o e).rU (λb u _ q=>k b u q) (λ_ q=>q) λ_ _ q=>q
theorem hU.laid(x:hU P w H h)(k:∀b u,h.get? b=some u→h'.get? b=some u)(hp:h.objs.size≤a)(new:cO P w (upd H a o) h' a o):hU P w (upd H a o) h':=λb u e=>by
 have hn:=x.fresh hp
 by_cases hb:b=a
 ·subst hb;rw [ab] at e;cases e;exact new
 ·rw [ae hb] at e
  exact (x b u e).rU (λc v _ q=>k c v q) (λc q=>by rw [ae (ah q hn)];exact q) λc xs q=>by rw [ae (ah q hn)];exact q
end
def Rd(H:Hp)(a:Addr)(u:HO):Prop:=H a=some u∨∃o,H a=some (.pj o u)
theorem Rd.ok{P:Program}{w:World}{H:Hp}{h:Heap}{a:Addr}{u:HO}(r:Rd H a u)(x:hU P w H h):cO P w H h a u:=by
 rcases r with r| ⟨o,r⟩
 ·exact x a u r
 ·obtain ⟨_,q⟩:=x a _ r
  exact q
def JH:Option HO→Prop
 |some (.lst _)=>True
 |some (.dK _)=>True
 |some (.dT _)=>True
 |some (.set _ _)=>True
 |some (.ins _ _ _)=>True
 |some (.ext _)=>True
 |_=>False
section
variable {P:Program} {w:World} {H:Hp} {h h':Heap} {x e:Addr} {o':HO}
theorem hU.write(ok:hU P w H h)(mu:JH (H x))(he:e=x∨H e=some (.own x))(k:∀b u,b≠e→h.get? b=some u→h'.get? b=some u)(Fg:∃u,h'.get? e=some u)
  (new:cO P w (upd H x o') h' x o'):hU P w (upd H x o') h':=λb u q=>by
 have MQ:∀c y,H c=some (.own y)→c≠x:=λc y r z=>by subst z;rw [r] at mu;exact mu
 have Ut:∀c xs,H c=some (.tup xs)→c≠x:=λc xs r z=>by subst z;rw [r] at mu;exact mu
 by_cases hb:b=x
 ·subst hb;rw [ab] at q;cases q;exact new
 ·rw [ae hb] at q
  by_cases BP:b=e
  ·have q':H b=some (.own x):=by
    rcases he with z|z
    ·exact absurd (BP.trans z) hb
    ·rw [BP];exact z
   rw [q] at q';cases q';obtain ⟨v,hv⟩:=Fg;exact ⟨v,by rw [BP];exact hv⟩
  ·refine (ok b u q).rU (λc v hc r=>k c v ?_ r) (λc r=>by rw [ae (MQ c b r)];exact r) λc xs r=>by rw [ae (Ut c xs r)];exact r
   rcases hc with rfl|hc
   ·exact BP
   ·rintro rfl
    rcases he with z|z
    ·exact MQ c b hc z
    ·rw [hc] at z;cases z;exact hb rfl
end
structure Un (fs ex:List Addr) (H H':Hp) (h h':Heap):Prop where
 keep:∀b o,h.get? b=some o→H b=none→b∉fs→b∉ex→h'.get? b=some o
 slot:∀b o,h.get? b=some o→H b=none→b∈fs→b∉ex→∃sl,h'.get? b=some {o with slots:=sl}
 free:∀b o,h.get? b=some o→H b=none→b∉ex→H' b=none
 there:∀b o,h.get? b=some o→b∉ex→∃o',h'.get? b=some o'
 tups:∀b xs,H b=some (.tup xs)→H' b=some (.tup xs)
 frzs:∀b o u,H b=some (.pj o u)→H' b=some (.pj o u)
 tbls:∀b ps,H b=some (.C6 ps)→∃more,H' b=some (.C6 (ps++more))
section
variable {fs X4 ex nz:List Addr} {H H1 H2:Hp} {h h1 h2 h':Heap} {a x e:Addr} {o:HO}
theorem Un.any(u:Un fs ex H H1 h h1){b:Addr}{ob:Obj}(q:h.get? b=some ob)(n:H b=none)(hx:b∉ex):∃sl,h1.get? b=some {ob with slots:=sl}:=by
 by_cases hb:b∈fs
 ·exact u.slot b ob q n hb hx
 ·exact ⟨ob.slots,u.keep b ob q n hb hx⟩
theorem Un.kept(k:∀b u,h.get? b=some u→h'.get? b=some u):Un fs ex H H h h':=
 ⟨λb ob q _ _ _=>k b ob q,λb ob q _ _ _=>⟨ob.slots,k b ob q⟩,λ_ _ _ n _=>n,λb ob q _=>⟨ob,k b ob q⟩,λ_ _ q=>q,λ_ _ _ q=>q,λ_ ps q=>⟨#[],by rw [q];simp⟩⟩
theorem Un.refl:Un fs ex H H h h:=Un.kept λ_ _ q=>q
theorem Un.laid(k:∀b u,h.get? b=some u→h'.get? b=some u)(hp:h.objs.size≤a)(hn:H a=none):Un fs ex H (upd H a o) h h' where
 keep:=λb u q _ _ _=>k b u q
 slot:=λb u q _ _ _=>⟨u.slots,k b u q⟩
 free:=λb u q n _=>by rw [ae (bW (f9 (Heap.lt_size q) hp))];exact n
 there:=λb u q _=>⟨u,k b u q⟩
 tups:=λb xs q=>by rw [ae (ah q hn)];exact q
 frzs:=λb u xs q=>by rw [ae (ah q hn)];exact q
 tbls:=λb ps q=>⟨#[],by rw [ae (ah q hn),q];simp⟩
theorem Un.write(mu:JH (H x))(he:e=x∨H e=some (.own x))(k:∀b u,b≠e→h.get? b=some u→h'.get? b=some u)(Fg:∃u,h'.get? e=some u):Un fs ex H (upd H x o) h h':=by
 have hx:∀b,H b=none→b≠x:=λb n z=>by subst z;rw [n] at mu;exact mu
 have hb:∀b,H b=none→b≠e:=λb n z=>by
  subst z
  rcases he with r|r
  ·exact hx b n r
  ·rw [n] at r;cases r
 have hm:∀b u,H b=some u→¬JH (some u)→b≠x:=λb u q nm z=>by subst z;rw [q] at mu;exact nm mu
 refine ⟨λb u q n _ _=>k b u (hb b n) q,λb u q n _ _=>⟨u.slots,k b u (hb b n) q⟩,λb u q n _=>by rw [ae (hx b n)];exact n,λb u q _=>?_,
  λb xs q=>by rw [ae (hm b _ q λz=>z)];exact q,λb u xs q=>by rw [ae (hm b _ q λz=>z)];exact q,λb ps q=>⟨#[],by rw [ae (hm b _ q λz=>z),q];simp⟩⟩
 by_cases BP:b=e
 ·subst BP;exact Fg
 ·exact ⟨u,k b u BP q⟩
end
def LK(h:Heap)(H:Hp):List Addr:=(List.range h.objs.size).filter λa=>(H a).isSome
def pA(h:Heap)(H:Hp):Heap:=PySem.W.hideAll h (LK h H)
theorem BU(h:Heap)(H:Hp):(pA h H).objs.size=h.objs.size:=PySem.W.hideAll_size _ _
theorem Fh{h:Heap}{H:Hp}{b:Addr}{o:Obj}(e:h.get? b=some o)(n:H b=none):(pA h H).get? b=some o:=
 PySem.W.hideAll_get _ e λhm=>by
  have q:(H b).isSome=true:=(vB.mp hm).2;rw [n] at q;simp at q
theorem Iw{h:Heap}{H:Hp}{b:Addr}{o:Obj}(e:(pA h H).get? b=some o):h.get? b=some o∧H b=none:=by
 have e':h.get? b=some o:=PySem.W.of_hideAll (LK h H) e;refine ⟨e',?_⟩;cases q:H b with
 |none=>rfl
 |some x=>
  have hm:b∈LK h H:=vB.mpr ⟨gd.mpr (Heap.lt_size e'),by simp [q]⟩
  have z:(pA h H).get? b=none:=PySem.W.hideAll_none (LK h H) hm;rw [z] at e;cases e
structure Mod (K:PySem.W.Frag) (mg:Str→Option Value) (base:Heap):Prop where
 kin:K.In base
 glob:base.Ns mainGlobals mg
 blt:∃mb,base.Ns builtinsNs mb∧∀x:Str,x≠"__name__"→mb x=bootBuiltins x
 nolimit:base.NoLimit
structure Cx where
 prog:Program
 w:World
 K:PySem.W.Frag
 mg:Str→Option Value
 base:Heap
 A:Around
 N:List Str
 s₀:Shared
 H₀:Hp
 env:Env
 outer:List Env
 stack:List Env
 ex:List Addr
 fn:Str→Bool
 calm:Bool
 pn:List (Addr×Obj)
 xe:Value→Shared→Prop
def uc(l:List Env):List Addr:=l.filterMap (·.frame)
abbrev Cx.fs(X:Cx):List Addr:=uc X.outer
def sq(sc:Scope)(x:Str):Prop:=sc.names.lookup x=some .local∨sc.names.lookup x=some .cell∨sc.names.lookup x=some .free
def Loc(sc:Scope)(x:Str):Prop:=sc.names.lookup x=some .local∨sc.names.lookup x=some .cell
def Look(env:Env)(h:Heap)(m:Str→Option Value)(x:Str)(u:Value):Prop:=
 (env.kindOf x=some .local∧m x=some u)∨((env.kindOf x=some .cell∨env.kindOf x=some .free)∧∃c,env.cells.lookup x=some c∧h.IsCell c (some u))
structure Cx.Ok (X:Cx):Prop where
 mod:Mod X.K X.mg X.base
 kind:X.env.scope.kind= .function
 glob:X.env.globals=mainGlobals
 blt:X.env.builtins=builtinsNs
 above:X.s₀.heap.objs.size≤X.env.locals
 inj:∀x y c,X.env.cells.lookup x=some c→X.env.cells.lookup y=some c→x=y
 has:∀x,(X.env.kindOf x=some .cell∨X.env.kindOf x=some .free)→∃c,X.env.cells.lookup x=some c
 cab:∀x c,X.fn x=true→X.env.cells.lookup x=some c→X.s₀.heap.objs.size≤c
 hd:X.calm=true→X.A.handled=none
 frames:X.A.frames=some X.stack
 stk:X.stack=X.outer∨(X.stack=X.env::X.outer∧X.env.frame=some X.env.locals)
 exf:∀b∈X.ex,b≠X.env.locals∧∀x c,X.env.cells.lookup x=some c→c≠b
 bs:∀b o,X.base.get? b=some o→X.s₀.heap.get? b=some o∧X.H₀ b=none
 bsz:X.base.objs.size≤X.s₀.heap.objs.size
 noex:∀b o,X.base.get? b=some o→b∉X.ex
 exfs:∀b∈X.ex,b∉X.fs
 funs:X.s₀.heap.FunFrames X.base X.outer
 frf:∀b∈X.fs,X.H₀ b=none
structure Inv (X:Cx) (pins:List (Addr×Obj)) (σ:List (Option V)) (H:Hp) (s:Shared):Prop where
 ok:X.Ok
 os:s.os=X.s₀.os
 bare:AllBare s.gens
 base:Un X.fs X.ex X.H₀ H X.s₀.heap s.heap
 loc:∃m,s.heap.Ns X.env.locals m∧∀(i:Nat)(x:Str)(v:V),X.N[i]? =some x→σ[i]? =some (some v)→sq X.env.scope x→∃u,RelV v u∧Look X.env s.heap m x u
 cell:∀x c,X.env.cells.lookup x=some c→∃v,s.heap.IsCell c v
 free:H X.env.locals=none
 freeC:∀x c,X.env.cells.lookup x=some c→H c=none
 pin:∀p∈X.pn++pins,s.heap.get? p.1=some p.2∧H p.1=none∧p.1≠X.env.locals∧p.1∉X.fs∧∀v,p.2.data≠ .cell v
 hok:hU X.prog X.w H s.heap
 len:σ.length=X.N.length
section
variable {X:Cx} {pins:List (Addr×Obj)} {σ:List (Option V)} {H H':Hp} {s:Shared} {h':Heap}
theorem Cx.Ok.Uq(ok:X.Ok){b:Addr}{o:Obj}(e:X.base.get? b=some o):b∉X.fs:=λhb=>by
 have:=(ok.funs.mem hb).1
 rw [e] at this;cases this
theorem Inv.bs(I:Inv X pins σ H s):∀b o,X.base.get? b=some o→s.heap.get? b=some o∧H b=none:=λb o e=>
 ⟨I.base.keep b o (I.ok.bs b o e).1 (I.ok.bs b o e).2 (I.ok.Uq e) (I.ok.noex b o e),I.base.free b o (I.ok.bs b o e).1 (I.ok.bs b o e).2 (I.ok.noex b o e)⟩
theorem Inv.bk(I:Inv X pins σ H s):∀b o,X.base.get? b=some o→s.heap.get? b=some o:=λb o e=>(I.bs b o e).1
theorem Inv.mod(I:Inv X pins σ H s):Mod X.K X.mg X.base:=I.ok.mod
theorem Inv.gY(I:Inv X pins σ H s):X.K.In s.heap:=I.ok.mod.kin.keeps I.bk
theorem Inv.lt(I:Inv X pins σ H s):X.env.locals<s.heap.objs.size:=let ⟨_,hn,_⟩:=I.loc;hn.lt
theorem Inv.sz(I:Inv X pins σ H s):X.s₀.heap.objs.size≤s.heap.objs.size:=kU I.ok.above (Nat.le_of_lt I.lt)
theorem Inv.MP(I:Inv X pins σ H s){a:Addr}(h:s.heap.objs.size≤a):a∉X.fs:=λhb=>by
 obtain ⟨_,o,ho,_⟩:=I.ok.funs.mem hb;exact absurd (f9 (Heap.lt_size ho) (kU I.sz h)) (kS _)
theorem Inv.Bw(I:Inv X pins σ H s):∀x c,X.env.cells.lookup x=some c→c≠X.env.locals:=λx c e z=>by
 obtain ⟨v,o,ho,hd⟩:=I.cell x c e;obtain ⟨m,⟨o',es,ep,kY,qB,_⟩,_⟩:=I.loc;rw [z,kY] at ho;cases ho;rw [qB] at hd;cases hd
theorem Inv.funs(I:Inv X pins σ H s):s.heap.FunFrames X.base X.outer:=by
 have all:∀(l:List Env),(∀b∈uc l,b∈X.fs)→X.s₀.heap.FunFrames X.base l→s.heap.FunFrames X.base l:=by
  intro l
  induction l with
  |nil=>intro _ _;trivial
  |cons env r ih=>
   intro hs hl;obtain ⟨hk,⟨L,o,hf,hn,ho,hd⟩,hr⟩:=hl;have hL:L∈X.fs:=hs L (by unfold uc;rw [List.filterMap_cons,hf];exact bY)
   obtain ⟨sl,e⟩:=I.base.slot L o ho (I.ok.frf L hL) hL λz=>I.ok.exfs L z hL;exact ⟨hk,⟨L,_,hf,hn,e,hd⟩,ih (λb hb=>hs b (by unfold uc;rw [List.filterMap_cons,hf];exact cu _ hb)) hr⟩
 exact all X.outer (λ_ hb=>hb) I.ok.funs
theorem Inv.stack(I:Inv X pins σ H s):s.heap.FunFrames X.base X.stack:=by
 rcases I.ok.stk with e| ⟨e,hf⟩
 ·rw [e];exact I.funs
 ·rw [e]
  obtain ⟨m,hn,_⟩:=I.loc;refine .cons (by rw [I.ok.kind];decide) hf hn ?_ I.funs
  exact Heap.get?_none_of_le (kU I.ok.bsz I.ok.above)
theorem Inv.zb(I:Inv X pins σ H s):∀b∈uc X.stack,b∈X.env.locals::X.fs:=λb hb=>by
 rcases I.ok.stk with e| ⟨e,hf⟩
 ·rw [e] at hb;exact cu _ hb
 ·rw [e] at hb
  unfold uc at hb;rw [List.filterMap_cons,hf] at hb;exact hb
theorem Inv.A3(I:Inv X pins σ H s):∀b∈uc X.stack,H b=none:=λb hb=>by
 rcases ck.mp (I.zb b hb) with e|hb
 ·rw [e];exact I.free
 ·obtain ⟨_,o,ho,_⟩:=I.ok.funs.mem hb
  exact I.base.free b o ho (I.ok.frf b hb) λz=>I.ok.exfs b z hb
theorem Inv.step{g':Array GenState}{t':Nat}{d':Drawn}{ch:List Addr}(I:Inv X pins σ H s)
  (vV:∀b∈ch,(b∈X.ex∨X.s₀.heap.objs.size≤b)∧b≠X.env.locals∧(∀x c,X.env.cells.lookup x=some c→c≠b)∧∀p∈X.pn++pins,p.1≠b)
  (keep:∀b o,b≠X.env.locals→b∉X.fs→b∉ch→s.heap.get? b=some o→H b=none→h'.get? b=some o)
  (slot:∀b o,b≠X.env.locals→b∈X.fs→b∉ch→s.heap.get? b=some o→H b=none→∃sl,h'.get? b=some {o with slots:=sl}) (free:∀b o,b∉ch→s.heap.get? b=some o→H b=none→H' b=none)
  (there:∀b o,b∉ch→s.heap.get? b=some o→∃o',h'.get? b=some o')
  (tups:∀b xs,H b=some (.tup xs)→H' b=some (.tup xs)) (frzs:∀b o u,H b=some (.pj o u)→H' b=some (.pj o u)) (tbls:∀b ps,H b=some (.C6 ps)→∃more,H' b=some (.C6 (ps++more)))
  (ns:∀m,s.heap.Ns X.env.locals m→h'.Ns X.env.locals m) (hok:hU X.prog X.w H' h') (hg:AllBare g'):
  Inv X pins σ H' {s with heap:=h',gens:=g',drawn:=d',toks:=t'}:=by
 have Uk:∀b o,X.s₀.heap.get? b=some o→b≠X.env.locals:=λb o e=>bW (f9 (Heap.lt_size e) I.ok.above)
 have KL:∀b o,X.s₀.heap.get? b=some o→b∉X.ex→b∉ch:=λb o e hx hb=>by
  rcases (vV b hb).1 with z|z
  ·exact hx z
  ·exact absurd (f9 (Heap.lt_size e) z) (kS _)
 have cellK:∀x c,X.env.cells.lookup x=some c→∀v,s.heap.IsCell c v→h'.IsCell c v:=λx c e v ⟨o,ho,hd⟩=>by
  have Ij:c∉ch:=λz=>(vV c z).2.2.1 x c e rfl
  by_cases hc:c∈X.fs
  ·obtain ⟨sl,q⟩:=slot c o (I.Bw x c e) hc Ij ho (I.freeC x c e)
   exact ⟨_,q,hd⟩
  ·exact ⟨o,keep c o (I.Bw x c e) hc Ij ho (I.freeC x c e),hd⟩
 refine ⟨I.ok,I.os,hg,⟨λb o e n hb hx=>?_,λb o e n hb hx=>?_,λb o e n hx=>?_,λb o e hx=>?_,λb xs e=>tups b xs (I.base.tups b xs e),λb o xs e=>frzs b o xs (I.base.frzs b o xs e),λb ps e=>?_⟩,?_,λx c e=>?_,?_,λx c e=>?_,λp hp=>?_,hok,I.len⟩
 ·exact keep b o (Uk b o e) hb (KL b o e hx) (I.base.keep b o e n hb hx) (I.base.free b o e n hx)
 ·obtain ⟨sl,e1⟩:=I.base.slot b o e n hb hx
  obtain ⟨sl',e2⟩:=slot b _ (Uk b o e) hb (KL b o e hx) e1 (I.base.free b o e n hx);exact ⟨sl',e2⟩
 ·obtain ⟨o',e1⟩:=I.base.there b o e hx
  exact free b o' (KL b o e hx) e1 (I.base.free b o e n hx)
 ·obtain ⟨o',e1⟩:=I.base.there b o e hx
  exact there b o' (KL b o e hx) e1
 ·obtain ⟨m1,e1⟩:=I.base.tbls b ps e
  obtain ⟨m2,e2⟩:=tbls b _ e1;exact ⟨m1++m2,by rw [e2,Array.append_assoc]⟩
 ·obtain ⟨m,hn,hl⟩:=I.loc
  refine ⟨m,ns m hn,λi x v e1 e2 e3=>?_⟩;obtain ⟨u,r,l⟩:=hl i x v e1 e2 e3;refine ⟨u,r,?_⟩
  rcases l with l| ⟨k,c,e,z⟩
  ·exact .inl l
  ·exact .inr ⟨k,c,e,cellK x c e _ z⟩
 ·obtain ⟨v,z⟩:=I.cell x c e
  exact ⟨v,cellK x c e v z⟩
 ·obtain ⟨m,⟨o,_,_,ho,_⟩,_⟩:=I.loc
  exact free _ o (λz=>(vV _ z).2.1 rfl) ho I.free
 ·obtain ⟨v,o,ho,hd⟩:=I.cell x c e
  exact free c o (λz=>(vV c z).2.2.1 x c e rfl) ho (I.freeC x c e)
 ·obtain ⟨e,n,ne,nf,d⟩:=I.pin p hp
  have Ij:p.1∉ch:=λz=>(vV p.1 z).2.2.2 p hp rfl;exact ⟨keep p.1 p.2 ne nf Ij e n,free p.1 p.2 Ij e n,ne,nf,d⟩
theorem Inv.un{t':Nat}(I:Inv X pins σ H s)(u:Un X.fs [] H H' s.heap h')(hok:hU X.prog X.w H' h'):Inv X pins σ H' {s with heap:=h',toks:=t'}:=by
 obtain ⟨m,⟨o,es,ep,ho,r⟩,_⟩:=id I.loc;obtain ⟨sl,hL⟩:=u.any ho I.free (by simp)
 exact I.step (g':=s.gens) (d':=s.drawn) (ch:= []) (λ_ z=>nomatch z) (λb o _ hb _ e n=>u.keep b o e n hb (by simp)) (λb o _ hb _ e n=>u.slot b o e n hb (by simp)) (λb o _ e n=>u.free b o e n (by simp)) (λb o _ e=>u.there b o e (by simp)) u.tups u.frzs u.tbls (λm' hm=>by
  obtain ⟨o',lD,BF,kY,r'⟩:=hm;rw [ho] at kY;cases kY;exact ⟨_,lD,BF,hL,r'⟩) hok I.bare
theorem Inv.call{g':Array GenState}{t':Nat}{d':Drawn}{ch:List Addr}(I:Inv X pins σ H s)(u:Un (uc X.stack) ch H H' s.heap h')(hok:hU X.prog X.w H' h')(hg:AllBare g')
  (vV:∀b∈ch,(b∈X.ex∨X.s₀.heap.objs.size≤b)∧b≠X.env.locals∧(∀x c,X.env.cells.lookup x=some c→c≠b)∧∀p∈X.pn++pins,p.1≠b):
  Inv X pins σ H' {s with heap:=h',gens:=g',drawn:=d',toks:=t'}:=by
 obtain ⟨m,⟨o,es,ep,ho,r⟩,_⟩:=id I.loc;obtain ⟨sl,hL⟩:=u.any ho I.free λz=>(vV _ z).2.1 rfl
 exact I.step (ch:=ch) vV (λb o hL hb hc e n=>u.keep b o e n (λz=>(ck.mp (I.zb b z)).elim hL hb) hc) (λb o _ _ hc e n=>u.any e n hc) (λb o hc e n=>u.free b o e n hc) (λb o hc e=>u.there b o e hc) u.tups u.frzs u.tbls (λm' hm=>by
  obtain ⟨o',lD,BF,kY,r'⟩:=hm;rw [ho] at kY;cases kY;exact ⟨_,lD,BF,hL,r'⟩) hok hg
theorem Inv.turned{t':Nat}{it:Addr}(I:Inv X pins σ H s)(k:∀b o,b≠it→s.heap.get? b=some o→h'.get? b=some o)(hn:H it=none)(hL:it≠X.env.locals)
  (h1:it∈X.ex∨X.s₀.heap.objs.size≤it) (h2:∀x c,X.env.cells.lookup x=some c→c≠it) (h3:∀p∈X.pn++pins,p.1≠it):Inv X pins σ H {s with heap:=h',toks:=t'}:=by
 have Ul:∀b u,H b=some u→b≠it:=λb u e z=>by rw [z,hn] at e;cases e
 refine I.step (g':=s.gens) (d':=s.drawn) (ch:= [it]) (λb hb=>?_) (λb o _ _ hc e _=>k b o (λz=>hc (by simp [z])) e) (λb o _ _ hc e _=>⟨o.slots,k b o (λz=>hc (by simp [z])) e⟩) (λ_ _ _ _ n=>n)
  (λb o hc e=>⟨o,k b o (λz=>hc (by simp [z])) e⟩) (λ_ _ e=>e) (λ_ _ _ e=>e) (λb ps e=>⟨#[],by rw [e];simp⟩) (λm hm=>?_) (λb u e=>?_) I.bare
 ·have e:b=it:=by simpa using hb
  subst e;exact ⟨h1,hL,h2,h3⟩
 ·obtain ⟨o,es,ep,ho,r⟩:=hm
  exact ⟨o,es,ep,k _ o (Ne.symm hL) ho,r⟩
 ·refine (I.hok b u e).rU (λc v hc q=>k c v ?_ q) (λ_ q=>q) λ_ _ q=>q
  rcases hc with z|z
  ·rw [z];exact Ul b u e
  ·exact Ul c _ z
theorem Inv.tok(I:Inv X pins σ H s)(t:Nat):Inv X pins σ H {s with toks:=t}:=I.un (h':=s.heap) (t':=t) Un.refl I.hok
theorem Inv.kept{t':Nat}(I:Inv X pins σ H s)(k:∀b u,s.heap.get? b=some u→h'.get? b=some u):Inv X pins σ H {s with heap:=h',toks:=t'}:=I.un (Un.kept k) (I.hok.kept k)
theorem Inv.laid{a:Addr}{o:HO}{t':Nat}(I:Inv X pins σ H s)(k:∀b u,s.heap.get? b=some u→h'.get? b=some u)(hp:s.heap.objs.size≤a)(new:cO X.prog X.w (upd H a o) h' a o):
  Inv X pins σ (upd H a o) {s with heap:=h',toks:=t'}:=I.un (Un.laid k hp (I.hok.fresh hp)) (I.hok.laid k hp new)
theorem Inv.write{x e:Addr}{o:HO}{t':Nat}(I:Inv X pins σ H s)(mu:JH (H x))(he:e=x∨H e=some (.own x))(k:∀b u,b≠e→s.heap.get? b=some u→h'.get? b=some u)(Fg:∃u,h'.get? e=some u)
  (new:cO X.prog X.w (upd H x o) h' x o):Inv X pins σ (upd H x o) {s with heap:=h',toks:=t'}:=I.un (Un.write mu he k Fg) (I.hok.write mu he k Fg new)
theorem Inv.pS{y0:List (Addr×Obj)}(I:Inv X pins σ H s)(h:∀p∈y0,s.heap.get? p.1=some p.2∧H p.1=none∧p.1≠X.env.locals∧p.1∉X.fs∧∀v,p.2.data≠ .cell v):Inv X y0 σ H s:=
 ⟨I.ok,I.os,I.bare,I.base,I.loc,I.cell,I.free,I.freeC,λp hp=>(cE.mp hp).elim (λz=>I.pin p (r8 _ z)) (h p),I.hok,I.len⟩
theorem xq{N:List Str}(hN:N.Nodup){i j:Nat}{x:Str}(a:N[i]? =some x)(b:N[j]? =some x):i=j:=by
 obtain ⟨h1,e1⟩:=b9.mp a;obtain ⟨h2,e2⟩:=b9.mp b;exact (List.getElem_inj hN).mp (e1.trans e2.symm)
theorem store_ok2{M:Model}{A:Around}{E:Value→Shared→Prop}{i:Nat}{x:Str}{v:V}{u:Value}{Q:Unit→Shared→Prop}(I:Inv X pins σ H s)(hN:X.N.Nodup)(hi:X.N[i]? =some x)(hx:Loc X.env.scope x)(r:RelV v u)
  (h:∀s',Inv X pins (σ.set i (some v)) H s'→(∃a,Heap.SameBut a s.heap s'.heap∧(a=X.env.locals∨X.env.cells.lookup x=some a))→Q () s') (hf:X.fn x=true∨X.env.scope.names.lookup x=some .local:=by first|exact .inl rfl|exact .inr rfl|assumption):wpAny M A (storeName X.env x u) Q E s:=by
 obtain ⟨m,hn,hl⟩:=id I.loc;have Sd:(X.env.scope.kind== .class|| (X.env.scope.kind== .module&&X.env.locals !=X.env.globals))=false:=by rw [I.ok.kind];rfl
 have Mv:i<σ.length:=by rw [I.len];exact (b9.mp hi).1
 have Bw:=I.Bw
 have tracked:∀{a:Addr}{h':Heap},(∃o,s.heap.get? a=some o∧H a=none)→Heap.SameBut a s.heap h'→hU X.prog X.w H h':=λ {a h'} ha hs b ob e=>by
  obtain ⟨_,_,yw⟩:=ha;refine (I.hok b ob e).rU (λc w' hc q=>(hs.2 c ?_).trans q) (λ_ q=>q) λ_ _ q=>q;rintro rfl
  rcases hc with rfl|hc
  ·rw [yw] at e;cases e
  ·rw [yw] at hc;cases hc
 rcases hx with hk|hk
 ·refine wpAny_storeName_local hk hn (λh' Y3 hs=>?_) Sd
  obtain ⟨oL,_,_,Kg,_⟩:=id hn;refine h _ ⟨I.ok,I.os,I.bare,⟨λb o e n hb hx=>?_,λb o e n hb hx=>?_,I.base.free,λb o e hx=>?_,I.base.tups,I.base.frzs,I.base.tbls⟩,⟨_,Y3,λj y v' e1 e2 e3=>?_⟩,λy c e=>?_,I.free,I.freeC,λp hp=>?_,tracked ⟨oL,Kg,I.free⟩ hs,by simpa using I.len⟩ ⟨_,hs, .inl rfl⟩
  ·exact (hs.2 b (bW (f9 (Heap.lt_size e) I.ok.above))).trans (I.base.keep b o e n hb hx)
  ·obtain ⟨sl,e1⟩:=I.base.slot b o e n hb hx
   exact ⟨sl,(hs.2 b (bW (f9 (Heap.lt_size e) I.ok.above))).trans e1⟩
  ·obtain ⟨o',e1⟩:=I.base.there b o e hx
   exact ⟨o',(hs.2 b (bW (f9 (Heap.lt_size e) I.ok.above))).trans e1⟩
  ·by_cases hj:j=i
   ·subst hj
    rw [hi] at e1;cases e1;rw [kN Mv] at e2;cases e2;exact ⟨u,r, .inl ⟨hk,by simp⟩⟩
   ·rw [kO (Ne.symm hj)] at e2
    obtain ⟨u',r',q⟩:=hl j y v' e1 e2 e3;refine ⟨u',r',?_⟩
    rcases q with ⟨k,e⟩ | ⟨k,c,e,z⟩
    ·refine .inl ⟨k,?_⟩
     have:y≠x:=λe=>hj (xq hN e1 (e▸hi))
     simp [this,e]
    ·exact .inr ⟨k,c,e,z.sameBut hs (Bw y c e)⟩
  ·obtain ⟨w',z⟩:=I.cell y c e
   exact ⟨w',z.sameBut hs (Bw y c e)⟩
  ·obtain ⟨e,n,ne,nf,d⟩:=I.pin p hp
   exact ⟨(hs.2 p.1 ne).trans e,n,ne,nf,d⟩
 ·have Ou:X.fn x=true:=by
   rcases hf with z|z
   ·exact z
   ·rw [z] at hk;cases hk
  obtain ⟨c,hc⟩:=I.ok.has x (.inl hk);obtain ⟨w',z⟩:=I.cell x c hc;refine wpAny_storeName_cell I.ok.kind hk hc z (λh' pq hs=>?_);obtain ⟨oc,SQ,SR⟩:=id z;refine h {s with heap:=h'} ⟨I.ok,I.os,I.bare,⟨λb o e n hb hx=>?_,λb o e n hb hx=>?_,I.base.free,λb o e hx=>?_,I.base.tups,I.base.frzs,I.base.tbls⟩,⟨m,hn.sameBut hs (Ne.symm (Bw x c hc)),λj y v' e1 e2 e3=>?_⟩,λy c' e=>?_,I.free,I.freeC,λp hp=>?_,tracked ⟨oc,SQ,I.freeC x c hc⟩ hs,by simpa using I.len⟩ ⟨c,hs, .inr hc⟩
  ·exact (hs.2 b (bW (f9 (Heap.lt_size e) (I.ok.cab x c Ou hc)))).trans (I.base.keep b o e n hb hx)
  ·obtain ⟨sl,e1⟩:=I.base.slot b o e n hb hx
   exact ⟨sl,(hs.2 b (bW (f9 (Heap.lt_size e) (I.ok.cab x c Ou hc)))).trans e1⟩
  ·obtain ⟨o',e1⟩:=I.base.there b o e hx
   exact ⟨o',(hs.2 b (bW (f9 (Heap.lt_size e) (I.ok.cab x c Ou hc)))).trans e1⟩
  ·by_cases hj:j=i
   ·subst hj
    rw [hi] at e1;cases e1;rw [kN Mv] at e2;cases e2;exact ⟨u,r, .inr ⟨.inl hk,c,hc,pq⟩⟩
   ·rw [kO (Ne.symm hj)] at e2
    obtain ⟨u',r',q⟩:=hl j y v' e1 e2 e3;refine ⟨u',r',?_⟩
    rcases q with q| ⟨k,c',e,z'⟩
    ·exact .inl q
    ·refine .inr ⟨k,c',e,z'.sameBut hs ?_⟩
     rintro rfl;exact hj (xq hN e1 (I.ok.inj _ _ _ e hc▸hi))
  ·by_cases Sb:c'=c
   ·subst Sb;exact ⟨_,pq⟩
   ·obtain ⟨w2,z2⟩:=I.cell y c' e
    exact ⟨w2,z2.sameBut hs Sb⟩
  ·obtain ⟨e,n,ne,nf,d⟩:=I.pin p hp
   refine ⟨(hs.2 p.1 ?_).trans e,n,ne,nf,d⟩;intro q;rw [q,SQ] at e;have q':oc=p.2:=Option.some.inj e;exact d w' (by rw [←q'];exact SR)
theorem jT{M:Model}{A:Around}{E:Value→Shared→Prop}{i:Nat}{x:Str}{v:V}{u:Value}{Q:Unit→Shared→Prop}(I:Inv X pins σ H s)(hN:X.N.Nodup)(hi:X.N[i]? =some x)(hx:Loc X.env.scope x)(r:RelV v u)
  (h:∀s',Inv X pins (σ.set i (some v)) H s'→Q () s') (hf:X.fn x=true∨X.env.scope.names.lookup x=some .local:=by first|exact .inl rfl|exact .inr rfl|assumption):wpAny M A (storeName X.env x u) Q E s:=
 store_ok2 I hN hi hx r (λs' I' _=>h s' I') hf
theorem Inv.Nl{s':Shared}{ch:List Addr}(I:Inv X pins σ H s)(ho:s'.os=s.os)(u:Un (uc X.stack) ch H H' s.heap s'.heap)(hok:hU X.prog X.w H' s'.heap)(hg:AllBare s'.gens)
  (vV:∀b∈ch,(b∈X.ex∨X.s₀.heap.objs.size≤b)∧b≠X.env.locals∧(∀x c,X.env.cells.lookup x=some c→c≠b)∧∀p∈X.pn++pins,p.1≠b):Inv X pins σ H' s':=by
 obtain ⟨h',g',d',t',o'⟩:=s';have e:o'=s.os:=ho;subst e;exact I.call (g':=g') (t':=t') (d':=d') u hok hg vV
end
abbrev XK:=Value→Option Addr→Hp→Prop
abbrev St:=List (Option V)
abbrev VK:=V→Hp→Prop
abbrev TE:=St→Hp→VK→Prop
abbrev TT:=St→Hp→(Bool→Hp→Prop)→Prop
abbrev TA:=St→Hp→(List V→Hp→Prop)→Prop
structure Ends where
 nx:St→Hp→Prop
 rt:VK
 bk:St→Hp→Prop:=λ_ _=>False
 ct:St→Hp→Prop:=λ_ _=>False
abbrev TS:=Ends→St→Hp→Prop
def EP(X:Cx)(pins:List (Addr×Obj))(σ:St)(Q:VK)(u:Value)(s':Shared):Prop:=∃v H',Inv X pins σ H' s'∧RelV v u∧Q v H'
def TP(X:Cx)(pins:List (Addr×Obj))(σ:St)(Q:Bool→Hp→Prop)(b:Bool)(s':Shared):Prop:=∃H',Inv X pins σ H' s'∧Q b H'
def AP(X:Cx)(pins:List (Addr×Obj))(σ:St)(Q:List V→Hp→Prop)(us:List Value)(s':Shared):Prop:=∃vs H',Inv X pins σ H' s'∧Vals vs us∧Q vs H'
def SP(X:Cx)(pins:List (Addr×Obj))(D:Ends)(f:Flow)(s':Shared):Prop:=
 match f with
 | .next=>∃aw H',Inv X pins aw H' s'∧D.nx aw H'
 | .brk=>∃aw H',Inv X pins aw H' s'∧D.bk aw H'
 | .cont=>∃aw H',Inv X pins aw H' s'∧D.ct aw H'
 | .ret u=>∃v aw H',Inv X pins aw H' s'∧RelV v u∧D.rt v H'
def PE(X:Cx)(e:Expr)(t:TE):Prop:=
 ∀(pins:List (Addr×Obj))(s:Shared)(σ:St)(H:Hp)(Q:VK),Inv X pins σ H s→t σ H Q→wpAny (model X.prog X.w) X.A (eval e X.env) (EP X pins σ Q) X.xe s
def PT(X:Cx)(e:Expr)(t:TT):Prop:=
 ∀(pins:List (Addr×Obj))(s:Shared)(σ:St)(H:Hp)(Q:Bool→Hp→Prop),Inv X pins σ H s→t σ H Q→wpAny (model X.prog X.w) X.A (isTrue e X.env (eval e X.env)) (TP X pins σ Q) X.xe s
def PW(X:Cx)(e:Expr)(t:TT):Prop:=
 ∀(whole:Sem Value)(pins:List (Addr×Obj))(s:Shared)(σ:St)(H:Hp)(Q:Bool→Hp→Prop),Inv X pins σ H s→t σ H Q→wpAny (model X.prog X.w) X.A (isTrue e X.env whole) (TP X pins σ Q) X.xe s
theorem PW.pt{X:Cx}{e:Expr}{t:TT}(h:PW X e t):PT X e t:=h _
def PA(X:Cx)(es:List Expr)(t:TA):Prop:=
 ∀(pos:Pos)(pins:List (Addr×Obj))(s:Shared)(σ:St)(H:Hp)(Q:List V→Hp→Prop),Inv X pins σ H s→t σ H Q→wpAny (model X.prog X.w) X.A (spliced (backTo pos (starEach es X.env))) (AP X pins σ Q) X.xe s
def PS(X:Cx)(st:Stmt)(t:TS):Prop:=
 ∀(pins:List (Addr×Obj))(s:Shared)(σ:St)(H:Hp)(D:Ends),Inv X pins σ H s→t D σ H→wpAny (model X.prog X.w) X.A (exec st X.env) (SP X pins D) X.xe s
def jZ(X:Cx)(st:List Stmt)(t:TS):Prop:=
 ∀(pins:List (Addr×Obj))(s:Shared)(σ:St)(H:Hp)(D:Ends),Inv X pins σ H s→t D σ H→wpAny (model X.prog X.w) X.A (execs st X.env) (SP X pins D) X.xe s
theorem thn{α:Type}{t:Sem α}{Q Q':α→Shared→Prop}{M:Model}{A:Around}{E:Value→Shared→Prop}{s:Shared}(h:wpAny M A t Q E s)(hQ:∀a s,Q a s→Q' a s):wpAny M A t Q' E s:=wpAny_mono h hQ λ_ _ x=>x
section
variable {X:Cx}
def rV(i:Nat):TE:=λσ H Q=>∃v,σ[i]? =some (some v)∧Q v H
def tC(v:V):TE:=λ_ H Q=>Q v H
theorem D5{i:Nat}{x:Str}{pos:Pos}(hN:X.N[i]? =some x)(hv:sq X.env.scope x)(hd:(x==("__debug__":Str))=false:=by decide)(gq:(x==("__classdict__":Str))=false:=by decide):PE X (.Name x pos) (rV i):=by
 intro pins s σ H Q I h;obtain ⟨v,e,h⟩:=h;obtain ⟨m,hn,hl⟩:=I.loc;obtain ⟨u,r,l⟩:=hl i x v hN e hv;have fin:EP X pins σ Q u s:=⟨v,H,I,r,h⟩
 rcases l with ⟨hk,hm⟩ | ⟨hk,c,hc,Hr⟩
 ·exact wpAny_Name (wpAny_loadName_local I.ok.kind hk hn hm fin) hd
 ·rcases hk with hk|hk
  ·exact wpAny_Name (wpAny_loadName_cell I.ok.kind hk hc Hr fin) hd
  ·exact wpAny_Name (wpAny_loadName_free I.ok.kind hk hc Hr fin gq) hd
theorem aL{i j pos}:PE X (.Constant (.int i) j pos) (tC (.int i)):=λ_ _ _ H _ I h=>wpAny_Constant_int ⟨.int i,H,I.tok _,⟨_,rfl⟩,h⟩
theorem Pt{b j pos}:PE X (.Constant (.bool b) j pos) (tC (.bl b)):=λ_ _ _ H _ I h=>Constant_bool ⟨.bl b,H,I,rfl,h⟩
theorem K6{j pos}:PE X (.Constant .none j pos) (tC .aM):=λ_ _ _ H _ I h=>Constant_none ⟨.aM,H,I,rfl,h⟩
theorem K9{x j pos}:PE X (.Constant (.str x) j pos) (tC (.str x)):=λ_ _ _ H _ I h=>Calls.Constant_str ⟨.str x,H,I.tok _,⟨_,rfl⟩,h⟩
def Gl(X:Cx)(x:Str):Prop:=X.env.kindOf x=some .globalImplicit
theorem ux{E:Value→Shared→Prop}{pins:List (Addr×Obj)}{s:Shared}{σ:St}{H:Hp}{x:Str}{u:Value}{pos:Pos}{Q:Value→Shared→Prop}(I:Inv X pins σ H s)(hg:Gl X x)(hm:X.mg x=some u)(h:Q u s)
  (hd:(x==("__debug__":Str))=false:=by decide):wpAny (model X.prog X.w) X.A (eval (.Name x pos) X.env) Q E s:=
 Calls.Name_function_global I.ok.kind hg (Calls.loadGlobal_global (by rw [I.ok.glob];exact I.mod.glob.keeps I.bk) hm h) hd
theorem hZ{E:Value→Shared→Prop}{pins:List (Addr×Obj)}{s:Shared}{σ:St}{H:Hp}{x:Str}{u:Value}{pos:Pos}{Q:Value→Shared→Prop}(I:Inv X pins σ H s)(hg:Gl X x)(hm:X.mg x=none)(hv:bootBuiltins x=some u)(h:Q u s)
  (hn:x≠"__name__":=by decide) (hd:(x==("__debug__":Str))=false:=by decide):wpAny (model X.prog X.w) X.A (eval (.Name x pos) X.env) Q E s:=by
 obtain ⟨mb,h1,h2⟩:=I.mod.blt;exact Calls.Name_function_global I.ok.kind hg (Calls.loadGlobal_builtin (by rw [I.ok.glob];exact I.mod.glob.keeps I.bk) hm (by rw [I.ok.blt];exact h1.keeps I.bk) ((h2 x hn).trans hv) h) hd
theorem IK{x:Str}{v:V}{u:Value}{pos:Pos}(hg:Gl X x)(hm:X.mg x=some u)(r:RelV v u)(hd:(x==("__debug__":Str))=false:=by decide):PE X (.Name x pos) (tC v):=
 λ_ _ _ H _ I h=>ux I hg hm ⟨v,H,I,r,h⟩ hd
theorem IJ{x:Str}{v:V}{u:Value}{pos:Pos}(hg:Gl X x)(hm:X.mg x=none)(hv:bootBuiltins x=some u)(r:RelV v u)(hn:x≠"__name__":=by decide)(hd:(x==("__debug__":Str))=false:=by decide):PE X (.Name x pos) (tC v):=
 λ_ _ _ H _ I h=>hZ I hg hm hv ⟨v,H,I,r,h⟩ hn hd
variable {a b:Expr} {ta tb:TE} {pos:Pos}
def tB(t:TE):TT:=λσ H Q=>t σ H λx H1=>∃c,x= .bl c∧Q c H1
theorem Lf{e:Expr}{t:TE}(h:PE X e t)(he:∀whole,isTrue e X.env whole=(do let v ←whole;standAt e.pos;holding [v] (truthy v)):=by intro _;rfl):PT X e (tB t):=by
 intro pins s σ H Q I hw;refine isTrue_plain (thn (h pins s σ H _ I hw) λv s1 ⟨x,H1,I1,r1,q1⟩=>?_) (he _);obtain ⟨d,rfl,q⟩:=q1;cases r1;exact wpAny_truthy_bool ⟨H1,I1,q⟩
variable {tA C3:TT} {rest:List Expr}
def V4(t u:TT):TT:=λσ H Q=>t σ H λc H1=>if c=true then u σ H1 Q else Q false H1
def tOr(t u:TT):TT:=λσ H Q=>t σ H λc H1=>if c=true then Q true H1 else u σ H1 Q
def Wd(t:TT):TT:=λσ H Q=>t σ H λc H1=>Q (!c) H1
theorem AQ(ha:PT X a tA):PW X (.BoolOp .And [a] pos) tA:=by
 intro wh pins s σ H Q I h;refine isTrue_and (thn (ha pins s σ H Q I h) λc s1 e=>?_);cases c with
 |true=>exact isTrue_and_nil e
 |false=>exact e
theorem Lg(ha:PT X a tA):PW X (.BoolOp .Or [a] pos) tA:=by
 intro wh pins s σ H Q I h;refine isTrue_or (thn (ha pins s σ H Q I h) λc s1 e=>?_);cases c with
 |false=>exact isTrue_or_nil e
 |true=>exact e
theorem D8(ha:PT X a tA)(hb:PW X (.BoolOp .And (b::rest) pos) C3):PW X (.BoolOp .And (a::b::rest) pos) (V4 tA C3):=by
 intro wh pins s σ H Q I h;refine isTrue_and (thn (ha pins s σ H _ I h) λc s1 ⟨H1,I1,q1⟩=>?_);cases c with
 |true=>exact hb wh pins s1 σ H1 Q I1 q1
 |false=>exact ⟨H1,I1,q1⟩
theorem Pw(ha:PT X a tA)(hb:PW X (.BoolOp .Or (b::rest) pos) C3):PW X (.BoolOp .Or (a::b::rest) pos) (tOr tA C3):=by
 intro wh pins s σ H Q I h;refine isTrue_or (thn (ha pins s σ H _ I h) λc s1 ⟨H1,I1,q1⟩=>?_);cases c with
 |true=>exact ⟨H1,I1,q1⟩
 |false=>exact hb wh pins s1 σ H1 Q I1 q1
theorem D6(ha:PT X a tA):PT X (.UnaryOp .Not a pos) (Wd tA):=by
 intro pins s σ H Q I h;exact isTrue_not (ha pins s σ H (λc H1=>Q (!c) H1) I h)
def PK(ta tb:TE):TE:=λσ H Q=>ta σ H λx H1=>∃c,x= .bl c∧if c=true then tb σ H1 Q else Q (.bl false) H1
def PU(ta:TE):TE:=λσ H Q=>ta σ H λx H1=>∃c,x= .bl c∧Q (.bl (!c)) H1
theorem K8{op}{t:TE}(h:PE X a t):PE X (.BoolOp op [a] pos) t:=λpins s σ H Q I hw=>BoolOp_one (h pins s σ H Q I hw)
theorem K1(ha:PE X a ta)(hb:PE X (.BoolOp .And (b::rest) pos) tb):PE X (.BoolOp .And (a::b::rest) pos) (PK ta tb):=by
 intro pins s σ H Q I h;refine BoolOp_and (thn (ha pins s σ H _ I h) λv s1 ⟨x,H1,I1,r1,q1⟩=>?_);obtain ⟨c,rfl,q1⟩:=q1;cases r1;refine wpAny_truthy_bool ?_;cases c with
 |true=>exact hb pins s1 σ H1 Q I1 q1
 |false=>exact ⟨.bl false,H1,I1,rfl,q1⟩
theorem K7(ha:PE X a ta):PE X (.UnaryOp .Not a pos) (PU ta):=by
 intro pins s σ H Q I h;refine UnaryOp_ (thn (ha pins s σ H _ I h) λv s1 ⟨x,H1,I1,r1,q1⟩=>?_);obtain ⟨c,rfl,q1⟩:=q1;cases r1;exact not_of (wpAny_truthy_bool ⟨.bl (!c),H1,I1,rfl,q1⟩)
end
def aC(K:PySem.W.Frag)(H:Hp)(a:Addr)(xs:List V):Prop:=
 Rd H a (.lst xs)∨
  ∃(o:Obj)(its:Array Value)(n:Nat),K.lookup a=some o∧o.cls= .type "list"∧o.dict=none∧o.data= .seq its n∧its.size≤sizeLine∧Vals xs its.toList
def dr(K:PySem.W.Frag)(H:Hp)(a:Addr)(xs:List V):Prop:=
 Rd H a (.tup xs)∨
  ∃(o:Obj)(its:Array Value)(n:Nat),K.lookup a=some o∧o.cls= .type "tuple"∧o.data= .seq its n∧its.size≤sizeLine∧Vals xs its.toList
def Qg:Value→Option V
 | .none=>some .aM
 | .bool b=>some (.bl b)
 | .int i _=>some (.int i)
 | .str x _=>some (.str x)
 | .bytes b _=>some (.su b)
 | .float b _=>some (.BH b)
 | .ref a=>some (.ref a)
 | .type n=>some (.ty n)
 |_=>none
theorem RelV.abs{x:V}{u:Value}(r:RelV x u):Qg u=some x:=by
 cases x with
 |aM=>cases r;rfl
 |bl _=>cases r;rfl
 |int _=>obtain ⟨t,rfl⟩:=r;rfl
 |str _=>obtain ⟨t,rfl⟩:=r;rfl
 |su _=>obtain ⟨t,rfl⟩:=r;rfl
 |BH _=>obtain ⟨t,rfl⟩:=r;rfl
 |ref _=>cases r;rfl
 |ty _=>cases r;rfl
theorem RelV.inj{x y:V}{u:Value}(r:RelV x u)(q:RelV y u):x=y:=Option.some.inj (r.abs.symm.trans q.abs)
theorem Vals.inj:∀{xs ys:List V}{us:List Value},Vals xs us→Vals ys us→xs=ys
 |_,_,_, .nil, .nil=>rfl
 |_,_,_, .cons r t, .cons r' t'=>by rw [r.inj r',Vals.inj t t']
section
variable {X:Cx} {pins:List (Addr×Obj)} {σ:St} {H:Hp} {s:Shared} {a:Addr} {xs ys:List V}
theorem aC.of{K:PySem.W.Frag}(h:H a=some (.lst xs)):aC K H a xs:= .inl (.inl h)
theorem dr.of{K:PySem.W.Frag}(h:H a=some (.tup xs)):dr K H a xs:= .inl (.inl h)
theorem Inv.list(I:Inv X pins σ H s)(h:aC X.K H a xs):∃its:List Value,Vals xs its∧PlainL s.heap a its.toArray∧xs.length≤sizeLine:=by
 rcases h with h| ⟨o,its,n,hk,hc,hd,hs,hz,r⟩
 ·obtain ⟨z,its,n,r,e⟩:=h.ok I.hok
  exact ⟨its,r,⟨_,n,e,rfl,rfl,rfl⟩,z⟩
 ·refine ⟨its.toList,r,⟨o,n,I.gY a o hk,hc,hd,by simpa using hs⟩,?_⟩
  have e:=r.length;simp only [bX] at e;omega
theorem Inv.tuple(I:Inv X pins σ H s)(h:dr X.K H a xs):∃its:List Value,Vals xs its∧IsTup s.heap a its.toArray∧xs.length≤sizeLine:=by
 rcases h with h| ⟨o,its,n,hk,hc,hs,hz,r⟩
 ·obtain ⟨z,its,r,p⟩:=h.ok I.hok
  exact ⟨its,r,p,z⟩
 ·refine ⟨its.toList,r,⟨o,I.gY a o hk,hc,n,by simpa using hs⟩,?_⟩
  have e:=r.length;simp only [bX] at e;omega
theorem Inv.xn(I:Inv X pins σ H s)(h:aC X.K H a xs)(h':aC X.K H a ys):xs=ys:=by
 obtain ⟨its,r,⟨o,n,e,_,_,d⟩,_⟩:=I.list h;obtain ⟨its',r',⟨o',n',e',_,_,d'⟩,_⟩:=I.list h';rw [e] at e';cases e';rw [d] at d'
 injection d' with d1 _
 have:its=its':=by simpa using congrArg Array.toList d1
 subst this;exact r.inj r'
end
abbrev Cx.nS(X:Cx)(E:Value→Shared→Prop):Cx:={X with xe:=E}
abbrev Cx.iV(X:Cx):Cx:=X.nS λ_ _=>False
theorem Cx.Ok.nS{X:Cx}(ok:X.Ok)(E:Value→Shared→Prop):(X.nS E).Ok:=
 ⟨ok.mod,ok.kind,ok.glob,ok.blt,ok.above,ok.inj,ok.has,ok.cab,ok.hd,ok.frames,ok.stk,ok.exf,ok.bs,ok.bsz,ok.noex,ok.exfs,ok.funs,ok.frf⟩
theorem Cx.Ok.jg{X:Cx}{E:Value→Shared→Prop}(ok:(X.nS E).Ok):X.Ok:=
 ⟨ok.mod,ok.kind,ok.glob,ok.blt,ok.above,ok.inj,ok.has,ok.cab,ok.hd,ok.frames,ok.stk,ok.exf,ok.bs,ok.bsz,ok.noex,ok.exfs,ok.funs,ok.frf⟩
section
variable {X:Cx} {pins:List (Addr×Obj)} {σ:St} {H:Hp} {s:Shared} {E:Value→Shared→Prop}
theorem Inv.nS(I:Inv X pins σ H s)(E:Value→Shared→Prop):Inv (X.nS E) pins σ H s:=⟨I.ok.nS E,I.os,I.bare,I.base,I.loc,I.cell,I.free,I.freeC,I.pin,I.hok,I.len⟩
theorem Inv.jg(I:Inv (X.nS E) pins σ H s):Inv X pins σ H s:=⟨I.ok.jg,I.os,I.bare,I.base,I.loc,I.cell,I.free,I.freeC,I.pin,I.hok,I.len⟩
theorem SP.jg{D:Ends}{f:Flow}{s':Shared}(h:SP (X.nS E) pins D f s'):SP X pins D f s':=by
 cases f with
 |next=>obtain ⟨aw,H',I,q⟩:=h;exact ⟨aw,H',I.jg,q⟩
 |brk=>obtain ⟨aw,H',I,q⟩:=h;exact ⟨aw,H',I.jg,q⟩
 |cont=>obtain ⟨aw,H',I,q⟩:=h;exact ⟨aw,H',I.jg,q⟩
 |ret u=>obtain ⟨v,aw,H',I,r,q⟩:=h;exact ⟨v,aw,H',I.jg,r,q⟩
theorem jZ.iV{st:List Stmt}{t:TS}(h:jZ X.iV st t):jZ X st t:=λpins s σ H D I hw=>
 wpAny_mono (h pins s σ H D (I.nS _) hw) (λ_ _ q=>q.jg) λ_ _ z=>False.elim z
end
section
variable {X:Cx} {st:Stmt} {rest:List Stmt} {t u:TS} {e:Expr} {te:TE} {pos:Pos}
def PR:TS:=λD σ H=>D.nx σ H
def Jy(t u:TS):TS:=λD σ H=>t {D with nx:=u D} σ H
theorem lX:jZ X [] PR:=λ_ _ σ H _ I h=>wpAny_execs_nil ⟨σ,H,I,h⟩
theorem aB(h1:PS X st t)(h2:jZ X rest u):jZ X (st::rest) (Jy t u):=by
 intro pins s σ H D I h;refine wpAny_execs_cons (thn (h1 pins s σ H {D with nx:=u D} I h) λf s1 q=>?_)
 cases f with
 |next=>
  obtain ⟨aw,H',I',q⟩:=q;exact h2 pins s1 aw H' D I' q
 |ret v=>exact q
 |brk=>exact q
 |cont=>exact q
theorem aY(h1:PS X st t):jZ X [st] t:=by
 intro pins s σ H D I h;refine wpAny_execs_cons (thn (h1 pins s σ H D I h) λf s1 q=>?_);cases f with
 |next=>exact wpAny_execs_nil q
 |ret v=>exact q
 |brk=>exact q
 |cont=>exact q
theorem Inv.quiet{pins:List (Addr×Obj)}{σ:St}{H:Hp}{s:Shared}(I:Inv X pins σ H s):interactive X.env=false:=by simp [interactive,I.ok.kind]
def PN(te:TE):TS:=λD σ H=>te σ H λ_ H1=>D.nx σ H1
theorem dh(he:PE X e te)(hs:swapsWith e none pos.line X.env=pure false:=by rfl):PS X (.Expr e pos) (PN te):=by
 intro pins s σ H D I h;exact wpAny_Expr_any (thn (he pins s σ H _ I h) λv s1 ⟨x,H1,I1,r1,q1⟩=>⟨σ,H1,I1,q1⟩) I.quiet hs
def M8(te:TE):TS:=λD σ H=>te σ H D.rt
theorem e7(he:PE X e te):PS X (.Return (some e) pos) (M8 te):=by
 intro pins s σ H D I h;exact wpAny_Return_some (thn (he pins s σ H _ I h) λv s1 ⟨x,H1,I1,r1,q1⟩=>⟨x,σ,H1,I1,r1,q1⟩)
def Wa(c:TT)(t u:TS):TS:=λD σ H=>c σ H λb H1=>if b=true then t D σ H1 else u D σ H1
theorem uR{c:Expr}{a b:List Stmt}{tc:TT}(hc:PT X c tc)(ha:jZ X a t)(hb:jZ X b u):PS X (.If c a b pos) (Wa tc t u):=by
 intro pins s σ H D I h;refine wpAny_If (thn (hc pins s σ H _ I h) λd s1 ⟨H1,I1,q1⟩=>?_);cases d with
 |true=>exact ha pins s1 σ H1 D I1 q1
 |false=>exact hb pins s1 σ H1 D I1 q1
def LJ:TS:=λ_ _ _=>False
theorem FQ:PS X st LJ:=λ_ _ _ _ _ _ h=>h.elim
end
abbrev TG:=V→St→Hp→(St→Hp→Prop)→Prop
abbrev vP:=List V→St→Hp→(St→Hp→Prop)→Prop
def PG(X:Cx)(target:Expr)(t:TG):Prop:=
 ∀(pins:List (Addr×Obj))(s:Shared)(σ:St)(H:Hp)(v:V)(u:Value)(Q:St→Hp→Prop),Inv X pins σ H s→RelV v u→t v σ H Q→
  wpAny (model X.prog X.w) X.A (assign target X.env u) (λ_ s'=>∃aw H',Inv X pins aw H' s'∧Q aw H') X.xe s
def yc(X:Cx)(ts:List Expr)(t:vP):Prop:=
 ∀(pins:List (Addr×Obj))(s:Shared)(σ:St)(H:Hp)(vs:List V)(us:List Value)(Q:St→Hp→Prop),Inv X pins σ H s→Vals vs us→t vs σ H Q→
  wpAny (model X.prog X.w) X.A (assignInOrder ((assignEach ts X.env).map (·.2)) us) (λ_ s'=>∃aw H',Inv X pins aw H' s'∧Q aw H') X.xe s
abbrev Gi:=V→V→V→Hp→(Hp→Prop)→Prop
def LU(X:Cx)(t:Gi):Prop:=
 ∀(pins:List (Addr×Obj))(s:Shared)(σ:St)(H:Hp)(o i v:V)(ov iv u:Value)(Q:Hp→Prop),Inv X pins σ H s→RelV o ov→RelV i iv→RelV v u→t o i v H Q→
  wpAny (model X.prog X.w) X.A (setItem ov iv u) (λ_ s'=>∃H',Inv X pins σ H' s'∧Q H') X.xe s
section
variable {X:Cx} {pos:Pos}
def ud(i:Nat):TG:=λv σ H Q=>Q (σ.set i (some v)) H
theorem bI{i:Nat}{x:Str}(hN:X.N.Nodup)(hi:X.N[i]? =some x)(hx:Loc X.env.scope x)(hf:X.fn x=true∨X.env.scope.names.lookup x=some .local:=by first|exact .inl rfl|exact .inr rfl|assumption):PG X (.Name x pos) (ud i):=by
 intro pins s σ H v u Q I r h;exact wpAny_assign_Name (jT I hN hi hx r (λs' I'=>⟨_,H,I',h⟩) hf)
def RM:vP:=λvs σ H Q=>vs= []∧Q σ H
def N8(t:TG)(u:vP):vP:=λvs σ H Q=>∃v r,vs=v::r∧t v σ H λaw H'=>u r aw H' Q
theorem jP:yc X [] RM:=by
 intro pins s σ H vs us Q I r h;obtain ⟨e,h⟩:=h;subst e;cases r;exact assignInOrder_nil ⟨σ,H,I,h⟩
theorem dW{e:Expr}{es:List Expr}{t:TG}{u:vP}(h1:PG X e t)(h2:yc X es u)
  (hs:(assignEach (e::es) X.env).map (·.2)=assign e X.env::(assignEach es X.env).map (·.2):=by rfl):yc X (e::es) (N8 t u):=by
 intro pins s σ H vs us Q I r h;obtain ⟨v,vr,e1,h⟩:=h;subst e1;cases r with
 |cons r rr=>
  rw [hs];refine assignInOrder_cons (thn (h1 pins s σ H _ _ _ I r h) λ_ s1 ⟨Dm,H1,I1,q1⟩=>?_);exact h2 pins s1 Dm H1 _ _ Q I1 rr q1
def RN(K:PySem.W.Frag)(n:Nat)(t:vP):TG:=λv σ H Q=>∃a xs,v= .ref a∧dr K H a xs∧xs.length=n∧t xs σ H Q
theorem m8{es:List Expr}{k:Nat}{t:vP}{n:Nat}(hc:X.calm=true)(h:yc X es t)
  (hn:(assignEach es X.env).length=n:=by rfl) (jH:(assignEach es X.env).findIdx? (·.1)=none:=by rfl):PG X (.Tuple es k pos) (RN X.K n t):=by
 intro pins s σ H v u Q I r hw;obtain ⟨a,xs,e1,hq,hl,hw⟩:=hw;subst e1;cases r;obtain ⟨its,rv,ht,hz⟩:=I.tuple hq;refine assign_Tuple_tuple (I.ok.hd hc) ht (by simp [hn,←hl,rv.length]) jH λh' hx=>?_
 have I1:Inv X pins σ H {s with heap:=h'}:=I.kept (t':=s.toks) λb o e=>hx b o (bW (Heap.lt_size e)) e
 exact h pins _ σ H xs _ Q I1 (by simpa using rv) hw
def Mt(to ti:TE)(t:Gi):TG:=λv σ H Q=>to σ H λo H1=>ti σ H1 λi H2=>t o i v H2 λH3=>Q σ H3
theorem yZ{o i:Expr}{to ti:TE}{t:Gi}(ho:PE X o to)(hi:PE X i ti)(hs:LU X t)
  (ha:∀v,assign (.Subscript o i pos) X.env v=(do
   let ov ←holding [v] (eval o X.env)
   let iv ←holding [v,ov] (eval i X.env)
   standAt pos
   holding [v,ov,iv] (setItem ov iv v)
   release [v,ov,iv] []):=by intro _;rfl):PG X (.Subscript o i pos) (Mt to ti t):=by
 intro pins s σ H v u Q I r h;rw [ha];refine wpAny_bind (wpAny_holding (thn (ho pins s σ H _ I h) λov s1 ⟨x,H1,I1,r1,q1⟩=>?_));refine wpAny_bind (wpAny_holding (thn (hi pins s1 σ H1 _ I1 q1) λiv s2 ⟨y,H2,I2,r2,q2⟩=>?_));refine wpAny_bind (wpAny_standAt (wpAny_bind (wpAny_holding (thn (hs pins s2 σ H2 x y v ov iv u _ I2 r1 r2 r q2) λ_ s3 ⟨H3,I3,q3⟩=>?_))));exact wpAny_release ⟨σ,H3,I3,q3⟩
def En(te:TE)(g:TG):TS:=λD σ H=>te σ H λx H1=>g x σ H1 D.nx
theorem m9{tg e:Expr}{te:TE}{g:TG}(he:PE X e te)(hg:PG X tg g)(hs:swapsWithSole [tg] e pos.line X.env=pure false:=by rfl)(hw:swappedStores [tg] e X.env=pure none:=by rfl)
  (h1:(assignEach [tg] X.env).map (·.2)= [assign tg X.env]:=by rfl):PS X (.Assign [tg] e pos) (En te g):=by
 intro pins s σ H D I h;refine wpAny_Assign_stores (thn (he pins s σ H _ I h) λv s1 ⟨x,H1,I1,r1,q1⟩=>?_) hs hw;rw [h1];exact thn (hg pins s1 σ H1 x v _ I1 r1 q1) λ_ s2 q=>q
theorem bJ{i:Nat}{x:Str}{e:Expr}{te:TE}{pos':Pos}(hN:X.N.Nodup)(hi:X.N[i]? =some x)(hx:Loc X.env.scope x)(he:PE X e te)(hs:swapsWith e (some (.Name x pos')) pos.line X.env=pure false:=by rfl)(hf:X.fn x=true∨X.env.scope.names.lookup x=some .local:=by first|exact .inl rfl|exact .inr rfl|assumption):
  PS X (.Assign [.Name x pos'] e pos) (En te (ud i)):=by
 intro pins s σ H D I h;refine wpAny_Assign_Name (thn (he pins s σ H _ I h) λv s1 ⟨y,H1,I1,r1,q1⟩=>?_) hs;exact jT I1 hN hi hx r1 (λs2 I2=>⟨_,H1,I2,q1⟩) hf
def Wf(i j:Nat)(ta:TA):TS:=λD σ H=>ta σ H λvs H1=>∃v w,vs= [v,w]∧D.nx ((σ.set i (some v)).set j (some w)) H1
theorem Le{i j:Nat}{x y:Str}{a b:Expr}{ta:TA}{px py pt:Pos}{kt k2 CH}(hc:X.calm=true)(hN:X.N.Nodup)(hi:X.N[i]? =some x)(hj:X.N[j]? =some y)(cQ:i≠j)
  (hx:X.env.scope.names.lookup x=some .local) (hy:X.env.scope.names.lookup y=some .local) (ha:PA X [a,b] ta)
  (hw:swappedStores [.Tuple [.Name x px, .Name y py] kt pt] (.Tuple [a,b] k2 CH) X.env=pure (some [x,y]))
  (hs:swapsWithSole [.Tuple [.Name x px, .Name y py] kt pt] (.Tuple [a,b] k2 CH) pos.line X.env=pure false:=by rfl):
  PS X (.Assign [.Tuple [.Name x px, .Name y py] kt pt] (.Tuple [a,b] k2 CH) pos) (Wf i j ta):=by
 intro pins s σ H D I h;rw [exec_Assign_arm];refine wpAny_bind (wpAny_standAt ?_);rw [hs];refine wpAny_bind (wpAny_pure ?_);rw [if_neg (by decide)]
 refine wpAny_bind (Tuple_ (thn (ha _ pins s σ H _ I h) λus s1 ⟨vs,H1,I1,r1,q1⟩=>?_));obtain ⟨v,w,e1,q1⟩:=q1;subst e1
 obtain ⟨u1,u2,rfl,rv,uU⟩:∃u1 u2,us= [u1,u2]∧RelV v u1∧RelV w u2:=by
  cases r1 with
  |cons p q=>
   cases q with
   |cons p' q'=>
    cases q';exact ⟨_,_,rfl,p,p'⟩
 refine wpAny_newObj_type ?_ (by show 2≤sizeLine;decide)
 have I2:Inv X pins σ H1 {s1 with heap:=s1.heap.push {cls:= .type "tuple",data:= .seq [u1,u2].toArray}}:=I1.kept (t':=s1.toks) λb o e=>Heap.get?_push_of_some _ e
 rw [hw];refine wpAny_bind (wpAny_pure ?_);show wpAny (model X.prog X.w) X.A (do rule "assign.swapped-stores";let items ←unpackItems (.ref s1.heap.objs.size) 2 none;assignInOrder [λv=>bindName X.env y v,λv=>bindName X.env x v] items.reverse;pure Flow.next) _ _ _
 refine wpAny_bind (wpAny_rule (wpAny_bind (unpackItems_tuple (items:= #[u1,u2]) (I.ok.hd hc) (IsTup.new s1.heap _) λh' Ak=>?_)));have I3:=I2.kept (h':=h') (t':=s1.toks) λb o e=>Ak b o (bW (Heap.lt_size e)) e;show wpAny _ _ (assignInOrder [λv=>bindName X.env y v,λv=>bindName X.env x v] [u2,u1]>>=λ_=>pure Flow.next) _ _ _;refine wpAny_bind (assignInOrder_cons (wpAny_bindName (jT I3 hN hj (.inl hy) uU (λs2 I4=>?_) (.inr hy))));refine assignInOrder_cons (wpAny_bindName (jT I4 hN hi (.inl hx) rv (λs3 I5=>assignInOrder_nil (wpAny_pure ?_)) (.inr hx)));rw [List.set_comm _ _ (Ne.symm cQ)] at I5;exact ⟨_,H1,I5,q1⟩
end
section
variable {X:Cx} {pos:Pos}
def Eo(c:TT)(tb:TS):TS:=λD σ H=>∃W:Nat→St→Hp→Prop,(∃m,W m σ H)∧∀m σ H,W m σ H→
 c σ H λb H1=>if b=true then ∃N:St→Hp→Prop,(∀aw H',N aw H'→∃m',m'<m∧W m' aw H')∧tb {D with nx:=N,ct:=N,bk:=D.nx} σ H1 else D.nx σ H1
theorem xv{c:Expr}{body:List Stmt}{tc:TT}{tb:TS}(hp:PassesOwn (model X.prog X.w) X.A X.env X.xe)(hc:PT X c tc)(hb:jZ X body tb):PS X (.While c body [] pos) (Eo tc tb):=by
 intro pins s σ H D I h;obtain ⟨W,⟨m0,w0⟩,turn⟩:=h;refine wpAny_While (codeAny_whileLoop (λn s'=>∃aw H',Inv X pins aw H' s'∧W n aw H') ?_ m0 ⟨σ,H,I,w0⟩);rintro n s1 ⟨Dm,H1,I1,w1⟩;refine wpAny_passesOwn hp (thn (hc pins s1 Dm H1 _ I1 (turn n Dm H1 w1)) λb s2 ⟨H2,I2,q2⟩=>?_);cases b with
 |true=>
  obtain ⟨N,hN,q2⟩:=q2;rw [if_pos rfl];refine wpAny_passesOwn hp (thn (hb pins s2 Dm H2 _ I2 q2) λf s3 q3=>?_);cases f with
  |next=>
   obtain ⟨sP,H3,I3,n3⟩:=q3;obtain ⟨m',hm,w3⟩:=hN sP H3 n3;exact ⟨m',hm,sP,H3,I3,w3⟩
  |cont=>
   obtain ⟨sP,H3,I3,n3⟩:=q3;obtain ⟨m',hm,w3⟩:=hN sP H3 n3;exact ⟨m',hm,sP,H3,I3,w3⟩
  |brk=>exact q3
  |ret v=>exact q3
 |false=>
  rw [if_neg cK];exact wpAny_execs_nil ⟨Dm,H2,I2,q2⟩
end
structure It where
 go:Nat→Hp→Prop
 yld:Nat→Hp→V→Hp→Prop
 stop:Nat→Hp→Prop
def fz(X:Cx)(pins:List (Addr×Obj))(H:Hp)(b:Addr):Prop:=
 H b=none∧b≠X.env.locals∧b∉X.fs∧(b∈X.ex∨X.s₀.heap.objs.size≤b)∧(∀x c,X.env.cells.lookup x=some c→c≠b)∧∀p∈X.pn++pins,p.1≠b
theorem Inv.G9{X:Cx}{pins:List (Addr×Obj)}{σ:St}{H H':Hp}{s:Shared}{b:Addr}(I:Inv X pins σ H s)(hb:s.heap.objs.size≤b)(hn:H' b=none):fz X pins H' b:=by
 refine ⟨hn,Nat.ne_of_gt (f9 I.lt hb),I.MP hb, .inr (kU I.sz hb),λx c e z=>?_,λp hp z=>?_⟩
 ·obtain ⟨v,q⟩:=I.cell x c e
  exact absurd (f9 q.lt (by rw [z];exact hb)) (kS _)
 ·exact absurd (f9 (Heap.lt_size (I.pin p hp).1) (by rw [z];exact hb)) (kS _)
structure Turn (P:Program) (w:World) (K:PySem.W.Frag) (tg:Expr) (J:It) (fp:List Addr) (it:Addr) (tn:Nat→Heap→Prop):Prop where
 mem:it∈fp
 obj:∀i h,tn i h→∀b∈fp,∃o,h.get? b=some o∧∀v,o.data≠ .cell v
 keep:∀i h h',tn i h→(∀b∈fp,∀o,h.get? b=some o→h'.get? b=some o)→tn i h'
 item:∀(X:Cx),X.prog=P→X.w=w→X.K=K→X.calm=true→∀(i:Nat)(pins:List (Addr×Obj))(s:Shared)(σ:St)(H:Hp)(E:Value→Shared→Prop),Inv X pins σ H s→(∀b∈fp,fz X pins H b)→tn i s.heap→J.go i H→
  wpAny (model P w) X.A (pyNext (.ref it)) (λr s1=>∃u,r=some u∧
   wpAny (model P w) X.A (letOwnedTupleGo tg (.ref it) u) (λ_ s2=>∃x H',Inv X pins σ H' s2∧RelV x u∧J.yld i H x H'∧tn (i+1) s2.heap∧∀b∈fp,H' b=none) E s1) E s
 done:∀(X:Cx),X.prog=P→X.w=w→X.K=K→X.calm=true→∀(i:Nat)(pins:List (Addr×Obj))(s:Shared)(σ:St)(H:Hp)(E:Value→Shared→Prop),Inv X pins σ H s→(∀b∈fp,fz X pins H b)→tn i s.heap→J.stop i H→
  wpAny (model P w) X.A (pyNext (.ref it)) (λr s1=>r=none∧Inv X pins σ H s1) E s
 self:∀(A:Around)(i:Nat)(s:Shared)(Q:Value→Shared→Prop)(E:Value→Shared→Prop),tn i s.heap→Q (.ref it) s→wpAny (model P w) A (pyIter (.ref it)) Q E s
abbrev TI:=St→Hp→(It→Hp→Prop)→Prop
def Qd(X:Cx)(pins:List (Addr×Obj))(σ:St)(tg:Expr)(R:It→Hp→Prop)(v9:Value)(s2:Shared):Prop:=
 ∃(it:Addr)(fp:List Addr)(tn:Nat→Heap→Prop)(J:It)(H':Hp),v9= .ref it∧Inv X pins σ H' s2∧Turn X.prog X.w X.K tg J fp it tn∧tn 0 s2.heap∧(∀b∈fp,fz X pins H' b)∧R J H'
def PI(X:Cx)(tg iter:Expr)(wi:TI):Prop:=
 ∀(pins:List (Addr×Obj))(s:Shared)(σ:St)(H:Hp)(R:It→Hp→Prop),Inv X pins σ H s→wi σ H R→
  wpAny (model X.prog X.w) X.A (eval iter X.env) (λv s1=>wpAny (model X.prog X.w) X.A (pyIter v) (Qd X pins σ tg R) X.xe s1) X.xe s
theorem Hg{M:Model}{A:Around}{E:Value→Shared→Prop}{s:Shared}{tg:Expr}{it:Addr}{u:Value}{o:Obj}{n:String}{vs:Array Value}{Q:Unit→Shared→Prop}(ho:s.heap.get? it=some o)(hc:o.cls= .type n)(hd:o.data= .fields vs)
  (hn: ["enumerate","zip","dict_itemiterator","dict_reverseitemiterator","odict_iterator","itertools.zip_longest","itertools.pairwise"].contains n=false) (hQ:Q () s):wpAny M A (letOwnedTupleGo tg (.ref it) u) Q E s:=by
 unfold letOwnedTupleGo
 cases tg<;>first
  |exact wpAny_pure hQ
  | (cases u<;>first
    |exact wpAny_pure hQ
    | (refine wpAny_bind (wpAny_load ho ?_)
       rw [hc,hd];show wpAny M A (if (["enumerate","zip","dict_itemiterator","dict_reverseitemiterator","odict_iterator","itertools.zip_longest","itertools.pairwise"].contains n&&vs[0]? ==some (rawInt _))=true then _ else _) Q E s;rw [if_neg (by intro h;rw [hn,Bool.false_and] at h;cases h)]
       exact wpAny_pure hQ))
def EB(K:PySem.W.Frag)(a:Addr):It:=
 ⟨λi H=>∃xs x,aC K H a xs∧xs[i]? =some x,λi H x H'=>H'=H∧∀xs,aC K H a xs→xs[i]? =some x,λi H=>∃xs,aC K H a xs∧xs.length≤i⟩
def zv(lo:Int)(n:Nat):It:=⟨λi _=>i<n,λi H x H'=>H'=H∧x= .int (lo+i),λi _=>n≤i⟩
theorem C9{P:Program}{w:World}{K:PySem.W.Frag}{tg:Expr}(a it:Addr):Turn P w K tg (EB K a) [it] it (λi h=>h.IsListIter it a i) where
 mem:=by simp
 obj:=λi h st b hb=>by
  have e:b=it:=by simpa using hb
  subst e;obtain ⟨o,e,c,d⟩:=st;exact ⟨o,e,λv z=>by rw [d] at z;cases z⟩
 keep:=λi h h' st k=>st.at λo e=>k it (by simp) o e
 item:=by
  intro X hP hw hK hc i pins s σ H E I hf st hg;subst hP hw hK;obtain ⟨xs,x,hq,hx⟩:=hg;obtain ⟨its,rv,p,hz⟩:=I.list hq;obtain ⟨u,hu,ru⟩:=rv.get hx;obtain ⟨f0,f1,f2,f3,f4,f5⟩:=hf it (by simp)
  refine wpAny_pyNext_list_item st p.isList (x:=u) (by simpa using hu) λh' ag sb=>?_
  have I1:Inv X pins σ H {s with heap:=h'}:=I.turned (t':=s.toks) (λb o hb e=>(sb.2 b hb).trans e) f0 f1 f3 f4 f5
  obtain ⟨o,e,c,d⟩:=id ag;exact ⟨u,rfl,Hg (s:={s with heap:=h'}) e c d (by decide) ⟨x,H,I1,ru,⟨rfl,λys hy=>by rw [I.xn hy hq];exact hx⟩,ag,λb hb=>(hf b hb).1⟩⟩
 done:=by
  intro X hP hw hK hc i pins s σ H E I hf st hg;subst hP hw hK;obtain ⟨xs,hq,hx⟩:=hg;obtain ⟨its,rv,p,hz⟩:=I.list hq;obtain ⟨f0,f1,f2,f3,f4,f5⟩:=hf it (by simp)
  have hl:=rv.length;exact wpAny_pyNext_list_end (I.ok.hd hc) st p.isList (by simp;omega) λh' eb=>⟨rfl,I.turned (t':=s.toks) (λb o hb e=>eb b o hb e) f0 f1 f3 f4 f5⟩
 self:=λ_ _ _ _ _ st h=>wpAny_pyIter_listiter st h
theorem A7{P:Program}{w:World}{K:PySem.W.Frag}{tg:Expr}(it:Addr)(lo:Int)(n:Nat):Turn P w K tg (zv lo n) [it] it (λi h=>IsRangeIter h it (lo+(i:Nat)*1) ((n:Int)-(i:Nat)) 1) where
 mem:=by simp
 obj:=λi h st b hb=>by
  have e:b=it:=by simpa using hb
  subst e
  exact ⟨_,st,λv z=>by
   have z':Data.fields _=Data.cell v:=z;cases z'⟩
 keep:=λi h h' st k=>k it (by simp) _ st
 item:=by
  intro X hP hw hK hc i pins s σ H E I hf st hg;subst hP hw hK;obtain ⟨f0,f1,f2,f3,f4,f5⟩:=hf it (by simp)
  have W:=Walks.range (prog:=X.prog) (w:=X.w) (I.ok.hd hc) it lo 1 n;refine W.item i s _ _ hg st λv h' tk hv ag kk=>?_;obtain ⟨t,rfl⟩:=hv;have I1:Inv X pins σ H {s with heap:=h',toks:=tk}:=I.turned (λb o hb e=>kk b o (by simpa using hb) e) f0 f1 f3 f4 f5
  refine ⟨_,rfl,Hg (s:={s with heap:=h',toks:=tk}) (n:="range_iterator") ag rfl rfl (by decide) ⟨.int (lo+i),H,I1,⟨t,?_⟩,⟨rfl,rfl⟩,ag,λb hb=>(hf b hb).1⟩⟩
  rw [Int.mul_one]
 done:=by
  intro X hP hw hK hc i pins s σ H E I hf st hg;subst hP hw hK;obtain ⟨f0,f1,f2,f3,f4,f5⟩:=hf it (by simp)
  exact wpAny_pyNext_range_end (I.ok.hd hc) st (by have:n≤i:=hg;omega) λh' eb=>⟨rfl,I.turned (t':=s.toks) (λb o hb e=>eb b o hb e) f0 f1 f3 f4 f5⟩
 self:=λ_ _ _ _ _ st h=>wpAny_pyIter_rangeiter st h
section
variable {X:Cx} {tg:Expr}
def O0(K:PySem.W.Frag)(tl:TE):TI:=λσ H R=>tl σ H λx H1=>∃a,x= .ref a∧(∃xs,aC K H1 a xs)∧R (EB K a) H1
theorem jQ{l:Expr}{tl:TE}(hl:PE X l tl):PI X tg l (O0 X.K tl):=by
 intro pins s σ H R I h;refine thn (hl pins s σ H _ I h) λv s1 ⟨x,H1,I1,r1,q1⟩=>?_;obtain ⟨a,e,⟨xs,hq⟩,q⟩:=q1;subst e;cases r1;obtain ⟨its,rv,p,hz⟩:=I1.list hq;refine wpAny_pyIter_list p.isList ?_;refine ⟨s1.heap.objs.size,[s1.heap.objs.size],_,_,H1,rfl,I1.kept (t':=s1.toks) λb o e=>Heap.get?_push_of_some _ e,C9 a _,⟨_,Heap.get?_push_size _ rfl,rfl,rfl⟩,λb hb=>?_,q⟩;have e:b=s1.heap.objs.size:=by simpa using hb
 subst e;exact I1.G9 (aU _) (I1.hok.fresh (aU _))
theorem xw{pins:List (Addr×Obj)}{σ:St}{H:Hp}{s:Shared}{R:It→Hp→Prop}{E:Value→Shared→Prop}{lo hi:Int}{t u v:Tok}{tk:Nat}(I:Inv X pins σ H s)(h1: -(2^62)≤lo)(h2:lo<2^62)(h3: -(2^62)≤hi)(h4:hi<2^62)
  (q:R (zv lo (hi-lo).toNat) H):wpAny (model X.prog X.w) X.A (pyIter (.ref s.heap.objs.size)) (Qd X pins σ tg R) E {s with heap:=s.heap.push {cls:= .type "range",data:= .fields #[.int lo t, .int hi u, .int 1 v]},toks:=tk}:=by
 refine wpAny_pyIter_range (IsRange.new ..) (small_one h1 h2 h3 h4) ?_;have I1:Inv X pins σ H {s with heap:=s.heap.push {cls:= .type "range",data:= .fields #[.int lo t, .int hi u, .int 1 v]},toks:=tk}:=I.kept λb o e=>Heap.get?_push_of_some _ e
 refine ⟨(s.heap.push {cls:= .type "range",data:= .fields #[.int lo t, .int hi u, .int 1 v]}).objs.size,[(s.heap.push {cls:= .type "range",data:= .fields #[.int lo t, .int hi u, .int 1 v]}).objs.size],_,_,H,rfl,
  I1.kept (t':=tk) λb o e=>Heap.get?_push_of_some _ e,A7 _ lo (hi-lo).toNat,?_,λb hb=>?_,q⟩
 ·have e1:lo+((0:Nat):Int)*1=lo:=by simp
  have e2:(((hi-lo).toNat:Nat):Int)-((0:Nat):Int)=Builtin.Range.rangeSize lo hi 1:=by rw [rangeSize_one];split<;>omega
  show IsRangeIter _ _ (lo+((0:Nat):Int)*1) ((((hi-lo).toNat:Nat):Int)-((0:Nat):Int)) 1;rw [e1,e2];exact Heap.get?_push_size _ rfl
 ·have e:b=(s.heap.push {cls:= .type "range",data:= .fields #[.int lo t, .int hi u, .int 1 v]}).objs.size:=by simpa using hb
  subst e;exact I1.G9 (aU _) (I1.hok.fresh (aU _))
def O1(ta:TA):TI:=λσ H R=>ta σ H λvs H1=>∃j:Int,vs= [.int j]∧-(2^62)≤j∧j<2^62∧R (zv 0 j.toNat) H1
def O2(ta:TA):TI:=λσ H R=>ta σ H λvs H1=>∃i j:Int,vs= [.int i, .int j]∧(-(2^62)≤i∧i<2^62∧-(2^62)≤j∧j<2^62)∧R (zv i (j-i).toNat) H1
theorem iL{a:Expr}{ta:TA}{p pos:Pos}(hg:Gl X "range")(hm:X.mg "range"=none)(ha:PA X [a] ta)(hs:starEach [a] X.env= [(false,eval a X.env)]:=by rfl):PI X tg (.Call (.Name "range" p) [a] [] pos) (O1 ta):=by
 intro pins s σ H R I h;refine Call_ (hZ I hg hm boot_range (PyProof.Rows.callWith_type1 (thn (ha pos pins s σ H _ I h) λus s1 ⟨vs,H1,I1,r1,q1⟩=>?_) hs rfl));obtain ⟨j,e,q1,q2,q⟩:=q1;subst e;cases r1 with
 |cons r rr=>
  cases rr;obtain ⟨t,rfl⟩:=r;exact call_range_1 (xw I1 (by omega) (by omega) q1 q2 (by simpa using q))
theorem CC{a b:Expr}{ta:TA}{p pos:Pos}(hg:Gl X "range")(hm:X.mg "range"=none)(ha:PA X [a,b] ta)(hs:starEach [a,b] X.env= [(false,eval a X.env),(false,eval b X.env)]:=by rfl)(j5:starEach [b] X.env= [(false,eval b X.env)]:=by rfl):
  PI X tg (.Call (.Name "range" p) [a,b] [] pos) (O2 ta):=by
 intro pins s σ H R I h;refine Call_ (hZ I hg hm boot_range (PyProof.Rows.callWith_type1 (thn (ha pos pins s σ H _ I h) λus s1 ⟨vs,H1,I1,r1,q1⟩=>?_) (by rw [hs,j5]) (by rw [j5];rfl)))
 obtain ⟨i,j,e,⟨q1,q2,q3,q4⟩,q⟩:=q1;subst e;cases r1 with
 |cons r rr=>
  cases rr with
  |cons r' rr=>
   cases rr;obtain ⟨t,rfl⟩:=r;obtain ⟨t',rfl⟩:=r';exact call_range_2 (xw I1 q1 q2 q3 q4 q)
def V9(wi:TI)(g:TG)(tb:TS):TS:=λD σ H=>wi σ H λJ H1=>∃W:Nat→Nat→St→Hp→Prop,(∃m,W 0 m σ H1)∧∀i m σ H,W i m σ H→
 (J.stop i H∧D.nx σ H)∨(J.go i H∧∃N:St→Hp→Prop,(∀aw H',N aw H'→∃m',m'<m∧W (i+1) m' aw H')∧∀x H',J.yld i H x H'→g x σ H' λcD H2=>tb {D with nx:=N,ct:=N,bk:=D.nx} cD H2)
def kq(fp:List Addr)(h:Heap):List (Addr×Obj):=fp.filterMap λb=>(h.get? b).map λo=>(b,o)
theorem dA{fp:List Addr}{h:Heap}{b:Addr}{o:Obj}(hb:b∈fp)(e:h.get? b=some o):(b,o)∈kq fp h:=List.mem_filterMap.mpr ⟨b,hb,by rw [e];rfl⟩
theorem Cu{fp:List Addr}{h:Heap}{p:Addr×Obj}(hp:p∈kq fp h):p.1∈fp∧h.get? p.1=some p.2:=by
 obtain ⟨b,hb,e⟩:=List.mem_filterMap.mp hp;cases q:h.get? b with
 |none=>rw [q] at e;cases e
 |some o=>
  rw [q] at e;have e':(b,o)=p:=Option.some.inj e;subst e';exact ⟨hb,q⟩
theorem Inv.pinned{pins:List (Addr×Obj)}{σ:St}{H:Hp}{s:Shared}{fp:List Addr}(I:Inv X pins σ H s)(hf:∀b∈fp,fz X pins H b)(ho:∀b∈fp,∃o,s.heap.get? b=some o∧∀v,o.data≠ .cell v):Inv X (pins++kq fp s.heap) σ H s:=
 I.pS λp hp=>(cE.mp hp).elim (λz=>I.pin p (eV _ z)) λz=>by
  obtain ⟨hb,e⟩:=Cu z;obtain ⟨f0,f1,f2,_⟩:=hf p.1 hb;obtain ⟨o,e',d⟩:=ho p.1 hb;rw [e] at e';cases e';exact ⟨e,f0,f1,f2,d⟩
theorem Inv.iw{pins pl:List (Addr×Obj)}{σ:St}{H:Hp}{s:Shared}(I:Inv X (pins++pl) σ H s):Inv X pins σ H s:=I.pS λp hp=>I.pin p (eV _ (r8 _ hp))
theorem h8{iter:Expr}{body:List Stmt}{wi:TI}{g:TG}{tb:TS}{pos:Pos}(hp:PassesOwn (model X.prog X.w) X.A X.env X.xe)(hc:X.calm=true)(hi:PI X tg iter wi)(hg:PG X tg g)(hb:jZ X body tb)
  (hs:∀x,foldedSetIterable iter X.env x=pure x:=by intro _;rfl):PS X (.For tg iter body [] pos) (V9 wi g tb):=by
 intro pins s σ H D I h;refine wpAny_For (thn (hi pins s σ H _ I h) λv s1 h1=>thn h1 λv9 s2 h2=>?_) hs;obtain ⟨it,fp,tn,J,H2,e,I2,T,kz,f2,W,⟨m0,w0⟩,turn⟩:=h2;subst e;have stat:∀{H':Hp},(∀b∈fp,H' b=none)→∀b∈fp,fz X pins H' b:=λhn b hb=>⟨hn b hb,(f2 b hb).2⟩;refine codeAny_forLoop_any (λn s'=>∃i aw H',Inv X pins aw H' s'∧tn i s'.heap∧(∀b∈fp,H' b=none)∧W i n aw H') ?_ m0 ⟨0,σ,H2,I2,kz,λb hb=>(f2 b hb).1,w0⟩;rintro n s3 ⟨i,sP,H3,I3,sM,RK,w3⟩
 rcases turn i n sP H3 w3 with ⟨stop,qn⟩ | ⟨go,N,hN,step⟩
 ·refine wpAny_passesOwn hp (thn (T.done X rfl rfl rfl hc i pins s3 sP H3 X.xe I3 (stat RK) sM stop) λr s4 ⟨hr,I4⟩=>?_)
  subst hr;exact wpAny_execs_nil ⟨sP,H3,I4,qn⟩
 ·refine wpAny_passesOwn hp (thn (T.item X rfl rfl rfl hc i pins s3 sP H3 X.xe I3 (stat RK) sM go) λr s4 ⟨u,hr,h4⟩=>?_)
  subst hr;refine wpAny_passesOwn hp (thn h4 λ_ s5 ⟨x,H5,I5,r5,y5,sN,oe⟩=>?_);have Nc:=I5.pinned (stat oe) (T.obj _ _ sN);refine wpAny_passesOwn hp (thn (hg _ s5 sP H5 x u _ Nc r5 (step x H5 y5)) λ_ s6 ⟨σ6,H6,I6,q6⟩=>?_);refine wpAny_passesOwn hp (thn (hb _ s6 σ6 H6 _ I6 q6) λf s7 q7=>?_)
  have again:∀{qm:St}{H7:Hp},Inv X (pins++kq fp s5.heap) qm H7 s7→N qm H7→∃m,m<n∧∃i aw H',Inv X pins aw H' s7∧tn i s7.heap∧(∀b∈fp,H' b=none)∧W i m aw H':=λ {qm H7} I7 n7=>by
   obtain ⟨m',hm,w7⟩:=hN qm H7 n7;refine ⟨m',hm,i+1,qm,H7,I7.iw,T.keep _ _ _ sN λb hb o e=>(I7.pin (b,o) (eV _ (eV _ (dA hb e)))).1,λb hb=>?_,w7⟩;obtain ⟨o,e,d⟩:=T.obj _ _ sN b hb;exact (I7.pin (b,o) (eV _ (eV _ (dA hb e)))).2.1
  cases f with
  |next=>obtain ⟨qm,H7,I7,n7⟩:=q7;exact again I7 n7
  |cont=>obtain ⟨qm,H7,I7,n7⟩:=q7;exact again I7 n7
  |brk=>obtain ⟨qm,H7,I7,q7⟩:=q7;exact ⟨qm,H7,I7.iw,q7⟩
  |ret v=>obtain ⟨x7,qm,H7,I7,r7,q7⟩:=q7;exact ⟨x7,qm,H7,I7.iw,r7,q7⟩
end
theorem EW{K:PySem.W.Frag}{a:Addr}{xs:List V}{g:TG}{tb:TS}{D:Ends}{σ:St}{H:Hp}(Pv:Nat→St→Hp→Prop)(h0:Pv 0 σ H)(hl:∀i σ H,i≤xs.length→Pv i σ H→aC K H a xs)
  (hs:∀i x σ H,xs[i]? =some x→Pv i σ H→g x σ H λcD H2=>tb {D with nx:=Pv (i+1),ct:=Pv (i+1),bk:=D.nx} cD H2) (hd:∀σ H,Pv xs.length σ H→D.nx σ H):
  ∃W:Nat→Nat→St→Hp→Prop,(∃m,W 0 m σ H)∧∀i m σ H,W i m σ H→
   ((EB K a).stop i H∧D.nx σ H)∨((EB K a).go i H∧∃N:St→Hp→Prop,(∀aw H',N aw H'→∃m',m'<m∧W (i+1) m' aw H')∧∀x H',(EB K a).yld i H x H'→g x σ H' λcD H2=>tb {D with nx:=N,ct:=N,bk:=D.nx} cD H2):=by
 refine ⟨λi m σ H=>m=xs.length-i∧i≤xs.length∧Pv i σ H,⟨xs.length,by simp,cM _,h0⟩,?_⟩
 rintro i m σ H ⟨rfl,hi,p⟩;have q:=hl i σ H hi p
 by_cases br:i<xs.length
 ·refine .inr ⟨⟨xs,xs[i],q,by simp [br]⟩,Pv (i+1),λaw H' p'=>⟨xs.length-(i+1),by omega,rfl,br,p'⟩,λx H' y=>?_⟩
  obtain ⟨e,y⟩:=y;subst e;exact hs i x σ _ (y xs q) p
 ·have e:i=xs.length:=by omega
  subst e;exact .inl ⟨⟨xs,q,aU _⟩,hd σ H p⟩
theorem j3{lo:Int}{n:Nat}{g:TG}{tb:TS}{D:Ends}{σ:St}{H:Hp}(Pv:Nat→St→Hp→Prop)(h0:Pv 0 σ H)
  (hs:∀i σ H,i<n→Pv i σ H→g (.int (lo+i)) σ H λcD H2=>tb {D with nx:=Pv (i+1),ct:=Pv (i+1),bk:=D.nx} cD H2) (hd:∀σ H,Pv n σ H→D.nx σ H):
  ∃W:Nat→Nat→St→Hp→Prop,(∃m,W 0 m σ H)∧∀i m σ H,W i m σ H→
   ((zv lo n).stop i H∧D.nx σ H)∨((zv lo n).go i H∧∃N:St→Hp→Prop,(∀aw H',N aw H'→∃m',m'<m∧W (i+1) m' aw H')∧∀x H',(zv lo n).yld i H x H'→g x σ H' λcD H2=>tb {D with nx:=N,ct:=N,bk:=D.nx} cD H2):=by
 refine ⟨λi m σ H=>m=n-i∧i≤n∧Pv i σ H,⟨n,by simp,cM _,h0⟩,?_⟩
 rintro i m σ H ⟨rfl,hi,p⟩
 by_cases br:i<n
 ·refine .inr ⟨br,Pv (i+1),λaw H' p'=>⟨n-(i+1),by omega,rfl,br,p'⟩,λx H' y=>?_⟩
  obtain ⟨e,y⟩:=y;subst e y;exact hs i σ _ br p
 ·have e:i=n:=by omega
  subst e;exact .inl ⟨aU _,hd σ H p⟩
theorem F6{c:TT}{tb:TS}{D:Ends}{σ:St}{H:Hp}(Pv:St→Hp→Prop)(μ:St→Hp→Nat)(h0:Pv σ H)
  (hs:∀σ H,Pv σ H→c σ H λb H1=>if b=true then tb {D with nx:=λaw H'=>Pv aw H'∧μ aw H'<μ σ H,ct:=λaw H'=>Pv aw H'∧μ aw H'<μ σ H,bk:=D.nx} σ H1 else D.nx σ H1)
  (mono:∀σ H Q Q',(∀b H1,Q b H1→Q' b H1)→c σ H Q→c σ H Q'):Eo c tb D σ H:=by
 refine ⟨λm σ H=>m=μ σ H∧Pv σ H,⟨_,rfl,h0⟩,?_⟩;rintro m σ H ⟨rfl,p⟩;refine mono σ H _ _ (λb H1 q=>?_) (hs σ H p);cases b with
 |true=>exact ⟨_,λaw H' ⟨p',l⟩=>⟨_,l,rfl,p'⟩,q⟩
 |false=>exact q
abbrev R2:=V→V→Hp→VK→Prop
def OpR(X:Cx)(f:Value→Value→Sem Value)(r:R2):Prop:=
 ∀(pins:List (Addr×Obj))(s:Shared)(σ:St)(H:Hp)(x y:V)(v u:Value)(Q:VK),Inv X pins σ H s→RelV x v→RelV y u→r x y H Q→
  wpAny (model X.prog X.w) X.A (f v u) (EP X pins σ Q) X.xe s
def cN(X:Cx)(f:Value)(r:List V→Hp→VK→Prop):Prop:=
 ∀(pins:List (Addr×Obj))(s:Shared)(σ:St)(H:Hp)(xs:List V)(us:List Value)(Q:VK),Inv X pins σ H s→Vals xs us→r xs H Q→
  wpAny (model X.prog X.w) X.A (call f us) (EP X pins σ Q) X.xe s
def Qe(X:Cx)(r:V→Hp→(Bool→Hp→Prop)→Prop):Prop:=
 ∀(pins:List (Addr×Obj))(s:Shared)(σ:St)(H:Hp)(x:V)(v:Value)(Q:Bool→Hp→Prop),Inv X pins σ H s→RelV x v→r x H Q→
  wpAny (model X.prog X.w) X.A (truthy v) (TP X pins σ Q) X.xe s
def zd(r:R2)(ta tb:TE):TE:=λσ H Q=>ta σ H λx H1=>tb σ H1 λy H2=>r x y H2 Q
def rI(C:Int→Int→Prop)(g:Int→Int→V):R2:=λx y H Q=>∃i j,x= .int i∧y= .int j∧C i j∧Q (g i j) H
def CJ(g:Int→Int→V):R2:=λx y H Q=>∃i j,x= .int i∧y= .int j∧Q (g i j) H
section
variable {X:Cx} {a b c:Expr} {ta tb tc:TE} {pos:Pos}
theorem Gr(ha:PE X a ta)(hb:PE X b tb){pins:List (Addr×Obj)}{s:Shared}{σ:St}{H:Hp}{R:V→V→Hp→Prop}(I:Inv X pins σ H s)
  (h:ta σ H λx H1=>tb σ H1 λy H2=>R x y H2) {Q:Value→Shared→Prop} {f:Value→Value→Sem Value}
  (hf:∀v u s2 x y H2,Inv X pins σ H2 s2→RelV x v→RelV y u→R x y H2→wpAny (model X.prog X.w) X.A (f v u) Q X.xe s2):
  wpAny (model X.prog X.w) X.A (eval a X.env) (λv s₁=>wpAny (model X.prog X.w) X.A (eval b X.env) (λu Em=>wpAny (model X.prog X.w) X.A (f v u) Q X.xe Em) X.xe s₁) X.xe s:=by
 refine thn (ha pins s σ H _ I h) λv s1 ⟨x,H1,I1,r1,q1⟩=>?_;refine thn (hb pins s1 σ H1 _ I1 q1) λu s2 ⟨y,H2,I2,r2,q2⟩=>?_;exact hf v u s2 x y H2 I2 r1 r2 q2
theorem bU{op:Operator}{r:R2}(ho:OpR X (binaryOp op) r)(ha:PE X a ta)(hb:PE X b tb):PE X (.BinOp a op b pos) (zd r ta tb):=by
 intro pins s σ H Q I h;exact wpAny_BinOp (Gr ha hb I h λv u s2 x y H2 I2 rx ry q=>ho pins s2 σ H2 x y v u Q I2 rx ry q)
theorem KW{f:Value→Value→Sem Value}{C:Int→Int→Prop}{g:Int→Int→Int}
  (rule:∀(i j:Int)(t u:Tok)(s:Shared)(Q:Value→Shared→Prop)(E:Value→Shared→Prop),C i j→Q (.int (g i j) s.toks) {s with toks:=s.toks+1}→wpAny (model X.prog X.w) X.A (f (.int i t) (.int j u)) Q E s):
  OpR X f (rI C λi j=> .int (g i j)):=by
 intro pins s σ H x y v u Q I rx ry h;obtain ⟨i,j,rfl,rfl,hc,q⟩:=h;obtain ⟨t,rfl⟩:=rx;obtain ⟨t',rfl⟩:=ry;exact rule i j t t' s _ _ hc ⟨.int (g i j),H,I.tok _,⟨_,rfl⟩,q⟩
theorem U0{f:Value→Value→Sem Value}{g:Int→Int→Int}
  (rule:∀(i j:Int)(t u:Tok)(s:Shared)(Q:Value→Shared→Prop)(E:Value→Shared→Prop),Q (.int (g i j) s.toks) {s with toks:=s.toks+1}→wpAny (model X.prog X.w) X.A (f (.int i t) (.int j u)) Q E s):
  OpR X f (CJ λi j=> .int (g i j)):=by
 intro pins s σ H x y v u Q I rx ry h;obtain ⟨i,j,rfl,rfl,q⟩:=h;obtain ⟨t,rfl⟩:=rx;obtain ⟨t',rfl⟩:=ry;exact rule i j t t' s _ _ ⟨.int (g i j),H,I.tok _,⟨_,rfl⟩,q⟩
theorem ID{f:Value→Value→Sem Value}{g:Int→Int→Bool}
  (rule:∀(i j:Int)(t u:Tok)(s:Shared)(Q:Value→Shared→Prop)(E:Value→Shared→Prop),Q (.bool (g i j)) s→wpAny (model X.prog X.w) X.A (f (.int i t) (.int j u)) Q E s):
  OpR X f (CJ λi j=> .bl (g i j)):=by
 intro pins s σ H x y v u Q I rx ry h;obtain ⟨i,j,rfl,rfl,q⟩:=h;obtain ⟨t,rfl⟩:=rx;obtain ⟨t',rfl⟩:=ry;exact rule i j t t' s _ _ ⟨.bl (g i j),H,I,rfl,q⟩
def LS(i j:Int):Prop:=0<j∧j<1073741824
def P6(i j:Int):Prop:=0≤j∧j≤1000000∧i.natAbs<2^64
def F9(i j:Int):Prop:=(-(2^64)<i∧i<2^64)∨(-(2^64)<j∧j<2^64)
theorem F9.ok{i j:Int}(h:F9 i j):IntMulOk i j:=by
 rcases h with ⟨h1,h2⟩ | ⟨h1,h2⟩
 ·exact .of_left (intBits_le_64 h1 h2)
 ·exact .of_right (intBits_le_64 h1 h2)
theorem fR:OpR X (binaryOp .Add) (CJ λi j=> .int (i+j)):=U0 λ_ _ _ _ _ _ _ q=>add_int q
theorem m6:OpR X (binaryOp .Mult) (rI F9 λi j=> .int (i*j)):=KW λ_ _ _ _ _ _ _ hc q=>mul_int q hc.ok
theorem IF:OpR X (binaryOp .FloorDiv) (rI LS λi j=> .int (i / j)):=KW λi j _ _ _ _ _ hc q=>by
 have h1:(0:Int)<j:=hc.1;have h2:j<1073741824:=hc.2;exact floordiv_int (by omega) (by rw [Int.fdiv_eq_ediv_of_nonneg i (by omega)];exact q) (.inl (PyProof.noPylong_small (by omega)))
theorem mZ:OpR X (binaryOp .Mod) (rI (λ_ j=>0<j) λi j=> .int (i%j)):=KW λi j _ _ _ _ _ hc q=>by
 have h1:(0:Int)<j:=hc;exact mod_int' (by omega) (by rw [Int.fmod_eq_emod_of_nonneg i (by omega)];exact q)
theorem K0:OpR X (binaryOp .Pow) (rI P6 λi j=> .int (i^j.toNat)):=KW λ_ _ _ _ _ _ _ hc q=>pow_int_small hc.1 hc.2.1 hc.2.2 q
end
def VH:V→V→Bool
 | .aM, .aM=>true| .aM, .int _=>true| .int _, .aM=>true| .aM, .bl _=>true| .bl _, .aM=>true| .aM, .str _=>true| .str _, .aM=>true
 | .int _, .int _=>true| .bl _, .bl _=>true| .str _, .str _=>true| .su _, .su _=>true
 | .int _, .str _=>true| .str _, .int _=>true| .bl _, .str _=>true| .str _, .bl _=>true
 |_,_=>false
def rNe:R2:=λx y H Q=>VH x y=true∧Q (.bl (!decide (x=y))) H
theorem GH{i j:Int}:decide (V.int i=V.int j)=(i==j):=by
 rw [vz];simp
theorem JX{i j:Bool}:decide (V.bl i=V.bl j)=(i==j):=by
 rw [vz];simp
theorem GI{i j:Str}:decide (V.str i=V.str j)=(i==j):=by
 rw [vz];simp
theorem GG{i j:Array UInt8}:decide (V.su i=V.su j)=(i.toList==j.toList):=by
 rw [vz];cases i;cases j;simp
section
variable {X:Cx} {a b c:Expr} {ta tb tc:TE} {pos:Pos}
theorem cJ{pins:List (Addr×Obj)}{σ:St}{H:Hp}{s:Shared}{Q:VK}{k k':Bool}(I:Inv X pins σ H s)(q:Q (.bl k) H)(e:k=k'):EP X pins σ Q (.bool k') s:=by
 subst e;exact ⟨.bl k,H,I,rfl,q⟩
theorem Pp:OpR X (compareOp .NotEq) rNe:=by
 intro pins s σ H x y v u Q I rx ry h;obtain ⟨hs,q⟩:=h;cases x with
 |aM=>
  cases rx;cases y with
  |aM=>cases ry;exact PySem.EqNone.ne_none_none (cJ I q (by simp))
  |bl j=>cases ry;exact PySem.EqNone.ne_none_bool (cJ I q (by simp))
  |int j=>obtain ⟨t',rfl⟩:=ry;exact PySem.EqNone.ne_none_int (cJ I q (by simp))
  |str j=>obtain ⟨t',rfl⟩:=ry;exact PySem.EqNone.ne_none_str (cJ I q (by simp))
  |_=>exact absurd (show false=true from hs) cK
 |bl i=>
  cases rx;cases y with
  |aM=>cases ry;exact PySem.EqNone.ne_bool_none (cJ I q (by simp))
  |bl j=>cases ry;exact ne_bool (cJ I q (congrArg not JX))
  |str j=>obtain ⟨t',rfl⟩:=ry;exact PySem.EqMixed.ne_bool_str (cJ I q (by simp))
  |_=>exact absurd (show false=true from hs) cK
 |int i=>
  obtain ⟨t,rfl⟩:=rx;cases y with
  |aM=>cases ry;exact PySem.EqNone.ne_int_none (cJ I q (by simp))
  |int j=>obtain ⟨t',rfl⟩:=ry;exact ne_int (cJ I q (congrArg not GH))
  |str j=>obtain ⟨t',rfl⟩:=ry;exact PySem.EqMixed.ne_int_str (cJ I q (by simp))
  |_=>exact absurd (show false=true from hs) cK
 |str i=>
  obtain ⟨t,rfl⟩:=rx;cases y with
  |aM=>cases ry;exact PySem.EqNone.ne_str_none (cJ I q (by simp))
  |bl j=>cases ry;exact PySem.EqMixed.ne_str_bool (cJ I q (by simp))
  |int j=>obtain ⟨t',rfl⟩:=ry;exact PySem.EqMixed.ne_str_int (cJ I q (by simp))
  |str j=>obtain ⟨t',rfl⟩:=ry;exact ne_str (cJ I q (congrArg not GI))
  |_=>exact absurd (show false=true from hs) cK
 |su i=>
  obtain ⟨t,rfl⟩:=rx;cases y with
  |su j=>obtain ⟨t',rfl⟩:=ry;exact PySem.W.ne_bytes (cJ I q (congrArg not GG))
  |_=>exact absurd (show false=true from hs) cK
 |_=>cases y<;>exact absurd (show false=true from hs) cK
theorem Cw:OpR X (compareOp .Lt) (CJ λi j=> .bl (decide (i<j))):=ID λ_ _ _ _ _ _ _ q=>lt_int q
theorem Po:OpR X (compareOp .LtE) (CJ λi j=> .bl (decide (i≤j))):=ID λ_ _ _ _ _ _ _ q=>le_int q
theorem IG:OpR X (compareOp .Gt) (CJ λi j=> .bl (decide (j<i))):=ID λ_ _ _ _ _ _ _ q=>gt_int q
theorem KZ:OpR X (compareOp .Is) (λx y H Q=>y= .aM∧Q (.bl (decide (x= .aM))) H):=by
 intro pins s σ H x y v u Q I rx ry h;obtain ⟨rfl,q⟩:=h;cases ry;refine is_none_gen (cJ I q ?_)
 cases x<;>first
  | (cases rx;rfl)
  | (obtain ⟨t,rfl⟩:=rx;rfl)
theorem IH:OpR X (compareOp .IsNot) (λx y H Q=>y= .aM∧Q (.bl (!decide (x= .aM))) H):=by
 intro pins s σ H x y v u Q I rx ry h;obtain ⟨rfl,q⟩:=h;cases ry;refine isnot_none_gen (cJ I q ?_)
 cases x<;>first
  | (cases rx;rfl)
  | (obtain ⟨t,rfl⟩:=rx;rfl)
theorem OpR.or{f:Value→Value→Sem Value}{r r':R2}(h:OpR X f r)(h':OpR X f r'):OpR X f (λx y H Q=>r x y H Q∨r' x y H Q):=by
 intro pins s σ H x y v u Q I rx ry q
 rcases q with q|q
 ·exact h pins s σ H x y v u Q I rx ry q
 ·exact h' pins s σ H x y v u Q I rx ry q
theorem bF(b:Expr){op:CmpOp}(h:op≠ .In:=by decide)(h2:op≠ .NotIn:=by decide):behindInMarks op b=false:=by
 have e1:(op==CmpOp.In)=false:=by cases op<;>first|rfl|exact absurd rfl h
 have e2:(op==CmpOp.NotIn)=false:=by cases op<;>first|rfl|exact absurd rfl h2
 cases b<;>simp [behindInMarks,e1,e2]
theorem AI{op:CmpOp}{r:R2}(ho:OpR X (compareOp op) r)(ha:PE X a ta)(hb:PE X b tb)(hm:behindInMarks op b=false):PE X (.Compare a [op] [b] pos) (zd r ta tb):=by
 intro pins s σ H Q I h;exact wpAny_Compare1 (Gr ha hb I h λv u s2 x y H2 I2 rx ry q=>ho pins s2 σ H2 x y v u Q I2 rx ry q) hm
def C5(t:TE):TT:=λσ H Q=>t σ H λx H'=>∃k,x= .bl k∧Q k H'
theorem gJ{op:CmpOp}{r:R2}(ho:OpR X (compareOp op) r)(ha:PE X a ta)(hb:PE X b tb)(hm:behindInMarks op b=false):PT X (.Compare a [op] [b] pos) (C5 (zd r ta tb)):=by
 intro pins s σ H Q I h
 refine wpAny_isTrue_Compare1 (thn (ha pins s σ H _ I h) λv s1 ⟨x,H1,I1,r1,q1⟩=>thn (hb pins s1 σ H1 _ I1 q1) λu s2 ⟨y,H2,I2,r2,q2⟩=>
  thn (ho pins s2 σ H2 x y v u _ I2 r1 r2 q2) λc s3 ⟨z,H3,I3,r3,k,e,q3⟩=>?_) hm
 subst e;cases r3;exact wpAny_truthy_bool ⟨H3,I3,q3⟩
def zc(r r':R2)(ta tb tc:TE):TE:=λσ H Q=>ta σ H λx H1=>tb σ H1 λy H2=>r x y H2 λz H3=>∃k,z= .bl k∧
 (if k=true then tc σ H3 λw' H4=>r' y w' H4 Q else Q (.bl false) H3)
theorem FK{op oH:CmpOp}{r r':R2}(ho:OpR X (compareOp op) r)(kY:OpR X (compareOp oH) r')(ha:PE X a ta)(hb:PE X b tb)(hc:PE X c tc)
  (hm:lastMarks [op,oH] [b,c]=false:=by with_unfolding_all rfl):PE X (.Compare a [op,oH] [b,c] pos) (zc r r' ta tb tc):=by
 intro pins s σ H Q I h
 refine Compare_chain (thn (ha pins s σ H _ I h) λv s1 ⟨x,H1,I1,r1,q1⟩=>chain_link (thn (hb pins s1 σ H1 _ I1 q1) λu s2 ⟨y,H2,I2,r2,q2⟩=>
  thn (ho pins s2 σ H2 x y v u _ I2 r1 r2 q2) λd s3 ⟨z,H3,I3,r3,k,e,q3⟩=>?_)) hm
 subst e;cases r3;refine wpAny_truthy_bool ?_;cases k with
 |false=>exact ite_ff ⟨.bl false,H3,I3,rfl,q3⟩
 |true=>exact ite_tt (chain_last (thn (hc pins s3 σ H3 _ I3 q3) λw' s4 ⟨z',H4,I4,r4,q4⟩=>kY pins s4 σ H4 y z' u w' Q I4 r2 r4 q4))
theorem FR{op oH:CmpOp}{r r':R2}(ho:OpR X (compareOp op) r)(kY:OpR X (compareOp oH) r')(ha:PE X a ta)(hb:PE X b tb)(hc:PE X c tc)
  (hm:lastMarks [op,oH] [b,c]=false:=by with_unfolding_all rfl):PT X (.Compare a [op,oH] [b,c] pos) (C5 (zc r r' ta tb tc)):=by
 intro pins s σ H Q I h
 refine isTrue_chain (thn (ha pins s σ H _ I h) λv s1 ⟨x,H1,I1,r1,q1⟩=>test_link (thn (hb pins s1 σ H1 _ I1 q1) λu s2 ⟨y,H2,I2,r2,q2⟩=>
  thn (ho pins s2 σ H2 x y v u _ I2 r1 r2 q2) λd s3 ⟨z,H3,I3,r3,k,e,q3⟩=>?_)) hm
 subst e;cases r3;refine wpAny_truthy_bool ?_;cases k with
 |false=>
  obtain ⟨k',e',q'⟩:=q3;cases e';exact ite_ff ⟨H3,I3,q'⟩
 |true=>
  refine ite_tt (test_last (thn (hc pins s3 σ H3 _ I3 q3) λw' s4 ⟨z',H4,I4,r4,q4⟩=>thn (kY pins s4 σ H4 y z' u w' _ I4 r2 r4 q4) λd' s5 ⟨z2,H5,I5,r5,k2,e2,q5⟩=>?_));subst e2;cases r5;exact wpAny_truthy_bool ⟨H5,I5,q5⟩
def LW(K:PySem.W.Frag)(x:V)(H:Hp)(k:Bool):Prop:=
 match x with
 | .aM=>k=false
 | .bl b=>k=b
 | .int i=>k=(i !=0)
 | .str y=>y.length≤sizeLine∧k=((y.length:Int) !=0)
 | .su y=>y.size≤sizeLine∧k=((y.size:Int) !=0)
 | .ref p=>(∃xs,aC K H p xs∧k= !xs.isEmpty)∨(∃xs,dr K H p xs∧k= !xs.isEmpty)∨∃dQ,H p=some (.dK dQ)∧k= !dQ.isEmpty
 |_=>False
theorem An{κ:Type}{dQ:List (κ×V)}{vs:List (κ×Value)}(r:KV dQ vs):(!vs.isEmpty)= !dQ.isEmpty:=by
 cases r<;>rfl
theorem rH{xs:List V}{its:List Value}(r:Vals xs its):(!its.toArray.isEmpty)= !xs.isEmpty:=by
 cases r<;>simp
theorem jd:(sizeLine:Nat)<2^63:=by rw [sizeLine_eq];decide
theorem LL:Qe X (λx H Q=>∃k,LW X.K x H k∧Q k H):=by
 intro pins s σ H x v Q I rx h;obtain ⟨k,e,q⟩:=h;have hl:=jd;have hs:sizeLine=16777216:=sizeLine_eq;cases x with
 |aM=>
  cases rx;have e':k=false:=e;subst e';exact truthy_none ⟨H,I,q⟩
 |bl b=>
  cases rx;have e':k=b:=e;subst e';exact wpAny_truthy_bool ⟨H,I,q⟩
 |int i=>
  obtain ⟨t,rfl⟩:=rx;have e':k=(i !=0):=e;subst e';exact PySem.P.truthy_int ⟨H,I,q⟩
 |str y=>
  obtain ⟨t,rfl⟩:=rx;obtain ⟨hy,e'⟩:y.length≤sizeLine∧k=((y.length:Int) !=0):=e;subst e';exact PySem.P.truthy_str (by omega) ⟨H,I.tok _,q⟩
 |su y=>
  obtain ⟨t,rfl⟩:=rx;obtain ⟨hy,e'⟩:y.size≤sizeLine∧k=((y.size:Int) !=0):=e;subst e';exact PySem.W.truthy_bytes (by omega) ⟨H,I.tok _,q⟩
 |ref p=>
  cases rx;have e':(∃xs,aC X.K H p xs∧k= !xs.isEmpty)∨(∃xs,dr X.K H p xs∧k= !xs.isEmpty)∨∃dQ,H p=some (.dK dQ)∧k= !dQ.isEmpty:=e
  rcases e' with ⟨xs,hx,e'⟩ | ⟨xs,hx,e'⟩ | ⟨dQ,hx,e'⟩
  ·subst e'
   obtain ⟨its,r,pl,hz⟩:=I.list hx;have hlen:=r.length;exact wpAny_truthy_list pl.isList (by simp only [dU];omega) ⟨H,I.tok _,by rw [rH r];exact q⟩
  ·subst e'
   obtain ⟨its,r,pl,hz⟩:=I.tuple hx;have hlen:=r.length;exact truthy_tuple pl (by simp only [dU];omega) ⟨H,I.tok _,by rw [rH r];exact q⟩
  ·subst e'
   obtain ⟨hz,hS,vs,r,m⟩:dQ.length≤sizeLine∧(p==sysModules)=false∧∃vs,KV dQ vs∧s.heap.DictOf (uG X.prog X.w) p vs:=I.hok p _ hx;have hlen:dQ.length=vs.length:=Paired.length r;exact wpAny_truthy_dict hS m (by omega) ⟨H,I.tok _,by rw [An r];exact q⟩
 |_=>exact (show False from e).elim
theorem FT(ha:PE X a ta)(he:∀whole,isTrue a X.env whole=(do let v ←whole;standAt a.pos;holding [v] (truthy v))):
  PT X a (λσ H Q=>ta σ H λx H'=>∃k,LW X.K x H' k∧Q k H'):=by
 intro pins s σ H Q I h;exact isTrue_plain (thn (ha pins s σ H _ I h) λv s1 ⟨x,H1,I1,r1,q1⟩=>LL pins s1 σ H1 x v Q I1 r1 q1) (he _)
theorem vals1{x:V}{us:List Value}(r:Vals [x] us):∃u,us= [u]∧RelV x u:=by
 cases r with
 |cons r1 r2=>cases r2;exact ⟨_,rfl,r1⟩
theorem vals2{x y:V}{us:List Value}(r:Vals [x,y] us):∃u w',us= [u,w']∧RelV x u∧RelV y w':=by
 cases r with
 |cons r1 r2=>
  cases r2 with
  |cons r3 r4=>cases r4;exact ⟨_,_,rfl,r1,r3⟩
theorem Bt(hc:X.calm=true):cN X (.builtin "max") (λxs H Q=>∃i j,xs= [.int i, .int j]∧Q (.int (if j>i then j else i)) H):=by
 intro pins s σ H xs us Q I r h;obtain ⟨i,j,rfl,q⟩:=h;obtain ⟨u,w',rfl,⟨t,rfl⟩,⟨t',rfl⟩⟩:=vals2 r;refine max_two_ints (I.ok.hd hc) λh' tk k=>⟨_,H,I.kept k,?_,q⟩
 by_cases hj:j>i
 ·rw [if_pos hj,if_pos hj];exact ⟨_,rfl⟩
 ·rw [if_neg hj,if_neg hj];exact ⟨_,rfl⟩
theorem Bv(hc:X.calm=true):cN X (.builtin "min") (λxs H Q=>∃i j,xs= [.int i, .int j]∧Q (.int (if j<i then j else i)) H):=by
 intro pins s σ H xs us Q I r h;obtain ⟨i,j,rfl,q⟩:=h;obtain ⟨u,w',rfl,⟨t,rfl⟩,⟨t',rfl⟩⟩:=vals2 r;refine min_two_ints (I.ok.hd hc) λh' tk k=>⟨_,H,I.kept k,?_,q⟩
 by_cases hj:j<i
 ·rw [if_pos hj,if_pos hj];exact ⟨_,rfl⟩
 ·rw [if_neg hj,if_neg hj];exact ⟨_,rfl⟩
theorem Br:cN X (.type "int") (λxs H Q=>(∃i,xs= [.int i]∧Q (.int i) H)∨∃k,xs= [.bl k]∧Q (.int (if k then 1 else 0)) H):=by
 intro pins s σ H xs us Q I r h
 rcases h with ⟨i,rfl,q⟩ | ⟨k,rfl,q⟩
 ·obtain ⟨u,rfl,t,rfl⟩:=vals1 r
  exact call_int_int ⟨.int i,H,I,⟨_,rfl⟩,q⟩
 ·obtain ⟨u,rfl,r1⟩:=vals1 r
  cases r1;exact call_int_bool ⟨.int (if k then 1 else 0),H,I.tok _,⟨_,rfl⟩,q⟩
end
structure tG (h:Heap) (x dx C:Addr) (mA:Str→Option Value):Prop where
 obj:h.get? x=some (PySem.W.instObj C dx)
 ns:h.Ns1 dx mA
 ne:dx≠x
theorem Cj{h:Heap}{dx:Addr}{mA:Str→Option Value}(n:h.Ns1 dx mA):∃od,h.get? dx=some od∧∀name,PySem.W.lookIn name od=some (mA name):=by
 obtain ⟨o,es,ep,ho,hd,hk,_,hm⟩:=n;refine ⟨o,ho,λname=>?_⟩;have e:=hm name;unfold nsFind findBy at e;rw [←Array.find?_toList] at e;unfold PySem.W.lookIn;rw [hd];dsimp only
 split
 ·rename_i y q
  rw [q] at e;exact congrArg some e
 ·rename_i q
  rw [q] at e
  have a:es.toList.any (·.refKey)=false:=by
   rw [List.any_eq_false];intro y hy;obtain ⟨z,t,Sy⟩:=hk y (Array.mem_toList_iff.mp hy);simp [DictEntry.refKey,Sy]
  have a':¬es.toList.any (·.refKey)=true:=by rw [a];exact cK
  rw [if_neg a'];exact congrArg some e
theorem tG.look{h:Heap}{x dx C:Addr}{mA:Str→Option Value}(I:tG h x dx C mA):∃od,PySem.W.InstAt h x (PySem.W.instObj C dx) C (some od)∧∀name,PySem.W.lookIn name od=some (mA name):=
 let ⟨od,ho,hl⟩:=Cj I.ns
 ⟨od,⟨I.obj,rfl,rfl,ho⟩,hl⟩
section
variable {prog:Program} {w:World} {A:Around} {E:Value→Shared→Prop} {s:Shared} {K:PySem.W.Frag} {x dx C f:Addr} {mA:Str→Option Value} {name:Str} {v:Value}
theorem get_map{expr:Bool}{Q:Value→Shared→Prop}(X:K.In s.heap)(I:tG s.heap x dx C mA)(hg:PySem.W.plainGet K C name=true)(hh:PySem.W.hasDictIn K C=true)
  (ha:PySem.W.findIn K (.ref C) name=some none) (hv:mA name=some v) (HL:PySem.W.handedIn v=true) (h:Q v {s with toks:=s.toks+1}):
  wpAny (model prog w) A (getAttr (.ref x) name expr) Q E s:=by
 obtain ⟨od,J,hl⟩:=I.look;exact PySem.W.get_value X J (PySem.W.plainGet_of hg).1 (PySem.W.findObj_own hh ha rfl (by rw [hl,hv])) HL h
theorem EY{pl:Sem Bool}{Q:Value×List Value→Shared→Prop}(X:K.In s.heap)(I:tG s.heap x dx C mA)(hg:PySem.W.plainGet K C name=true)
  (hf:PySem.W.findIn K (.ref C) name=some (some (.ref f))) (ht:PySem.W.isFn K (.ref f)=true) (hv:mA name=none) (h:Q (.ref f,[.ref x]) s):
  wpAny (model prog w) A (getMethod (.ref x) name pl) Q E s:=by
 obtain ⟨od,J,hl⟩:=I.look;exact PySem.W.method_fn X J (PySem.W.plainGet_of hg).1 (PySem.W.plainGet_of hg).2 hf (beq_iff_eq.mp ht) (by show (PySem.W.lookIn name od).map (·.isSome)=some false;rw [hl,hv];rfl) h
theorem Jj{ns:List Str}{Q:Unit→Shared→Prop}(X:K.In s.heap)(I:tG s.heap x dx C mA)
  (hs:PySem.W.findIn K (.ref C) "__setattr__"=some (some (.builtin "object.__setattr__"))) (hp:PySem.W.plainOver K C=true) (ht:PySem.W.takerIn K C name=some none) (hh:PySem.W.hasDictIn K C=true)
  (hw:PySem.Within mA ns) (eD:ns.length≤sizeLine)
  (h:∀h',tG h' x dx C (λy=>if y=name then some v else mA y)→Heap.SameBut dx s.heap h'→Q () {s with heap:=h',toks:=s.toks+2}):
  wpAny (model prog w) A (setAttr (.ref x) name v) Q E s:=by
 obtain ⟨od,J,hl⟩:=I.look;refine PySem.W.set_plain X J hs (PySem.W.osa_open (s:={s with toks:=s.toks+1}) (r:=none) X J hp ht λb=>?_)
 obtain ⟨cd,hc,qB⟩:=PySem.W.any_some hh;have hx:s.heap.get? x=some ⟨.ref C,some dx, .plain, #[]⟩:=I.obj;refine wpAny_bind (wpAny_pure (wpAny_bind (wpAny_bind (wpAny_loadPart hx (wpAny_bind (PySem.W.Looks.here (s:={s with toks:=s.toks+1}) (PySem.W.looks_clsIn X hc) ?_))))))
 rw [qB];refine wpAny_pure (a:=some dx) (wpAny_bind (wpAny_pure (wpAny_bind ?_)));refine wpAny_nsSet1 (s:={s with toks:=s.toks+1}) I.ns λh' vY j5=>?_
 obtain ⟨oD,esD,epD,Y5,YB,Yx⟩:=vY.count (PySem.Within.cons name v hw);refine wpAny_bind (wpAny_lookBehind Y5 (by rw [YB];exact pastItsLine_dict (kU Yx (by rw [cL];omega))) ?_)
 exact wpAny_pure (h _ ⟨(j5.2 _ (Ne.symm I.ne)).trans I.obj,vY,I.ne⟩ j5)
theorem Fx{R:Result→Shared→Prop}{vs:List Value}{kw:List (Str×Value)}(X:K.In s.heap)(hm:PySem.W.makesIn K C=true)
  (hi:PySem.W.findIn K (.ref C) "__init__"=some (some (.ref f))) (hf:PySem.W.typeIn K (.ref f)=some (.type "function"))
  (h:codeAny (model prog w) (A.under (.builtin "type.__call__" ⟨.ref C::vs,kw⟩)) (.call (.ref f) ⟨.ref (s.heap.objs.size+1)::vs,kw⟩) (PySem.W.InitBack (s.heap.objs.size+1) R)
   {s with heap:=(s.heap.push PySem.W.emptyDict).push (PySem.W.instObj C s.heap.objs.size)}):
  codeAny (model prog w) A (.call (.ref C) ⟨vs,kw⟩) R s:=by
 obtain ⟨hh,g,d,t,os⟩:=s;exact PySem.W.make_core (PySem.W.makes_of X hm) (PySem.W.looks_findIn X hi) (λself=>PySem.W.bind_fn X self hf) (.inl rfl) h
end
def hC(f:Str)(v:V):List (Str×V)→List (Str×V)
 | []=> [(f,v)]
 | (g,x)::r=>if g=f then (g,v)::r else (g,x)::hC f v r
theorem pL(f g:Str)(v:V):∀fs:List (Str×V),(hC f v fs).lookup g=if g=f then some v else fs.lookup g
 | []=>by
  show List.lookup g [(f,v)]=_
  by_cases h:g=f
  ·have hb:(g==f)=true:=beq_iff_eq.mpr h
   simp only [List.lookup,hb,if_pos h]
  ·have hb:(g==f)=false:=beq_eq_false_iff_ne.mpr h
   simp only [List.lookup,hb,if_neg h]
 | (k,x)::r=>by
  have ih:=pL f g v r;rw [show hC f v ((k,x)::r)=(if k=f then (k,v)::r else (k,x)::hC f v r) from rfl]
  by_cases hk:k=f
  ·rw [if_pos hk]
   by_cases h:g=k
   ·have hb:(g==k)=true:=beq_iff_eq.mpr h
    simp only [List.lookup,hb,if_pos (h.trans hk)]
   ·have hb:(g==k)=false:=beq_eq_false_iff_ne.mpr h
    simp only [List.lookup,hb,if_neg (λe:g=f=>h (e.trans hk.symm))]
  ·rw [if_neg hk]
   by_cases h:g=k
   ·have hb:(g==k)=true:=beq_iff_eq.mpr h
    simp only [List.lookup,hb,if_neg (λe:g=f=>hk (h.symm.trans e))]
   ·have hb:(g==k)=false:=beq_eq_false_iff_ne.mpr h
    simp only [List.lookup,hb];exact ih
theorem om(f:Str)(v:V):∀fs:List (Str×V),f∈(hC f v fs).map (·.1)∧∀g,g∈fs.map (·.1)→g∈(hC f v fs).map (·.1)
 | []=>⟨by simp [hC],λg h=>by simp at h⟩
 | (k,x)::r=>by
  obtain ⟨i1,i2⟩:=om f v r;rw [show hC f v ((k,x)::r)=(if k=f then (k,v)::r else (k,x)::hC f v r) from rfl]
  by_cases hk:k=f
  ·rw [if_pos hk]
   subst hk;exact ⟨by simp,λg h=>by simpa using h⟩
  ·rw [if_neg hk]
   refine ⟨?_,λg h=>?_⟩
   ·rw [fY]
    exact cu _ i1
   ·rw [fY] at h ⊢
    rcases ck.mp h with e|e
    ·exact ck.mpr (.inl e)
    ·exact cu _ (i2 g e)
theorem pI(f:Str)(v:V):∀fs:List (Str×V),(hC f v fs).length≤fs.length+1
 | []=>by simp [hC]
 | (k,x)::r=>by
  have ih:=pI f v r;rw [show hC f v ((k,x)::r)=(if k=f then (k,v)::r else (k,x)::hC f v r) from rfl]
  by_cases hk:k=f
  ·rw [if_pos hk,cL,cL];omega
  ·rw [if_neg hk,cL,cL];omega
theorem nB.some_of{v:V}{o:Option Value}(r:nB (some v) o):∃u,o=some u∧RelV v u:=by
 cases o with
 |none=>exact (show False from r).elim
 |some u=>exact ⟨u,rfl,r⟩
theorem nB.none_of{o:Option Value}(r:nB none o):o=none:=by
 cases o with
 |none=>rfl
 |some u=>exact (show False from r).elim
theorem BO{v:V}{u:Value}(r:RelV v u):PySem.W.handedIn u=true:=by
 cases v with
 |aM=>cases (show u=Value.none from r);rfl
 |bl b=>cases (show u=Value.bool b from r);rfl
 |int i=>obtain ⟨t,e⟩:=(show ∃t,u=Value.int i t from r);cases e;rfl
 |str x=>obtain ⟨t,e⟩:=(show ∃t,u=Value.str x t from r);cases e;rfl
 |su b=>obtain ⟨t,e⟩:=(show ∃t,u=Value.bytes b t from r);cases e;rfl
 |BH b=>obtain ⟨t,e⟩:=(show ∃t,u=Value.float b t from r);cases e;rfl
 |ref a=>cases (show u=Value.ref a from r);rfl
 |ty n=>cases (show u=Value.type n from r);rfl
section
variable {P:Program} {w:World} {H H':Hp} {h h':Heap} {a C dx:Addr} {fs X4:List (Str×V)}
theorem pC(hok:hU P w H h)(e:H a=some (.ins C dx fs)):∃mA,tG h a dx C mA∧(∀f,nB (fs.lookup f) (mA f))∧PySem.Within mA (fs.map (·.1))∧fs.length≤1000∧H dx=some (.own a):=by
 obtain ⟨d,z,ne,ob,mA,n,r,q⟩:=(show cO P w H h a (.ins C dx fs) from hok a _ e);exact ⟨mA,⟨ob,n,ne⟩,r,q,z,d⟩
end
structure tw (K:PySem.W.Frag) (C:Addr):Prop where
 pg:PySem.W.plainGet K C Str.empty=true
 hd:PySem.W.hasDictIn K C=true
 po:PySem.W.plainOver K C=true
 sa:PySem.W.findIn K (.ref C) "__setattr__"=some (some (.builtin "object.__setattr__"))
theorem tw.get{K:PySem.W.Frag}{C:Addr}(c:tw K C)(f:Str):PySem.W.plainGet K C f=true:=c.pg
def jY(K:PySem.W.Frag)(C:Addr)(f:Str):Prop:=PySem.W.findIn K (.ref C) f=some none
theorem jY.PX{K:PySem.W.Frag}{C:Addr}{f:Str}(n:jY K C f):PySem.W.takerIn K C f=some none:=by
 unfold PySem.W.takerIn;rw [show PySem.W.findIn K (.ref C) f=some none from n];rfl
structure Meth (K:PySem.W.Frag) (C:Addr) (m:Str) (f:Addr):Prop where
 at_:PySem.W.findIn K (.ref C) m=some (some (.ref f))
 fn:PySem.W.isFn K (.ref f)=true
 kp:PySem.W.keepIn K (.ref f)=true
section
variable {X:Cx} {pins:List (Addr×Obj)} {σ:St} {H:Hp} {s:Shared} {a C dx:Addr} {fs:List (Str×V)} {f:Str} {v:V} {A:Around} {E:Value→Shared→Prop}
theorem z4{b:Bool}{Q:Value→Shared→Prop}(I:Inv X pins σ H s)(e:H a=some (.ins C dx fs))(c:tw X.K C)(n:jY X.K C f)(l:fs.lookup f=some v)
  (h:∀u s',Inv X pins σ H s'→RelV v u→Q u s'):wpAny (model X.prog X.w) A (getAttr (.ref a) f b) Q E s:=by
 obtain ⟨mA,O,r,_,_,_⟩:=pC I.hok e;obtain ⟨u,hu,ru⟩:=nB.some_of (v:=v) (o:=mA f) (by rw [←l];exact r f)
 exact get_map I.gY O (c.get f) c.hd n hu (BO ru) (h u _ (I.tok _) ru)
theorem rD{m:Str}{g:Addr}{pl:Sem Bool}{Q:Value×List Value→Shared→Prop}(I:Inv X pins σ H s)(e:H a=some (.ins C dx fs))(c:tw X.K C)(k:Meth X.K C m g)(l:fs.lookup m=none)
  (h:Q (.ref g,[.ref a]) s):wpAny (model X.prog X.w) A (getMethod (.ref a) m pl) Q E s:=by
 obtain ⟨mA,O,r,_,_,_⟩:=pC I.hok e;have hn:mA m=none:=nB.none_of (by rw [←l];exact r m)
 exact EY I.gY O (c.get m) k.at_ k.fn hn h
theorem AY{y:V}{u:Value}{Q:Unit→Shared→Prop}(I:Inv X pins σ H s)(e:H a=some (.ins C dx fs))(c:tw X.K C)(n:jY X.K C f)(hl:fs.length<1000)(ry:RelV y u)
  (h:∀s',Inv X pins σ (upd H a (.ins C dx (hC f y fs))) s'→Q () s'):wpAny (model X.prog X.w) A (setAttr (.ref a) f u) Q E s:=by
 obtain ⟨mA,O,r,wi,_,ho⟩:=pC I.hok e;have hz:(fs.map (·.1)).length≤sizeLine:=by rw [aJ,sizeLine_eq];omega
 refine Jj I.gY O c.sa c.po n.PX c.hd wi hz λh' O' sb=>h _ ?_;have hd:∃o,h'.get? dx=some o:=let ⟨o,_,_,e',_⟩:=O'.ns;⟨o,e'⟩;refine I.write (x:=a) (e:=dx) (by rw [e];exact True.intro) (.inr ho) (λb q hb z=>(sb.2 b hb).trans z) hd ?_
 refine ⟨by rw [ae O.ne];exact ho,?_,O.ne,O'.obj,_,O'.ns,λg=>?_,λg hg=>?_⟩
 ·have:=pI f y fs;omega
 ·show nB ((hC f y fs).lookup g) (if g=f then some u else mA g)
  rw [pL]
  by_cases q:g=f
  ·rw [if_pos q,if_pos q];exact ry
  ·rw [if_neg q,if_neg q];exact r g
 ·by_cases q:g=f
  ·rw [q];exact (om f y fs).1
  ·refine (om f y fs).2 g (wi g λz=>hg ?_)
   show (if g=f then some u else mA g)=none;rw [if_neg q];exact z
theorem Inv.made(I:Inv X pins σ H s):Inv X pins σ (upd (upd H s.heap.objs.size (.own (s.heap.objs.size+1))) (s.heap.objs.size+1) (.ins C s.heap.objs.size []))
  {s with heap:=(s.heap.push PySem.W.emptyDict).push (PySem.W.instObj C s.heap.objs.size)}:=by
 have e1:(s.heap.push PySem.W.emptyDict).get? s.heap.objs.size=some PySem.W.emptyDict:=Heap.get?_push_size s.heap rfl
 have e2:((s.heap.push PySem.W.emptyDict).push (PySem.W.instObj C s.heap.objs.size)).get? (s.heap.objs.size+1)=some (PySem.W.instObj C s.heap.objs.size):=by
  have:=Heap.get?_push_size (s.heap.push PySem.W.emptyDict) (o:=PySem.W.instObj C s.heap.objs.size) rfl
  rwa [Heap.size_push] at this
 have e3:(s.heap.push PySem.W.emptyDict).Ns s.heap.objs.size (λ_=>none):=⟨PySem.W.emptyDict, #[],_,e1,rfl,(λe he=>absurd he (by simp)),λ_=>rfl⟩
 have I1:=I.laid (a:=s.heap.objs.size) (o:= .own (s.heap.objs.size+1)) (h':=s.heap.push PySem.W.emptyDict) (t':=s.toks) (λb u q=>Heap.get?_push_of_some _ q) (aU _) ⟨_,e1⟩;refine I1.laid (a:=s.heap.objs.size+1) (o:= .ins C s.heap.objs.size []) (t':=s.toks) (λb u q=>Heap.get?_push_of_some _ q) (Nat.le_of_eq (Heap.size_push _ _)) ?_;have ne:s.heap.objs.size≠s.heap.objs.size+1:=bW (Nat.lt_succ_self _);refine ⟨by rw [ae ne,ab],cM _,ne,e2,λ_=>none,(Heap.Ns1.of_empty e3).at λo q=>Heap.get?_push_of_some _ q,λ_=>True.intro,λy hy=>absurd rfl hy⟩
theorem Gk{prog:Program}{w:World}{env:Env}{e:Expr}{f:Str}{pos:Pos}{s:Shared}{Q:Value→Shared→Prop}(hb:attributeBase e f env (eval e env)=eval e env)
  (h:wpAny (model prog w) A (eval e env) (λo s₁=>wpAny (model prog w) A (getAttr o f true) Q E s₁) E s):wpAny (model prog w) A (eval (.Attribute e f pos) env) Q E s:=
 Attribute_any_ h (by rw [arm_eval_Attribute,hb])
end
def V8(K:PySem.W.Frag)(ta:TE)(f:Str):TE:=λσ H Q=>ta σ H λx H1=>∃a C dx fs v,x= .ref a∧H1 a=some (.ins C dx fs)∧tw K C∧jY K C f∧fs.lookup f=some v∧Q v H1
def VF(K:PySem.W.Frag)(ta tv:TE)(f:Str):TS:=λD σ H=>tv σ H λy H1=>ta σ H1 λx H2=>∃a C dx fs,x= .ref a∧H2 a=some (.ins C dx fs)∧tw K C∧jY K C f∧fs.length<1000∧
 D.nx σ (upd H2 a (.ins C dx (hC f y fs)))
section
variable {X:Cx} {o e value:Expr} {f:Str} {pos pos' aao:Pos} {ta tv:TE}
theorem K4(he:PE X e ta)(hb:attributeBase e f X.env (eval e X.env)=eval e X.env):PE X (.Attribute e f pos) (V8 X.K ta f):=by
 intro pins s σ H Q I h;refine Gk hb (thn (he pins s σ H _ I h) λu s1 ⟨x,H1,I1,rx,a,C,dx,fs,v,ex,ea,c,n,l,q⟩=>?_);subst ex;obtain rfl:u=Value.ref a:=rx;exact z4 I1 ea c n l λu' s2 I2 ru=>⟨v,H1,I2,ru,q⟩
theorem Ld(ha:PE X o ta)(hv:PE X value tv)(hs:swapsWith value (some (.Attribute o f pos')) pos.line X.env=pure false):PS X (.Assign [.Attribute o f pos'] value pos) (VF X.K ta tv f):=by
 intro pins s σ H D I h;refine plainObj_wpAny_Assign_Attribute (thn (hv pins s σ H _ I h) λu s1 ⟨y,H1,I1,ry,q⟩=>thn (ha pins s1 σ H1 _ I1 q) λov s2 ⟨x,H2,I2,rx,a,C,dx,fs,ex,ea,c,n,l,q2⟩=>?_) hs;subst ex;obtain rfl:ov=Value.ref a:=rx;exact AY I2 ea c n l ry λs3 I3=>⟨σ,_,I3,q2⟩
end
section
variable {X:Cx} {pins:List (Addr×Obj)} {σ:St} {H:Hp} {s:Shared} {A:Around} {E:Value→Shared→Prop} {Q:Value→Shared→Prop} {c:Value} {b:Bool}
inductive iW (K:PySem.W.Frag) (H:Hp):V→Value→Prop where
 |aM:iW K H .aM (.type "NoneType")
 |bl (x:Bool):iW K H (.bl x) (.type "bool")
 |int (i:Int):iW K H (.int i) (.type "int")
 |str (x:Str):iW K H (.str x) (.type "str")
 |BH (x:UInt64):iW K H (.BH x) (.type "float")
 |lst {a:Addr} {xs:List V} (e:H a=some (.lst xs)):iW K H (.ref a) (.type "list")
 |pj {a:Addr} {o:Obj} {xs:List V} (e:H a=some (.pj o (.lst xs))):iW K H (.ref a) (.type "list")
 |tup {a:Addr} {xs:List V} (e:H a=some (.tup xs)):iW K H (.ref a) (.type "tuple")
 |dK {a:Addr} {dQ:List (Key×V)} (e:H a=some (.dK dQ)):iW K H (.ref a) (.type "dict")
 |dT {a:Addr} {dQ:List (List Key×V)} (e:H a=some (.dT dQ)):iW K H (.ref a) (.type "dict")
 |ins {a C dx:Addr} {fs:List (Str×V)} (e:H a=some (.ins C dx fs)) (cl:tw K C) (ha:PySem.W.findIn K (.ref C) "__class__"=some (some (.builtin "object.__class__")))
   (hn:PySem.W.specialIn K (.builtin "object.__class__") "__get__"=some (some (.builtin "getset_descriptor.__get__"))) (S9:PySem.W.takesIn K (.builtin "object.__class__")=some true)
   (hm:PySem.W.mroIn K C (.type "object")=some true):iW K H (.ref a) (.ref C)
theorem B9{x:V}{u t:Value}(I:Inv X pins σ H s)(rx:RelV x u)(ty:iW X.K H x t)(e:PySem.W.kitOne X.K t c=some b)(h:∀tk,Q (.bool b) {s with toks:=tk}):
  wpAny (model X.prog X.w) A (call (.builtin "isinstance") [u,c]) Q E s:=by
 cases ty with
 |aM=>cases (show u=Value.none from rx);exact PySem.W.kia_one PySem.W.kitx_none I.gY True.intro e (λz=>nomatch z) h
 |bl y=>cases (show u=Value.bool y from rx);exact PySem.W.kia_one PySem.W.kitx_bool I.gY True.intro e (λz=>nomatch z) h
 |int i=>obtain ⟨t,q⟩:=(show ∃t,u=Value.int i t from rx);cases q;exact PySem.W.kia_one PySem.W.kitx_int I.gY True.intro e (λz=>nomatch z) h
 |str y=>obtain ⟨t,q⟩:=(show ∃t,u=Value.str y t from rx);cases q;exact PySem.W.kia_one PySem.W.kitx_str I.gY True.intro e (λz=>nomatch z) h
 |BH y=>obtain ⟨t,q⟩:=(show ∃t,u=Value.float y t from rx);cases q;exact PySem.W.kia_one PySem.W.kitx_float I.gY True.intro e (λz=>nomatch z) h
 | @lst a xs ea=>
  cases (show u=Value.ref a from rx);obtain ⟨_,_,n,_,h1⟩:=(show cO X.prog X.w H s.heap a (.lst xs) from I.hok a _ ea);exact PySem.W.kia_one PySem.W.kitx_list I.gY ⟨_,h1,rfl⟩ e (λz=>nomatch z) h
 | @pj a ob xs ea=>
  cases (show u=Value.ref a from rx);obtain ⟨_,_,_,n,_,h1⟩:=(show cO X.prog X.w H s.heap a (.pj ob (.lst xs)) from I.hok a _ ea);exact PySem.W.kia_one PySem.W.kitx_list I.gY ⟨_,h1,rfl⟩ e (λz=>nomatch z) h
 | @tup a xs ea=>
  cases (show u=Value.ref a from rx);obtain ⟨_,_,_,p⟩:=(show cO X.prog X.w H s.heap a (.tup xs) from I.hok a _ ea);obtain ⟨o,h1,h2,_⟩:=p;exact PySem.W.kia_one PySem.W.kitx_tuple I.gY ⟨o,h1,h2⟩ e (λz=>nomatch z) h
 | @dK a dQ ea=>
  cases (show u=Value.ref a from rx);obtain ⟨_,_,vs,_,p⟩:=(show cO X.prog X.w H s.heap a (.dK dQ) from I.hok a _ ea);obtain ⟨o,es,ep,h1,h2,_⟩:=p;exact PySem.W.kia_one PySem.W.kitx_dict I.gY ⟨o,h1,h2.1⟩ e (λz=>nomatch z) h
 | @dT a dQ ea=>
  cases (show u=Value.ref a from rx);obtain ⟨_,_,xs,_,o,es,ep,h1,h2,_⟩:=(show cO X.prog X.w H s.heap a (.dT dQ) from I.hok a _ ea);exact PySem.W.kia_one PySem.W.kitx_dict I.gY ⟨o,h1,h2.1⟩ e (λz=>nomatch z) h
 | @ins a C dx fs ea cl ha hn S9 hm=>
  cases (show u=Value.ref a from rx);obtain ⟨mA,O,_⟩:=pC I.hok ea;obtain ⟨od,J,_⟩:=O.look;exact PySem.W.kia_one (PySem.W.kitx_own (cl.get _) cl.hd ha hn S9 hm) I.gY J e (λz=>nomatch z) h
end
structure bO (k:Nat) (A:Around):Prop where
 hd:A.handled=none
 dp:A.depth+3*k+5<recursionLimit
 un:A.units+16*k+200<cLine
theorem bO.mono{j k:Nat}{A:Around}(r:bO k A)(h:j≤k):bO j A:=⟨r.hd,by have:=r.dp;omega,by have:=r.un;omega⟩
theorem bO.deeper{k:Nat}{A:Around}(r:bO (k+1) A)(env:Env):bO k (A.deeper env):=
 ⟨r.hd,by have:=r.dp;show A.depth+1+3*k+5<_;omega,by have:=r.un;show A.units+3+16*k+200<_;omega⟩
theorem AA{A:Around}{C:Addr}{us:List Value}{kw:List (Str×Value)}:(A.under (.builtin "type.__call__" ⟨.ref C::us,kw⟩)).depth=A.depth+1:=by
 first|rfl|simp [Around.under,Code.weight,Code.isCreation,Code.isGuard,Code.isCaller,Code.frames,Code.isFrame,guardIds]
theorem AB{A:Around}{C:Addr}{us:List Value}{kw:List (Str×Value)}:(A.under (.builtin "type.__call__" ⟨.ref C::us,kw⟩)).units=A.units+1:=by
 first|rfl|simp [Around.under,Code.cUnits,Code.frames,Code.isFrame]
theorem bO.make{k:Nat}{A:Around}(r:bO (k+1) A)(C:Addr)(us:List Value)(kw:List (Str×Value)):bO k (A.under (.builtin "type.__call__" ⟨.ref C::us,kw⟩)):=
 ⟨r.hd,by have:=r.dp;rw [AA];omega,by have:=r.un;rw [AB];omega⟩
theorem bO.depth{k:Nat}{A:Around}(r:bO k A):A.depth<recursionLimit:=by have:=r.dp;omega
theorem bO.units{k:Nat}{A:Around}(r:bO k A):A.units+64<cLine:=by have:=r.un;omega
def M7:TA:=λ_ H Q=>Q [] H
def PM(ta:TE)(tr:TA):TA:=λσ H Q=>ta σ H λx H1=>tr σ H1 λxs H2=>Q (x::xs) H2
section
variable {X:Cx} {e:Expr} {es:List Expr} {te:TE} {t:TA} {pos:Pos}
theorem ar:PA X [] M7:=λ_ _ _ _ H Q I h=>Calls.spliced_nil ⟨[],H,I, .nil,h⟩
theorem aa(ha:PE X e te)(hr:PA X es t)(hs:starEach (e::es) X.env=(false,eval e X.env)::starEach es X.env:=by rfl):PA X (e::es) (PM te t):=by
 intro pos pins s σ H Q I h;rw [hs];show wpAny _ _ (spliced ((false,eval e X.env)::backTo pos (starEach es X.env))) _ _ s;refine Calls.spliced_cons (thn (ha pins s σ H _ I h) λu s1 ⟨x,H1,I1,r1,q1⟩=>?_);exact thn (hr pos pins s1 σ H1 _ I1 q1) λus s2 ⟨xs,H2,I2,r2,q2⟩=>⟨x::xs,H2,I2, .cons r1 r2,q2⟩
def Wg(t:TA):TE:=λσ H Q=>t σ H λxs H1=>xs.length≤sizeLine∧∀p,H1 p=none→Q (.ref p) (upd H1 p (.tup xs))
def Wc(t:TA):TE:=λσ H Q=>t σ H λxs H1=>xs.length≤sizeLine∧∀p,H1 p=none→Q (.ref p) (upd H1 p (.lst xs))
theorem sZ{x1}(h:PA X es t):PE X (.Tuple es x1 pos) (Wg t):=by
 intro pins s σ H Q I hq;refine wpAny_Tuple_spliced (thn (h pos pins s σ H _ I hq) λus s1 ⟨xs,H1,I1,r,z,q⟩=>⟨by rw [←r.length];exact z,?_⟩)
 have hf:H1 s1.heap.objs.size=none:=I1.hok.fresh (aU _);refine ⟨.ref s1.heap.objs.size,upd H1 s1.heap.objs.size (.tup xs),I1.laid (t':=s1.toks) (λb u e=>Heap.get?_push_of_some _ e) (aU _) ?_,rfl,q _ hf⟩;exact ⟨z,us,r,⟨_,Heap.get?_push_size _ rfl,rfl,_,rfl⟩⟩
theorem dH(h:PA X es t):PE X (.List es pos) (Wc t):=by
 intro pins s σ H Q I hq;refine wpAny_List_spliced (thn (h pos pins s σ H _ I hq) λus s1 ⟨xs,H1,I1,r,z,q⟩=>⟨by rw [←r.length];exact z,?_⟩)
 have hf:H1 s1.heap.objs.size=none:=I1.hok.fresh (aU _);refine ⟨.ref s1.heap.objs.size,upd H1 s1.heap.objs.size (.lst xs),I1.laid (t':=s1.toks) (λb u e=>Heap.get?_push_of_some _ e) (aU _) ?_,rfl,q _ hf⟩;exact ⟨z,us,0,r,Heap.get?_push_size _ rfl⟩
end
abbrev Sp:=List V→Hp→VK→XK→Prop
abbrev qo:=List Env→Hp→Shared→XK→Value→Shared→Prop
structure Env0 (P:Program) (w:World) (K:PySem.W.Frag) (mg:Str→Option Value) (base:Heap) (A:Around) (outer:List Env) (s:Shared) (H:Hp):Prop where
 frames:A.frames=some outer
 mod:Mod K mg base
 bs:∀b o,base.get? b=some o→s.heap.get? b=some o∧H b=none
 bsz:base.objs.size≤s.heap.objs.size
 funs:s.heap.FunFrames base outer
 frf:∀b∈uc outer,H b=none
 hok:hU P w H s.heap
 bare:AllBare s.gens
def CE(outer:List Env)(P:Program)(w:World)(H:Hp)(s:Shared)(Q:VK)(u:Value)(s':Shared):Prop:=
 ∃v H',s'.os=s.os∧AllBare s'.gens∧Un (uc outer) [] H H' s.heap s'.heap∧hU P w H' s'.heap∧RelV v u∧Q v H'
def CR(CX:qo)(outer:List Env)(P:Program)(w:World)(H:Hp)(s:Shared)(Q:VK)(E:XK)(r:Result)(s':Shared):Prop:=
 match r with
 | .ok (.ret u)=>CE outer P w H s Q u s'
 | .ok _=>False
 | .error e=>CX outer H s E e s'
structure FnOk (P:Program) (w:World) (K:PySem.W.Frag) (mg:Str→Option Value) (base:Heap) (CX:qo) (k:Nat) (f:Addr) (fd:FuncData) (ps:List Str) (sp:Sp):Prop where
 len:∀vs H Q E,sp vs H Q E→vs.length=ps.length
 run:∀(A:Around)(outer:List Env)(s:Shared)(H:Hp)(args:Args)(us:List Value)(vs:List V)(Q:VK)(E:XK),bO k A→Env0 P w K mg base A outer s H→BindsTo s fd args (ps.zip us)→Vals vs us→sp vs H Q E→
  codeAny (model P w) A (.call (.ref f) args) (CR CX outer P w H s Q E) s
theorem FnOk.mono{P:Program}{w:World}{K:PySem.W.Frag}{mg:Str→Option Value}{base:Heap}{CX:qo}{j k:Nat}{f:Addr}{fd:FuncData}{ps:List Str}{sp:Sp}(F:FnOk P w K mg base CX j f fd ps sp)(h:j≤k):
  FnOk P w K mg base CX k f fd ps sp:=⟨F.len,λA outer s H args us vs Q E hr=>F.run A outer s H args us vs Q E (hr.mono h)⟩
theorem FnOk.imp{P:Program}{w:World}{K:PySem.W.Frag}{mg:Str→Option Value}{base:Heap}{CX:qo}{k:Nat}{f:Addr}{fd:FuncData}{ps:List Str}{sp VY:Sp}(F:FnOk P w K mg base CX k f fd ps sp)
  (h:∀vs H Q E,VY vs H Q E→sp vs H Q E):FnOk P w K mg base CX k f fd ps VY:=
 ⟨λvs H Q E q=>F.len vs H Q E (h _ _ _ _ q),λA outer s H args us vs Q E hr he hb hv hs=>F.run A outer s H args us vs Q E hr he hb hv (h _ _ _ _ hs)⟩
theorem Env0.make{P:Program}{w:World}{K:PySem.W.Frag}{mg:Str→Option Value}{base:Heap}{A:Around}{outer:List Env}{s:Shared}{H:Hp}(e:Env0 P w K mg base A outer s H)(C:Addr)(us:List Value)(kw:List (Str×Value)):
  Env0 P w K mg base (A.under (.builtin "type.__call__" ⟨.ref C::us,kw⟩)) outer s H:=⟨by first|exact e.frames| (simpa [Around.under,Code.envs,Code.isFrame,pushEnvs] using e.frames),e.mod,e.bs,e.bsz,e.funs,e.frf,e.hok,e.bare⟩
section
variable {X:Cx} {pins:List (Addr×Obj)} {σ:St} {H:Hp} {s s':Shared}
theorem Inv.Mp(I:Inv X pins σ H s):Env0 X.prog X.w X.K X.mg X.base X.A X.stack s H:=
 ⟨I.ok.frames,I.ok.mod,I.bs,kU I.ok.bsz I.sz,I.stack,I.A3,I.hok,I.bare⟩
theorem Inv.after{Q:VK}{u:Value}(I:Inv X pins σ H s)(h:CE X.stack X.prog X.w H s Q u s'):EP X pins σ Q u s':=by
 obtain ⟨v,H',os,bare,un,hok,r,q⟩:=h;obtain ⟨hh,g,d,t,os'⟩:=s';obtain rfl:os'=s.os:=os;exact ⟨v,H',I.call (h':=hh) (g':=g) (d':=d) (t':=t) (ch:= []) un hok bare (λb z=>absurd z (by simp)),r,q⟩
end
def PL(sp:Sp)(bg:List V)(E:XK)(t:TA):TE:=λσ H Q=>t σ H λvs H1=>sp (vs++bg) H1 Q E
def C4(C:Addr)(m:Str)(sp:Sp)(bg:List V)(E:XK)(ta:TE)(t:TA):TE:=λσ H Q=>ta σ H λx H1=>∃a dx fs,x= .ref a∧H1 a=some (.ins C dx fs)∧fs.lookup m=none∧
 t σ H1 λvs H2=>sp (x::(vs++bg)) H2 Q E
def PQ(C:Addr)(sp:Sp)(bg:List V)(E:XK)(t:TA):TE:=λσ H Q=>t σ H λvs H1=>∀x dx,H1 x=none→H1 dx=none→dx≠x→
 sp (.ref x::(vs++bg)) (upd (upd H1 dx (.own x)) x (.ins C dx [])) (λv H2=>v= .aM∧Q (.ref x) H2) E
def Binds(K:PySem.W.Frag)(fd:FuncData)(ps:List Str)(ds:List Value):Prop:=
 ∀(s:Shared)(us:List Value),K.In s.heap→(us++ds).length=ps.length→BindsTo s fd ⟨us,[]⟩ (ps.zip (us++ds))
theorem Binds.all{K:PySem.W.Frag}{fd:FuncData}{ps:List Str}(h:∀us:List Value,us.length=ps.length→bindArgs fd ⟨us,[]⟩=pure (ps.zip us)):Binds K fd ps []:=λs us _ hl=>by
 rw [jV] at hl ⊢;exact .of_eq (h us hl)
def Passes(CX:qo)(X:Cx)(E:XK):Prop:=∀(pins:List (Addr×Obj))(σ:St)(H:Hp)(s:Shared)(e:Value)(s':Shared),Inv X pins σ H s→CX X.stack H s E e s'→X.xe e s'
section
variable {X:Cx} {CX:qo} {k:Nat} {f C:Addr} {fd:FuncData} {ps:List Str} {sp:Sp} {bg:List V} {ds:List Value} {E:XK} {x m:Str} {p pos apos:Pos} {e o:Expr} {es:List Expr} {ta:TE} {t:TA}
theorem y3{pins:List (Addr×Obj)}{σ:St}{H:Hp}{s:Shared}{Q:VK}{us:List Value}{vs:List V}(F:FnOk X.prog X.w X.K X.mg X.base CX k f fd ps sp)(hr:bO k X.A)(hb:Binds X.K fd ps ds)(hd:Vals bg ds)(hx:Passes CX X E)
  (I:Inv X pins σ H s) (r:Vals vs us) (h:sp (vs++bg) H Q E):wpAny (model X.prog X.w) X.A (call (.ref f) us) (EP X pins σ Q) X.xe s:=by
 have r2:Vals (vs++bg) (us++ds):=r.append hd;have hl:(us++ds).length=ps.length:=by rw [←r2.length];exact F.len _ _ _ _ h
 refine wpAny_call (codeAny_mono (F.run X.A X.stack s H ⟨us,[]⟩ (us++ds) (vs++bg) Q E hr I.Mp (hb s us I.gY hl) r2 h) λr s' hq=>?_);cases r with
 |error e=>exact hx pins σ H s e s' I hq
 |ok fl=>
  cases fl with
  |ret u=>exact I.after hq
  |next=>exact False.elim hq
  |brk=>exact False.elim hq
  |cont=>exact False.elim hq
theorem aP(F:FnOk X.prog X.w X.K X.mg X.base CX k f fd ps sp)(hr:bO k X.A)(hg:Gl X x)(hm:X.mg x=some (.ref f))(hk:PySem.W.keepIn X.K (.ref f)=true)(hb:Binds X.K fd ps ds)(hd:Vals bg ds)(hx:Passes CX X E)
  (ha:PA X (e::es) t) (gW:(x==("__debug__":Str))=false:=by decide) (he:starEach (e::es) X.env=(false,eval e X.env)::starEach es X.env:=by rfl) (cW:(backTo pos (starEach es X.env)).any (·.1)=false:=by rfl):
  PE X (.Call (.Name x p) (e::es) [] pos) (PL sp bg E t):=by
 intro pins s σ H Q I h;refine wpAny_Call_Name_kw (ux I hg hm ?_ gW);refine PySem.W.callWith_K (h₀:=X.base) I.ok.mod.kin hk (thn (ha pos pins s σ H _ I h) λus s1 ⟨vs,H1,I1,r,q⟩=>⟨I1.gY,?_⟩) he cW;exact y3 F hr hb hd hx I1 r q
theorem IM{pl:Sem Bool}(he:PE X o ta)(c:tw X.K C)(hm:Meth X.K C m f)(F:FnOk X.prog X.w X.K X.mg X.base CX k f fd ps sp)(hr:bO k X.A)(hb:Binds X.K fd ps ds)(hd:Vals bg ds)(hx:Passes CX X E)(ha:PA X (e::es) t)
  (jH:starEach (e::es) X.env=(false,eval e X.env)::starEach es X.env:=by rfl) (cW:(backTo pos (starEach es X.env)).any (·.1)=false:=by rfl)
  (ht:eval (.Call (.Attribute o m apos) (e::es) [] pos) X.env=(do
   let ov ←eval o X.env
   standAt apos.atName
   let (f,first) ←holding [ov] (getMethod ov m pl)
   callWith pos f first (backTo pos (starEach (e::es) X.env)) (backToKw pos (keywordEach [] X.env))):=by rfl):
  PE X (.Call (.Attribute o m apos) (e::es) [] pos) (C4 C m sp bg E ta t):=by
 intro pins s σ H Q I h;refine PySem.W.methodCall_KW (pl:=pl) (thn (he pins s σ H _ I h) λu s1 ⟨x,H1,I1,rx,a,dx,fs,ex,ea,l,q⟩=>?_) ht;subst ex;obtain rfl:u=Value.ref a:=rx;refine rD I1 ea c hm l ?_;refine PySem.W.callWith_K (first:= [.ref a]) (h₀:=X.base) I.ok.mod.kin hm.kp (thn (ha pos pins s1 σ H1 _ I1 q) λus s2 ⟨vs,H2,I2,r,q2⟩=>⟨I2.gY,?_⟩) jH cW;exact y3 (us:= .ref a::us) (vs:= .ref a::vs) F hr hb hd hx I2 (.cons rfl r) q2
theorem FL{pl:Sem Bool}(he:PE X o ta)(c:tw X.K C)(hm:Meth X.K C m f)(F:FnOk X.prog X.w X.K X.mg X.base CX k f fd ps sp)(hr:bO k X.A)(hb:Binds X.K fd ps ds)(hd:Vals bg ds)(hx:Passes CX X E)
  (ht:eval (.Call (.Attribute o m apos) [] [] pos) X.env=(do
   let ov ←eval o X.env
   standAt apos.atName
   let (f,first) ←holding [ov] (getMethod ov m pl)
   callWith pos f first (backTo pos (starEach [] X.env)) (backToKw pos (keywordEach [] X.env))):=by rfl):
  PE X (.Call (.Attribute o m apos) [] [] pos) (C4 C m sp bg E ta M7):=by
 intro pins s σ H Q I h;refine PySem.W.methodCall_KW (pl:=pl) (thn (he pins s σ H _ I h) λu s1 ⟨x,H1,I1,rx,a,dx,fs,ex,ea,l,q⟩=>?_) ht;subst ex;obtain rfl:u=Value.ref a:=rx;refine rD I1 ea c hm l ?_;exact PySem.W.callWith_K0 (first:= [.ref a]) I1.gY hm.kp (y3 (us:= [.ref a]) (vs:= [.ref a]) F hr hb hd hx I1 (.cons rfl .nil) q)
structure Mk (K:PySem.W.Frag) (C f:Addr):Prop where
 makes:PySem.W.makesIn K C=true
 init:PySem.W.findIn K (.ref C) "__init__"=some (some (.ref f))
 fn:PySem.W.isFn K (.ref f)=true
 kp:PySem.W.keepIn K (.ref C)=true
theorem FZ{pins:List (Addr×Obj)}{σ:St}{H:Hp}{s:Shared}{Q:VK}{us:List Value}{vs:List V}(M:Mk X.K C f)(F:FnOk X.prog X.w X.K X.mg X.base CX k f fd ps sp)(hr:bO (k+1) X.A)(hb:Binds X.K fd ps ds)(hd:Vals bg ds)
  (hx:Passes CX X E) (I:Inv X pins σ H s) (r:Vals vs us)
  (h:∀x dx,H x=none→H dx=none→dx≠x→sp (.ref x::(vs++bg)) (upd (upd H dx (.own x)) x (.ins C dx [])) (λv H2=>v= .aM∧Q (.ref x) H2) E):
  wpAny (model X.prog X.w) X.A (call (.ref C) us) (EP X pins σ Q) X.xe s:=by
 have hq:=h (s.heap.objs.size+1) s.heap.objs.size (I.hok.fresh (jq _)) (I.hok.fresh (aU _)) (bW (Nat.lt_succ_self _));have I2:=Inv.made (C:=C) I;have r2:Vals (V.ref (s.heap.objs.size+1)::(vs++bg)) (Value.ref (s.heap.objs.size+1)::(us++ds)):= .cons rfl (r.append hd)
 have hl:(Value.ref (s.heap.objs.size+1)::us++ds).length=ps.length:=by
  have e:=r2.length;rw [F.len _ _ _ _ hq] at e;exact e.symm
 refine wpAny_call (Fx (f:=f) I.gY M.makes M.init (beq_iff_eq.mp M.fn) (codeAny_mono (F.run _ X.stack _ _ ⟨Value.ref (s.heap.objs.size+1)::us,[]⟩ (Value.ref (s.heap.objs.size+1)::(us++ds)) _ _ E (hr.make C us [])
  (I2.Mp.make C us []) (hb _ (Value.ref (s.heap.objs.size+1)::us) I2.gY hl) r2 hq) λr s' B0=>?_))
 cases r with
 |error e=>exact hx pins σ _ _ e s' I2 B0
 |ok fl=>
  cases fl with
  |ret u=>
   obtain ⟨v,H',I3,rv,ev,q3⟩:=I2.after B0;subst ev;exact ⟨rv,⟨V.ref (s.heap.objs.size+1),H',I3,rfl,q3⟩⟩
  |next=>exact False.elim B0
  |brk=>exact False.elim B0
  |cont=>exact False.elim B0
theorem IL(M:Mk X.K C f)(F:FnOk X.prog X.w X.K X.mg X.base CX k f fd ps sp)(hr:bO (k+1) X.A)(hg:Gl X x)(hm:X.mg x=some (.ref C))(hb:Binds X.K fd ps ds)(hd:Vals bg ds)(hx:Passes CX X E)
  (ha:PA X (e::es) t) (gW:(x==("__debug__":Str))=false:=by decide) (he:starEach (e::es) X.env=(false,eval e X.env)::starEach es X.env:=by rfl) (cW:(backTo pos (starEach es X.env)).any (·.1)=false:=by rfl):
  PE X (.Call (.Name x p) (e::es) [] pos) (PQ C sp bg E t):=by
 intro pins s σ H Q I h;refine wpAny_Call_Name_kw (ux I hg hm ?_ gW);refine PySem.W.callWith_K (h₀:=X.base) I.ok.mod.kin M.kp (thn (ha pos pins s σ H _ I h) λus s1 ⟨vs,H1,I1,r,q⟩=>⟨I1.gY,?_⟩) he cW;exact FZ M F hr hb hd hx I1 r q
end
section
variable {X:Cx} {CX:qo} {k:Nat} {f C:Addr} {fd:FuncData} {ps ks:List Str} {sp:Sp} {E:XK} {x m:Str} {p pos apos aai:Pos} {e o:Expr} {es:List Expr} {kws:List Keyword} {te ta:TE} {t tk:TA} {nm:Option Str}
variable {g:List Value→List Value→List Value} {gV:List V→List V→List V}
end
structure aI (N P:List Str) (sc:Scope):Prop where
 kind:sc.kind= .function
 co:sc.isCoroutine=false
 gen:sc.isGenerator=false
 nd:N.Nodup
 pre:N.take P.length=P
 par:∀x∈P,sc.names.lookup x=some .local∨sc.names.lookup x=some .cell
 nofree:∀y∈sc.names,y.2≠ .free
theorem tN{kindOf:Str→Option NameKind}{x:Str}:∀{binds:List (Str×Value)}{m:Str→Option Value},(∀v,(x,v)∉binds)→bindL kindOf binds m x=m x
 | [],_,_=>rfl
 | (n,v)::r,m,h=>by
  unfold bindL;rw [tN λw hw=>h w (cu _ hw)]
  split
  ·have:x≠n:=by rintro rfl;exact h v bY
   simp [this]
  ·rfl
theorem tL{kindOf:Str→Option NameKind}{x:Str}:∀{binds:List (Str×Value)}{m:Str→Option Value},(∀v,(x,v)∉binds)→bindC kindOf binds m x=m x
 | [],_,_=>rfl
 | (n,v)::r,m,h=>by
  unfold bindC;rw [tL λw hw=>h w (cu _ hw)]
  split
  ·rfl
  ·have:x≠n:=by rintro rfl;exact h v bY
   simp [this]
theorem tM{kindOf:Str→Option NameKind}{x:Str}{v:Value}:∀{P:List Str}{vs:List Value}{i:Nat}{m:Str→Option Value},P.Nodup→P[i]? =some x→vs[i]? =some v→kindOf x=some .local→
  bindL kindOf (P.zip vs) m x=some v
 | [],_,_,_,_,h,_,_=>by simp at h
 |_::_,[],_,_,_,_,h,_=>by simp at h
 |p::P,w::vs,0,m,nd,h1,h2,hk=>by
  simp at h1 h2;subst h1;subst h2;show bindL kindOf ((p,w)::P.zip vs) m p=_;unfold bindL;rw [tN λv hv=>(kR.mp nd).1 (List.of_mem_zip hv).1,if_pos hk];simp
 |p::P,w::vs,i+1,m,nd,h1,h2,hk=>by
  show bindL kindOf ((p,w)::P.zip vs) m x=_;unfold bindL;exact tM (i:=i) (kR.mp nd).2 (by simpa using h1) (by simpa using h2) hk
theorem tK{kindOf:Str→Option NameKind}{x:Str}{v:Value}:∀{P:List Str}{vs:List Value}{i:Nat}{m:Str→Option Value},P.Nodup→P[i]? =some x→vs[i]? =some v→kindOf x≠some .local→
  bindC kindOf (P.zip vs) m x=some v
 | [],_,_,_,_,h,_,_=>by simp at h
 |_::_,[],_,_,_,_,h,_=>by simp at h
 |p::P,w::vs,0,m,nd,h1,h2,hk=>by
  simp at h1 h2;subst h1;subst h2;show bindC kindOf ((p,w)::P.zip vs) m p=_;unfold bindC;rw [tL λv hv=>(kR.mp nd).1 (List.of_mem_zip hv).1,if_neg hk];simp
 |p::P,w::vs,i+1,m,nd,h1,h2,hk=>by
  show bindC kindOf ((p,w)::P.zip vs) m x=_;unfold bindC;exact tK (i:=i) (kR.mp nd).2 (by simpa using h1) (by simpa using h2) hk
def start(N:List Str)(vs:List V):St:=vs.map some++List.replicate (N.length-vs.length) none
def oV(CX:qo)(P:Program)(w:World)(K:PySem.W.Frag)(mg:Str→Option Value)(base:Heap)(N:List Str)(qual:Str)(scope:Scope)(f:Addr)(cd:Value)(A:Around)(outer:List Env)(s:Shared)(H:Hp)(E:XK):Cx where
 prog:=P
 w:=w
 K:=K
 mg:=mg
 base:=base
 A:=A.deeper (envOfC qual scope s.heap.objs.size f cd)
 N:=N
 s₀:=s
 H₀:=H
 env:=envOfC qual scope s.heap.objs.size f cd
 outer:=outer
 stack:=envOfC qual scope s.heap.objs.size f cd::outer
 ex:= []
 calm:=true
 fn:=λ_=>true
 pn:= []
 xe:=λe s'=>wpAny (model P w) (A.deeper (envOfC qual scope s.heap.objs.size f cd)) (leaving (envOfC qual scope s.heap.objs.size f cd) e) (λ_ PD=>CX outer H s E e PD) (λe' PD=>CX outer H s E e' PD) s'
theorem wA{sc:Scope}{n:Nat}{x:Str}(h:sc.names.lookup x=some .cell):∃c,(cellsFrom n sc.names []).lookup x=some c:=by
 have q:=PySem.W.cellsFrom_some sc.names n [] (.inl h);exact Option.isSome_iff_exists.mp q
theorem B7{CX:qo}{P:Program}{w:World}{K:PySem.W.Frag}{mg:Str→Option Value}{base:Heap}{N ps:List Str}{qual:Str}{scope:Scope}{f:Addr}{cd:Value}{A:Around}{outer:List Env}{s s1:Shared}{H:Hp}{E:XK}{us:List Value}{vs:List V}
  (S:aI N ps scope) (hd:A.handled=none) (e0:Env0 P w K mg base A outer s H) (hl:vs.length=ps.length) (r:Vals vs us)
  (x:InCallC s s.heap.objs.size (bindL (envOfC qual scope s.heap.objs.size f cd).kindOf (ps.zip us) λ_=>none) (cellsFrom (s.heap.objs.size+1) scope.names []) (bindC (envOfC qual scope s.heap.objs.size f cd).kindOf (ps.zip us) λ_=>none) s1):
  Inv (oV CX P w K mg base N qual scope f cd A outer s H E) [] (start N vs) H s1:=by
 have cW:ps.length≤N.length:=by have:=congrArg List.length S.pre;rw [jn] at this;omega
 obtain ⟨h1,tk,rfl,hk⟩:=x.done;have Im:∀b:Addr,b∉(oV CX P w K mg base N qual scope f cd A outer s H E).ex:=λb z=>absurd (show b∈([]:List Addr) from z) (by simp)
 refine ⟨⟨e0.mod,S.kind,rfl,rfl,aU _,λy z c h1 h2=>?_,λy hy=>?_,λy c _ h=>?_,λ_=>hd,Around.frames_deeper e0.frames, .inr ⟨rfl,rfl⟩,λb z=>absurd z (Im b),e0.bs,e0.bsz,λb _ _=>Im b,λb z=>absurd z (Im b),e0.funs,e0.frf⟩,
  rfl,e0.bare,Un.kept hk,⟨_,x.toInCall.ns,λi y v h1 h2 h3=>?_⟩,λy c h=>⟨_,x.cell y c h⟩,e0.hok.fresh (aU _),λy c h=>?_,λp hp=>absurd (show p∈([]:List (Addr×Obj)) from hp) (by simp),e0.hok.kept hk,?_⟩
 ·exact name_of_addr x.apart (PySem.mem_of_lookup h1) (PySem.mem_of_lookup h2)
 ·have hy:scope.names.lookup y=some .cell∨scope.names.lookup y=some .free:=hy
  rcases hy with hy|hy
  ·exact wA hy
  ·exact absurd rfl (S.nofree _ (PySem.mem_of_lookup hy))
 ·exact Nat.le_of_lt (x.above y c (PySem.mem_of_lookup h))
 ·have hi:i<vs.length:=by
   unfold start at h2
   by_cases hi:i<vs.length
   ·exact hi
   ·rw [ji (by simpa using hi)] at h2
    rw [Bg] at h2
    split at h2<;>cases h2
  have ha:vs[i]? =some v:=by
   unfold start at h2;rw [jj (by simpa using hi),dq] at h2
   cases e:vs[i]? with
   |none=>rw [e] at h2;cases h2
   |some a=>rw [e] at h2;cases h2;rfl
  obtain ⟨u,hu,rv⟩:=r.get ha
  have hp:ps[i]? =some y:=by
   rw [←S.pre,Et (by omega)];exact h1
  have Uj:ps.Nodup:=by rw [←S.pre];exact S.nd.sublist (List.take_sublist _ _)
  refine ⟨u,rv,?_⟩
  rcases S.par y (cS hp) with k|k
  ·exact .inl ⟨k,tM Uj hp hu k⟩
  ·obtain ⟨c,e⟩:=wA (n:=s.heap.objs.size+1) k
   refine .inr ⟨.inl k,c,e,?_⟩;have q:=x.cell y c e;rw [tK Uj hp hu (by show scope.names.lookup y≠_;rw [k];decide)] at q
   exact q
 ·exact e0.hok.fresh (Nat.le_of_lt (x.above y c (PySem.mem_of_lookup h)))
 ·unfold start
  show _=N.length;rw [bV,aJ,r6];omega
theorem N7{CX:qo}{P:Program}{w:World}{K:PySem.W.Frag}{mg:Str→Option Value}{base:Heap}{k:Nat}{f:Addr}{name qual:Str}{params:Arguments}{body:List Stmt}{scope:Scope}{dV kV doc pm bp ct oc:Value}{an od:Option Addr}
  {AH:Array (Option Value)} {N ps:List Str} {sp:Sp} (lk:K.lookup f=some ⟨oc,od, .func (PySem.W.fnOf name qual params body scope dV kV doc pm an bp ct),AH⟩) (gq:PySem.W.codeIn K bp qual=true) (S:aI N ps scope)
  (len:∀vs H Q E,sp vs H Q E→vs.length=ps.length)
  (oh:∀(A:Around)(outer:List Env)(s:Shared)(H:Hp)(vs:List V)(Q:VK)(E:XK),bO k (A.deeper (envOfC qual scope s.heap.objs.size f bp))→sp vs H Q E→
   ∃t,jZ (oV CX P w K mg base N qual scope f bp A outer s H E) body t∧t {nx:=λ_ H'=>Q .aM H',rt:=Q} (start N vs) H):
  FnOk P w K mg base CX (k+1) f (PySem.W.fnOf name qual params body scope dV kV doc pm an bp ct) ps sp:=by
 refine ⟨len,λA outer s H args us vs Q E hr e0 hb r Ai=>?_⟩;have hl:=len _ _ _ _ Ai;have KX:K.In s.heap:=e0.mod.kin.keeps λb o e=>(e0.bs b o e).1;have lim:s.heap.NoLimit:=e0.mod.nolimit.keeps λb o e=>(e0.bs b o e).1
 have OB:∀y∈ps.zip us,scope.names.lookup y.1=some .local∨(scope.names.lookup y.1=some .cell∧((cellsFrom (s.heap.objs.size+1) scope.names []).lookup y.1).isSome=true):=λ⟨n,v⟩ hy=>by
  rcases S.par n (List.of_mem_zip hy).1 with q|q
  ·exact .inl q
  ·exact .inr ⟨q,PySem.W.cellsFrom_some _ _ _ (.inl q)⟩
 refine codeAny_call_function hr.depth (KX _ _ lk) rfl S.co S.gen rfl (PySem.W.codeRec_of KX gq) (hb _ _ _ _ ?_);refine wpAny_newFunctionEnv_cells S.kind OB λenv he s1 x=>?_;subst he;refine ⟨lim.keeps x.toInCall.keep,codeAny_func ?_⟩;obtain ⟨t,ht,hq⟩:=oh A outer s H vs Q E (hr.deeper _) Ai;have I:Inv (oV CX P w K mg base N qual scope f bp A outer s H E) [] (start N vs) H s1:=B7 S hr.hd e0 hl r x;refine wpAny_mono (ht [] s1 (start N vs) H _ I hq) (λfl s' hs=>?_) λe s' hs=>hs
 have fin:∀{aw:St}{H':Hp}{v:V}{u:Value},Inv (oV CX P w K mg base N qual scope f bp A outer s H E) [] aw H' s'→RelV v u→Q v H'→CE outer P w H s Q u s':=
  λ {aw H' v u} J rv q=>⟨v,H',J.os,J.bare,J.base,J.hok,rv,q⟩
 cases fl with
 |ret u=>
  obtain ⟨v,aw,H',J,rv,q⟩:=hs;exact fin J rv q
 |next=>
  obtain ⟨aw,H',J,q⟩:=hs;exact fin (v:=V.aM) (u:=Value.none) J rfl q
 |brk=>
  obtain ⟨_,_,_,q⟩:=hs;exact False.elim q
 |cont=>
  obtain ⟨_,_,_,q⟩:=hs;exact False.elim q
section
variable {X:Cx} {x:Str} {p pos:Pos} {e:Expr} {es:List Expr} {t:TA} {id T:String} {r:List V→Hp→VK→Prop}
def V7(r:List V→Hp→VK→Prop)(t:TA):TE:=λσ H Q=>t σ H λvs H1=>r vs H1 Q
theorem cp(hc:cN X (.builtin id) r)(hg:Gl X x)(hm:X.mg x=none)(hv:bootBuiltins x=some (.builtin id))(ha:PA X (e::es) t)(hn:x≠"__name__":=by decide)(gW:(x==("__debug__":Str))=false:=by decide)
  (he:starEach (e::es) X.env=(false,eval e X.env)::starEach es X.env:=by rfl) (cW:(backTo pos (starEach es X.env)).any (·.1)=false:=by rfl):PE X (.Call (.Name x p) (e::es) [] pos) (V7 r t):=by
 intro pins s σ H Q I h;refine wpAny_Call_Name_kw (hZ I hg hm hv ?_ hn gW);exact PyProof.Rows.callWith_builtin1 (thn (ha pos pins s σ H _ I h) λus s1 ⟨vs,H1,I1,r1,q1⟩=>hc pins s1 σ H1 vs us Q I1 r1 q1) he cW
theorem uO(hc:cN X (.type T) r)(hg:Gl X x)(hm:X.mg x=none)(hv:bootBuiltins x=some (.type T))(ha:PA X (e::es) t)(hn:x≠"__name__":=by decide)(gW:(x==("__debug__":Str))=false:=by decide)
  (he:starEach (e::es) X.env=(false,eval e X.env)::starEach es X.env:=by rfl) (cW:(backTo pos (starEach es X.env)).any (·.1)=false:=by rfl):PE X (.Call (.Name x p) (e::es) [] pos) (V7 r t):=by
 intro pins s σ H Q I h;refine wpAny_Call_Name_kw (hZ I hg hm hv ?_ hn gW);exact PyProof.Rows.callWith_type1 (thn (ha pos pins s σ H _ I h) λus s1 ⟨vs,H1,I1,r1,q1⟩=>hc pins s1 σ H1 vs us Q I1 r1 q1) he cW
end
end L2
namespace HT
open PySem PyProof.Rows
def lexLt:List Int→List Int→Bool
 | [],[]=>false
 | [],_::_=>true
 |_::_,[]=>false
 |x::xs,y::ys=>if x=y then lexLt xs ys else decide (x<y)
theorem eO(x y:Int)(xs ys:List Int):lexLt (x::xs) (y::ys)=if x=y then lexLt xs ys else decide (x<y):=rfl
theorem lM:lexLt [] []=false:=rfl
theorem kF(y:Int)(ys:List Int):lexLt [] (y::ys)=true:=rfl
theorem kE(x:Int)(xs:List Int):lexLt (x::xs) []=false:=rfl
theorem wJ(A:Around)(s:Shared)(a:Int)(t:Tok)(c:Int)(u:Tok):∃e,SeqAt.EqAt A s (.int a t) (.int c u) e∧(e=true↔a=c):=
 ⟨(a==c),SeqAt.EqAt.int_int a t c u,by simp⟩
theorem xy(A:Around)(s:Shared)(a:Int)(t:Tok)(c:Int)(u:Tok)(prog:Program)(w:World)(E:Value→Shared→Prop)(Q:Value→Shared→Prop)(h:Q (.bool (decide (a<c))) s):
  wpAny (model prog w) A (richCompare .Lt (.int a t) (.int c u)) Q E s:=
 (PyProof.Rows.lt_int h:wpAny (model prog w) A (compareOp .Lt (.int a t) (.int c u)) Q E s)
section
open PySem.SeqAt
open PySem.AutoSeq1 (wpAny_loadPart')
open PySem.MeetsSeq PySem.MeetsSeq2 PySem.MeetsSeq3
theorem vg(l b:Addr)(items bf:Array Value)(n n2:Nat)(dd qt:Option Addr)(sl oN:Array (Option Value))(ns ms:List Int)(hi:IntsAre items.toList ns)(hj:IntsAre bf.toList ms):
  Meets (Builtin.«tuple.__lt__» ⟨[.ref l, .ref b],[]⟩)
   (λ_ R s=>s.heap.get? l=some {cls:= .type "tuple",dict:=dd,data:= .seq items n,slots:=sl}∧s.heap.get? b=some {cls:= .type "tuple",dict:=qt,data:= .seq bf n2,slots:=oN}∧
    R (.ok (.ret (.bool (lexLt ns ms)))) s):=
 .of_wp λprog w A R s h=>by
  obtain ⟨hp,g,d,tk,os⟩:=s;obtain ⟨hl,hb,h⟩:=h;have f2:=AutoSeq1.sub_tuple_tuple;have z1:items.size=ns.length:=by rw [←hi.length];simp
  have z2:bf.size=ms.length:=by rw [←hj.length];simp
  wp_walk using wpAny_loadPart' hl,wpAny_loadPart' hb,wpAny_forIn_list _ (λrest b s'=>b.1=none∧s'=⟨hp,g,d,tk,os⟩∧∃(vs ws:List Value)(lR FA:List Int),rest=vs.zip ws∧
   IntsAre vs lR∧IntsAre ws FA∧lR.length+bf.size=FA.length+items.size∧R (.ok (.ret (.bool (lexLt lR FA)))) ⟨hp,g,d,tk,os⟩) _
  case turn=>
   rintro ⟨y,x⟩ rest b s' ⟨z5,rfl,vs,ws,lR,FA,hz,OW,Kk,hlen,hR⟩;cases OW with
   |nil=>rw [List.zip_nil_left] at hz;cases hz
   |cons a t Tb=>
    cases Kk with
    |nil=>rw [List.zip_nil_right] at hz;cases hz
    |cons c u Td=>
     rw [List.zip_cons_cons] at hz
     injection hz with Zs ON
     injection Zs with hy hx
     subst hy hx;rw [eO] at hR;simp only [cL] at hlen;obtain ⟨e,he,z7⟩:=wJ A.in1 ⟨hp,g,d,tk,os⟩ a t c u;refine wpAny_bind (he prog w _ _ ?_);cases e with
     |true=>
      rw [if_pos (z7.mp rfl)] at hR
      wp_walk
      exact ⟨rfl,rfl,_,_,_,_,ON,Tb,Td,by omega,hR⟩
     |false=>
      rw [if_neg (λq=>absurd (z7.mpr q) cK)] at hR;have OO:=xy A.in1 ⟨hp,g,d,tk,os⟩ a t c u prog w
      wp_walk using OO
      exact ⟨_,rfl,by simpa using hR⟩
  case fin=>
   rintro ⟨b1,b2⟩ s' ⟨z5,rfl,vs,ws,lR,FA,hz,OW,Kk,hlen,hR⟩;simp only at z5;subst z5
   have hv:lexLt lR FA=decide (items.size<bf.size):=by
    cases OW with
    |nil=>
     cases Kk with
     |nil=>
      simp only [vJ] at hlen;rw [lM];exact (decide_eq_false (by omega)).symm
     |cons c u hw=>
      simp only [vJ,cL] at hlen;rw [kF];exact (decide_eq_true (by omega)).symm
    |cons a t hv=>
     cases Kk with
     |nil=>
      simp only [vJ,cL] at hlen;rw [kE];exact (decide_eq_false (by omega)).symm
     |cons c u hw=>
      rw [List.zip_cons_cons] at hz;cases hz
   rw [hv] at hR
   wp_walk
   exact ⟨_,rfl,by simpa [Builtin.Tuple.tupleCompareSizes] using hR⟩
  case h=>
   exact ⟨rfl,rfl,items.toList,bf.toList,ns,ms,rfl,hi,hj,by omega,h⟩
end
section
variable {prog:Program} {w:World} {A:Around} {E:Value→Shared→Prop} {s:Shared}
theorem Az{l b:Addr}{items bf:Array Value}{ns ms:List Int}{Q:Value→Shared→Prop}(hl:IsTup s.heap l items)(hb:IsTup s.heap b bf)(hi:IntsAre items.toList ns)(hj:IntsAre bf.toList ms)
  (hu:A.units<cLine) (h:Q (.bool (lexLt ns ms)) s):wpAny (model prog w) A (compareOp .Lt (.ref l) (.ref b)) Q E s:=by
 obtain ⟨⟨cls,dd,data,sl⟩,ho,hc,n,hd⟩:=id hl;obtain ⟨⟨Md,qt,data2,oN⟩,uh,vU,n2,hd2⟩:=id hb;simp only at hc hd vU hd2;subst hc hd vU hd2
 exact richCompare_meets_room (op:= .Lt) ⟨_,ho,rfl⟩ ⟨_,uh,rfl⟩ PySem.F.slot_tuple_lt PySem.F.entry_tuple_lt (PySem.F.args_tuple_lt_2 _ _) (vg l b items bf n n2 dd qt sl oN ns ms hi hj)
  ⟨ho,uh,show Value.bool (lexLt ns ms)≠Value.notImplemented∧Q (.bool (lexLt ns ms)) s from ⟨(λx=>nomatch x),h⟩⟩ hu
theorem Gv{t b:Addr}{vs ws:List Value}{Q:Value→Shared→Prop}(ht:IsTup s.heap t vs.toArray)(hb:IsTup s.heap b ws.toArray)(hv:vs≠ [])
  (h1:ws= []→Q (.ref t) s) (h2:ws≠ []→Q (.ref s.heap.objs.size) {s with heap:=s.heap.push {cls:= .type "tuple",data:= .seq (vs++ws).toArray}})
  (eD:vs.length+ws.length≤sizeLine):wpAny (model prog w) A (binaryOp .Add (.ref t) (.ref b)) Q E s:=by
 obtain ⟨⟨cls,dd,data,sl⟩,ho,hc,n,hd⟩:=id ht;obtain ⟨⟨Md,qt,data2,oN⟩,uh,vU,n2,hd2⟩:=id hb;simp only at hc hd vU hd2;subst hc hd vU hd2;have e:vs.toArray++ws.toArray=(vs++ws).toArray:=by simp
 by_cases hw:ws= []
 ·exact concat_meets ⟨_,ho,rfl⟩ ⟨_,uh,rfl⟩ noFill_tuple_add seq_tuple_add PySem.F.slot_tuple_add PySem.F.entry_tuple_add (PySem.F.args_tuple_add_2 _ _)
   (tuple_addW1 t b vs.toArray ws.toArray n n2 dd qt sl oN (by simpa using hv) (by simp [hw])) ⟨ho,uh,h1 hw⟩
 ·refine concat_meets ⟨_,ho,rfl⟩ ⟨_,uh,rfl⟩ noFill_tuple_add seq_tuple_add PySem.F.slot_tuple_add PySem.F.entry_tuple_add (PySem.F.args_tuple_add_2 _ _)
   (tuple_addW2 t b vs.toArray ws.toArray n n2 dd qt sl oN (by simpa using hv) (by simpa using hw) (by rw [dU,dU];exact eD)) ⟨ho,uh,?_⟩
  rw [e];exact h2 hw
def bx(n d:Nat):Option Int→Nat
 |none=>d
 |some v=>if v<0 then (v+(n:Int)).toNat else min v.toNat n
theorem xE(n d:Nat):bx n d none=d:=rfl
theorem AU(n d k:Nat):bx n d (some (k:Int))=min k n:=by
 show (if (k:Int)<0 then ((k:Int)+(n:Int)).toNat else min (k:Int).toNat n)=min k n;rw [if_neg (by omega),kP]
theorem Lq(n d:Nat)(hd:d≤n)(o:Option Int):bx n d o≤n:=by
 cases o with
 |none=>exact hd
 |some v=>
  show (if v<0 then (v+(n:Int)).toNat else min v.toNat n)≤n
  by_cases hv:v<0
  ·rw [if_pos hv];omega
  ·rw [if_neg hv];exact Nat.min_le_right _ _
theorem zJ(v:Int)(n d:Nat):(if v<0 then max (v+(n:Int)) 0 else min v (n:Int))=((bx n d (some v):Nat):Int):=by
 show (if v<0 then max (v+(n:Int)) 0 else min v (n:Int))=(((if v<0 then (v+(n:Int)).toNat else min v.toNat n):Nat):Int)
 by_cases hv:v<0
 ·simp only [if_pos hv];omega
 ·simp only [if_neg hv];omega
theorem zA(lo hi:Option Int)(n:Nat):Builtin.Slice.sliceAdjust lo hi 1 (n:Int)=(((bx n 0 lo:Nat):Int),((bx n n hi:Nat):Int)):=by
 have h1:¬((1:Int)<0):=by omega
 unfold Builtin.Slice.sliceAdjust;simp only [h1,if_false];refine Prod.ext ?_ ?_
 ·cases lo with
  |none=>rfl
  |some v=>exact zJ v n 0
 ·cases hi with
  |none=>rfl
  |some v=>exact zJ v n n
theorem AK(i j:Nat):Builtin.Slice.slicePlaces (i:Int) (j:Int) 1=j-i:=by
 unfold Builtin.Slice.slicePlaces;have h1:(1:Int)>0:=by omega
 simp only [h1,if_true,Int.ediv_one]
 split<;>omega
theorem rR{v:Value}{o:Option Int}{Q:Option Int→Shared→Prop}(p:IsPart v o)(h:Q o s):wpAny (model prog w) A (Builtin.Slice.slicePartIndex v) Q E s:=by
 cases p with
 |none=>exact slicePart_none h
 |int i t=>exact slicePart_int h
theorem qa{sl:Addr}{vl vu:Value}{lo hi:Option Int}{n:Nat}{Q:Int×Int×Nat→Shared→Prop}(hs:s.heap.IsSliceOf sl vl vu .none)(pl:IsPart vl lo)(pu:IsPart vu hi)
  (h:Q (((bx n 0 lo:Nat):Int),1,bx n n hi-bx n 0 lo) s):wpAny (model prog w) A (Builtin.Slice.sliceApplied (.ref sl) (pure (n:Int))) Q E s:=by
 obtain ⟨os,HC,Sg,vW⟩:=id hs;unfold Builtin.Slice.sliceApplied Builtin.Slice.sliceFields;refine wpAny_bind (wpAny_bind (wpAny_field HC vW (x:=vl) rfl (wpAny_bind (wpAny_field HC vW (x:=vu) rfl (wpAny_bind (wpAny_field HC vW (x:= .none) rfl (wpAny_pure ?_)))))));refine wpAny_bind (slicePart_none ?_);show wpAny _ _ (if ((1:Int)==0)=true then _ else _) _ _ s;rw [if_neg (by decide)]
 refine wpAny_bind (rR pl (wpAny_bind (rR pu (wpAny_bind (wpAny_pure ?_)))));show wpAny _ _ (match Builtin.Slice.sliceAdjust lo hi 1 (n:Int) with| (lo,hi)=>pure (lo,(1:Int),Builtin.Slice.slicePlaces lo hi 1)) _ _ s
 rw [zA lo hi n];show wpAny _ _ (pure (((bx n 0 lo:Nat):Int),(1:Int),Builtin.Slice.slicePlaces ((bx n 0 lo:Nat):Int) ((bx n n hi:Nat):Int) 1)) _ _ s;rw [AK];exact wpAny_pure h
theorem FP(xs:Array Value)(i k:Nat):((List.range k).filterMap λ(m:Nat)=>xs[((i:Int)+(m:Int)*1).toNat]?).toArray=((xs.toList.drop i).take k).toArray:=by
 have e:(λ(m:Nat)=>xs[((i:Int)+(m:Int)*1).toNat]?)=λm=>xs[i+m]? :=by
  funext m
  have:((i:Int)+(m:Int)*1).toNat=i+m:=by omega
  rw [this]
 rw [e]
 have:=pick_run xs i k
 rw [List.filterMap_map] at this;have e2:((λx=>xs[x]?)∘λx=>i+x)=λm=>xs[i+m]? :=rfl;rw [e2] at this;rw [this]
theorem og{t sl:Addr}{items:Array Value}{vl vu:Value}{lo hi:Option Int}{Q:Value→Shared→Prop}(ht:IsTup s.heap t items)(hs:s.heap.IsSliceOf sl vl vu .none)(pl:IsPart vl lo)(pu:IsPart vu hi)
  (hw:¬(bx items.size 0 lo=0∧bx items.size items.size hi=items.size))
  (h:Q (.ref s.heap.objs.size) {s with heap:=s.heap.push {cls:= .type "tuple",data:= .seq ((items.toList.drop (bx items.size 0 lo)).take (bx items.size items.size hi-bx items.size 0 lo)).toArray}})
  (eD:items.size≤sizeLine):wpAny (model prog w) A (getItem (.ref t) (.ref sl)) Q E s:=by
 have yG:sizeOk (.seq ((items.toList.drop (bx items.size 0 lo)).take (bx items.size items.size hi-bx items.size 0 lo)).toArray):=by
  show ((items.toList.drop (bx items.size 0 lo)).take (bx items.size items.size hi-bx items.size 0 lo)).toArray.size≤sizeLine;rw [dU,jn,qk,bX];omega
 have hj:bx items.size items.size hi≤items.size:=Lq _ _ (aU _) hi;obtain ⟨os,HC,Sg,vW⟩:=id hs;have Yo:s.TypeIs (.ref sl) "slice":=⟨os,HC,Sg⟩;unfold getItem
 try with_reducible refine wpAny_holding ?_
 first|refine wpAny_bind (wpAny_pure ?_) |skip
 refine wpAny_bind (wpAny_sequenceKey ht.typeIs (by decide) ?_)
 refine wpAny_bind (wpAny_callSpecial?_slot (name:=Str.ofString "__getitem__") ht.typeIs PyProof.Rows.slot_tuple_getitem
  (wpAny_call_entry PyProof.Rows.slot_tuple_getitem ht.typeIs entry_tuple_getitem ?_ (args_tuple_getitem _ _)))
 show wpAny _ _ (Builtin.Tuple.tupleItemsOf (.ref t)>>=_) _ _ s;refine wpAny_bind (tupleItemsOf_ ht ?_);refine wpAny_bind (wpAny_typeOf Yo ?_);rw [if_pos (by decide)]
 refine wpAny_bind (qa hs pl pu ?_)
 have vZ:¬((((bx items.size 0 lo:Nat):Int)==0&&(1:Int)==1&&(bx items.size items.size hi-bx items.size 0 lo)==items.size)=true):=by
  intro q;rw [xY,xY] at q;have q1:((bx items.size 0 lo:Nat):Int)=0:=eq_of_beq q.1.1;have q2:bx items.size items.size hi-bx items.size 0 lo=items.size:=eq_of_beq q.2;exact hw ⟨by omega,by omega⟩
 show wpAny _ _ (if (((bx items.size 0 lo:Nat):Int)==0&&(1:Int)==1&&(bx items.size items.size hi-bx items.size 0 lo)==items.size)=true then _ else _) _ _ s;rw [if_neg vZ,FP]
 first
  |exact wpAny_bind (m:=Builtin.Tuple.tupleExact _) (wpAny_newObj_type (wpAny_pure ⟨_,rfl,wpAny_pure h⟩) yG)
  |exact wpAny_bind (m:=Builtin.Tuple.tupleExact _) (wpAny_newObj_type (wpAny_bind (wpAny_pure (wpAny_pure ⟨_,rfl,wpAny_pure h⟩))) yG)
  |exact wpAny_bind (wpAny_bind (m:=Builtin.Tuple.tupleExact _) (wpAny_newObj_type (wpAny_pure (wpAny_pure ⟨_,rfl,wpAny_pure h⟩)) yG))
  |exact wpAny_bind (wpAny_bind (m:=Builtin.Tuple.tupleExact _) (wpAny_newObj_type (wpAny_pure ⟨_,rfl,wpAny_pure h⟩) yG))
end
end HT
namespace L2
open PySem PySem.Spec PyProof.Rows
abbrev TO:=St→Hp→(Option Int→Hp→Prop)→Prop
def PO(X:Cx)(e:Option Expr)(t:TO):Prop:=
 ∀(pins:List (Addr×Obj))(s:Shared)(σ:St)(H:Hp)(Q:Option Int→Hp→Prop),Inv X pins σ H s→t σ H Q→
  wpAny (model X.prog X.w) X.A (evalPart e X.env) (λu s'=>∃o H',Inv X pins σ H' s'∧IsPart u o∧Q o H') X.xe s
def Jx:TO:=λ_ H Q=>Q none H
def PV(t:TE):TO:=λσ H Q=>t σ H λx H1=>∃i,x= .int i∧Q (some i) H1
theorem intsAre_of{ns:List Int}:∀{us:List Value},Vals (ns.map V.int) us→IntsAre us ns:=by
 induction ns with
 |nil=>intro us r;rw [List.map_nil] at r;cases r;exact .nil
 |cons n ns ih=>
  intro us r;rw [fY] at r;cases r with
  |cons r1 r2=>
   obtain ⟨t,e⟩:=r1;subst e;exact .cons n t (ih r2)
section
variable {X:Cx} {e:Expr} {te:TE} {lo hi:Option Expr} {tl th:TO} {pos p2:Pos}
theorem uQ:PO X none Jx:=by
 intro pins s σ H Q I h;rw [evalPart_none];exact wpAny_pure ⟨none,H,I, .none,h⟩
theorem lW(h:PE X e te):PO X (some e) (PV te):=by
 intro pins s σ H Q I hw;rw [evalPart_some];refine thn (h pins s σ H _ I hw) λu s1 ⟨x,H1,I1,r1,q1⟩=>?_;obtain ⟨i,rfl,q⟩:=q1;obtain ⟨t,rfl⟩:=r1;exact ⟨some i,H1,I1, .int i t,q⟩
def Bo(X:Cx)(r:V→Option Int→Option Int→Hp→VK→Prop):Prop:=
 ∀(pins:List (Addr×Obj))(s:Shared)(σ:St)(H:Hp)(x:V)(v vl vu:Value)(lo hi:Option Int)(sl:Addr)(Q:VK),Inv X pins σ H s→RelV x v→s.heap.IsSliceOf sl vl vu .none→IsPart vl lo→IsPart vu hi→r x lo hi H Q→
  ∃T id,typeLookup (.type T) "__getitem__"=pure (some (.builtin id))∧s.TypeIs v T∧wpAny (model X.prog X.w) X.A (getItem v (.ref sl)) (EP X pins σ Q) X.xe s
theorem Bo.or{r r':V→Option Int→Option Int→Hp→VK→Prop}(h:Bo X r)(h':Bo X r'):Bo X (λx lo hi H Q=>r x lo hi H Q∨r' x lo hi H Q):=by
 intro pins s σ H x v vl vu lo hi sl Q I rx hs pl pu q
 rcases q with q|q
 ·exact h pins s σ H x v vl vu lo hi sl Q I rx hs pl pu q
 ·exact h' pins s σ H x v vl vu lo hi sl Q I rx hs pl pu q
def tSl(r:V→Option Int→Option Int→Hp→VK→Prop)(te:TE)(tl th:TO):TE:=λσ H Q=>te σ H λx H1=>tl σ H1 λl H2=>th σ H2 λu H3=>r x l u H3 Q
theorem m7{r:V→Option Int→Option Int→Hp→VK→Prop}(hr:Bo X r)(he:PE X e te)(hl:PO X lo tl)(hu:PO X hi th):PE X (.Subscript e (.Slice lo hi none p2) pos) (tSl r te tl th):=by
 intro pins s σ H Q I h;refine Subscript_ (thn (he pins s σ H _ I h) λv s1 ⟨x,H1,I1,r1,q1⟩=>?_);refine wpAny_Slice (thn (hl pins s1 σ H1 _ I1 q1) λvl s2 ⟨l,H2,I2,pl,q2⟩=>thn (hu pins s2 σ H2 _ I2 q2) λvu s3 ⟨u,H3,I3,pu,q3⟩=>?_);rw [evalPart_none];refine wpAny_pure ?_;have I4:Inv X pins σ H3 {s3 with heap:=s3.heap.push {cls:= .type "slice",data:= .fields #[vl,vu, .none]}}:=I3.kept (t':=s3.toks) λb ob q=>Heap.get?_push_of_some _ q
 obtain ⟨T,id,hT,ht,hg⟩:=hr pins {s3 with heap:=s3.heap.push {cls:= .type "slice",data:= .fields #[vl,vu, .none]}} σ H3 x v vl vu l u s3.heap.objs.size Q I4 r1 (Heap.IsSliceOf.new ..) pl pu q3
 show wpAny (model X.prog X.w) X.A (subscriptTail e (.Slice lo hi none p2) v (.ref s3.heap.objs.size)) (EP X pins σ Q) X.xe {s3 with heap:=s3.heap.push {cls:= .type "slice",data:= .fields #[vl,vu, .none]}}
 exact tail_any (ops:= [.ref s3.heap.objs.size,v]) ht hT hg (by with_unfolding_all rfl)
def f6(xs:List V)(lo hi:Option Int):List V:=(xs.drop (HT.bx xs.length 0 lo)).take (HT.bx xs.length xs.length hi-HT.bx xs.length 0 lo)
theorem j1(xs:List V)(lo hi:Option Int):(f6 xs lo hi).length≤xs.length:=by
 unfold f6;rw [jn,qk];omega
def Vs(K:PySem.W.Frag):V→Option Int→Option Int→Hp→VK→Prop:=λx lo hi H Q=>∃a xs,x= .ref a∧dr K H a xs∧
 ¬(HT.bx xs.length 0 lo=0∧HT.bx xs.length xs.length hi=xs.length)∧∀p,H p=none→Q (.ref p) (upd H p (.tup (f6 xs lo hi)))
theorem Ls:Bo X (Vs X.K):=by
 intro pins s σ H x v vl vu lo hi sl Q I rx hs pl pu h;obtain ⟨a,xs,rfl,hx,hw,q⟩:=h;cases rx;obtain ⟨its,r,ht,hz⟩:=I.tuple hx;have hlen:its.toArray.size=xs.length:=by rw [dU];exact r.length.symm
 refine ⟨"tuple",_,PyProof.Rows.slot_tuple_getitem.lookup,ht.typeIs,?_⟩;refine HT.og ht hs pl pu (by rw [hlen];exact hw) ?_ (by rw [hlen];exact hz)
 rw [hlen];refine ⟨.ref s.heap.objs.size,_,I.laid (t':=s.toks) (o:= .tup (f6 xs lo hi)) (λb ob q=>Heap.get?_push_of_some _ q) (aU _) ?_,rfl,q _ (I.hok.fresh (aU _))⟩;exact ⟨kU (j1 xs lo hi) hz,_,(r.drop (HT.bx xs.length 0 lo)).take (HT.bx xs.length xs.length hi-HT.bx xs.length 0 lo),IsTup.new _ _⟩
def PB(K:PySem.W.Frag):R2:=λx y H Q=>∃a b xs ys,x= .ref a∧y= .ref b∧dr K H a xs∧dr K H b ys∧xs≠ []∧xs.length+ys.length≤sizeLine∧
 (ys= []→Q (.ref a) H)∧(ys≠ []→∀p,H p=none→Q (.ref p) (upd H p (.tup (xs++ys))))
theorem Vals.uH{xs:List V}{us:List Value}(r:Vals xs us):us= []↔xs= []:=by
 cases r with
 |nil=>simp
 |cons _ _=>simp
theorem IE:OpR X (binaryOp .Add) (PB X.K):=by
 intro pins s σ H x y v u Q I rx ry h;obtain ⟨a,b,xs,ys,rfl,rfl,ha,hb,hx,hz,q1,q2⟩:=h;cases rx;cases ry;obtain ⟨its,r1,p1,_⟩:=I.tuple ha;obtain ⟨rK,r2,p2,_⟩:=I.tuple hb;refine HT.Gv p1 p2 (λz=>hx (r1.uH.mp z)) (λz=>⟨.ref a,H,I,rfl,q1 (r2.uH.mp z)⟩) (λz=>?_) (by rw [←r1.length,←r2.length];exact hz)
 refine ⟨.ref s.heap.objs.size,_,I.laid (t':=s.toks) (o:= .tup (xs++ys)) (λb ob q=>Heap.get?_push_of_some _ q) (aU _) ?_,rfl,q2 (λw=>z (r2.uH.mpr w)) _ (I.hok.fresh (aU _))⟩;exact ⟨by rw [bV];exact hz,_,r1.append r2,IsTup.new _ _⟩
end
def nA(n:Nat)(i:Int):Option Nat:=if 0≤i then (if i<n then some i.toNat else none) else if-(n:Int)≤i then some (i+n).toNat else none
def gf{α:Type}(xs:List α)(i:Int):Option α:=(nA xs.length i).bind λj=>xs[j]?
theorem Aq{n:Nat}{i:Int}{j:Nat}(h:nA n i=some j):seqIndex? i n=some j∧j<n∧-(n:Int)≤i∧i<n:=by
 unfold nA at h
 by_cases h0:0≤i
 ·rw [if_pos h0] at h
  by_cases h1:i<n
  ·rw [if_pos h1] at h
   have e:i.toNat=j:=Option.some.inj h;exact ⟨by rw [seqIndex_of h0 h1,e],by omega,by omega,h1⟩
  ·rw [if_neg h1] at h;cases h
 ·rw [if_neg h0] at h
  by_cases h1: -(n:Int)≤i
  ·rw [if_pos h1] at h
   have e:(i+n).toNat=j:=Option.some.inj h;exact ⟨by rw [seqIndex_neg (by omega) h1,e],by omega,h1,by omega⟩
  ·rw [if_neg h1] at h;cases h
theorem zC{α:Type}{xs:List α}{i:Int}{v:α}(h:gf xs i=some v):∃j,seqIndex? i xs.length=some j∧xs[j]? =some v∧j<xs.length∧-(xs.length:Int)≤i∧i<xs.length:=by
 unfold gf at h;cases e:nA xs.length i with
 |none=>rw [e] at h;cases h
 |some j=>
  rw [e] at h;obtain ⟨h1,h2,h3,h4⟩:=Aq e;exact ⟨j,h1,h,h2,h3,h4⟩
theorem bS{α:Type}{xs:List α}{j:Nat}{v:α}(h:xs[j]? =some v):gf xs (j:Int)=some v:=by
 have hj:j<xs.length:=(b9.mp h).1
 have e:nA xs.length (j:Int)=some j:=by
  unfold nA;rw [if_pos (by omega),if_pos (by omega)];simp
 unfold gf;rw [e];exact h
def zx(b:Expr):Prop:=∀o i,subscripted b false o i=operate [o,i] (getItem o i)
def ya(X:Cx)(r:R2):Prop:=
 ∀(value slice:Expr)(pins:List (Addr×Obj))(s:Shared)(σ:St)(H:Hp)(x y:V)(v u:Value)(Q:VK),Inv X pins σ H s→RelV x v→RelV y u→r x y H Q→
  subscripted slice false v u=operate [v,u] (getItem v u)→wpAny (model X.prog X.w) X.A (subscriptTail value slice v u) (EP X pins σ Q) X.xe s
def Ge(X:Cx)(id:String)(r:V→List V→Hp→VK→Prop):Prop:=
 ∀(pins:List (Addr×Obj))(s:Shared)(σ:St)(H:Hp)(x:V)(xs:List V)(v:Value)(us:List Value)(Q:VK),Inv X pins σ H s→RelV x v→Vals xs us→r x xs H Q→
  wpAny (model X.prog X.w) X.A (call (.builtin id) (v::us)) (EP X pins σ Q) X.xe s
section
variable {X:Cx} {a b:Expr} {ta tb:TE} {pos:Pos}
theorem ya.or{r r':R2}(h:ya X r)(h':ya X r'):ya X (λx y H Q=>r x y H Q∨r' x y H Q):=by
 intro value slice pins s σ H x y v u Q I rx ry q hs
 rcases q with q|q
 ·exact h value slice pins s σ H x y v u Q I rx ry q hs
 ·exact h' value slice pins s σ H x y v u Q I rx ry q hs
theorem cg{r:R2}(hr:ya X r)(ha:PE X a ta)(hb:PE X b tb)(hs:zx b):PE X (.Subscript a b pos) (zd r ta tb):=by
 intro pins s σ H Q I h;exact Subscript_ (Gr ha hb I h λv u s2 x y H2 I2 rx ry q=>hr a b pins s2 σ H2 x y v u Q I2 rx ry q (hs _ _))
def Ea(K:PySem.W.Frag):R2:=λx y H Q=>∃p xs i v,x= .ref p∧y= .int i∧aC K H p xs∧gf xs i=some v∧Q v H
def M0(K:PySem.W.Frag):R2:=λx y H Q=>∃p xs i v,x= .ref p∧y= .int i∧dr K H p xs∧gf xs i=some v∧Q v H
theorem bu:ya X (Ea X.K):=by
 intro value slice pins s σ H x y v u Q I rx ry h hs;obtain ⟨p,xs,i,z,rfl,rfl,hq,he,q⟩:=h;cases rx;obtain ⟨t,rfl⟩:=ry;obtain ⟨its,r,pl,hz⟩:=I.list hq;obtain ⟨j,h1,h2,h3,h4,h5⟩:=zC he;obtain ⟨w,ew,uU⟩:=r.get h2;have hl:=r.length;have hn:=jd;have fin:EP X pins σ Q w s:=⟨z,H,I,uU,q⟩
 by_cases h0:0≤i
 ·have hj:i.toNat=j:=by
   rw [seqIndex_of h0 h5] at h1;exact Option.some.inj h1
  exact item_listR pl.isList h0 (by omega) (by rw [hj];simpa using ew) fin hs
 ·have hj:(i+(its.toArray.size:Int)).toNat=j:=by
   rw [seqIndex_neg (by omega) h4] at h1
   rw [dU,←hl];exact Option.some.inj h1
  exact subscriptTail_builtinR (x:=w) pl.isList.typeIs slot_list_getitem.lookup
   (wpAny_getItem_list_neg (Q:=λr s'=>r=w∧EP X pins σ Q r s') pl.isList (by omega) (by rw [dU]<;>omega) (by omega) (by rw [hj];simpa using ew) ⟨rfl,fin⟩) hs
theorem D0:ya X (M0 X.K):=by
 intro value slice pins s σ H x y v u Q I rx ry h hs;obtain ⟨p,xs,i,z,rfl,rfl,hq,he,q⟩:=h;cases rx;obtain ⟨t,rfl⟩:=ry;obtain ⟨its,r,pl,hz⟩:=I.tuple hq;obtain ⟨j,h1,h2,h3,h4,h5⟩:=zC he;obtain ⟨w,ew,uU⟩:=r.get h2;have hl:=r.length;have hn:=jd;have fin:EP X pins σ Q w s:=⟨z,H,I,uU,q⟩
 exact subscriptTail_builtinR (x:=w) pl.typeIs slot_tuple_getitem.lookup
  (getItem_tuple (j:=j) (Q:=λr s'=>r=w∧EP X pins σ Q r s') pl (by omega) (by omega) (by rw [dU,←hl];exact h1) (by simpa using ew) ⟨rfl,fin⟩) hs
theorem AD(its:List Value)(n j:Nat)(u:Value):Obj.mapSeq (·.setIfInBounds j u) {cls:= .type "list",data:= .seq its.toArray n}={cls:= .type "list",data:= .seq (its.set j u).toArray n}:=by
 simp [Obj.mapSeq]
theorem Inv.lst{pins:List (Addr×Obj)}{σ:St}{H:Hp}{s:Shared}{p:Addr}{xs:List V}(I:Inv X pins σ H s)(h:H p=some (.lst xs)):
  ∃(its:List Value)(n:Nat),Vals xs its∧s.heap.get? p=some {cls:= .type "list",data:= .seq its.toArray n}∧xs.length≤sizeLine:=by
 obtain ⟨z,its,n,r,e⟩:=I.hok p _ h;exact ⟨its,n,r,e,z⟩
theorem Inv.KG{pins:List (Addr×Obj)}{σ:St}{H:Hp}{s:Shared}{p:Addr}{xs ys:List V}{its its':List Value}{n n':Nat}{f:Obj→Obj}(I:Inv X pins σ H s)(h:H p=some (.lst xs))
  (ho:s.heap.get? p=some {cls:= .type "list",data:= .seq its.toArray n}) (hf:f {cls:= .type "list",data:= .seq its.toArray n}={cls:= .type "list",data:= .seq its'.toArray n'}) (r:Vals ys its') (hz:ys.length≤sizeLine) (t:Nat):
  Inv X pins σ (upd H p (.lst ys)) {s with heap:=s.heap.update p f,toks:=t}:=by
 have e:(s.heap.update p f).get? p=some {cls:= .type "list",data:= .seq its'.toArray n'}:=by
  rw [Heap.get?_update_self f ho (by rw [hf]<;>rfl),hf]
 refine I.write (x:=p) (e:=p) (by rw [h];trivial) (.inl rfl) (λb u hb q=>(Heap.get?_update_other _ _ (Ne.symm hb)).trans q) ⟨_,e⟩ ?_
 exact ⟨hz,its',n',r,e⟩
def I0:V→V→V→Hp→(Hp→Prop)→Prop:=λo i v H Q=>∃p xs k j,o= .ref p∧i= .int k∧H p=some (.lst xs)∧nA xs.length k=some j∧Q (upd H p (.lst (xs.set j v)))
theorem set_list:LU X I0:=by
 intro pins s σ H o i v ov iv u Q I ro ri rv h;obtain ⟨p,xs,k,j,rfl,rfl,hp,hj,q⟩:=h;cases ro;obtain ⟨t,rfl⟩:=ri;obtain ⟨its,n,r,ho,hz⟩:=I.lst hp;obtain ⟨h1,h2,h3,h4⟩:=Aq hj;have hl:=r.length;have hn:=jd
 have I':Inv X pins σ (upd H p (.lst (xs.set j v))) {s with heap:=s.heap.update p (Obj.mapSeq (·.setIfInBounds j u))}:=
  I.KG hp ho (AD its n j u) (r.set rv j) (by rw [gb];exact hz) s.toks
 by_cases h0:0≤k
 ·have hk:k.toNat=j:=by
   rw [seqIndex_of h0 h4] at h1;exact Option.some.inj h1
  exact PySem.W.ki_setAt ho h0 (by omega) (by rw [dU,←hl];exact h4) (by rw [hk];exact ⟨_,I',q⟩)
 ·have hk:(k+(its.toArray.size:Int)).toNat=j:=by
   rw [seqIndex_neg (by omega) h3] at h1
   rw [dU,←hl];exact Option.some.inj h1
  exact PySem.W.ki_setBack ho (by omega) (by rw [dU,←hl];exact h3) (by omega) (by rw [hk];exact ⟨_,I',q⟩)
theorem wg(lo hi:Option Int)(n:Nat):(sliceBounds lo hi none n).1=((HT.bx n 0 lo:Nat):Int)∧(sliceBounds lo hi none n).2.1=((HT.bx n n hi:Nat):Int)∧(sliceBounds lo hi none n).2.2=1:=by
 refine ⟨?_,?_,rfl⟩
 ·cases lo with
  |none=>simp [sliceBounds,HT.bx]
  |some i=>
   simp only [sliceBounds,HT.bx,Option.getD_none,show (1:Int)>0 by decide,if_true]
   by_cases h:i<0
   ·simp only [h,if_true]<;>omega
   ·simp only [h,if_false]<;>omega
 ·cases hi with
  |none=>simp [sliceBounds,HT.bx]
  |some i=>
   simp only [sliceBounds,HT.bx,Option.getD_none,show (1:Int)>0 by decide,if_true]
   by_cases h:i<0
   ·simp only [h,if_true]<;>omega
   ·simp only [h,if_false]<;>omega
theorem u0(its:List Value)(lo hi:Option Int):slicePick its.toArray lo hi none=((its.drop (HT.bx its.length 0 lo)).take (HT.bx its.length its.length hi-HT.bx its.length 0 lo)).toArray:=by
 obtain ⟨h1,h2,h3⟩:=wg lo hi its.toArray.size;unfold slicePick;rw [h1,h2,h3];simp only [sliceRange_one,pick_run,dU]<;>rfl
def Vr(K:PySem.W.Frag):V→Option Int→Option Int→Hp→VK→Prop:=λx lo hi H Q=>∃a xs,x= .ref a∧aC K H a xs∧∀p,H p=none→Q (.ref p) (upd H p (.lst (f6 xs lo hi)))
theorem p9:Bo X (Vr X.K):=by
 intro pins s σ H x v vl vu lo hi sl Q I rx hs pl pu h;obtain ⟨a,xs,rfl,hx,q⟩:=h;cases rx;obtain ⟨its,r,ht,hz⟩:=I.list hx;have hlen:=r.length;refine ⟨"list",_,slot_list_getitem.lookup,ht.isList.typeIs,?_⟩;refine wpAny_getItem_list_slice ht.isList hs pl pu .none (by simp) ?_ (by rw [dU]<;>omega)
 rw [u0,←hlen];refine ⟨.ref s.heap.objs.size,_,I.laid (t':=s.toks) (o:= .lst (f6 xs lo hi)) (λb ob q=>Heap.get?_push_of_some _ q) (aU _) ?_,rfl,q _ (I.hok.fresh (aU _))⟩;exact ⟨kU (j1 xs lo hi) hz,_,0,(r.drop (HT.bx xs.length 0 lo)).take (HT.bx xs.length xs.length hi-HT.bx xs.length 0 lo),Heap.get?_push_size _ rfl⟩
def fM:V→Bool
 | .aM=>true
 | .bl _=>true
 | .int _=>true
 | .str _=>true
 |_=>false
def n6:V→V→Bool
 | .aM, .aM=>true
 | .bl a, .bl b=>a==b
 | .bl a, .int b=>(if a then 1 else 0)==b
 | .int a, .bl b=>a==(if b then 1 else 0)
 | .int a, .int b=>a==b
 | .str a, .str b=>a==b
 |_,_=>false
theorem J5{A:Around}{s:Shared}{y x:V}{u v:Value}(ry:RelV y u)(rx:RelV x v)(fy:fM y=true)(fx:fM x=true):SeqAt.EqAt A s u v (n6 y x):=by
 cases y with
 |aM=>
  cases ry;cases x with
  |aM=>cases rx;exact SeqAt.EqAt.same _
  |bl b=>cases rx;exact SeqAt.EqAt.none_bool b
  |int b=>obtain ⟨t,rfl⟩:=rx;exact SeqAt.EqAt.none_int b t
  |str b=>obtain ⟨t,rfl⟩:=rx;exact SeqAt.EqAt.none_str b t
  |_=>exact absurd (show false=true from fx) cK
 |bl a=>
  cases ry;cases x with
  |aM=>cases rx;exact SeqAt.EqAt.bool_none a
  |bl b=>cases rx;exact SeqAt.EqAt.bool_bool a b
  |int b=>obtain ⟨t,rfl⟩:=rx;exact SeqAt.EqAt.bool_int a b t
  |str b=>obtain ⟨t,rfl⟩:=rx;exact SeqAt.EqAt.bool_str a b t
  |_=>exact absurd (show false=true from fx) cK
 |int a=>
  obtain ⟨t',rfl⟩:=ry;cases x with
  |aM=>cases rx;exact SeqAt.EqAt.int_none a t'
  |bl b=>cases rx;exact SeqAt.EqAt.int_bool a t' b
  |int b=>obtain ⟨t,rfl⟩:=rx;exact SeqAt.EqAt.int_int a t' b t
  |str b=>obtain ⟨t,rfl⟩:=rx;exact SeqAt.EqAt.int_str a t' b t
  |_=>exact absurd (show false=true from fx) cK
 |str a=>
  obtain ⟨t',rfl⟩:=ry;cases x with
  |aM=>cases rx;exact SeqAt.EqAt.str_none a t'
  |bl b=>cases rx;exact SeqAt.EqAt.str_bool a t' b
  |int b=>obtain ⟨t,rfl⟩:=rx;exact SeqAt.EqAt.str_int a t' b t
  |str b=>obtain ⟨t,rfl⟩:=rx;exact SeqAt.EqAt.str_str a t' b t
  |_=>exact absurd (show false=true from fx) cK
 |_=>exact absurd (show false=true from fy) cK
def nu(x:V)(u:Value):Bool:=match u with
 | .none=>n6 .aM x
 | .bool b=>n6 (.bl b) x
 | .int i _=>n6 (.int i) x
 | .str z _=>n6 (.str z) x
 |_=>false
theorem sU{x y:V}{u:Value}(r:RelV y u)(f:fM y=true):nu x u=n6 y x:=by
 cases y with
 |aM=>cases r;rfl
 |bl b=>cases r;rfl
 |int i=>obtain ⟨t,rfl⟩:=r;rfl
 |str z=>obtain ⟨t,rfl⟩:=r;rfl
 |_=>exact absurd (show false=true from f) cK
theorem lg{x:V}:∀{xs:List V}{us:List Value},Vals xs us→xs.all fM=true→us.any (nu x)=xs.any λy=>n6 y x
 |_,_, .nil,_=>rfl
 |y::xs,u::us, .cons r t,f=>by
  rw [List.all_cons,xY] at f;rw [rg,rg,sU r f.1,lg t f.2]
theorem iq{A:Around}{s:Shared}{x:V}{v:Value}(rx:RelV x v)(fx:fM x=true):∀{xs:List V}{us:List Value},Vals xs us→xs.all fM=true→∀u∈us,SeqAt.EqAt A s u v (nu x u)
 |_,_, .nil,_=>λu hu=>by cases hu
 |y::xs,u::us, .cons r t,f=>λu' hu=>by
  rw [List.all_cons,xY] at f
  rcases ck.mp hu with rfl|hu
  ·rw [sU r f.1];exact J5 r rx f.1 fx
  ·exact iq rx fx t f.2 u' hu
def B4(x:V)(xs:List V):Bool:=xs.any λy=>n6 y x
def Li(K:PySem.W.Frag)(neg:Bool):R2:=λx y H Q=>∃p xs,y= .ref p∧(aC K H p xs∨dr K H p xs)∧fM x=true∧xs.all fM=true∧Q (.bl (if neg then !B4 x xs else B4 x xs)) H
theorem Cv:OpR X (compareOp .In) (Li X.K false):=by
 intro pins s σ H x y v u Q I rx ry h;obtain ⟨p,xs,rfl,hq,fx,fs,q⟩:=h;cases ry
 rcases hq with hq|hq
 ·obtain ⟨its,r,pl,hz⟩:=I.list hq
  refine SeqAt.in_listAt (nu x) pl.isList (λw hw=>iq rx fx r fs w (by simpa using hw)) ⟨.bl _,H,I,rfl,?_⟩
  rw [show its.toArray.any (nu x)=its.any (nu x) by simp,lg r fs]
  exact q
 ·obtain ⟨its,r,pl,hz⟩:=I.tuple hq
  refine SeqAt.in_tupleAt (nu x) pl (λw hw=>iq rx fx r fs w (by simpa using hw)) ⟨.bl _,H,I,rfl,?_⟩
  rw [show its.toArray.any (nu x)=its.any (nu x) by simp,lg r fs]
  exact q
theorem nK:OpR X (compareOp .NotIn) (Li X.K true):=by
 intro pins s σ H x y v u Q I rx ry h;obtain ⟨p,xs,rfl,hq,fx,fs,q⟩:=h;cases ry
 rcases hq with hq|hq
 ·obtain ⟨its,r,pl,hz⟩:=I.list hq
  refine SeqAt.notIn_listAt (nu x) pl.isList (λw hw=>iq rx fx r fs w (by simpa using hw)) ⟨.bl _,H,I,rfl,?_⟩
  rw [show its.toArray.any (nu x)=its.any (nu x) by simp,lg r fs]
  exact q
 ·obtain ⟨its,r,pl,hz⟩:=I.tuple hq
  refine SeqAt.notIn_tupleAt (nu x) pl (λw hw=>iq rx fx r fs w (by simpa using hw)) ⟨.bl _,H,I,rfl,?_⟩
  rw [show its.toArray.any (nu x)=its.any (nu x) by simp,lg r fs]
  exact q
theorem bP:cN X (.builtin "len") (λxs H Q=>∃p ys,xs= [.ref p]∧(aC X.K H p ys∨dr X.K H p ys)∧Q (.int ys.length) H):=by
 intro pins s σ H xs us Q I r h;obtain ⟨p,ys,rfl,hq,q⟩:=h;obtain ⟨u,rfl,rx⟩:=vals1 r;cases rx;have hn:=jd
 rcases hq with hq|hq
 ·obtain ⟨its,r',pl,hz⟩:=I.list hq
  have hlen:=r'.length;exact Calls.call_len_list pl.isList (by simp only [dU]<;>omega) ⟨.int ys.length,H,I.tok _,⟨s.toks+1,by rw [dU,hlen]⟩,q⟩
 ·obtain ⟨its,r',pl,hz⟩:=I.tuple hq
  have hlen:=r'.length;exact len_tuple pl (by simp only [dU]<;>omega) ⟨.int ys.length,H,I.tok _,⟨s.toks+1,by rw [dU,hlen]⟩,q⟩
theorem vQ:cN X (.type "list") (λxs H Q=>∃p ys,xs= [.ref p]∧(aC X.K H p ys∨dr X.K H p ys)∧∀l,H l=none→Q (.ref l) (upd H l (.lst ys))):=by
 intro pins s σ H xs us Q I r h;obtain ⟨p,ys,rfl,hq,q⟩:=h;obtain ⟨u,rfl,rx⟩:=vals1 r;cases rx
 have fin:∀(its:List Value),Vals ys its→ys.length≤sizeLine→∀(h':Heap)(c':Nat),(∀b o',s.heap.get? b=some o'→h'.get? b=some o')→
   h'.get? s.heap.objs.size=some {cls:= .type "list",dict:=none,data:= .seq its.toArray c',slots:= #[]}→EP X pins σ Q (.ref s.heap.objs.size) {s with heap:=h'}:=λits r' hz h' c' kp e=>
  ⟨.ref s.heap.objs.size,_,I.laid (t':=s.toks) kp (aU _) (show cO X.prog X.w _ h' _ (.lst ys) from ⟨hz,its,c',r',e⟩),rfl,q _ (I.hok.fresh (aU _))⟩
 rcases hq with hq|hq
 ·obtain ⟨its,r',pl,hz⟩:=I.list hq
  have hlen:=r'.length;obtain ⟨o,ho,hc,n,hd⟩:=pl.isList;exact call_list_seq p (.inl rfl) ho hc hd (λh' c' kp e=>fin its r' hz h' c' kp e) (by simp only [dU]<;>omega)
 ·obtain ⟨its,r',pl,hz⟩:=I.tuple hq
  have hlen:=r'.length;obtain ⟨o,ho,hc,n,hd⟩:=pl;exact call_list_seq p (.inr rfl) ho hc hd (λh' c' kp e=>fin its r' hz h' c' kp e) (by simp only [dU]<;>omega)
def LM(K:PySem.W.Frag)(T:String)(x:V)(H:Hp):Prop:=match x with
 | .str _=>T="str"
 | .int _=>T="int"
 | .ref p=>(T="list"∧∃xs,aC K H p xs)∨(T="tuple"∧∃o,K.lookup p=some o∧o.cls= .type "tuple"∧o.dict=none)∨
   (T="dict"∧((∃dQ,H p=some (.dK dQ))∨∃dQ,H p=some (.dT dQ)))∨(T="set"∧∃S n,H p=some (.set S n))
 |_=>False
theorem Er{pins:List (Addr×Obj)}{σ:St}{H:Hp}{s:Shared}{T:String}{x:V}{v:Value}(I:Inv X pins σ H s)(r:RelV x v)(ty:LM X.K T x H):
  s.TypeIs v T∧∀a,v= .ref a→∃ob,s.heap.get? a=some ob∧ob.dict=none:=by
 cases x with
 |str z=>
  obtain ⟨t,rfl⟩:=r;cases (show T="str" from ty);exact ⟨typeIs_str s z t,λ_ e=>nomatch e⟩
 |int i=>
  obtain ⟨t,rfl⟩:=r;cases (show T="int" from ty);exact ⟨typeIs_int s i t,λ_ e=>nomatch e⟩
 |ref p=>
  cases r
  rcases ty with ⟨rfl,xs,hq⟩ | ⟨rfl,o,hk,hc,hd⟩ | ⟨rfl,hk⟩ | ⟨rfl,S,n,hk⟩
  ·obtain ⟨its,_,pl,_⟩:=I.list hq
   refine ⟨pl.isList.typeIs,λa e=>?_⟩;cases e;obtain ⟨o,n,e,c,hd,_⟩:=pl;exact ⟨o,e,hd⟩
  ·refine ⟨⟨o,I.gY p o hk,hc⟩,λa e=>?_⟩
   cases e;exact ⟨o,I.gY _ o hk,hd⟩
  ·have z:∃o,s.heap.get? p=some o∧o.ExactDict:=by
    rcases hk with ⟨dQ,hk⟩ | ⟨dQ,hk⟩
    ·obtain ⟨_,_,_,_,o,_,_,e,ex,_⟩:=I.hok p _ hk
     exact ⟨o,e,ex⟩
    ·obtain ⟨_,_,_,_,o,_,_,e,ex,_⟩:=I.hok p _ hk
     exact ⟨o,e,ex⟩
   obtain ⟨o,e,ex⟩:=z;refine ⟨⟨o,e,ex.1⟩,λa e2=>?_⟩;cases e2;exact ⟨o,e,ex.2.1⟩
  ·obtain ⟨o,_,_,_,e,ex,_⟩:=I.hok p _ hk
   refine ⟨⟨o,e,ex.1⟩,λa e2=>?_⟩;cases e2;exact ⟨o,e,ex.2.1⟩
 |_=>exact False.elim ty
def V5(K:PySem.W.Frag)(T:String)(r:V→List V→Hp→VK→Prop)(to:TE):TE:=λσ H Q=>to σ H λx H1=>LM K T x H1∧r x [] H1 Q
def tBM(K:PySem.W.Frag)(T:String)(r:V→List V→Hp→VK→Prop)(to:TE)(t:TA):TE:=λσ H Q=>to σ H λx H1=>LM K T x H1∧t σ H1 λxs H2=>r x xs H2 Q
variable {o e:Expr} {es:List Expr} {to:TE} {t:TA} {name:Str} {apos aN:Pos} {T id:String} {r:V→List V→Hp→VK→Prop}
theorem K2(pa:PlainAttrs T)(slot:Slot T name id)(HJ:typeOf (.builtin id)=pure (.type "method_descriptor"))(hm:Ge X id r)(ho:PE X o to)
  (dF:attributeBase o name X.env (eval o X.env)=eval o X.env:=by rfl) (cA:(apos.endLine==aN.line)=true:=by rfl):PE X (.Call (.Attribute o name apos) [] [] aN) (V5 X.K T r to):=by
 intro pins s σ H Q I h;refine wpAny_Call_method0_late dF cA (thn (ho pins s σ H _ I h) λv s1 ⟨x,H1,I1,r1,ty,q1⟩=>?_);obtain ⟨h1,h2⟩:=Er I1 r1 ty;exact ⟨T,id,pa,slot,HJ,h1,h2,Calls.callWith_builtin rfl (PySem.evalArgs_none (hm pins s1 σ H1 x [] v [] Q I1 r1 .nil q1))⟩
theorem fh(pa:PlainAttrs T)(slot:Slot T name id)(HJ:typeOf (.builtin id)=pure (.type "method_descriptor"))(hm:Ge X id r)(ho:PE X o to)(ha:PA X (e::es) t)
  (dF:attributeBase o name X.env (eval o X.env)=eval o X.env:=by rfl)
  (iG:((backTo aN (starEach (e::es) X.env)).all (λx=>!x.1)&&(backToKw aN (keywordEach [] X.env)).all (λx=>x.1.isSome)
   &&decide ((e::es).length+([]:List Keyword).length+(if ([]:List Keyword).isEmpty then 0 else 1)<30))=true:=by rfl)
  (cA:(apos.endLine==aN.line)=true:=by rfl) (hs:starEach (e::es) X.env=(false,eval e X.env)::starEach es X.env:=by rfl) (dG:(backTo aN (starEach es X.env)).any (·.1)=false:=by rfl):
  PE X (.Call (.Attribute o name apos) (e::es) [] aN) (tBM X.K T r to t):=by
 intro pins s σ H Q I h;refine wpAny_Call_method_late dF iG cA rfl (thn (ho pins s σ H _ I h) λv s1 ⟨x,H1,I1,r1,ty,q1⟩=>?_);obtain ⟨h1,h2⟩:=Er I1 r1 ty;refine ⟨T,id,pa,slot,HJ,h1,h2,?_⟩;have hA:=ha aN pins s1 σ H1 _ I1 q1;rw [hs] at hA ⊢;refine Calls.callWith_builtin (by show (false|| (backTo aN (starEach es X.env)).any (·.1))=false;rw [dG]<;>rfl) (Calls.evalArgs_plain ?_)
 exact thn hA λus s2 ⟨vs,H2,I2,r2,q2⟩=>hm pins s2 σ H2 x vs v us Q I2 r1 r2 q2
end
def EC(X:Cx)(id:String)(r:V→List V→Hp→VK→Prop):Prop:=
 ∀(pins:List (Addr×Obj))(s:Shared)(σ:St)(H:Hp)(x:V)(xs:List V)(v:Value)(us:List Value)(Q:VK),Inv X pins σ H s→RelV x v→Vals xs us→r x xs H Q→
  wpAny (model X.prog X.w) X.A (call (.builtin id) (v::us)) (EP X pins σ Q) X.xe s
theorem Vals.one:∀{x:V}{us:List Value},Vals [x] us→∃u,us= [u]∧RelV x u
 |_,_, .cons r .nil=>⟨_,rfl,r⟩
theorem Vals.two:∀{x y:V}{us:List Value},Vals [x,y] us→∃u v,us= [u,v]∧RelV x u∧RelV y v
 |_,_,_, .cons r (.cons q .nil)=>⟨_,_,rfl,r,q⟩
theorem Vals.zero:∀{us:List Value},Vals [] us→us= []
 |_, .nil=>rfl
theorem Vals.dropLast{xs:List V}{us:List Value}(h:Vals xs us):Vals xs.dropLast us.dropLast:=by
 induction h with
 |nil=>exact .nil
 |cons r t ih=>
  cases t with
  |nil=>exact .nil
  |cons q t'=>exact .cons r ih
theorem Vals.eraseIdx:∀{xs:List V}{us:List Value}(i:Nat),Vals xs us→Vals (xs.eraseIdx i) (us.eraseIdx i)
 |_,_,_, .nil=> .nil
 |_,_,0, .cons _ t=>t
 |_,_,i+1, .cons r t=> .cons r (Vals.eraseIdx i t)
theorem zZ{α:Type}(l:List α):l.eraseIdx (l.length-1)=l.dropLast:=by
 induction l with
 |nil=>rfl
 |cons a r ih=>
  cases r with
  |nil=>rfl
  |cons b r=>
   have e:(a::b::r).length-1=((b::r).length-1)+1:=by
    have h1:(a::b::r).length=r.length+2:=rfl;have h2:(b::r).length=r.length+1:=rfl;omega
   rw [e,List.eraseIdx_cons_succ,ih]
   all_goals rfl
theorem uy{α:Type}:∀(l:List α)(i:Nat),(l.eraseIdx i).length≤l.length
 | [],_=>aU _
 |_::_,0=>jq _
 |_::r,i+1=>Nat.succ_le_succ (uy r i)
section
variable {X:Cx} {pins:List (Addr×Obj)} {σ:St} {H:Hp} {s:Shared} {l b:Addr} {xs ys zs:List V}
theorem Inv.Ax{its its':List Value}{n:Nat}{f:Array Value→Array Value}{t':Nat}(I:Inv X pins σ H s)(hH:H l=some (.lst xs))
  (e:s.heap.get? l=some {cls:= .type "list",data:= .seq its.toArray n}) (hf:f its.toArray=its'.toArray) (hv:Vals ys its') (hz:ys.length≤sizeLine):
  Inv X pins σ (upd H l (.lst ys)) {s with heap:=s.heap.update l (Obj.mapSeq f),toks:=t'}:=by
 have q:=PySem.IsL.update e f;rw [hf] at q;refine I.write (x:=l) (e:=l) (by rw [hH];exact trivial) (.inl rfl) (λb' u hb hu=>(Heap.get?_update_other s.heap (Obj.mapSeq f) (Ne.symm hb)).trans hu) ⟨_,q⟩ ?_
 exact ⟨hz,its',_,hv,q⟩
theorem Inv.Ib{its:List Value}{t':Nat}(I:Inv X pins σ H s)(hv:Vals ys its)(hz:ys.length≤sizeLine):
  Inv X pins σ (upd H s.heap.objs.size (.lst ys)) {s with heap:=s.heap.push {cls:= .type "list",data:= .seq its.toArray},toks:=t'}:=
 I.laid (λ_ _ q=>Heap.get?_push_of_some _ q) (aU _) ⟨hz,its,0,hv,Heap.get?_push_size _ rfl⟩
theorem Inv.fresh(I:Inv X pins σ H s):H s.heap.objs.size=none:=I.hok.fresh (aU _)
theorem Inv.lO(I:Inv X pins σ H s)(hH:H l=some (.lst xs)):xs.length≤sizeLine∧∃(its:List Value)(n:Nat),Vals xs its∧xs.length=its.length∧s.heap.get? l=some {cls:= .type "list",data:= .seq its.toArray n}:=by
 obtain ⟨z,its,n,r,e⟩:=I.hok l _ hH;exact ⟨z,its,n,r,r.length,e⟩
theorem FD{n:Nat}(h:n≤sizeLine):Builtin.List.listTooLong n=false:=by
 unfold Builtin.List.listTooLong;exact decide_eq_false (by omega)
end
section
variable {X:Cx}
def IW:V→List V→Hp→VK→Prop:=λx vs H Q=>∃l xs y,x= .ref l∧vs= [y]∧H l=some (.lst xs)∧xs.length<sizeLine∧Q .aM (upd H l (.lst (xs++ [y])))
theorem gw:EC X "list.append" IW:=by
 intro pins s σ H x vs v us Q I rx rv h;obtain ⟨l,xs,y,rfl,rfl,hH,hz,q⟩:=h;cases rx;obtain ⟨u,rfl,ru⟩:=rv.one;obtain ⟨z,its,n,r,hl,e⟩:=I.lO hH;refine call_meets F.slot_list_append ⟨_,e,rfl⟩ F.entry_list_append (F.args_list_append_2 _ _) (PySem.list_append l its.toArray n u (by rw [dU];omega)) ⟨e,?_⟩
 refine ⟨.aM,_,I.Ax (its':=its++ [u]) hH e (by simp) (r.append (.cons ru .nil)) ?_,rfl,q⟩
 rw [bV,List.length_singleton];omega
def IY:V→List V→Hp→VK→Prop:=λx vs H Q=>∃l b xs zs,x= .ref l∧vs= [.ref b]∧H l=some (.lst xs)∧H b=some (.lst zs)∧xs.length+zs.length≤sizeLine∧Q .aM (upd H l (.lst (xs++zs)))
theorem Co:EC X "list.extend" IY:=by
 intro pins s σ H x vs v us Q I rx rv h;obtain ⟨l,b,xs,zs,rfl,rfl,hH,hB,hz,q⟩:=h;cases rx;obtain ⟨u,rfl,ru⟩:=rv.one;cases ru;obtain ⟨z,its,n,r,hl,e⟩:=I.lO hH;obtain ⟨z2,rK,n2,r2,Aa,e2⟩:=I.lO hB;have eD:its.toArray.size+rK.toArray.size≤sizeLine:=by rw [dU,dU];omega
 have OG:¬(!its.toArray.isEmpty&&Builtin.List.listTooLong (its.toArray.size+rK.toArray.size))=true:=by
  rw [FD eD,Bool.and_false];exact cK
 refine call_meets F.slot_list_extend ⟨_,e,rfl⟩ F.entry_list_extend (F.args_list_extend_2 _ _)
  (AutoSeq1.list_extend_list_list_0 l its.toArray n b rK.toArray n2 OG (by rw [dU];omega) (by omega)) ⟨e,e2,?_⟩
 refine ⟨.aM,_,I.Ax (its':=its++rK) hH e (by simp) (r.append r2) ?_,rfl,q⟩
 rw [bV];omega
def Vq:V→List V→Hp→VK→Prop:=λx vs H Q=>∃l xs y,x= .ref l∧vs= []∧H l=some (.lst xs)∧xs[xs.length-1]? =some y∧Q y (upd H l (.lst xs.dropLast))
theorem KI:EC X "list.pop" Vq:=by
 intro pins s σ H x vs v us Q I rx rv h;obtain ⟨l,xs,y,rfl,rfl,hH,hy,q⟩:=h;cases rx;have Zi:=rv.zero;subst Zi;obtain ⟨z,its,n,r,hl,e⟩:=I.lO hH;obtain ⟨u,hu,ru⟩:=r.get hy
 have Fo:its.toArray[its.toArray.size-1]? =some u:=by
  show its.toArray[its.length-1]? =some u;rw [←eu,←hl];exact hu
 refine call_meets F.slot_list_pop ⟨_,e,rfl⟩ F.entry_list_pop (F.args_list_pop_1 _) (MeetsSeq.list_pop_last l its.toArray n u Fo (by rw [dU];omega)) ⟨e,?_⟩
 refine ⟨y,_,I.Ax (its':=its.dropLast) hH e ?_ r.dropLast ?_,ru,q⟩
 ·show its.toArray.eraseIdxIfInBounds (its.toArray.size-1)=its.dropLast.toArray
  rw [dU,List.eraseIdxIfInBounds_toArray,zZ]
 ·rw [List.length_dropLast]
  omega
def Lk:V→List V→Hp→VK→Prop:=λx vs H Q=>∃l xs i k y,x= .ref l∧vs= [.int i]∧H l=some (.lst xs)∧-(2^63)≤i∧i<2^63∧seqIndex? i xs.length=some k∧xs[k]? =some y∧Q y (upd H l (.lst (xs.eraseIdx k)))
theorem FC:EC X "list.pop" Lk:=by
 intro pins s σ H x vs v us Q I rx rv h;obtain ⟨l,xs,i,k,y,rfl,rfl,hH,h1,h2,hk,hy,q⟩:=h;cases rx;obtain ⟨u,rfl,ru⟩:=rv.one;obtain ⟨t,rfl⟩:=ru;obtain ⟨z,its,n,r,hl,e⟩:=I.lO hH;obtain ⟨w,hw,uU⟩:=r.get hy
 refine call_meets F.slot_list_pop ⟨_,e,rfl⟩ F.entry_list_pop (F.args_list_pop_2 _ _)
  (MeetsSeq.list_pop_at l its.toArray n i t k w (fitsIndex_both h1 h2) (by rw [dU,←hl];exact hk) (by rw [←eu];exact hw) (by rw [dU];omega)) ⟨e,?_⟩
 refine ⟨y,_,I.Ax (its':=its.eraseIdx k) hH e ?_ (r.eraseIdx k) ?_,uU,q⟩
 ·show its.toArray.eraseIdxIfInBounds k=(its.eraseIdx k).toArray
  rw [List.eraseIdxIfInBounds_toArray]
 ·have:=uy xs k
  omega
def Vn:R2:=λx y H Q=>∃l b xs zs,x= .ref l∧y= .ref b∧H l=some (.lst xs)∧H b=some (.lst zs)∧xs.length+zs.length≤sizeLine∧∀p,H p=none→Q (.ref p) (upd H p (.lst (xs++zs)))
theorem yX:OpR X (binaryOp .Add) Vn:=by
 intro pins s σ H x y v u Q I rx ry h;obtain ⟨l,b,xs,zs,rfl,rfl,hH,hB,hz,q⟩:=h;cases rx;cases ry;obtain ⟨z,its,n,r,hl,e⟩:=I.lO hH;obtain ⟨z2,rK,n2,r2,Aa,e2⟩:=I.lO hB;refine PySem.P.add_list e e2 ?_ (by rw [dU,dU];omega)
 have ea:its.toArray++rK.toArray=(its++rK).toArray:=by simp
 rw [ea];exact ⟨.ref _,_,I.Ib (t':=s.toks) (r.append r2) (by rw [bV];omega),rfl,q _ I.fresh⟩
end
section
variable {prog:Program} {w:World} {A:Around} {E:Value→Shared→Prop} {s:Shared}
end
section
variable {X:Cx}
end
end L2
namespace P4
open PySem PySem.W PySem.Calls PyProof.Rows
theorem qF{P:Params}{h:Heap}:∀(ns:List Int)(vs:List Value),WellAll P h vs (ns.map WData.int)→IntsAre vs ns:=by
 intro ns
 induction ns with
 |nil=>
  intro vs w;rw [List.map_nil] at w;cases w;exact .nil
 |cons n ns ih=>
  intro vs w;rw [fY] at w;cases w with
  |cons a b=>
   cases a;exact .cons _ _ (ih _ b)
theorem CQ{l:OpenLaw}{n:Nat}(hn:l.most=some n){P:Params}{h:Heap}{args:List WData}{vals:List Value}
  (DY:l.row.toRowW.claim.pre args=true) (OX:WellAll P h vals args):
  ∃a vs ns,vals= [Value.ref a]∧args= [WData.list (ns.map WData.int)]∧h.get? a=some {cls:= .type "list",data:= .seq vs.toArray}∧IntsAre vs ns∧ns.length≤n:=by
 have Ze:WShape.hasAll [] args [.list .int]=true:=(pre_splitW DY).1;have hc:l.pre.holds [] {args:=args}=true:=(pre_splitW DY).2;obtain ⟨d,r,rfl,h1,h2⟩:=hasAllW_cons Ze;obtain rfl:=hasAllW_nil h2;obtain ⟨xs,rfl,h3⟩:=hasW_list h1;obtain ⟨ns,rfl⟩:=items_int h3
 have hlen:ns.length≤n:=by
  unfold OpenLaw.pre at hc
  have h4:(WTm.not (.lt (.lit (.int (n:Int))) (.len (.arg 0)))).holds [] {args:= [.list (ns.map .int)]}=true:=by
   have h4:=(holds_andW hc).1;rw [hn] at h4;exact h4
  have h5:=condW_of h4 (w_not (w_lt w_lit (w_len_list (w_arg rfl))));rw [aJ] at h5;refine jo λq=>?_;have q':(n:Int)<((ns.length:Nat):Int):=by omega
  first
   | (rw [decide_eq_true q'] at h5;exact absurd h5 (by decide))
   | (simp at h5;omega)
 cases OX with
 |cons w1 w2=>
  cases w2;cases w1 with
  |list ho g6=>exact ⟨_,_,ns,rfl,rfl,ho,qF ns _ g6,hlen⟩
theorem CG(l:OpenLaw)(args:List WData):l.row.toRowW.claim.post args (.bool true) args=true:=
 postW_of (r:=l.row.toRowW) (X:=(true==true))
  (show WShape.has [] (.bool true) .bool=true by first|rfl|decide|simp [WShape.has,WShape.arms,WShape.armsAll])
  (show (WTm.eq .res (.lit (.bool true))).value [] {args:=args,res:=some (.bool true),after:=args}=some (.bool (true==true)) from w_eq_bool (w_res rfl) w_lit) rfl
theorem yd{l:OpenLaw}{n:Nat}{q:Program}{loose:List Str}{XP:(Str→Option Value)→Heap→Prop}{YP:World→Heap→Prop}{d:DefRec}
  (hn:l.most=some n) (BQ:d.params.defaults= [])
  (call:∀(w:World)(s₀ s₁:Shared)(mg mb:Str→Option Value)(fa:Addr)(o:Obj)(pm cd doc:Value)(a:Addr)(vs:List Value)(ns:List Int),
   Ground q loose [] XP w s₀ mg mb s₁.heap→YP w s₁.heap→
   s₁.heap.get? fa=some o→o.data= .func (docDef d.name d.params d.body d.scope pm cd doc)→s₁.heap.CodeRec cd d.name→mg d.name=some (.ref fa)→
   s₁.heap.get? a=some {cls:= .type "list",data:= .seq vs.toArray}→IntsAre vs ns→ns.length≤n→s₁.gens= #[]→
   codeAny (model l.prog w) callerA (.call (.ref fa) ⟨[.ref a],[]⟩) (λr s'=>r= .ok (.ret (.bool true))∧OldK s₁.heap s'.heap∧s'.os=s₁.os∧AllBare s'.gens) s₁):
  WalkO q loose XP YP l.row.toRowW d [] (λf vs=>PySem.call f vs):=by
 intro w s₀ s₁ mg mb G Y fa o pm cd doc dV kV ho hd gq hD qD hg args vals as DY aae hrd OX Ac;obtain rfl:dV= .none:=Dflts.none hD BQ;obtain rfl:kV= .none:=Dflts.noKw hD;obtain ⟨a,vs,ns,rfl,rfl,HB,hints,hlen⟩:=CQ hn DY OX;refine enter_call (codeAny_mono (call w s₀ s₁ mg mb fa o pm cd doc a vs ns G Y ho (fd_plain hd) gq qD HB hints hlen hg) λr s' hq=>?_);obtain ⟨rfl,h2,h3,h4⟩:=hq;exact ⟨.inl ⟨.bool true, .bool true,[],rfl,λ_=>rfl, .bool true,CG l _,λ_=>⟨List.Pairwise.nil,λ_ hm=>(nomatch hm)⟩⟩,h2,h3,h4⟩
section
variable {prog:Program} {w:World} {A:Around} {E:Value→Shared→Prop} {s:Shared} {K:Frag}
end
end P4
namespace L2
open PySem PySem.Spec PyProof.Rows
theorem vh:∀{vs:List Value}{ns:List Int},IntsAre vs ns→Vals (ns.map V.int) vs
 |_,_, .nil=> .nil
 |_,_, .cons n t h=> .cons ⟨t,rfl⟩ (vh h)
def Gg(H:Hp):Prop:=∀b,H b=none∨∃o xs,H b=some (.pj o (.lst xs))
theorem Ft{P:Program}{w:World}{K:PySem.W.Frag}{mg mb:Str→Option Value}{CX:qo}{k:Nat}{fa a:Addr}{fd:FuncData}{x:Str}{sp:Sp}{s₁:Shared}{vs:List Value}{ns:List Int}
  (KX:K.In s₁.heap) (yB:s₁.heap.Ns mainGlobals mg) (hb:s₁.heap.Ns builtinsNs mb) (Yt:∀x:Str,x≠"__name__"→mb x=bootBuiltins x) (SA:s₁.heap.NoLimit) (hg:s₁.gens= #[])
  (ha:s₁.heap.get? a=some {cls:= .type "list",data:= .seq vs.toArray}) (hi:IntsAre vs ns) (hl:ns.length≤sizeLine) (hr:bO k callerA)
  (F:∀base:Heap,K.In base→base.Ns mainGlobals mg→FnOk P w K mg base CX k fa fd [x] sp) (Ol:∀(s:Shared)(u:Value),BindsTo s fd ⟨[u],[]⟩ [(x,u)])
  (Ai:∀H:Hp,Gg H→aC K H a (ns.map V.int)→sp [.ref a] H (λv _=>v= .bl true) λ_ _ _=>False)
  (Oa:∀H e s',CX [] H s₁ (λ_ _ _=>False) e s'→False):
  codeAny (model P w) callerA (.call (.ref fa) ⟨[.ref a],[]⟩) (λr s'=>r= .ok (.ret (.bool true))∧OldK s₁.heap s'.heap∧s'.os=s₁.os∧AllBare s'.gens) s₁:=by
 have rv:=vh hi;have T4:=hi.length
 have core:∀H:Hp,Gg H→aC K H a (ns.map V.int)→hU P w H s₁.heap→(∀b,H b≠none→b=a)→(H a≠none→K.lookup a=none)→
   codeAny (model P w) callerA (.call (.ref fa) ⟨[.ref a],[]⟩) (λr s'=>r= .ok (.ret (.bool true))∧OldK s₁.heap s'.heap∧s'.os=s₁.os∧AllBare s'.gens) s₁:=by
  intro H hO hS hok hA hK;have zD:∀{b:Addr}{o:Obj},s₁.heap.get? b=some o→H b=none→(pA s₁.heap H).get? b=some o:=λe n=>Fh e n
  have Im:∀{b:Addr}{o:Obj}{es:Array DictEntry}{ep:Nat},s₁.heap.get? b=some o→o.data= .dict es ep→H b=none:=λ {b o es ep} e d=>by
   cases q:H b with
   |none=>rfl
   |some u=>
    have e':b=a:=hA b (by rw [q];simp)
    subst e';rw [ha] at e;cases e;have d':Data.seq vs.toArray _=Data.dict es ep:=d;cases d'
  have KO:∀{b:Addr}{m:Str→Option Value},s₁.heap.Ns b m→(pA s₁.heap H).Ns b m:=λ {b m} ⟨o,es,ep,e,d,r⟩=>⟨o,es,ep,zD e (Im e d),d,r⟩
  have RV:K.In (pA s₁.heap H):=λb o e=>zD (KX b o e) (by
   cases q:H b with
   |none=>rfl
   |some u=>
    have e':b=a:=hA b (by rw [q];simp)
    subst e';rw [hK (by rw [q];simp)] at e;cases e)
  have hM:Mod K mg (pA s₁.heap H):=⟨RV,KO yB,⟨mb,KO hb,Yt⟩,let ⟨mc,h1,h2⟩:=SA;⟨mc,KO h1,h2⟩⟩;have e0:Env0 P w K mg (pA s₁.heap H) callerA [] s₁ H:=⟨rfl,hM,λb o e=>Iw e,Nat.le_of_eq (BU _ _),trivial,λb hb=>absurd (show b∈([]:List Addr) from hb) (by simp),hok, .of_eq hg⟩
  refine codeAny_mono ((F _ RV (KO yB)).run callerA [] s₁ H ⟨[.ref a],[]⟩ [.ref a] [.ref a] _ _ hr e0 (Ol s₁ (.ref a)) (.cons rfl .nil) (Ai H hO hS)) λr s' h=>?_;cases r with
  |error e=>exact (Oa H e s' h).elim
  |ok fl=>
   cases fl with
   |next=>exact False.elim h
   |brk=>exact False.elim h
   |cont=>exact False.elim h
   |ret u=>
    obtain ⟨v,H',os,bare,un,SS,r',q⟩:=h;have q':v= .bl true:=q;subst q';obtain rfl:u=Value.bool true:=r';refine ⟨rfl,OldK.of_keep λb o e=>?_,os,bare⟩;cases q:H b with
    |none=>exact un.keep b o e q (by intro z;exact absurd (show b∈([]:List Addr) from z) (by simp)) (by simp)
    |some u=>
     rcases hO b with z| ⟨ob,xs,z⟩
     ·rw [q] at z;cases z
     ·have z2:=un.frzs b ob _ z
      obtain ⟨e1,_⟩:=hok b _ z;obtain ⟨e2,_⟩:=SS b _ z2;rw [e] at e1;cases e1;exact e2
 cases hk:K.lookup a with
 |some o=>
  have e:=KX a o hk;rw [ha] at e;cases e;refine core (λ_=>none) (λ_=> .inl rfl) (.inr ⟨_,vs.toArray,_,hk,rfl,rfl,rfl,by rw [dU,T4];exact hl,by simpa using rv⟩) (λb u z=>by have z':(none:Option HO)=some u:=z;cases z') (λb z=>absurd rfl z) λz=>absurd rfl z
 |none=>
  refine core (λb=>if b=a then some (.pj {cls:= .type "list",data:= .seq vs.toArray} (.lst (ns.map V.int))) else none) (λb=>?_) (.inl (.inr ⟨{cls:= .type "list",data:= .seq vs.toArray},if_pos rfl⟩)) (λb u z=>?_) (λb z=>?_) λ_=>hk
  ·by_cases hb:b=a
   ·exact .inr ⟨_,_,if_pos hb⟩
   ·exact .inl (if_neg hb)
  ·by_cases hb:b=a
   ·have z':=(if_pos hb).symm.trans z
    cases z';subst hb;exact ⟨ha,by rw [aJ];exact hl,vs,_,rv,ha⟩
   ·have z':=(if_neg hb).symm.trans z
    cases z'
  ·by_cases hb:b=a
   ·exact hb
   ·exact absurd (if_neg hb) z
theorem JA{l:PySem.W.OpenLaw}{n k:Nat}{q:Program}{loose:List Str}{XP:(Str→Option Value)→Heap→Prop}{YP:World→Heap→Prop}{d:DefRec}{K:Params→PySem.W.Frag}{CX:World→qo}{sp:World→Sp}{x:Str}
  (hn:l.most=some n) (vY:n≤sizeLine) (BQ:d.params.defaults= []) (hr:bO k callerA)
  (hY:∀(w:World)(h:Heap),YP w h→(K w.params).In h)
  (F:∀(w:World)(mg:Str→Option Value)(fa:Addr)(h:Heap),(K w.params).In h→h.Ns mainGlobals mg→mg d.name=some (.ref fa)→
   ∃fd:FuncData,(∀(s:Shared)(u:Value),BindsTo s fd ⟨[u],[]⟩ [(x,u)])∧
    ∀base:Heap,(K w.params).In base→base.Ns mainGlobals mg→FnOk l.prog w (K w.params) mg base (CX w) k fa fd [x] (sp w))
  (Ai:∀(w:World)(H:Hp)(a:Addr)(ns:List Int),ns.length≤n→Gg H→aC (K w.params) H a (ns.map V.int)→sp w [.ref a] H (λv _=>v= .bl true) λ_ _ _=>False)
  (Oa:∀(w:World)(H:Hp)(s:Shared)(e:Value)(s':Shared),CX w [] H s (λ_ _ _=>False) e s'→False):
  PySem.W.WalkO q loose XP YP l.row.toRowW d [] (λf vs=>PySem.call f vs):=by
 refine P4.yd hn BQ λw s₀ s₁ mg mb fa o pm cd doc a vs ns G Y ho hd gq qD HB hints hlen hg=>?_;have KX:=hY w _ Y;obtain ⟨fd,hb,hF⟩:=F w mg fa _ KX G.T.g qD;exact Ft KX G.T.g G.T.b G.T.builtins G.T.nolimit hg HB hints (kU hlen vY) hr hF hb (λH hO hS=>Ai w H a ns hlen hO hS) λH e s'=>Oa w H s₁ e s'
def inClass(s:Stmt)(j:Nat):Stmt:=match s with
 | .ClassDef _ _ _ body _ _ _ _ _ _ _=>body.getD j (.Pass ⟨0,0,0,0⟩)
 |_=> .Pass ⟨0,0,0,0⟩
def iE(s:Stmt):Arguments:=match s with
 | .FunctionDef _ a _ _ _ _ _ _ _ _=>a
 |_=>{posonlyargs:= [],args:= [],vararg:=none,kwonlyargs:= [],kw_defaults:= [],kwarg:=none,defaults:= []}
def eH(s:Stmt):List Stmt:=match s with
 | .FunctionDef _ _ b _ _ _ _ _ _ _=>b
 |_=> []
def ao(s:Stmt):Scope:=match s with
 | .FunctionDef _ _ _ _ _ _ sc _ _ _=>sc
 |_=>{kind:= .function,names:= [],isGenerator:=false,isCoroutine:=false}
abbrev bQ:qo:=λ_ _ _ _ _ _=>False
abbrev E0:XK:=λ_ _ _=>False
theorem bA{X:Cx}:Passes bQ X E0:=λ_ _ _ _ _ _ _ h=>h.elim
structure vO (K:PySem.W.Frag) (x qual:Str) (st:Stmt) (f:Addr) (fd:FuncData):Prop where
 ex:∃(oc:Value)(od:Option Addr)(kV doc pm:Value)(an:Option Addr)(bp ct:Value)(AH:Array (Option Value)),
  fd=PySem.W.fnOf x qual (iE st) (eH st) (ao st) .none kV doc pm an bp ct∧K.lookup f=some ⟨oc,od, .func fd,AH⟩∧PySem.W.codeIn K bp qual=true
 kp:PySem.W.keepIn K (.ref f)=true
section
variable {P:Program} {w:World} {K:PySem.W.Frag} {mg:Str→Option Value} {base:Heap}
theorem vO.ok{x qual:Str}{st:Stmt}{f:Addr}{fd:FuncData}{N ps:List Str}{k:Nat}{sp:Sp}(F:vO K x qual st f fd)(S:aI N ps (ao st))(len:∀vs H Q E,sp vs H Q E→vs.length=ps.length)
  (oh:∀(bp:Value)(A:Around)(outer:List Env)(s:Shared)(H:Hp)(vs:List V)(Q:VK)(E:XK),bO k (A.deeper (envOfC qual (ao st) s.heap.objs.size f bp))→sp vs H Q E→
   ∃t,jZ (oV bQ P w K mg base N qual (ao st) f bp A outer s H E).iV (eH st) t∧t {nx:=λ_ H'=>Q .aM H',rt:=Q} (start N vs) H):FnOk P w K mg base bQ (k+1) f fd ps sp:=by
 obtain ⟨oc,od,kV,doc,pm,an,bp,ct,AH,rfl,lk,gq⟩:=F.ex;refine N7 lk gq S len λA outer s H vs Q E hr Ai=>?_;obtain ⟨t,h,q⟩:=oh bp A outer s H vs Q E hr Ai;exact ⟨t,h.iV,q⟩
theorem vO.binds{x qual:Str}{st:Stmt}{f:Addr}{fd:FuncData}{ps:List Str}(F:vO K x qual st f fd)
  (h:∀(kV doc pm:Value)(an:Option Addr)(bp ct:Value)(us:List Value),us.length=ps.length→bindArgs (PySem.W.fnOf x qual (iE st) (eH st) (ao st) .none kV doc pm an bp ct) ⟨us,[]⟩=pure (ps.zip us)):Binds K fd ps []:=by
 obtain ⟨oc,od,kV,doc,pm,an,bp,ct,AH,rfl,lk,gq⟩:=F.ex;exact .all (h kV doc pm an bp ct)
theorem pk{x qual:Str}{st:Stmt}{f:Addr}{oc:Value}{od an:Option Addr}{AH:Array (Option Value)}{kV doc pm bp ct:Value}(l:K.lookup f=some ⟨oc,od, .func (PySem.W.fnOf x qual (iE st) (eH st) (ao st) .none kV doc pm an bp ct),AH⟩)
  (c:PySem.W.codeIn K bp qual=true) (k:PySem.W.keepIn K (.ref f)=true):vO K x qual st f (PySem.W.fnOf x qual (iE st) (eH st) (ao st) .none kV doc pm an bp ct):=⟨⟨oc,od,kV,doc,pm,an,bp,ct,AH,rfl,l,c⟩,k⟩
end
theorem bB{n:Nat}(h:n≤1000):n<sizeLine:=mI h (by decide)
section
variable {X:Cx}
theorem pv(i:Nat){x:Str}{pos:Pos}(hN:X.N[i]? =some x:=by rfl)(hv:sq X.env.scope x:=by first|exact Or.inl rfl|exact Or.inr (Or.inl rfl) |exact Or.inr (Or.inr rfl))(hd:(x==("__debug__":Str))=false:=by decide)
  (gq:(x==("__classdict__":Str))=false:=by decide):PE X (.Name x pos) (rV i):=D5 hN hv hd gq
end
theorem fC{A B:Prop}(h:B):if false=true then A else B:=by
 rw [if_neg cK];exact h
theorem fP{A B:Prop}(h:A):if true=true then A else B:=by
 rw [if_pos rfl];exact h
theorem rJ{c A B:Prop} [Decidable c] (h1:c→A) (h2:¬c→B):if c then A else B:=by
 by_cases h:c
 ·rw [if_pos h]
  exact h1 h
 ·rw [if_neg h]
  exact h2 h
def az(H H':Hp):Prop:=∀b o,H b=some o→H' b=some o
theorem az.refl(H:Hp):az H H:=λ_ _ h=>h
theorem az.trans{H H1 H2:Hp}(a:az H H1)(b:az H1 H2):az H H2:=λc o h=>b c o (a c o h)
theorem az.free{H H':Hp}(e:az H H'){l:Addr}(h:H' l=Option.none):H l=Option.none:=by
 cases q:H l with
 |none=>rfl
 |some o=>
  rw [e l o q] at h;cases h
theorem az.seq{K:PySem.W.Frag}{H H':Hp}{a:Addr}{xs:List V}(e:az H H')(h:aC K H a xs):aC K H' a xs:=by
 rcases h with (h| ⟨o,h⟩) |h
 ·exact .inl (.inl (e _ _ h))
 ·exact .inl (.inr ⟨o,e _ _ h⟩)
 ·exact .inr h
def iC(env:Env):List (Str×NameKind)→List (Str×Addr)→List (Str×Addr)
 | [],cs=>cs
 | (n,k)::r,cs=>if k==NameKind.free then iC env r ((n,(env.cells.lookup n).getD 0)::cs) else iC env r cs
theorem gh{scope:Scope}{env:Env}(h:∀x∈scope.names,x.2= .free→∃c,env.cells.lookup x.1=some c):closureFor scope env=pure (iC env scope.names []):=by
 simp only [closureFor]
 have go:∀(names:List (Str×NameKind))(cs:List (Str×Addr)),(∀x∈names,x.2= .free→∃c,env.cells.lookup x.1=some c)→
   (forIn names cs λx __s=>if (x.snd==NameKind.free)=true then (do let a ←cellOf env x.fst;pure (ForInStep.yield ((x.fst,a)::__s))) else pure (ForInStep.yield __s))=(pure (iC env names cs):Sem _):=by
  intro names
  induction names with
  |nil=>intro cs _;rfl
  |cons x r ih=>
   intro cs h;obtain ⟨n,k⟩:=x;rw [List.forIn_cons,iC];have hr:=λcs=>ih cs λy hy=>h y (cu _ hy);cases hk:k==NameKind.free with
   |false=>
    simp only [hk,eB,if_false];exact hr cs
   |true=>
    have fe:k= .free:=by simpa using hk
    obtain ⟨c,hc⟩:=h (n,k) bY fe;simp only at hc;simp only [if_true,cellOf,hc];exact hr _
 rw [go _ _ h];rfl
theorem eX{env:Env}:∀(names:List (Str×NameKind))(cs:List (Str×Addr)),(∀x∈names,x.2= .free→∃c,env.cells.lookup x.1=some c)→(∀x c,cs.lookup x=some c→env.cells.lookup x=some c)→
  ∀x c,(iC env names cs).lookup x=some c→env.cells.lookup x=some c
 | [],cs,_,hc=>hc
 | (n,k)::r,cs,h,hc=>by
  rw [iC]
  split
  ·rename_i hk
   refine eX r _ (λy hy=>h y (cu _ hy)) λx c e=>?_;obtain ⟨c',pq⟩:=h (n,k) bY (by simpa using hk)
   rw [ql] at e
   split at e
   ·rename_i hx
    have Ak:x=n:=by simpa using hx
    subst Ak;simp only at pq;rw [pq] at e ⊢;exact e
   ·exact hc x c e
  ·exact eX r cs (λy hy=>h y (cu _ hy)) hc
theorem mM{env:Env}:∀(names:List (Str×NameKind))(cs:List (Str×Addr))(x:Str),((x,NameKind.free)∈names∨∃c,cs.lookup x=some c)→∃c,(iC env names cs).lookup x=some c
 | [],cs,x,h=>by
  rcases h with h|h
  ·cases h
  ·exact h
 | (n,k)::r,cs,x,h=>by
  rw [iC]
  split
  ·rename_i hk
   refine mM r _ x ?_
   by_cases e:x=n
   ·subst e;exact .inr ⟨(env.cells.lookup x).getD 0,by simp [ql]⟩
   ·have ne:(x==n)=false:=by simpa using e
    rcases h with h| ⟨c,h⟩
    ·rcases ck.mp h with z|z
     ·cases z;exact absurd rfl e
     ·exact .inl z
    ·exact .inr ⟨c,by rw [ql,ne];exact h⟩
  ·rename_i hk
   refine mM r cs x ?_
   rcases h with h|h
   ·rcases ck.mp h with z|z
    ·cases z;exact absurd rfl hk
    ·exact .inl z
   ·exact .inr h
def mz(src:List (Option Nat))(σ:St):St:=src.map λo=>o.bind λi=>(σ[i]?).bind id
def cZ(scope:Scope)(XN:List Str):List (Option Nat)→List Str→Prop
 | [],[]=>True
 |none::r,_::n=>cZ scope XN r n
 |some i::r,x::n=>XN[i]? =some x∧scope.names.lookup x=some .free∧cZ scope XN r n
 |_,_=>False
theorem cZ.len{scope:Scope}{XN:List Str}:∀{src:List (Option Nat)}{NC:List Str},cZ scope XN src NC→src.length=NC.length
 | [],[],_=>rfl
 |none::r,_::n,h=>by have:=cZ.len (src:=r) (NC:=n) h;simp [this]
 |some i::r,_::n,h=>by have:=cZ.len (src:=r) (NC:=n) h.2.2;simp [this]
 | [],_::_,h=>h.elim
 |none::_,[],h=>h.elim
 |some _::_,[],h=>h.elim
theorem cZ.at{scope:Scope}{XN:List Str}:∀{src:List (Option Nat)}{NC:List Str}{j i:Nat}{x:Str},cZ scope XN src NC→src[j]? =some (some i)→NC[j]? =some x→XN[i]? =some x∧scope.names.lookup x=some .free
 | [],[],_,_,_,_,h,_=>by simp at h
 |none::r,_::n,0,_,_,_,h,_=>by simp at h
 |none::r,_::n,j+1,i,x,h,h1,h2=>cZ.at (src:=r) (NC:=n) (j:=j) h (by simpa using h1) (by simpa using h2)
 |some k::r,y::n,0,i,x,h,h1,h2=>by
  have e1:k=i:=by simpa using h1
  have e2:y=x:=by simpa using h2
  subst e1 e2;exact ⟨h.1,h.2.1⟩
 |some k::r,_::n,j+1,i,x,h,h1,h2=>cZ.at (src:=r) (NC:=n) (j:=j) h.2.2 (by simpa using h1) (by simpa using h2)
 | [],_::_,_,_,_,h,_,_=>h.elim
 |none::_,[],_,_,_,h,_,_=>h.elim
 |some _::_,[],_,_,_,h,_,_=>h.elim
structure bb (X:Cx) (scope:Scope):Prop where
 kind:scope.kind= .function
 names:∀x∈scope.names,x.2= .local→scope.names.lookup x.1=some .local
 nocell:∀x∈scope.names,x.2≠ .cell
 free:∀x∈scope.names,x.2= .free→X.env.kindOf x.1=some .cell∨X.env.kindOf x.1=some .free
theorem fq{env:Env}:∀(names:List (Str×NameKind))(x:Str),
  (names.map λ(n,k)=>if (k==NameKind.free&&env.scope.kind== .function&&env.kindOf n==some .cell) then (n,NameKind.cell) else (n,k)).lookup x=
   (names.lookup x).map λk=>if (k==NameKind.free&&env.scope.kind== .function&&env.kindOf x==some .cell) then NameKind.cell else k
 | [],_=>rfl
 | (n,k)::r,x=>by
  have ih:=fq (env:=env) r x;show List.lookup x ((if (k==NameKind.free&&env.scope.kind== .function&&env.kindOf n==some .cell)=true then (n,NameKind.cell) else (n,k))::_)=_;cases hx:x==n with
  |true=>
   have e:x=n:=by simpa using hx
   subst e
   by_cases hc:(k==NameKind.free&&env.scope.kind== .function&&env.kindOf x==some .cell)=true
   ·rw [if_pos hc,ql,ql]
    simp only [hx];show some NameKind.cell=some (if _ then _ else _);rw [if_pos hc]
   ·rw [if_neg hc,ql,ql]
    simp only [hx];show some k=some (if _ then _ else _);rw [if_neg hc]
  |false=>
   by_cases hc:(k==NameKind.free&&env.scope.kind== .function&&env.kindOf n==some .cell)=true
   ·rw [if_pos hc];simp only [ql,hx];exact ih
   ·rw [if_neg hc];simp only [ql,hx];exact ih
theorem mem_lookup{names:List (Str×NameKind)}{x:Str}{k:NameKind}(h:names.lookup x=some k):(x,k)∈names:=PySem.mem_of_lookup h
def cV(X:Cx)(scope:Scope)(NC:List Str)(ex:List Addr)(s:Shared)(H:Hp):Cx:=
 {X with N:=NC,s₀:=s,H₀:=H,env:=compEnvC scope (iC X.env scope.names []) s.heap.objs.size X.env,outer:=X.stack,stack:=X.stack,ex:=ex,fn:=λ_=>false,pn:= [],xe:=λ_ _=>False}
section
variable {X:Cx} {pins:List (Addr×Obj)} {σ:St} {H:Hp} {s:Shared} {scope:Scope} {NC:List Str} {ex:List Addr} {src:List (Option Nat)}
theorem bb.cells(c:bb X scope)(ok:X.Ok):∀x∈scope.names,x.2= .free→∃c,X.env.cells.lookup x.1=some c:=λx hx e=>ok.has x.1 (c.free x hx e)
theorem bb.O6(c:bb X scope){C:Addr}{x:Str}{k:NameKind}(h:(compEnvC scope (iC X.env scope.names []) C X.env).kindOf x=some k)(hk:k= .cell∨k= .free):scope.names.lookup x=some .free:=by
 have h':(relabel scope X.env).names.lookup x=some k:=h;unfold relabel at h';rw [fq] at h';cases e:scope.names.lookup x with
 |none=>rw [e] at h';cases h'
 |some k'=>
  have nc:=c.nocell _ (mem_lookup e);rw [e] at h';have h2:(if (k'==NameKind.free&&X.env.scope.kind== .function&&X.env.kindOf x==some .cell) then NameKind.cell else k')=k:=Option.some.inj h'
  by_cases hf:k'= .free
  ·rw [hf]
  ·have hb:(k'==NameKind.free)=false:=by simpa using hf
   rw [hb,Bool.false_and,Bool.false_and,if_neg cK] at h2
   rcases hk with z|z
   ·rw [h2] at nc;exact absurd z nc
   ·rw [h2] at hf;exact absurd z hf
theorem Gx(I:Inv X pins σ H s)(c:bb X scope)(hf:∀b∈ex,fz X pins H b)(br:∀b∈ex,b<s.heap.objs.size):(cV X scope NC ex s H).Ok where
 mod:=I.ok.mod
 kind:=c.kind
 glob:=I.ok.glob
 blt:=I.ok.blt
 above:=aU _
 inj:=λx y d h1 h2=>I.ok.inj x y d (eX _ _ (c.cells I.ok) (λ_ _ z=>by cases z) x d h1) (eX _ _ (c.cells I.ok) (λ_ _ z=>by cases z) y d h2)
 has:=λx hx=>mM _ _ x (.inl (mem_lookup (by rcases hx with h|h<;>exact c.O6 h (by simp))))
 cab:=λ_ _ z=>by cases z
 hd:=I.ok.hd
 frames:=I.ok.frames
 stk:= .inl rfl
 exf:=λb hb=>⟨bW (br b hb),λx d e=>(hf b hb).2.2.2.2.1 x d (eX _ _ (c.cells I.ok) (λ_ _ z=>by cases z) x d e)⟩
 bs:=I.bs
 bsz:=kU I.ok.bsz I.sz
 noex:=λb o e hb=>by
  rcases (hf b hb).2.2.2.1 with z|z
  ·exact I.ok.noex b o e z
  ·exact absurd (f9 (Heap.lt_size e) (kU I.ok.bsz z)) (kS _)
 exfs:=λb hb z=>(ck.mp (I.zb b z)).elim (hf b hb).2.1 (hf b hb).2.2.1
 funs:=I.stack
 frf:=I.A3
theorem wB{h1:Heap}{tk:Nat}{ob:Obj}(I:Inv X pins σ H s)(c:bb X scope)(fB:cZ scope X.N src NC)(hf:∀b∈ex,fz X pins H b)(br:∀b∈ex,b<s.heap.objs.size)
  (yB:h1.Ns s.heap.objs.size (λ_=>none)) (yF:Heap.SameBut s.heap.objs.size (s.heap.push ob) h1):
  Inv (cV X scope NC ex s H) [] (mz src σ) H {s with heap:=h1,toks:=tk}:=by
 have old:∀b o,s.heap.get? b=some o→h1.get? b=some o:=λb o e=>yF.extBut b o (bW (Heap.lt_size e)) (Heap.get?_push_of_some _ e);have cl:∀x d,(iC X.env scope.names []).lookup x=some d→X.env.cells.lookup x=some d:=λx d=>eX _ _ (c.cells I.ok) (λ_ _ z=>by cases z) x d
 have cellK:∀d v,s.heap.IsCell d v→h1.IsCell d v:=λd v ⟨o,ho,hd⟩=>⟨o,old d o ho,hd⟩;refine ⟨Gx I c hf br,rfl,I.bare,Un.kept old,⟨_,yB,λj x v e1 e2 e3=>?_⟩,λx d e=>?_,I.hok.fresh (aU _),λx d e=>I.freeC x d (cl x d e),λp hp=>absurd (show p∈([]:List (Addr×Obj)) from hp) (by simp),I.hok.kept old,?_⟩
 ·have qA:(mz src σ)[j]? =some (some v):=e2
  unfold mz at qA;rw [dq] at qA;cases ej:src[j]? with
  |none=>rw [ej] at qA;cases qA
  |some o=>
   rw [ej] at qA;cases o with
   |none=>cases qA
   |some i=>
    have e4:(σ[i]?).bind id=some v:=Option.some.inj qA
    have e5:σ[i]? =some (some v):=by
     cases q:σ[i]? with
     |none=>rw [q] at e4;cases e4
     |some z=>rw [q] at e4;exact congrArg some e4
    obtain ⟨hN,Ov⟩:=fB.at ej e1;have hk:=c.free _ (mem_lookup Ov) rfl;obtain ⟨m,hn,hl⟩:=I.loc;obtain ⟨u,r,l⟩:=hl i x v hN e5 (hk.elim (λz=> .inr (.inl z)) (λz=> .inr (.inr z)));refine ⟨u,r, .inr ⟨?_,?_⟩⟩
    ·show (relabel scope X.env).names.lookup x=_∨(relabel scope X.env).names.lookup x=_
     unfold relabel;rw [fq,Ov]
     by_cases z:(NameKind.free==NameKind.free&&X.env.scope.kind== .function&&X.env.kindOf x==some .cell)=true
     ·left;simp only [Option.map_some,z,if_true]
     ·right;simp only [Option.map_some,z];rfl
    ·obtain ⟨d,hd⟩:=mM (env:=X.env) scope.names [] x (.inl (mem_lookup Ov))
     refine ⟨d,hd,?_⟩
     rcases l with ⟨l,_⟩ | ⟨_,d',e,z⟩
     ·exfalso;rcases hk with z|z<;>(rw [l] at z;cases z)
     ·rw [cl x d hd] at e;cases e;exact cellK d _ z
 ·obtain ⟨v,z⟩:=I.cell x d (cl x d e)
  exact ⟨v,cellK d v z⟩
 ·show (mz src σ).length=NC.length
  unfold mz;rw [aJ];exact fB.len
theorem comp_back{H':Hp}{aw:St}{s':Shared}{h2:Heap}{y0:List (Addr×Obj)}(I:Inv X pins σ H s)(hf:∀b∈ex,fz X pins H b)(J:Inv (cV X scope NC ex s H) y0 aw H' s')
  (yF:Heap.SameBut s.heap.objs.size s'.heap h2):Inv X pins σ H' {s' with heap:=h2}:=by
 have up:∀b o,b≠s.heap.objs.size→s'.heap.get? b=some o→h2.get? b=some o:=λb o hb e=>yF.extBut b o hb e;have ne:∀b o,s.heap.get? b=some o→b≠s.heap.objs.size:=λb o e=>bW (Heap.lt_size e);have u:=J.base;refine I.Nl (ch:=ex) (show s'.os=s.os from J.os) ⟨λb o e n hb hx=>up b o (ne b o e) (u.keep b o e n hb hx),λb o e n hb hx=>?_,u.free,λb o e hx=>?_,u.tups,u.frzs,u.tbls⟩ ?_ J.bare λb hb=>?_
 ·obtain ⟨sl,q⟩:=u.slot b o e n hb hx
  exact ⟨sl,up b _ (ne b o e) q⟩
 ·obtain ⟨o',q⟩:=u.there b o e hx
  exact ⟨o',up b o' (ne b o e) q⟩
 ·intro b o e
  have nC:∀b o,H' b=some o→b≠s.heap.objs.size:=λb o e z=>by
   have:=J.free
   rw [z] at e;have e':H' s.heap.objs.size=none:=this;rw [e'] at e;cases e
  refine (J.hok b o e).rU (λd v hd q=>up d v ?_ q) (λ_ q=>q) λ_ _ q=>q
  rcases hd with z|z
  ·rw [z];exact nC b o e
  ·exact nC d _ z
 ·obtain ⟨_,f1,_,f3,f4,f5⟩:=hf b hb
  exact ⟨f3,f1,f4,f5⟩
end
def nY(X:Cx)(ifs:List Expr)(t:TT):Prop:=
 ∀(pins:List (Addr×Obj))(s:Shared)(σ:St)(H:Hp)(Q:Bool→Hp→Prop),Inv X pins σ H s→t σ H Q→
  wpAny (model X.prog X.w) X.A (forIn ifs true λc r=>if r=true then do let ok ←isTrue c X.env (eval c X.env);pure (ForInStep.yield ok) else pure (ForInStep.yield r)) (TP X pins σ Q) X.xe s
def M9:TT:=λ_ H Q=>Q true H
theorem pU{X:Cx}:nY X [] M9:=λ_ _ _ H _ I h=>wpAny_tests_nil ⟨H,I,h⟩
theorem AL{X:Cx}{c:Expr}{t:TT}(h:PT X c t):nY X [c] t:=λpins s σ H Q I q=>wpAny_tests_one (h pins s σ H Q I q)
def Qb(J:It)(g:TG)(tt:TT)(te:TE)(D:Addr)(Q:VK)(σ:St)(H:Hp):Prop:=
 ∃W:Nat→Nat→St→Hp→Prop,(∃m,W 0 m σ H)∧∀i m cD H2,W i m cD H2→
  (J.stop i H2∧Q (.ref D) H2)∨
  (J.go i H2∧∃N:St→Hp→Prop,(∀aw H',N aw H'→∃m',m'<m∧W (i+1) m' aw H')∧∀x H3,J.yld i H2 x H3→g x cD H3 λcT H4=>tt cT H4 λb H5=>
   if b=true then te cT H5 λv H6=>∃ys,H6 D=some (.lst ys)∧ys.length<sizeLine∧N cT (upd H6 D (.lst (ys++ [v]))) else N cT H5)
def LI(wi:TI)(g:TG)(tt:TT)(te:TE)(src:List (Option Nat)):TE:=λσ H Q=>wi σ H λJ H1=>∀D,H1 D=none→Qb J g tt te D Q (mz src σ) (upd H1 D (.lst []))
section
variable {X:Cx} {elt iter tg:Expr} {ifs:List Expr} {scope:Scope} {pos:Pos} {wi:TI} {g:TG} {tt:TT} {te:TE} {src:List (Option Nat)} {NC:List Str}
theorem rm{pins:List (Addr×Obj)}{σ:St}{s2:Shared}{H2:Hp}{it:Addr}{fp:List Addr}{tn:Nat→Heap→Prop}{J:It}{RR:Value→Addr→Result→Shared→Prop}{E:Value→Shared→Prop}{Q:VK}
  (hc:X.calm=true) (c:bb X scope) (fB:cZ scope X.N src NC) (I2:Inv X pins σ H2 s2) (T:Turn X.prog X.w X.K tg J fp it tn) (kz:tn 0 s2.heap) (f2:∀b∈fp,fz X pins H2 b)
  (hg:∀s H,PG (cV X scope NC fp s H) tg g) (ht:∀s H,nY (cV X scope NC fp s H) ifs tt) (he:∀s H,PE (cV X scope NC fp s H) elt te)
  (hW:∀D,H2 D=none→∃W:Nat→Nat→St→Hp→Prop,(∃m,W 0 m (mz src σ) (upd H2 D (.lst [])))∧∀i m cD H2,W i m cD H2→
   (J.stop i H2∧Q (.ref D) H2)∨
   (J.go i H2∧∃N:St→Hp→Prop,(∀aw H',N aw H'→∃m',m'<m∧W (i+1) m' aw H')∧∀x H3,J.yld i H2 x H3→g x cD H3 λcT H4=>tt cT H4 λb H5=>
    if b=true then te cT H5 λv H6=>∃ys,H6 D=some (.lst ys)∧ys.length<sizeLine∧N cT (upd H6 D (.lst (ys++ [v]))) else N cT H5))
  (Ym:∀D s3 H3 aw H' s',Inv X pins σ H3 s3→(∀b∈fp,fz X pins H3 b)→Inv (cV X scope NC fp s3 H3) [] aw H' s'→Q (.ref D) H'→RR (.ref D) s3.heap.objs.size (.ok .next) s'):
  wpAny (model X.prog X.w) X.A (newList []) (λacc V3=>wpAny (model X.prog X.w) X.A (newFunctionEnv scope X.env.globals (iC X.env scope.names []) [] X.env.qual none .none (some X.env)) (λrk A4=>
   codeAny (model X.prog X.w) X.A (.compStart (.ListComp elt [⟨tg,iter,ifs,0⟩] scope pos) 0 (.ref it) acc {rk with scope:=relabel scope X.env}) (RR acc rk.locals) A4) E V3) E s2:=by
 obtain ⟨W,⟨m0,w0⟩,turn⟩:=hW s2.heap.objs.size I2.fresh;have I3:Inv X pins σ (upd H2 s2.heap.objs.size (.lst [])) {s2 with heap:=s2.heap.push {cls:= .type "list",data:= .seq ([]:List Value).toArray}}:=I2.Ib (its:= []) (t':=s2.toks) .nil (cM _)
 have O9:∀b∈fp,b<s2.heap.objs.size:=λb hb=>by
  obtain ⟨o,e,_⟩:=T.obj _ _ kz b hb;exact Heap.lt_size e
 have f3:∀b∈fp,fz X pins (upd H2 s2.heap.objs.size (.lst [])) b:=λb hb=>⟨by rw [ae (bW (O9 b hb))];exact (f2 b hb).1,(f2 b hb).2⟩
 refine wpAny_newObj_type ?_
 suffices key:∀s3:Shared,Inv X pins σ (upd H2 s2.heap.objs.size (.lst [])) s3→(∀b o,s2.heap.get? b=some o→s3.heap.get? b=some o)→
   wpAny (model X.prog X.w) X.A (newFunctionEnv scope X.env.globals (iC X.env scope.names []) [] X.env.qual none .none (some X.env)) (λrk A4=>
    codeAny (model X.prog X.w) X.A (.compStart (.ListComp elt [⟨tg,iter,ifs,0⟩] scope pos) 0 (.ref it) (.ref s2.heap.objs.size) {rk with scope:=relabel scope X.env}) (RR (.ref s2.heap.objs.size) rk.locals) A4) E s3 from
  key _ I3 λb o e=>Heap.get?_push_of_some _ e
 intro s3 I3 PY;have sM:tn 0 s3.heap:=T.keep _ _ _ kz λb _ o e=>PY b o e
 have Ck:∀b∈fp,b<s3.heap.objs.size:=λb hb=>by
  obtain ⟨o,e,_⟩:=T.obj _ _ sM b hb;exact Heap.lt_size e
 generalize RT:upd H2 s2.heap.objs.size (.lst [])=H3 at I3 f3 w0;refine wpAny_newFunctionEnv c.nocell (by intro y hy;simp at hy) (λh1 yB yF=>?_) c.kind
 have I4:=wB (src:=src) (NC:=NC) (ex:=fp) (tk:=s3.toks+([]:List (Str×Value)).length) I3 c fB f3 Ck yB yF;have Jt:tn 0 h1:=T.keep _ _ _ sM λb hb o e=>yF.extBut b o (bW (Ck b hb)) (Heap.get?_push_of_some _ e);generalize hX:cV X scope NC fp s3 H3=XC at I4
 have stat:∀{H':Hp},(∀b∈fp,H' b=none)→∀b∈fp,fz XC [] H' b:=λ {H'} hn b hb=>by
  subst hX;refine ⟨hn b hb,bW (Ck b hb),λz=>?_, .inl hb,λx d e=>?_,λp hp=>absurd (show p∈([]:List (Addr×Obj)) from hp) (by simp)⟩
  ·exact (I4.ok.exfs b hb) z
  ·exact (I4.ok.exf b hb).2 x d e
 have loop:codeAny (model X.prog X.w) X.A (.compLoop (.ListComp elt [⟨tg,iter,ifs,0⟩] scope pos) 0 (.ref it) (.ref s2.heap.objs.size) XC.env) (RR (.ref s2.heap.objs.size) s3.heap.objs.size)
   {s3 with heap:=h1,toks:=s3.toks+([]:List (Str×Value)).length}:=by
  refine codeAny_loop rfl (λn s'=>∃i aw H',Inv XC [] aw H' s'∧tn i s'.heap∧(∀b∈fp,H' b=none)∧W i n aw H') (λn s' hI=>?_) m0 ⟨0,_,_,I4,Jt,λb hb=>(f3 b hb).1,w0⟩;obtain ⟨i,aw,H',I5,sN,oe,w5⟩:=hI;show wpAny _ X.A ((compTurn (.ListComp elt [⟨tg,iter,ifs,0⟩] scope pos) 0 (.ref it) (.ref s2.heap.objs.size) XC.env).onRaise (λx=>do noteFrame x XC.env;theTreesLotGoes x)) _ _ s'
  refine wpAny_noted ?_;rw [compTurn_list]
  have iV:∀{α:Type}{t:Sem α}{Q:α→Shared→Prop}{E:Value→Shared→Prop}{s:Shared},wpAny (model XC.prog XC.w) XC.A t Q XC.xe s→wpAny (model X.prog X.w) X.A t Q E s:=λ {α t Q E s} h=>by
   subst hX;exact wpAny_mono h (λ_ _ q=>q) λ_ _ f=>f.elim
  have Ff:XC.calm=true:=by subst hX;exact hc
  have eP:XC.prog=X.prog:=by subst hX;rfl
  have ew:XC.w=X.w:=by subst hX;rfl
  have eK:XC.K=X.K:=by subst hX;rfl
  have eA:XC.A=X.A:=by subst hX;rfl
  have Oy:PG XC tg g:=by subst hX;exact hg _ _
  have OT:nY XC ifs tt:=by subst hX;exact ht _ _
  have Ot:PE XC elt te:=by subst hX;exact he _ _
  refine wpAny_bind (wpAny_standAt (wpAny_bind ?_))
  rcases turn i n aw H' w5 with ⟨stop,qn⟩ | ⟨go,N,hN,step⟩
  ·have hd:=T.done XC eP ew eK Ff i [] s' aw H' (notedBy (model X.prog X.w) X.A XC.env λe s'=>RR (.ref s2.heap.objs.size) s3.heap.objs.size (.error e) s') I5 (stat oe) sN stop
   rw [eA] at hd;refine thn hd λr s6 ⟨hr,I6⟩=>?_;subst hr;refine wpAny_pure ?_;subst hX;exact Ym _ s3 H3 aw H' s6 I3 f3 I6 qn
  ·have hd:=T.item XC eP ew eK Ff i [] s' aw H' (notedBy (model X.prog X.w) X.A XC.env λe s'=>RR (.ref s2.heap.objs.size) s3.heap.objs.size (.error e) s') I5 (stat oe) sN go
   rw [eA] at hd;refine thn hd λr s6 ⟨u,hr,h6⟩=>?_;subst hr;refine wpAny_bind (thn h6 λ_ s7 ⟨x,H7,I7,r7,y7,u9,Hb⟩=>?_);have Gb:=I7.pinned (stat Hb) (T.obj _ _ u9)
   have again:∀{fJ:St}{H8:Hp}{s8:Shared},Inv XC ([]++kq fp s7.heap) fJ H8 s8→N fJ H8→∃m,m<n∧∃i aw H',Inv XC [] aw H' s8∧tn i s8.heap∧(∀b∈fp,H' b=none)∧W i m aw H':=λ {fJ H8 s8} I8 n8=>by
    obtain ⟨m',hm,w8⟩:=hN fJ H8 n8;refine ⟨m',hm,i+1,fJ,H8,I8.iw,T.keep _ _ _ u9 λb hb o e=>(I8.pin (b,o) (eV _ (eV _ (dA hb e)))).1,λb hb=>?_,w8⟩;obtain ⟨o,e,d⟩:=T.obj _ _ u9 b hb;exact (I8.pin (b,o) (eV _ (eV _ (dA hb e)))).2.1
   refine wpAny_bind (iV (thn (Oy _ s7 aw H7 x u _ Gb r7 (step x H7 y7)) λ_ s8 ⟨fJ,H8,I8,q8⟩=>?_));refine wpAny_bind (iV (thn (OT _ s8 fJ H8 _ I8 q8) λb s9 ⟨H9,I9,q9⟩=>?_));cases b with
   |false=>
    rw [if_neg cK] at q9;exact wpAny_pure ⟨by subst hX;rfl,again I9 q9⟩
   |true=>
    rw [if_pos rfl] at q9;refine wpAny_bind (wpAny_bind (iV (thn (Ot _ s9 fJ H9 _ I9 q9) λy y4 ⟨v,x9,Nb,Pz,ys,hD,hz,Px⟩=>?_)));refine wpAny_bind (iV (thn (gw _ y4 fJ x9 (.ref s2.heap.objs.size) [v] _ [y] (λ_ H'=>N fJ H') Nb rfl (.cons Pz .nil) ⟨_,ys,v,rfl,rfl,hD,hz,Px⟩) λ_ CO ⟨_,Ez,Ga,_,Py⟩=>?_));exact wpAny_pure (wpAny_pure ⟨by subst hX;rfl,again Ga Py⟩)
 subst hX;exact codeAny_compStart_list loop (T.self _ 0 _ _ _ Jt loop)
theorem CB(hc:X.calm=true)(c:bb X scope)(fB:cZ scope X.N src NC)(hi:PI X tg iter wi)
  (hg:∀ex s H,PG (cV X scope NC ex s H) tg g) (ht:∀ex s H,nY (cV X scope NC ex s H) ifs tt) (he:∀ex s H,PE (cV X scope NC ex s H) elt te)
  (hs:∀x,foldedSetIterable iter X.env x=pure x:=by intro _;rfl):PE X (.ListComp elt [⟨tg,iter,ifs,0⟩] scope pos) (LI wi g tt te src):=by
 intro pins s σ H Q I h;rw [eval_ListComp];refine wpAny_comprehension_free (use:=none) rfl hs (gh (c.cells I.ok)) c.kind c.names (thn (hi pins s σ H _ I h) λv s1 h1=>thn h1 λv9 s2 h2=>?_);obtain ⟨it,fp,tn,J,H2,rfl,I2,T,kz,f2,hW⟩:=h2;refine rm (RR:=λacc C=>compPost (model X.prog X.w) X.A X.xe none (EP X pins σ Q) acc C) (Q:=Q) hc c fB I2 T kz f2 (hg fp) (ht fp) (he fp) hW ?_;intro D s3 H3 aw H' s' I3 f3 J' q;obtain ⟨m,hn,_⟩:=J'.loc;exact ⟨m,hn,λh' sb=>⟨.ref D,H',comp_back I3 f3 J' sb,rfl,q⟩⟩
def LH(wi:TI)(g:TG)(tt:TT)(te:TE)(src:List (Option Nat))(i:Nat):TS:=λD σ H=>LI wi g tt te src σ H λv H'=>D.nx (σ.set i (some v)) H'
theorem jR{i:Nat}{x:Str}{px rT:Pos}(hc:X.calm=true)(hN:X.N.Nodup)(fj:X.N[i]? =some x)(hx:Loc X.env.scope x)(c:bb X scope)(fB:cZ scope X.N src NC)(hi:PI X tg iter wi)
  (hg:∀ex s H,PG (cV X scope NC ex s H) tg g) (ht:∀ex s H,nY (cV X scope NC ex s H) ifs tt) (he:∀ex s H,PE (cV X scope NC ex s H) elt te)
  (qE:swapsWith (.ListComp elt [⟨tg,iter,ifs,0⟩] scope pos) (some (.Name x px)) rT.line X.env=pure true)
  (hf:X.fn x=true∨X.env.scope.names.lookup x=some .local:=by first|exact .inl rfl|exact .inr rfl|assumption)
  (hs:∀x,foldedSetIterable iter X.env x=pure x:=by intro _;rfl):PS X (.Assign [.Name x px] (.ListComp elt [⟨tg,iter,ifs,0⟩] scope pos) rT) (LH wi g tt te src i):=by
 intro pins s σ H D I h;rw [exec_Assign_Name_used _ _ _ _ qE];refine wpAny_bind (wpAny_standAt (wpAny_bind ?_));show wpAny _ X.A (do let _ ←comprehension (.ListComp elt [⟨tg,iter,ifs,0⟩] scope pos) scope X.env _ (newList []) false (eval iter X.env) (some (assign (.Name x px) X.env))) _ _ s
 refine wpAny_bind (wpAny_mono (wpAny_comprehension_free (use:=some (assign (.Name x px) X.env)) (Q:=λ_ s'=>SP X pins D .next s') rfl hs (gh (c.cells I.ok)) c.kind c.names
  (thn (hi pins s σ H _ I h) λv s1 h1=>thn h1 λv9 s2 h2=>?_)) (λ_ s' hq=>wpAny_pure (wpAny_pure hq)) λ_ _ e=>e)
 obtain ⟨it,fp,tn,J,H2,rfl,I2,T,kz,f2,hW⟩:=h2;refine rm (RR:=λacc C=>compPost (model X.prog X.w) X.A X.xe (some (assign (.Name x px) X.env)) (λ_ s'=>SP X pins D .next s') acc C) (Q:=λv H'=>D.nx (σ.set i (some v)) H') hc c fB I2 T kz f2 (hg fp) (ht fp) (he fp) hW ?_;intro a s3 H3 aw H' s' I3 f3 J' q;obtain ⟨m,hn,_⟩:=J'.loc;have IX:Inv X pins σ H' s':=comp_back I3 f3 J' (.refl ..);show wpAny _ X.A (assign (.Name x px) X.env (.ref a)) _ _ _;have nL:s3.heap.objs.size≠X.env.locals:=Nat.ne_of_gt I3.lt
 have nc:∀y d,X.env.cells.lookup y=some d→d≠s3.heap.objs.size:=λy d e z=>by
  obtain ⟨v,hv⟩:=I3.cell y d e
  have:=hv.lt
  rw [z] at this;exact absurd this (kS _)
 have np:∀p∈X.pn++pins,p.1≠s3.heap.objs.size:=λp hp z=>by
  have:=Heap.lt_size (I3.pin p hp).1
  rw [z] at this;exact absurd this (kS _)
 obtain ⟨oC,es,ep,Y4,Ka,rC⟩:=id hn;have RU:H' s3.heap.objs.size=none:=J'.free
 have IP:Inv X ((s3.heap.objs.size,oC)::pins) σ H' s':=IX.pS λp hp=>by
  rcases ck.mp hp with z|z
  ·rw [z]
   exact ⟨Y4,RU,nL,I3.MP (aU _),λv w=>by rw [Ka] at w;cases w⟩
  ·exact IX.pin p (eV _ z)
 refine wpAny_assign_Name (jT (x:=x) IP hN fj hx (v:= .ref a) rfl (λs5 I5=>?_) hf);have Yg:=(I5.pin (s3.heap.objs.size,oC) (eV _ bY)).1;refine ⟨m,⟨oC,es,ep,Yg,Ka,rC⟩,λh6 sb=>?_⟩;have Nc:Inv X pins (σ.set i (some (.ref a))) H' s5:=I5.pS λp hp=>I5.pin p (eV _ (cu _ hp));exact ⟨_,H',Nc.turned (t':=s5.toks) (it:=s3.heap.objs.size) (λb o hb e=>sb.extBut b o hb e) RU nL (.inr I3.sz) nc np,q⟩
end
theorem yJ{J:It}{g:TG}{tt:TT}{te:TE}{D:Addr}{σ:St}{H:Hp}{Q:VK}(n:Nat)(Pv:Nat→St→Hp→Prop)(h0:Pv 0 σ H)
  (YM:∀i σ H,i<n→Pv i σ H→J.go i H) (OR:∀i σ H,n≤i→Pv i σ H→J.stop i H)
  (hs:∀i x σ H H3,i<n→Pv i σ H→J.yld i H x H3→g x σ H3 λcT H4=>tt cT H4 λb H5=>
   if b=true then te cT H5 λv H6=>∃ys,H6 D=some (.lst ys)∧ys.length<sizeLine∧Pv (i+1) cT (upd H6 D (.lst (ys++ [v]))) else Pv (i+1) cT H5)
  (hd:∀σ H,Pv n σ H→Q (.ref D) H):Qb J g tt te D Q σ H:=by
 refine ⟨λi m σ H=>m=n-i∧i≤n∧Pv i σ H,⟨n,by simp,cM _,h0⟩,?_⟩
 rintro i m σ H ⟨rfl,hi,p⟩
 by_cases br:i<n
 ·exact .inr ⟨YM i σ H br p,Pv (i+1),λaw H' p'=>⟨n-(i+1),by omega,rfl,br,p'⟩,λx H3 y=>hs i x σ H H3 br p y⟩
 ·have e:i=n:=by omega
  subst e;exact .inl ⟨OR _ σ H (aU _) p,hd σ H p⟩
section
variable {X:Cx} {pins:List (Addr×Obj)} {σ:St} {H:Hp} {s:Shared} {h':Heap} {fp:List Addr}
theorem Inv.A8{t':Nat}(I:Inv X pins σ H s)(hf:∀b∈fp,fz X pins H b)(k:∀b o,b∉fp→s.heap.get? b=some o→h'.get? b=some o):Inv X pins σ H {s with heap:=h',toks:=t'}:=by
 refine I.step (g':=s.gens) (d':=s.drawn) (ch:=fp) (λb hb=>?_) (λb o _ _ hc e _=>k b o hc e) (λb o _ _ hc e _=>⟨o.slots,k b o hc e⟩) (λ_ _ _ _ n=>n)
  (λb o hc e=>⟨o,k b o hc e⟩) (λ_ _ e=>e) (λ_ _ _ e=>e) (λb ps e=>⟨#[],by rw [e];simp⟩) (λm hm=>?_) (λb u e=>?_) I.bare
 ·obtain ⟨_,f1,_,f3,f4,f5⟩:=hf b hb
  exact ⟨f3,f1,f4,f5⟩
 ·obtain ⟨o,es,ep,ho,r⟩:=hm
  exact ⟨o,es,ep,k _ o (λz=>(hf _ z).2.1 rfl) ho,r⟩
 ·have nf:∀b u,H b=some u→b∉fp:=λb u e z=>by rw [(hf b z).1] at e;cases e
  refine (I.hok b u e).rU (λc v hc q=>k c v ?_ q) (λ_ q=>q) λ_ _ q=>q
  rcases hc with z|z
  ·rw [z];exact nf b u e
  ·exact nf c _ z
theorem Inv.Jz{t':Nat}{t:Addr}{o:HO}(I:Inv X pins σ H s)(hf:∀b∈fp,fz X pins H b)(k:∀b o,b∉fp→s.heap.get? b=some o→h'.get? b=some o)(ht:s.heap.objs.size≤t)
  (new:cO X.prog X.w (upd H t o) h' t o):Inv X pins σ (upd H t o) {s with heap:=h',toks:=t'}:=by
 have nt:H t=none:=I.hok.fresh ht;have up:∀b u,H b=some u→upd H t o b=some u:=λb u e=>by rw [ae (ah e nt)];exact e
 refine I.step (g':=s.gens) (d':=s.drawn) (ch:=fp) (λb hb=>?_) (λb o _ _ hc e _=>k b o hc e) (λb o _ _ hc e _=>⟨o.slots,k b o hc e⟩) (λb o _ e n=>?_)
  (λb o hc e=>⟨o,k b o hc e⟩) (λb xs e=>up b _ e) (λb _ _ e=>up b _ e) (λb ps e=>⟨#[],by rw [up b _ e];simp⟩) (λm hm=>?_) (λb u e=>?_) I.bare
 ·obtain ⟨_,f1,_,f3,f4,f5⟩:=hf b hb
  exact ⟨f3,f1,f4,f5⟩
 ·rw [ae (bW (f9 (Heap.lt_size e) ht))];exact n
 ·obtain ⟨o,es,ep,ho,r⟩:=hm
  exact ⟨o,es,ep,k _ o (λz=>(hf _ z).2.1 rfl) ho,r⟩
 ·by_cases hb:b=t
  ·subst hb
   rw [ab] at e;cases e;exact new
  ·rw [ae hb] at e
   have nf:∀b u,H b=some u→b∉fp:=λb u e z=>by rw [(hf b z).1] at e;cases e
   refine (I.hok b u e).rU (λc v hc q=>k c v ?_ q) (λb' q=>up b' _ q) λb' _ q=>up b' _ q
   rcases hc with z|z
   ·rw [z];exact nf b u e
   ·exact nf c _ z
end
def EA(K:PySem.W.Frag)(a:Addr):It:=
 ⟨λi H=>∃xs x,aC K H a xs∧xs[i]? =some x,λi H y H'=>∃t x,y= .ref t∧H t=none∧H'=upd H t (.tup [.int i,x])∧∀xs,aC K H a xs→xs[i]? =some x,λi H=>∃xs,aC K H a xs∧xs.length≤i⟩
theorem Ao{h:Heap}{t:Addr}{u v:Value}(e:h.get? t=some {cls:= .type "tuple",data:= .seq #[u,v]}):IsTup h t [u,v].toArray:=⟨_,e,rfl,_,rfl⟩
theorem C8{P:Program}{w:World}{K:PySem.W.Frag}{es:List Expr}{k1}{tp:Pos}(a e it:Addr)(ne:e≠it):
  Turn P w K (.Tuple es k1 tp) (EA K a) [e,it] e (λi h=>(∃old,IsEnum h e it i old)∧h.IsListIter it a i) where
 mem:=by simp
 obj:=λi h st b hb=>by
  obtain ⟨⟨old,he⟩,o,e2,c,d⟩:=st
  rcases ck.mp hb with z|z
  ·subst z
   exact ⟨_,he,λv w=>by cases w⟩
  ·have z':b=it:=by simpa using z
   subst z';exact ⟨o,e2,λv z=>by rw [d] at z;cases z⟩
 keep:=λi h h' st k=>by
  obtain ⟨⟨old,he⟩,kz⟩:=st;exact ⟨⟨old,k e (by simp) _ he⟩,kz.at λo q=>k it (by simp) o q⟩
 item:=by
  intro X hP hw hK hc i pins s σ H E I hf st hg;subst hP hw hK;obtain ⟨xs,x,hq,hx⟩:=hg;obtain ⟨its,rv,p,hz⟩:=I.list hq;obtain ⟨u,hu,ru⟩:=rv.get hx;obtain ⟨⟨old,he⟩,hit⟩:=st;refine wpAny_pyNext_enum_item he hit p.isList (x:=u) (by simpa using hu) ne λh' yu Su Zg aag kk=>?_
  have k2:∀b o,b∉ [e,it]→s.heap.get? b=some o→h'.get? b=some o:=λb o hb q=>kk b o (λz=>hb (by simp [z])) (λz=>hb (by simp [z])) q
  have I1:Inv X pins σ (upd H s.heap.objs.size (.tup [.int i,x])) {s with heap:=h',toks:=s.toks+1}:=
   I.Jz hf k2 (aU _) ⟨by show 2≤sizeLine;decide,[.int i s.toks,u], .cons ⟨_,rfl⟩ (.cons ru .nil),Ao Zg⟩
  refine ⟨_,rfl,wpAny_letOwnedTupleGo_enum yu λh2 YG sb=>?_⟩
  have lt:∀b∈ [e,it],b<s.heap.objs.size:=λb hb=>by
   rcases ck.mp hb with z|z
   ·rw [z];exact Heap.lt_size he
   ·obtain ⟨o,e2,_⟩:=hit
    have z':b=it:=by simpa using z
    rw [z'];exact Heap.lt_size e2
  have Sl:∀b∈ [e,it],fz X pins (upd H s.heap.objs.size (.tup [.int i,x])) b:=λb hb=>⟨by rw [ae (bW (lt b hb))];exact (hf b hb).1,(hf b hb).2⟩
  refine ⟨.ref s.heap.objs.size,_,I1.A8 (t':=s.toks+1) Sl (λb o hb q=>sb.extBut b o (λz=>hb (by simp [z])) q),rfl,⟨_,x,rfl,I.hok.fresh (aU _),rfl,λys hy=>by rw [I.xn hy hq];exact hx⟩,⟨⟨u,?_⟩,Su.extBut sb.extBut (Ne.symm ne)⟩,λb hb=>(Sl b hb).1⟩
  have z:((i+1:Nat):Int)=(i:Int)+1:=by omega
  rw [z];exact YG
 done:=by
  intro X hP hw hK hc i pins s σ H E I hf st hg;subst hP hw hK;obtain ⟨xs,hq,hx⟩:=hg;obtain ⟨its,rv,p,hz⟩:=I.list hq;have hl:=rv.length;obtain ⟨⟨old,he⟩,hit⟩:=st;exact wpAny_pyNext_enum_end (I.ok.hd hc) he hit p.isList (by simp;omega) λh' eb=>⟨rfl,I.A8 (t':=s.toks) hf λb o hb q=>eb b o (λz=>hb (by simp [z])) q⟩
 self:=λ_ _ _ _ _ st h=>by
  obtain ⟨⟨old,he⟩,_⟩:=st;exact wpAny_pyIter_enum he h
section
variable {X:Cx}
def OZ(K:PySem.W.Frag)(ta:TA):TI:=λσ H R=>ta σ H λvs H1=>∃a,vs= [.ref a]∧(∃xs,H1 a=some (.lst xs))∧R (EA K a) H1
theorem uP{a:Expr}{ta:TA}{p pos:Pos}{es:List Expr}{k1}{tp:Pos}(hg:Gl X "enumerate")(hm:X.mg "enumerate"=none)(ha:PA X [a] ta)(hs:starEach [a] X.env= [(false,eval a X.env)]:=by rfl):
  PI X (.Tuple es k1 tp) (.Call (.Name "enumerate" p) [a] [] pos) (OZ X.K ta):=by
 intro pins s σ H R I h;refine Call_ (hZ I hg hm boot_enumerate (PyProof.Rows.callWith_type1 (thn (ha pos pins s σ H _ I h) λus s1 ⟨vs,H1,I1,r1,q1⟩=>?_) hs rfl));obtain ⟨l,e,⟨xs,hl⟩,q⟩:=q1;subst e;obtain ⟨u,rfl,ru⟩:=r1.one;cases ru;obtain ⟨z,its,n,rv,hlen,e⟩:=I1.lO hl;refine call_enumerate_1 e λh' he hit eD kk=>?_;refine wpAny_pyIter_enum he ?_;have fg:s1.heap.objs.size+1≠s1.heap.objs.size:=Nat.succ_ne_self _;refine ⟨s1.heap.objs.size+1,[s1.heap.objs.size+1,s1.heap.objs.size],_,_,H1,rfl,I1.kept (t':=s1.toks) kk,C8 l _ _ fg,⟨⟨_,he⟩,hit⟩,λb hb=>?_,q⟩
 have z5:s1.heap.objs.size≤b:=by
  rcases ck.mp hb with z|z
  ·rw [z];exact jq _
  ·have z':b=s1.heap.objs.size:=by simpa using z
   rw [z'];exact aU _
 exact I1.G9 z5 (I1.hok.fresh z5)
end
end L2
namespace Wb
abbrev W:=List (List Nat)
def row(w:W)(p:Nat):List Nat:=w.getD p []
inductive Reach (w:W):Nat→Nat→Prop
 |refl (p):Reach w p p
 |step {p q r}:Reach w p q→r∈row w q→Reach w p r
structure Good (w:W):Prop where
 rng:∀p q,q∈row w p→q<w.length
 irr:∀p,p∉row w p
 nod:∀p,(row w p).Nodup
 sym:∀p q,q∈row w p→p∈row w q
 con:∀p,p<w.length→Reach w 0 p
theorem fV{w:W}{p q:Nat}(h:q∈row w p):p<w.length:=by
 apply Classical.byContradiction;intro hn;unfold row at h;rw [dJ,fG (by omega)] at h
 simp at h
theorem AR{w:W}{p:Nat}(h:p<w.length):w[p]? =some (row w p):=by
 unfold row;rw [dJ,cC h];rfl
theorem Lp{w:W}{p:Nat}{r:List Nat}(h:w[p]? =some r):row w p=r:=by
 unfold row;rw [dJ,h];rfl
theorem Je{w:W}{p:Nat}(h:w.length≤p):row w p= []:=by
 unfold row;rw [dJ,fG h];rfl
theorem Reach.trans{w:W}{p q r:Nat}(h:Reach w p q)(h':Reach w q r):Reach w p r:=by
 induction h' with
 |refl=>exact h
 |step _ hr ih=>exact .step ih hr
theorem Reach.symm{w:W}(hs:∀p q,q∈row w p→p∈row w q){p q:Nat}(h:Reach w p q):Reach w q p:=by
 induction h with
 |refl=>exact .refl _
 |step _ hr ih=>exact (Reach.step (.refl _) (hs _ _ hr)).trans ih
theorem Reach.mono{w w':W}(hm:∀p q,q∈row w p→q∈row w' p){p q:Nat}(h:Reach w p q):Reach w' p q:=by
 induction h with
 |refl=>exact .refl _
 |step _ hr ih=>exact .step ih (hm _ _ hr)
def ins{α:Type}(xs:List α)(i:Nat)(x:α):List α:=xs.take i++x::xs.drop i
theorem il{α:Type}(xs:List α)(i:Nat)(x:α):(ins xs i x).Perm (x::xs):=by
 unfold ins;have h:= @List.perm_middle _ x (xs.take i) (xs.drop i);rw [jl] at h;exact h
theorem b7{α:Type}{xs:List α}{i:Nat}{x a:α}:a∈ins xs i x↔a=x∨a∈xs:=by
 rw [(il xs i x).mem_iff,ck]
theorem oE{α:Type}{xs:List α}{i:Nat}{x:α}(h:xs.Nodup)(hx:x∉xs):(ins xs i x).Nodup:=by
 rw [(il xs i x).nodup_iff,kR];exact ⟨hx,h⟩
theorem uq{α:Type}(xs:List α)(i:Nat)(x:α):(ins xs i x).length=xs.length+1:=by
 rw [(il xs i x).length_eq];rfl
theorem ins_map{α β:Type}(f:α→β)(xs:List α)(i:Nat)(x:α):(ins xs i x).map f=ins (xs.map f) i (f x):=by
 unfold ins;simp [si,vK]
theorem gK{w:W}{p x:Nat}{r:List Nat}(h:p<w.length):row (w.set p r) x=if p=x then r else row w x:=by
 unfold row;rw [dJ,nX]
 by_cases e:p=x
 ·rw [if_pos e,if_pos e,if_pos h];rfl
 ·rw [if_neg e,if_neg e,dJ]
theorem xC{w:W}{r:List Nat}{x:Nat}:row (w++ [r]) x=if x=w.length then r else row w x:=by
 unfold row;rw [dJ,List.getElem?_append]
 split
 ·rw [if_neg (by omega),dJ]
 ·split
  ·rename_i h e;subst e;simp
  ·rename_i h e
   rw [dJ,fG (by simp;omega),fG (by omega)]
theorem EZ:Good [[]]:=by
 have hr:∀p,row [[]] p= []:=λp=>by
  unfold row;cases p with
  |zero=>rfl
  |succ n=>simp
 refine ⟨λp q h=>?_,λp h=>?_,λp=>?_,λp q h=>?_,λp h=>?_⟩
 ·rw [hr] at h;cases h
 ·rw [hr] at h;cases h
 ·rw [hr];exact jW
 ·rw [hr] at h;cases h
 ·have:p=0:=by simp at h;exact h
  subst this;exact .refl _
def leaf(w:W)(p i:Nat):W:=(w.set p (ins (row w p) i w.length))++ [[p]]
theorem qG(w:W)(p i:Nat):(leaf w p i).length=w.length+1:=by unfold leaf;simp
theorem FY{w:W}{p i x:Nat}(h:p<w.length):row (leaf w p i) x=if x=w.length then [p] else if p=x then ins (row w p) i w.length else row w x:=by
 unfold leaf;rw [xC,gb,gK h]
theorem BK{w:W}{p i:Nat}(g:Good w)(h:p<w.length):Good (leaf w p i):=by
 have hr:=λx=>FY (i:=i) (x:=x) h;have nl:∀x,w.length∉row w x:=λx hx=>kS _ (g.rng _ _ hx)
 have mono:∀x q,q∈row w x→q∈row (leaf w p i) x:=λx q hq=>by
  have:=fV hq
  rw [hr,if_neg (by omega)]
  split
  ·rename_i e;subst e;exact b7.mpr (.inr hq)
  ·exact hq
 refine ⟨λx q hx=>?_,λx hx=>?_,λx=>?_,λx q hx=>?_,λx hx=>?_⟩
 ·rw [hr] at hx;rw [qG]
  split at hx
  ·simp at hx;omega
  ·split at hx
   ·rcases b7.mp hx with e|e
    ·omega
    ·have:=g.rng _ _ e;omega
   ·have:=g.rng _ _ hx;omega
 ·rw [hr] at hx
  split at hx
  ·simp at hx;omega
  ·split at hx
   ·rcases b7.mp hx with e|e
    ·omega
    ·rename_i e2;subst e2;exact g.irr _ e
   ·exact g.irr _ hx
 ·rw [hr];split
  ·simp
  ·split
   ·exact oE (g.nod _) (nl _)
   ·exact g.nod _
 ·rw [hr] at hx
  split at hx
  ·have e:q=p:=by simpa using hx
   subst e
   rename_i e
   rw [hr,if_neg (by omega),if_pos rfl,e]
   exact b7.mpr (.inl rfl)
  ·split at hx
   ·rename_i e;subst e
    rcases b7.mp hx with e|e
    ·rw [hr,if_pos e];simp
    ·exact mono _ _ (g.sym _ _ e)
   ·exact mono _ _ (g.sym _ _ hx)
 ·rw [qG] at hx
  by_cases e:x=w.length
  ·refine Reach.step ((g.con p h).mono mono) ?_
   rw [hr,if_neg (by omega),if_pos rfl,e]
   exact b7.mpr (.inl rfl)
  ·exact (g.con x (by omega)).mono mono
def ze(w:W)(p i u j:Nat):W:=(w.set p (ins (row w p) i u)).set u (ins (row w u) j p)
theorem vf(w:W)(p i u j:Nat):(ze w p i u j).length=w.length:=by unfold ze;simp
theorem Jf{w:W}{p i u j x:Nat}(hp:p<w.length)(hu:u<w.length):row (ze w p i u j) x=if u=x then ins (row w u) j p else if p=x then ins (row w p) i u else row w x:=by
 unfold ze;rw [gK (by simpa using hu),gK hp]
theorem E2{w:W}{p i u j:Nat}(g:Good w)(hp:p<w.length)(hu:u<w.length)(ne:u≠p)(nt:u∉row w p):Good (ze w p i u j):=by
 have hr:=λx=>Jf (i:=i) (j:=j) (x:=x) hp hu;have nt':p∉row w u:=λh=>nt (g.sym _ _ h)
 have mono:∀x q,q∈row w x→q∈row (ze w p i u j) x:=λx q hq=>by
  rw [hr]
  split
  ·rename_i e;subst e;exact b7.mpr (.inr hq)
  ·split
   ·rename_i e;subst e;exact b7.mpr (.inr hq)
   ·exact hq
 refine ⟨λx q hx=>?_,λx hx=>?_,λx=>?_,λx q hx=>?_,λx hx=>?_⟩
 ·rw [hr] at hx;rw [vf]
  split at hx
  ·rcases b7.mp hx with e|e
   ·omega
   ·exact g.rng _ _ e
  ·split at hx
   ·rcases b7.mp hx with e|e
    ·omega
    ·exact g.rng _ _ e
   ·exact g.rng _ _ hx
 ·rw [hr] at hx
  split at hx
  ·rename_i e2;subst e2
   rcases b7.mp hx with e|e
   ·exact ne e
   ·exact g.irr _ e
  ·split at hx
   ·rename_i e2;subst e2
    rcases b7.mp hx with e|e
    ·exact ne e.symm
    ·exact g.irr _ e
   ·exact g.irr _ hx
 ·rw [hr];split
  ·exact oE (g.nod _) nt'
  ·split
   ·exact oE (g.nod _) nt
   ·exact g.nod _
 ·rw [hr] at hx
  split at hx
  ·rename_i e2;subst e2
   rcases b7.mp hx with e|e
   ·subst e;rw [hr,if_neg ne,if_pos rfl];exact b7.mpr (.inl rfl)
   ·exact mono _ _ (g.sym _ _ e)
  ·split at hx
   ·rename_i e2;subst e2
    rcases b7.mp hx with e|e
    ·subst e;rw [hr,if_pos rfl];exact b7.mpr (.inl rfl)
    ·exact mono _ _ (g.sym _ _ e)
   ·exact mono _ _ (g.sym _ _ hx)
 ·rw [vf] at hx;exact (g.con x hx).mono mono
theorem E1{w w':W}{ord:Nat→Nat}(g:Good w)(hl:w'.length=w.length)(into:∀p,p<w.length→ord p<w.length)
  (inj:∀p q,p<w.length→q<w.length→ord p=ord q→p=q) (sur:∀y,y<w.length→∃p,p<w.length∧ord p=y)
  (gI:∀p,p<w.length→(row w' (ord p)).Perm ((row w p).map ord)):Good w':=by
 have mem:∀p q,p<w.length→(q∈row w' (ord p)↔∃a,a∈row w p∧ord a=q):=λp q hp=>by
  rw [(gI p hp).mem_iff,bN]
 have reach:∀{p q},Reach w p q→Reach w' (ord p) (ord q):=λ {p q} h=>by
  induction h with
  |refl=>exact .refl _
  |step _ hr ih=>exact .step ih ((mem _ _ (fV hr)).mpr ⟨_,hr,rfl⟩)
 refine ⟨λy q hy=>?_,λy hy=>?_,λy=>?_,λy q hy=>?_,λy hy=>?_⟩
 ·obtain ⟨p,hp,rfl⟩:=sur y (by have:=fV hy;omega)
  obtain ⟨a,ha,rfl⟩:=(mem p q hp).mp hy;rw [hl];exact into a (g.rng _ _ ha)
 ·obtain ⟨p,hp,rfl⟩:=sur y (by have:=fV hy;omega)
  obtain ⟨a,ha,e⟩:=(mem p _ hp).mp hy
  have:=inj a p (g.rng _ _ ha) hp e
  subst this;exact g.irr _ ha
 ·by_cases hy:y<w.length
  ·obtain ⟨p,hp,rfl⟩:=sur y hy
   rw [(gI p hp).nodup_iff];unfold List.Nodup;rw [jm];refine List.Pairwise.imp_of_mem ?_ (g.nod p);intro a b ha hb ne e;exact ne (inj a b (g.rng _ _ ha) (g.rng _ _ hb) e)
  ·rw [Je (by omega)];exact jW
 ·obtain ⟨p,hp,rfl⟩:=sur y (by have:=fV hy;omega)
  obtain ⟨a,ha,rfl⟩:=(mem p q hp).mp hy;exact (mem a _ (g.rng _ _ ha)).mpr ⟨p,g.sym _ _ ha,rfl⟩
 ·rw [hl] at hy
  obtain ⟨p,hp,rfl⟩:=sur y hy;obtain ⟨z,hz,e0⟩:=sur 0 (by omega)
  have h1:=reach (((g.con z hz).symm g.sym).trans (g.con p hp));rw [e0] at h1;exact h1
def bq(l:List Nat)(x:Nat):Nat:=l.getD ((l.idxOf x+1)%l.length) 0
def jN(w:W)(d:Nat×Nat):Nat×Nat:=(d.2,bq (row w d.2) d.1)
def aH(w:W)(d:Nat×Nat):Prop:=d.2∈row w d.1
theorem iQ{l:List Nat}{x:Nat}(h:x∈l):l[(l.idxOf x+1)%l.length]? =some (bq l x):=by
 have hp:0<l.length:=vF h;unfold bq;rw [dJ,cC (Nat.mod_lt _ hp)];rfl
theorem C0{l:List Nat}{x:Nat}(h:x∈l):bq l x∈l:=cS (iQ h)
theorem Ih{a b n:Nat}(ha:a<n)(hb:b<n)(e:(a+1)%n=(b+1)%n):a=b:=by
 by_cases h1:a+1=n
 ·by_cases h2:b+1=n
  ·omega
  ·rw [h1,Nat.mod_self,sh (by omega)] at e;omega
 ·by_cases h2:b+1=n
  ·rw [h2,Nat.mod_self,sh (by omega)] at e;omega
  ·rw [sh (by omega),sh (by omega)] at e;omega
theorem CY{l:List Nat}{x y:Nat}(nd:l.Nodup)(hx:x∈l)(hy:y∈l)(e:bq l x=bq l y):x=y:=by
 have hp:0<l.length:=vF hx;have h1:=iQ hx;have h2:=iQ hy;rw [e] at h1;have lx:=rZ.mpr hx;have ly:=rZ.mpr hy;obtain ⟨a1,b1⟩:=b9.mp h1;obtain ⟨a2,b2⟩:=b9.mp h2;have q:=(List.getElem_inj nd).mp (b1.trans b2.symm);have q2:=Ih lx ly q;have e1:=xS lx;have e2:=xS ly;rw [←e1,←e2];simp only [q2]
theorem FE{w:W}{d:Nat×Nat}(g:Good w)(h:aH w d):aH w (jN w d):=C0 (g.sym _ _ h)
theorem Iq{w:W}{d e:Nat×Nat}(g:Good w)(h:aH w d)(h':aH w e)(q:jN w d=jN w e):d=e:=by
 have e2:d.2=e.2:=congrArg Prod.fst q;have e1:bq (row w d.2) d.1=bq (row w e.2) e.1:=congrArg Prod.snd q;rw [←e2] at e1;have h1:d.1∈row w d.2:=g.sym _ _ h;have h2:e.1∈row w d.2:=by rw [e2];exact g.sym _ _ h'
 exact Prod.ext (CY (g.nod _) h1 h2 e1) e2
def aG(w:W):List (Nat×Nat):=(List.range w.length).flatMap λp=>(row w p).map λq=>(p,q)
theorem aX{w:W}{d:Nat×Nat}:d∈aG w↔aH w d:=by
 unfold aG aH;rw [List.mem_flatMap]
 constructor
 ·rintro ⟨p,_,h⟩
  obtain ⟨q,hq,rfl⟩:=bN.mp h;exact hq
 ·intro h
  exact ⟨d.1,gd.mpr (fV h),bN.mpr ⟨d.2,h,rfl⟩⟩
theorem aS{α:Type} [DecidableEq α]:∀{l m:List α},l.Nodup→(∀x∈l,x∈m)→l.length≤m.length
 | [],_,_,_=>cM _
 |a::r,m,nd,h=>by
  have kh:=kR.mp nd;have am:=h a bY;have ih:=aS (l:=r) (m:=m.erase a) kh.2 λx hx=>(List.mem_erase_of_ne (λ(e:x=a)=>kh.1 (by rw [←e];exact hx))).mpr (h x (cu _ hx))
  rw [List.length_erase_of_mem am] at ih
  have:=vF am
  simp only [cL];omega
theorem fm{w:W}(g:Good w)(p:Nat):(row w p).length≤w.length:=by
 have:=aS (m:=List.range w.length) (g.nod p) λx hx=>gd.mpr (g.rng _ _ hx)
 simpa using this
theorem wN{α β:Type}{f:α→List β}{k:Nat}:∀{l:List α},(∀x∈l,(f x).length≤k)→(l.flatMap f).length≤l.length*k
 | [],_=>by simp
 |a::r,h=>by
  have ih:=wN (f:=f) (k:=k) (l:=r) λx hx=>h x (cu _ hx)
  have:=h a bY
  rw [xV,bV,cL,Nat.succ_mul];omega
theorem iD{w:W}(g:Good w):(aG w).length≤w.length*w.length:=by
 have:=wN (f:=λp=>(row w p).map λq=>(p,q)) (k:=w.length) (l:=List.range w.length) λx _=>by rw [aJ];exact fm g x
 rw [mJ] at this;exact this
def aV(w:W):Nat→Nat×Nat→Nat×Nat
 |0,d=>d
 |n+1,d=>jN w (aV w n d)
theorem bK{w:W}{d:Nat×Nat}(g:Good w)(h:aH w d):∀n,aH w (aV w n d)
 |0=>h
 |n+1=>FE g (bK g h n)
theorem eM{w:W}{d:Nat×Nat}(m:Nat):∀n,aV w (n+m) d=aV w n (aV w m d)
 |0=>by rw [vL];rfl
 |n+1=>by rw [Nat.succ_add];show jN w (aV w (n+m) d)=jN w (aV w n (aV w m d));rw [eM m n]
theorem pF{w:W}{d e:Nat×Nat}(g:Good w)(h:aH w d)(h':aH w e):∀n,aV w n d=aV w n e→d=e
 |0,q=>q
 |n+1,q=>pF g h h' n (Iq g (bK g h n) (bK g h' n) q)
def walk(w:W)(d:Nat×Nat)(k:Nat):List (Nat×Nat):=(List.range k).map λi=>aV w i d
theorem vk(w:W)(d:Nat×Nat)(k:Nat):walk w d (k+1)=walk w d k++ [aV w k d]:=by
 unfold walk;rw [List.range_succ,dB];rfl
theorem dY(w:W)(d:Nat×Nat)(k:Nat):(walk w d k).length=k:=by unfold walk;simp
theorem oR{w:W}{d:Nat×Nat}(g:Good w)(h:aH w d){k:Nat}:∀e∈walk w d k,aH w e:=λe he=>by
 obtain ⟨i,_,rfl⟩:=bN.mp he;exact bK g h i
theorem rW{w:W}{d:Nat×Nat}(g:Good w)(h:aH w d){k:Nat}(hk:∀j,0<j→j<k→aV w j d≠d):(walk w d k).Nodup:=by
 unfold walk List.Nodup;rw [jm];refine List.Pairwise.imp_of_mem ?_ List.pairwise_lt_range;intro i j hi hj lt e;have vX:=gd.mp hj;have e2:aV w i d=aV w i (aV w (j-i) d):=by rw [←eM (j-i) i,show i+(j-i)=j by omega];exact e
 exact hk (j-i) (by omega) (by omega) (pF g h (bK g h _) i e2).symm
theorem vi{w:W}{d:Nat×Nat}(g:Good w)(h:aH w d){k:Nat}(hk:∀j,0<j→j<k→aV w j d≠d):k≤(aG w).length:=by
 have:=aS (m:=aG w) (rW g h hk) λe he=>aX.mpr (oR g h e he)
 rwa [dY] at this
theorem zK{w:W}(g:Good w){S:Nat→Prop}(h0:S 0)(hc:∀p q,S p→q∈row w p→S q):∀p,p<w.length→S p:=λp hp=>by
 have:∀{a b},Reach w a b→S a→S b:=λ {a b} h ha=>by
  induction h with
  |refl=>exact ha
  |step _ hr ih=>exact hc _ _ ih hr
 exact this (g.con p hp) h0
def lexLe(a b:Nat×Nat):Prop:=a.1<b.1∨(a.1=b.1∧a.2≤b.2)
theorem mV{a b:Nat×Nat}(h:lexLe a b)(h':lexLe b a):a=b:=by
 unfold lexLe at h h';exact Prod.ext (by omega) (by omega)
def ic(rows:Nat→List Nat)(n:Nat):List (Nat×Nat):=(List.range n).flatMap λp=>((rows p).filter λq=>decide (p<q)).map λq=>(p,q)
theorem lV{α β:Type}{R:β→β→Prop}{f:α→List β}:∀{l:List α},(∀x∈l,(f x).Pairwise R)→l.Pairwise (λa b=>∀x∈f a,∀y∈f b,R x y)→(l.flatMap f).Pairwise R
 | [],_,_=>List.Pairwise.nil
 |a::r,h,p=>by
  have p':=List.pairwise_cons.mp p;rw [xV,zo];refine ⟨h a bY,lV (λx hx=>h x (cu _ hx)) p'.2,λx hx y hy=>?_⟩;obtain ⟨b,hb,Fo⟩:=List.mem_flatMap.mp hy;exact p'.1 b hb x hx y Fo
end Wb
namespace L2
open PySem PySem.Spec PyProof.Rows
section
variable {X:Cx}
theorem Vals.ins{x:V}{u:Value}(r:RelV x u){xs:List V}{us:List Value}(i:Nat)(h:Vals xs us):Vals (Wb.ins xs i x) (Wb.ins us i u):=(h.take i).append (.cons r (h.drop i))
def IZ:V→List V→Hp→VK→Prop:=λx vs H Q=>∃l xs i y,x= .ref l∧vs= [.int i,y]∧H l=some (.lst xs)∧0≤i∧i≤xs.length∧xs.length<sizeLine∧Q .aM (upd H l (.lst (Wb.ins xs i.toNat y)))
theorem iJ:EC X "list.insert" IZ:=by
 intro pins s σ H x vs v us Q I rx rv h;obtain ⟨l,xs,i,y,rfl,rfl,hH,h0,h1,hz,q⟩:=h;cases rx;obtain ⟨u1,u2,rfl,⟨t,rfl⟩,ru⟩:=rv.two;obtain ⟨z,its,n,r,hl,e⟩:=I.lO hH;have br:=jd
 have Sm:¬(!Builtin.List.listFitsIndex i)=true:=by
  rw [fitsIndex_both (by omega) (by omega)]
  exact cK
 refine call_meets F.slot_list_insert ⟨_,e,rfl⟩ F.entry_list_insert (F.args_list_insert_3 _ _ _) (AutoSeq1.list_insert_list_int_val_1 l its.toArray n i t u2 Sm (by rw [dU];omega)) ⟨e,?_⟩
 refine ⟨.aM,_,I.Ax (its':=Wb.ins its i.toNat u2) hH e ?_ (r.ins ru i.toNat) ?_,rfl,q⟩
 ·have hi:¬i<0:=by omega
  have hm:min i.toNat its.length=i.toNat:=by omega
  simp only [hi,if_false,dU,hm];apply Array.toList_inj.mp;unfold Wb.ins;simp;exact nV (by rw [qk];omega)
 ·rw [Wb.uq];omega
def Lj(K:PySem.W.Frag):V→List V→Hp→VK→Prop:=λx vs H Q=>∃(l:Addr)(xs:List V)(y:V)(j:Nat)(z:V),x= .ref l∧vs= [y]∧H l=some (.lst xs)∧fM y=true∧xs.all fM=true∧xs[j]? =some z∧n6 z y=true∧
 (∀(m:Nat) z,m<j→xs[m]? =some z→n6 z y=false)∧Q (.int j) H
theorem mY:EC X "list.index" (Lj X.K):=by
 intro pins s σ H x vs v us Q I rx rv h;obtain ⟨l,xs,y,j,z,rfl,rfl,hH,fy,fs,hz,ez,vZ,q⟩:=h;cases rx;obtain ⟨u,rfl,ru⟩:=rv.one;obtain ⟨eD,its,n,r,hl,e⟩:=I.lO hH;obtain ⟨w,hw,uU⟩:=r.get hz
 have hj:j<its.toArray.size:=by
  obtain ⟨h1,_⟩:=b9.mp hw;simpa using h1
 have flat:∀(m:Nat) z,xs[m]? =some z→fM z=true:=λm z h=>(List.all_eq_true.mp fs) z (cS h)
 have Zl:its.toArray[j]=w:=by
  obtain ⟨h1,h2⟩:=b9.mp hw;simpa using h2
 have br:=jd
 have vX:j<xs.length:=by
  obtain ⟨h1,_⟩:=b9.mp hz;exact h1
 refine call_meets F.slot_list_index ⟨_,e,rfl⟩ F.entry_list_index (F.args_list_index_2 _ _) (SeqAt.list_indexAt l its.toArray n none #[] u (nu y) j hj (by omega) ?_ ?_) ⟨e,λw hw=>iq ru fy r fs w (by simpa using hw),?_⟩
 ·rw [Zl,sU uU (flat j z hz)];exact ez
 ·intro m hm Ae
  have Fl:m<its.length:=by simpa using hm
  obtain ⟨zm,OY⟩:∃zm,xs[m]? =some zm:=⟨_,cC (by omega)⟩
  obtain ⟨wm,Zm,rwm⟩:=r.get OY
  have XZ:its.toArray[m]=wm:=by
   obtain ⟨h1,h2⟩:=b9.mp Zm;simpa using h2
  rw [XZ,sU rwm (flat m zm OY)];exact vZ m zm Ae OY
 ·exact ⟨.int j,H,I.tok _,⟨_,rfl⟩,q⟩
end
mutual
inductive Dp (K:PySem.W.Frag) (H:Hp):V→PyData→Prop
 |aM:Dp K H .aM .none
 |bl (b:Bool):Dp K H (.bl b) (.bool b)
 |int (i:Int):Dp K H (.int i) (.int i)
 |str (x:Str) (h:PyData.strOk x=true):Dp K H (.str x) (.str x)
 |lst {a:Addr} {xs:List V} {ds:List PyData}:aC K H a xs→cw K H xs ds→Dp K H (.ref a) (.list ds)
 |tup {a:Addr} {xs:List V} {ds:List PyData}:dr K H a xs→cw K H xs ds→Dp K H (.ref a) (.tuple ds)
inductive cw (K:PySem.W.Frag) (H:Hp):List V→List PyData→Prop
 |nil:cw K H [] []
 |cons {v:V} {vs:List V} {d:PyData} {ds:List PyData}:Dp K H v d→cw K H vs ds→cw K H (v::vs) (d::ds)
end
section
variable {X:Cx} {pins:List (Addr×Obj)} {σ:St} {H:Hp} {s:Shared}
mutual
theorem Dp.reads(I:Inv X pins σ H s):∀{v:V}{d:PyData}{u:Value},Dp X.K H v d→RelV v u→(∃as,Reads s.heap u d as)∧d.canLay0=true
 |_,_,_, .aM,r=>by cases r;exact ⟨⟨_, .none⟩,rfl⟩
 |_,_,_, .bl b,r=>by cases r;exact ⟨⟨_, .bool b⟩,rfl⟩
 |_,_,_, .int i,r=>by obtain ⟨t,rfl⟩:=r;exact ⟨⟨_, .int i t⟩,rfl⟩
 |_,_,_, .str x h,r=>by obtain ⟨t,rfl⟩:=r;exact ⟨⟨_, .str x t⟩,by simpa [PyData.canLay0] using h⟩
 |_,_,_, .lst h a,r=>by
  cases r;obtain ⟨its,rv,pl,hz⟩:=I.list h;obtain ⟨⟨as,ra⟩,c⟩:=cw.reads I a rv;obtain ⟨o,ho,hc,n,hd⟩:=pl.isList;exact ⟨⟨_, .list ho hc hd (by simpa using ra)⟩,by simpa [PyData.canLay0] using c⟩
 |_,_,_, .tup h a,r=>by
  cases r;obtain ⟨its,rv,pl,hz⟩:=I.tuple h;obtain ⟨⟨as,ra⟩,c⟩:=cw.reads I a rv;obtain ⟨o,ho,hc,n,hd⟩:=pl;exact ⟨⟨_, .tuple ho hc hd (by simpa using ra)⟩,by simpa [PyData.canLay0] using c⟩
theorem cw.reads(I:Inv X pins σ H s):∀{vs:List V}{ds:List PyData}{us:List Value},cw X.K H vs ds→Vals vs us→(∃as,ReadsAll s.heap us ds as)∧PyData.canLayAll0 ds=true
 |_,_,_, .nil, .nil=>⟨⟨_, .nil⟩,by simp [PyData.canLayAll0]⟩
 |_,_,_, .cons a as, .cons r rs=>by
  obtain ⟨⟨x,h1⟩,c1⟩:=Dp.reads I a r;obtain ⟨⟨y,h2⟩,c2⟩:=cw.reads I as rs;exact ⟨⟨_, .cons h1 h2⟩,by simp [PyData.canLayAll0,c1,c2]⟩
end
end
section
variable {X:Cx}
def Vo(K:PySem.W.Frag):R2:=λx y H Q=>∃d e,Dp K H x d∧Dp K H y e∧d.depth≤64∧Q (.bl (PyData.eqv d e)) H
def Vp(K:PySem.W.Frag):R2:=λx y H Q=>∃d e,Dp K H x d∧Dp K H y e∧d.depth≤64∧Q (.bl (!PyData.eqv d e)) H
theorem KY(hu:X.A.units+64<cLine):OpR X (compareOp .Eq) (Vo X.K):=by
 intro pins s σ H x y v u Q I rx ry h;obtain ⟨d,e,hd,he,hz,q⟩:=h;obtain ⟨⟨as,r1⟩,c1⟩:=hd.reads I rx;obtain ⟨⟨bs,r2⟩,c2⟩:=he.reads I ry;exact SeqAt.compareEq_reads r1 r2 c1 c2 (by have:=Nat.min_le_left d.depth e.depth;omega) ⟨.bl _,H,I,rfl,q⟩
theorem yY(hu:X.A.units+64<cLine):OpR X (compareOp .NotEq) (Vp X.K):=by
 intro pins s σ H x y v u Q I rx ry h;obtain ⟨d,e,hd,he,hz,q⟩:=h;obtain ⟨⟨as,r1⟩,c1⟩:=hd.reads I rx;obtain ⟨⟨bs,r2⟩,c2⟩:=he.reads I ry;exact SeqAt.compareNe_reads r1 r2 c1 c2 (by have:=Nat.min_le_left d.depth e.depth;omega) ⟨.bl _,H,I,rfl,q⟩
end
def nD(n:Nat):PyData:= .int n
def nM(r:List Nat):PyData:= .list (r.map nD)
def kM(d:Nat×Nat):PyData:= .tuple [.int d.1, .int d.2]
theorem lC{α:Type}{f:α→PyData}(hf:∀a b,PyData.eqv (f a) (f b)=true↔a=b):∀xs ys:List α,PyData.eqvAll (xs.map f) (ys.map f)=true↔xs=ys
 | [],[]=>by simp [PyData.eqvAll]
 | [],_::_=>by simp [PyData.eqvAll]
 |_::_,[]=>by simp [PyData.eqvAll]
 |a::xs,b::ys=>by
  have ih:=lC hf xs ys;simp [PyData.eqvAll,hf,ih]
theorem J6(a b:Nat):PyData.eqv (nD a) (nD b)=true↔a=b:=by
 simp [nD,PyData.eqv];omega
theorem EU(a b:List Nat):PyData.eqv (nM a) (nM b)=true↔a=b:=by
 unfold nM;rw [PyData.eqv];exact lC J6 a b
theorem wK(a b:Nat×Nat):PyData.eqv (kM a) (kM b)=true↔a=b:=by
 unfold kM;obtain ⟨a1,a2⟩:=a;obtain ⟨b1,b2⟩:=b;simp [PyData.eqv,PyData.eqvAll];omega
theorem gF{α:Type}{f:α→PyData}{k:Nat}(hf:∀a,(f a).depth≤k):∀xs:List α,PyData.depthAll (xs.map f)≤k
 | []=>by simp [PyData.depthAll]
 |a::xs=>by
  have:=hf a
  have ih:=gF hf xs;simp [PyData.depthAll];omega
theorem zQ(a:List Nat):(nM a).depth≤2:=by
 unfold nM;rw [PyData.depth]
 have:=gF (f:=nD) (k:=1) (λn=>by simp [nD,PyData.depth]) a
 omega
theorem rz(a:Nat×Nat):(kM a).depth≤2:=by simp [kM,PyData.depth,PyData.depthAll]
def qd(w:List (List Nat)):PyData:= .list (w.map nM)
theorem wL(a b:List (List Nat)):PyData.eqv (qd a) (qd b)=true↔a=b:=by
 unfold qd;rw [PyData.eqv];exact lC EU a b
theorem zR(a:List (List Nat)):(qd a).depth≤3:=by
 unfold qd;rw [PyData.depth]
 have:=gF (f:=nM) (k:=2) zQ a
 omega
end L2
namespace L2
open PySem PySem.Spec PyProof.Rows
theorem Vals.of_get:∀{xs:List V}{us:List Value},xs.length=us.length→(∀(k:Nat) x u,xs[k]? =some x→us[k]? =some u→RelV x u)→Vals xs us
 | [],[],_,_=> .nil
 | [],_::_,h,_=>by simp at h
 |_::_,[],h,_=>by simp at h
 |x::xs,u::us,h,r=> .cons (r 0 x u rfl rfl) (Vals.of_get (by simpa using h) λk y w h1 h2=>r (k+1) y w (by simpa using h1) (by simpa using h2))
section
variable {X:Cx}
theorem yf:cN X (.builtin "isinstance") (λxs H Q=>∃(x:V)(n:String)(t:Value)(b:Bool),xs= [x, .ty n]∧iW X.K H x t∧PySem.W.kitOne X.K t (.type n)=some b∧Q (.bl b) H):=by
 intro pins s σ H xs us Q I rv h;obtain ⟨x,n,t,b,rfl,ty,e,q⟩:=h;obtain ⟨u1,u2,rfl,r1,r2⟩:=rv.two;cases r2;exact B9 I r1 ty e λtk=>⟨.bl b,H,I.tok _,rfl,q⟩
end
theorem tT(elt t0 i0 t1 i1:Expr)(f0 f1:List Expr)(scope:Scope)(pos:Pos)(it acc:Value)(env:Env):
  compTurn (.ListComp elt [⟨t0,i0,f0,0⟩,⟨t1,i1,f1,0⟩] scope pos) 0 it acc env=(do
   standAt i0.pos
   match ←pyNext it with
   |none=>pure (.done .next)
   |some v=>
    letOwnedTupleGo t0 it v
    assign t0 env v
    let ok ←forIn f0 true λc r=>if r=true then do let ok ←isTrue c env (eval c env);pure (ForInStep.yield ok) else pure (ForInStep.yield r)
    if ok=true then
     let x ←eval i1 env
     standAt i1.pos
     let x ←foldedSetIterable i1 env x
     let HN ←holding [x] (pyIter x)
     let _ ←runOwn (.compStart (.ListComp elt [⟨t0,i0,f0,0⟩,⟨t1,i1,f1,0⟩] scope pos) 1 HN acc env) env
     again (.compLoop (.ListComp elt [⟨t0,i0,f0,0⟩,⟨t1,i1,f1,0⟩] scope pos) 0 it acc env)
    else again (.compLoop (.ListComp elt [⟨t0,i0,f0,0⟩,⟨t1,i1,f1,0⟩] scope pos) 0 it acc env)):=by rfl
theorem tU(elt t0 i0 t1 i1:Expr)(f0 f1:List Expr)(scope:Scope)(pos:Pos)(it acc:Value)(env:Env):
  compTurn (.ListComp elt [⟨t0,i0,f0,0⟩,⟨t1,i1,f1,0⟩] scope pos) 1 it acc env=(do
   standAt i1.pos
   match ←pyNext it with
   |none=>pure (.done .next)
   |some v=>
    letOwnedTupleGo t1 it v
    assign t1 env v
    let ok ←forIn f1 true λc r=>if r=true then do let ok ←isTrue c env (eval c env);pure (ForInStep.yield ok) else pure (ForInStep.yield r)
    if ok=true then
     (do let _ ←call (.builtin "list.append") [acc,←eval elt env])
     again (.compLoop (.ListComp elt [⟨t0,i0,f0,0⟩,⟨t1,i1,f1,0⟩] scope pos) 1 it acc env)
    else again (.compLoop (.ListComp elt [⟨t0,i0,f0,0⟩,⟨t1,i1,f1,0⟩] scope pos) 1 it acc env)):=by rfl
section
variable {X XC:Cx} {elt i0 t0 i1 t1:Expr} {f0 f1:List Expr} {scope:Scope} {pos:Pos} {wi fZ:TI} {g g1:TG} {tt dj:TT} {te:TE} {src:List (Option Nat)} {NC:List Str}
theorem sA{it acc:Value}{env:Env}{R:Result→Shared→Prop}{s:Shared}{A:Around}
  (h0:codeAny (model X.prog X.w) A (.compLoop (.ListComp elt [⟨t0,i0,f0,0⟩,⟨t1,i1,f1,0⟩] scope pos) 1 it acc env) R s)
  (hp:∀(Q:Value→Shared→Prop)(E:Value→Shared→Prop),Q it s→wpAny (model X.prog X.w) A (pyIter it) Q E s):
  codeAny (model X.prog X.w) A (.compStart (.ListComp elt [⟨t0,i0,f0,0⟩,⟨t1,i1,f1,0⟩] scope pos) 1 it acc env) R s:=by
 refine codeAny_of_tree ?_;show wpAny _ _ ((compStart (.ListComp elt [⟨t0,i0,f0,0⟩,⟨t1,i1,f1,0⟩] scope pos) 1 it acc env).onRaise (λx=>do noteFrame x env;standAt theWindowsPlace)) _ _ s
 refine wpAny_notedAt ?_;unfold compStart;show wpAny _ _ (ask>>=_) _ _ s;refine wpAny_bind (wpAny_askSetting (wpAny_ite ?_))
 split
 ·first
   |exact wpAny_bind (wpAny_pure (wpAny_pure ⟨rfl,h0⟩))
   |exact wpAny_pure ⟨rfl,h0⟩
 ·refine wpAny_bind (wpAny_rule ?_)
  show wpAny _ _ (standAt i1.pos>>=_) _ _ s;exact wpAny_bind (wpAny_standAt (wpAny_bind (hp _ _ (wpAny_pure ⟨rfl,h0⟩))))
theorem zL{pins:List (Addr×Obj)}{s:Shared}{σ:St}{H:Hp}{it D:Addr}{fp:List Addr}{tn:Nat→Heap→Prop}{J:It}{R:Result→Shared→Prop}{N:St→Hp→Prop}
  (Kl:XC.xe=λ_ _=>False) (hc:XC.calm=true) (I:Inv XC pins σ H s) (T:Turn XC.prog XC.w XC.K t1 J fp it tn) (st:tn 0 s.heap) (f2:∀b∈fp,fz XC pins H b)
  (hg:PG XC t1 g1) (ht:nY XC f1 dj) (he:PE XC elt te)
  (hW:∃W:Nat→Nat→St→Hp→Prop,(∃m,W 0 m σ H)∧∀i m cD H2,W i m cD H2→(J.stop i H2∧N cD H2)∨
   (J.go i H2∧∃N1:St→Hp→Prop,(∀aw H',N1 aw H'→∃m',m'<m∧W (i+1) m' aw H')∧∀x H3,J.yld i H2 x H3→g1 x cD H3 λcT H4=>dj cT H4 λb H5=>
    if b=true then te cT H5 λv H6=>∃ys,H6 D=some (.lst ys)∧ys.length<sizeLine∧N1 cT (upd H6 D (.lst (ys++ [v]))) else N1 cT H5))
  (hR:∀aw H' s',Inv XC pins aw H' s'→N aw H'→R (.ok .next) s'):
  codeAny (model XC.prog XC.w) XC.A (.compStart (.ListComp elt [⟨t0,i0,f0,0⟩,⟨t1,i1,f1,0⟩] scope pos) 1 (.ref it) (.ref D) XC.env) R s:=by
 obtain ⟨W,⟨m0,w0⟩,turn⟩:=hW
 have iV:∀{α:Type}{t:Sem α}{Q:α→Shared→Prop}{E:Value→Shared→Prop}{s:Shared},wpAny (model XC.prog XC.w) XC.A t Q XC.xe s→wpAny (model XC.prog XC.w) XC.A t Q E s:=λ {α t Q E s} h=>
  wpAny_mono h (λ_ _ q=>q) λ_ _ f=>by rw [Kl] at f;exact f.elim
 have stat:∀{H':Hp},(∀b∈fp,H' b=none)→∀b∈fp,fz XC pins H' b:=λhn b hb=>⟨hn b hb,(f2 b hb).2⟩
 have loop:codeAny (model XC.prog XC.w) XC.A (.compLoop (.ListComp elt [⟨t0,i0,f0,0⟩,⟨t1,i1,f1,0⟩] scope pos) 1 (.ref it) (.ref D) XC.env) R s:=by
  refine codeAny_loop rfl (λn s'=>∃i aw H',Inv XC pins aw H' s'∧tn i s'.heap∧(∀b∈fp,H' b=none)∧W i n aw H') (λn s' hI=>?_) m0 ⟨0,σ,H,I,st,λb hb=>(f2 b hb).1,w0⟩;obtain ⟨i,aw,H',I5,sN,oe,w5⟩:=hI;show wpAny _ XC.A ((compTurn (.ListComp elt [⟨t0,i0,f0,0⟩,⟨t1,i1,f1,0⟩] scope pos) 1 (.ref it) (.ref D) XC.env).onRaise (λx=>do noteFrame x XC.env;theTreesLotGoes x)) _ _ s'
  refine wpAny_noted ?_;rw [tU];refine wpAny_bind (wpAny_standAt (wpAny_bind ?_))
  rcases turn i n aw H' w5 with ⟨stop,qn⟩ | ⟨go,N1,hN,step⟩
  ·refine thn (T.done XC rfl rfl rfl hc i pins s' aw H' _ I5 (stat oe) sN stop) λr s6 ⟨hr,I6⟩=>?_
   subst hr;exact wpAny_pure (hR aw H' s6 I6 qn)
  ·refine thn (T.item XC rfl rfl rfl hc i pins s' aw H' _ I5 (stat oe) sN go) λr s6 ⟨u,hr,h6⟩=>?_
   subst hr;refine wpAny_bind (thn h6 λ_ s7 ⟨x,H7,I7,r7,y7,u9,Hb⟩=>?_);have Gb:=I7.pinned (stat Hb) (T.obj _ _ u9)
   have nextT:∀{fJ:St}{H8:Hp}{s8:Shared},Inv XC (pins++kq fp s7.heap) fJ H8 s8→N1 fJ H8→∃m,m<n∧∃i aw H',Inv XC pins aw H' s8∧tn i s8.heap∧(∀b∈fp,H' b=none)∧W i m aw H':=λ {fJ H8 s8} I8 n8=>by
    obtain ⟨m',hm,w8⟩:=hN fJ H8 n8;refine ⟨m',hm,i+1,fJ,H8,I8.iw,T.keep _ _ _ u9 λb hb o e=>(I8.pin (b,o) (eV _ (eV _ (dA hb e)))).1,λb hb=>?_,w8⟩;obtain ⟨o,e,d⟩:=T.obj _ _ u9 b hb;exact (I8.pin (b,o) (eV _ (eV _ (dA hb e)))).2.1
   refine wpAny_bind (iV (thn (hg _ s7 aw H7 x u _ Gb r7 (step x H7 y7)) λ_ s8 ⟨fJ,H8,I8,q8⟩=>?_));refine wpAny_bind (iV (thn (ht _ s8 fJ H8 _ I8 q8) λb s9 ⟨H9,I9,q9⟩=>?_));cases b with
   |false=>
    rw [if_neg cK] at q9;exact wpAny_pure ⟨rfl,nextT I9 q9⟩
   |true=>
    rw [if_pos rfl] at q9;refine wpAny_bind (wpAny_bind (iV (thn (he _ s9 fJ H9 _ I9 q9) λy y4 ⟨v,x9,Nb,Pz,ys,hD,hz,Px⟩=>?_)));refine wpAny_bind (iV (thn (gw _ y4 fJ x9 (.ref D) [v] _ [y] (λ_ H'=>N1 fJ H') Nb rfl (.cons Pz .nil) ⟨_,ys,v,rfl,rfl,hD,hz,Px⟩) λ_ CO ⟨_,Ez,Ga,_,Py⟩=>?_));exact wpAny_pure (wpAny_pure ⟨rfl,nextT Ga Py⟩)
 exact sA (X:=XC) loop λQ E q=>T.self _ 0 _ _ _ st q
def tIn(g1:TG)(dj:TT)(te:TE)(D:Addr)(J:It)(N:St→Hp→Prop):St→Hp→Prop:=λσ H=>
 ∃W:Nat→Nat→St→Hp→Prop,(∃m,W 0 m σ H)∧∀i m cD H2,W i m cD H2→(J.stop i H2∧N cD H2)∨
  (J.go i H2∧∃N1:St→Hp→Prop,(∀aw H',N1 aw H'→∃m',m'<m∧W (i+1) m' aw H')∧∀x H3,J.yld i H2 x H3→g1 x cD H3 λcT H4=>dj cT H4 λb H5=>
   if b=true then te cT H5 λv H6=>∃ys,H6 D=some (.lst ys)∧ys.length<sizeLine∧N1 cT (upd H6 D (.lst (ys++ [v]))) else N1 cT H5)
def We(g:TG)(tt:TT)(fZ:TI)(g1:TG)(dj:TT)(te:TE)(D:Addr)(J:It)(Q:VK)(σ:St)(H:Hp):Prop:=
 ∃W:Nat→Nat→St→Hp→Prop,(∃m,W 0 m σ H)∧∀i m cD H2,W i m cD H2→
  (J.stop i H2∧Q (.ref D) H2)∨
  (J.go i H2∧∃N:St→Hp→Prop,(∀aw H',N aw H'→∃m',m'<m∧W (i+1) m' aw H')∧∀x H3,J.yld i H2 x H3→g x cD H3 λcT H4=>tt cT H4 λb H5=>
   if b=true then fZ cT H5 λJ1 H6=>tIn g1 dj te D J1 N cT H6 else N cT H5)
def M6(wi:TI)(g:TG)(tt:TT)(fZ:TI)(g1:TG)(dj:TT)(te:TE)(src:List (Option Nat)):TE:=λσ H Q=>wi σ H λJ H1=>∀D,H1 D=none→We g tt fZ g1 dj te D J Q (mz src σ) (upd H1 D (.lst []))
theorem K5(hc:X.calm=true)(c:bb X scope)(fB:cZ scope X.N src NC)(hi:PI X t0 i0 wi)
  (hg:∀ex s H,PG (cV X scope NC ex s H) t0 g) (ht:∀ex s H,nY (cV X scope NC ex s H) f0 tt) (z6:∀ex s H,PI (cV X scope NC ex s H) t1 i1 fZ) (Ox:∀ex s H,PG (cV X scope NC ex s H) t1 g1)
  (OS:∀ex s H,nY (cV X scope NC ex s H) f1 dj) (he:∀ex s H,PE (cV X scope NC ex s H) elt te)
  (hs:∀x,foldedSetIterable i0 X.env x=pure x:=by intro _;rfl) (Fn:∀env x,foldedSetIterable i1 env x=pure x:=by intro _ _;rfl):
  PE X (.ListComp elt [⟨t0,i0,f0,0⟩,⟨t1,i1,f1,0⟩] scope pos) (M6 wi g tt fZ g1 dj te src):=by
 intro pins s σ H Q I h;rw [eval_ListComp];refine wpAny_comprehension_free (use:=none) rfl hs (gh (c.cells I.ok)) c.kind c.names (thn (hi pins s σ H _ I h) λv s1 h1=>thn h1 λv9 s2 h2=>?_);obtain ⟨it,fp,tn,J,H2,rfl,I2,T,kz,f2,hW⟩:=h2;obtain ⟨W,⟨m0,w0⟩,turn⟩:=hW s2.heap.objs.size I2.fresh;have I3:Inv X pins σ (upd H2 s2.heap.objs.size (.lst [])) {s2 with heap:=s2.heap.push {cls:= .type "list",data:= .seq ([]:List Value).toArray}}:=I2.Ib (its:= []) (t':=s2.toks) .nil (cM _)
 have O9:∀b∈fp,b<s2.heap.objs.size:=λb hb=>by
  obtain ⟨o,e,_⟩:=T.obj _ _ kz b hb;exact Heap.lt_size e
 have f3:∀b∈fp,fz X pins (upd H2 s2.heap.objs.size (.lst [])) b:=λb hb=>⟨by rw [ae (bW (O9 b hb))];exact (f2 b hb).1,(f2 b hb).2⟩
 refine wpAny_newObj_type ?_
 suffices key:∀s3:Shared,Inv X pins σ (upd H2 s2.heap.objs.size (.lst [])) s3→(∀b o,s2.heap.get? b=some o→s3.heap.get? b=some o)→
   wpAny (model X.prog X.w) X.A (newFunctionEnv scope X.env.globals (iC X.env scope.names []) [] X.env.qual none .none (some X.env)) (λrk A4=>
    codeAny (model X.prog X.w) X.A (.compStart (.ListComp elt [⟨t0,i0,f0,0⟩,⟨t1,i1,f1,0⟩] scope pos) 0 (.ref it) (.ref s2.heap.objs.size) {rk with scope:=relabel scope X.env}) (compPost (model X.prog X.w) X.A X.xe none (EP X pins σ Q) (.ref s2.heap.objs.size) rk.locals) A4) X.xe s3 from
  key _ I3 λb o e=>Heap.get?_push_of_some _ e
 intro s3 I3 PY;have sM:tn 0 s3.heap:=T.keep _ _ _ kz λb _ o e=>PY b o e
 have Ck:∀b∈fp,b<s3.heap.objs.size:=λb hb=>by
  obtain ⟨o,e,_⟩:=T.obj _ _ sM b hb;exact Heap.lt_size e
 generalize RT:upd H2 s2.heap.objs.size (.lst [])=H3 at I3 f3 w0;refine wpAny_newFunctionEnv c.nocell (by intro y hy;simp at hy) (λh1 yB yF=>?_) c.kind
 have I4:=wB (src:=src) (NC:=NC) (ex:=fp) (tk:=s3.toks+([]:List (Str×Value)).length) I3 c fB f3 Ck yB yF;have Jt:tn 0 h1:=T.keep _ _ _ sM λb hb o e=>yF.extBut b o (bW (Ck b hb)) (Heap.get?_push_of_some _ e);generalize hX:cV X scope NC fp s3 H3=XC at I4
 have stat:∀{H':Hp},(∀b∈fp,H' b=none)→∀b∈fp,fz XC [] H' b:=λ {H'} hn b hb=>by
  subst hX;refine ⟨hn b hb,bW (Ck b hb),λz=>?_, .inl hb,λx d e=>?_,λp hp=>absurd (show p∈([]:List (Addr×Obj)) from hp) (by simp)⟩
  ·exact (I4.ok.exfs b hb) z
  ·exact (I4.ok.exf b hb).2 x d e
 have Ff:XC.calm=true:=by subst hX;exact hc
 have eP:XC.prog=X.prog:=by subst hX;rfl
 have ew:XC.w=X.w:=by subst hX;rfl
 have eK:XC.K=X.K:=by subst hX;rfl
 have eA:XC.A=X.A:=by subst hX;rfl
 have Kl:XC.xe=λ_ _=>False:=by subst hX;rfl
 have Oy:PG XC t0 g:=by subst hX;exact hg _ _ _
 have OT:nY XC f0 tt:=by subst hX;exact ht _ _ _
 have YO:PI XC t1 i1 fZ:=by subst hX;exact z6 _ _ _
 have So:PG XC t1 g1:=by subst hX;exact Ox _ _ _
 have S8:nY XC f1 dj:=by subst hX;exact OS _ _ _
 have Ot:PE XC elt te:=by subst hX;exact he _ _ _
 have iV:∀{α:Type}{t:Sem α}{Q:α→Shared→Prop}{E:Value→Shared→Prop}{s:Shared},wpAny (model XC.prog XC.w) XC.A t Q XC.xe s→wpAny (model X.prog X.w) X.A t Q E s:=λ {α t Q E s} h=>by
  rw [←eP,←ew,←eA];exact wpAny_mono h (λ_ _ q=>q) λ_ _ f=>by rw [Kl] at f;exact f.elim
 have loop:codeAny (model X.prog X.w) X.A (.compLoop (.ListComp elt [⟨t0,i0,f0,0⟩,⟨t1,i1,f1,0⟩] scope pos) 0 (.ref it) (.ref s2.heap.objs.size) XC.env) (compPost (model X.prog X.w) X.A X.xe none (EP X pins σ Q) (.ref s2.heap.objs.size) s3.heap.objs.size)
   {s3 with heap:=h1,toks:=s3.toks+([]:List (Str×Value)).length}:=by
  refine codeAny_loop rfl (λn s'=>∃i aw H',Inv XC [] aw H' s'∧tn i s'.heap∧(∀b∈fp,H' b=none)∧W i n aw H') (λn s' hI=>?_) m0 ⟨0,_,_,I4,Jt,λb hb=>(f3 b hb).1,w0⟩;obtain ⟨i,aw,H',I5,sN,oe,w5⟩:=hI;show wpAny _ X.A ((compTurn (.ListComp elt [⟨t0,i0,f0,0⟩,⟨t1,i1,f1,0⟩] scope pos) 0 (.ref it) (.ref s2.heap.objs.size) XC.env).onRaise (λx=>do noteFrame x XC.env;theTreesLotGoes x)) _ _ s'
  refine wpAny_noted ?_;rw [tT];refine wpAny_bind (wpAny_standAt (wpAny_bind ?_))
  rcases turn i n aw H' w5 with ⟨stop,qn⟩ | ⟨go,N,hN,step⟩
  ·have hd:=T.done XC eP ew eK Ff i [] s' aw H' (notedBy (model X.prog X.w) X.A XC.env λe s'=>compPost (model X.prog X.w) X.A X.xe none (EP X pins σ Q) (.ref s2.heap.objs.size) s3.heap.objs.size (.error e) s') I5 (stat oe) sN stop
   rw [eA] at hd;refine thn hd λr s6 ⟨hr,I6⟩=>?_;subst hr;refine wpAny_pure ?_;subst hX;obtain ⟨m,hn,_⟩:=I6.loc;exact ⟨m,hn,λh' sb=>⟨.ref s2.heap.objs.size,H',comp_back I3 f3 I6 sb,rfl,qn⟩⟩
  ·have hd:=T.item XC eP ew eK Ff i [] s' aw H' (notedBy (model X.prog X.w) X.A XC.env λe s'=>compPost (model X.prog X.w) X.A X.xe none (EP X pins σ Q) (.ref s2.heap.objs.size) s3.heap.objs.size (.error e) s') I5 (stat oe) sN go
   rw [eA] at hd;refine thn hd λr s6 ⟨u,hr,h6⟩=>?_;subst hr;refine wpAny_bind (thn h6 λ_ s7 ⟨x,H7,I7,r7,y7,u9,Hb⟩=>?_);have Gb:=I7.pinned (stat Hb) (T.obj _ _ u9)
   have nextT:∀{fJ:St}{H8:Hp}{s8:Shared},Inv XC ([]++kq fp s7.heap) fJ H8 s8→N fJ H8→∃m,m<n∧∃i aw H',Inv XC [] aw H' s8∧tn i s8.heap∧(∀b∈fp,H' b=none)∧W i m aw H':=λ {fJ H8 s8} I8 n8=>by
    obtain ⟨m',hm,w8⟩:=hN fJ H8 n8;refine ⟨m',hm,i+1,fJ,H8,I8.iw,T.keep _ _ _ u9 λb hb o e=>(I8.pin (b,o) (eV _ (eV _ (dA hb e)))).1,λb hb=>?_,w8⟩;obtain ⟨o,e,d⟩:=T.obj _ _ u9 b hb;exact (I8.pin (b,o) (eV _ (eV _ (dA hb e)))).2.1
   refine wpAny_bind (iV (thn (Oy _ s7 aw H7 x u _ Gb r7 (step x H7 y7)) λ_ s8 ⟨fJ,H8,I8,q8⟩=>?_));refine wpAny_bind (iV (thn (OT _ s8 fJ H8 _ I8 q8) λb s9 ⟨H9,I9,q9⟩=>?_));cases b with
   |false=>
    rw [if_neg cK] at q9;exact wpAny_pure ⟨by subst hX;rfl,nextT I9 q9⟩
   |true=>
    rw [if_pos rfl] at q9;refine wpAny_bind (iV (thn (YO _ s9 fJ H9 _ I9 q9) λv1 y4 Yc=>?_));refine wpAny_bind (wpAny_standAt (wpAny_bind (wpAny_of_eq (Fn _ v1) (wpAny_bind (wpAny_holding (iV (thn Yc λv9 CO Yd=>?_)))))));obtain ⟨HN,fp1,tn1,J1,Ez,rfl,Ga,T1,V0,X0,YR⟩:=Yd;refine wpAny_bind (wpAny_runOwn ?_);have tr:∀(cd:Code)(R:Result→Shared→Prop),codeAny (model XC.prog XC.w) XC.A cd R CO→codeAny (model X.prog X.w) X.A cd R CO:=λcd R h=>by rw [eP,ew,eA] at h;exact h
    exact tr _ _ (zL Kl Ff Ga T1 V0 X0 So S8 Ot YR λaw H' s' Wz n12=>wpAny_pure ⟨by subst hX;rfl,nextT Wz n12⟩)
 subst hX;exact codeAny_compStart_list loop (T.self _ 0 _ _ _ Jt loop)
end
end L2
namespace KS
open PySem PySem.W PyProof.Rows
section
variable {prog:Program} {w:World} {A:Around} {E:Value→Shared→Prop} {s:Shared}
theorem A0{a:Addr}{vs:List Value}{n:Nat}{G:PySem.Fin→Shared→Prop}(ho:s.heap.get? a=some (seqObj "list" vs.toArray n))(h2:vs.length<2)
  (h:G (.done (.ret .none)) {s with heap:=sortedHeap s.heap a vs vs.toArray}):wpAny (model prog w) A (Builtin.«list.sort» ⟨[.ref a],[]⟩) G E s:=by
 rw [list_sort_plain];have la:a<s.heap.objs.size:=Heap.lt_size ho;refine wpAny_bind (listItems_at ho rfl (wpAny_bind (listUpdate_at ho rfl ?_)));obtain ⟨e1,v5⟩:∃k,(s.heap.update a (Obj.mapSeq λ_=> #[])).get? a=some (seqObj "list" #[] k):=⟨_,get?_update_seq ho (λ_=> #[])⟩;refine wpAny_bind (seqEpoch_at v5 rfl (wpAny_bind (wpAny_newTuple (wpAny_bind (wpAny_newList (wpAny_holding ?_))))));have HA:(((s.heap.update a (Obj.mapSeq λ_=> #[])).push (seqObj "tuple" vs.toArray 0)).push (seqObj "list" #[] 0)).get? a=some (seqObj "list" #[] e1):=Heap.get?_push_of_some _ (Heap.get?_push_of_some _ v5);show wpAny (model prog w) A _ G E {s with heap:=((s.heap.update a (Obj.mapSeq λ_=> #[])).push (seqObj "tuple" vs.toArray 0)).push (seqObj "list" #[] 0)}
 dsimp only;have lz:vs.toArray.size<2:=by simpa using h2
 rw [if_pos lz,if_pos lz];refine wpAny_bind (wpAny_pure ?_);rw [StateT.run_pure];refine wpAny_bind (wpAny_pure ?_);dsimp only
 have ez:(arrOf (SortSt.mk' general' (vs.toArray.zip vs.toArray) #[] 7 none)).map (·.2)=vs.toArray:=by
  show (vs.toArray.zip vs.toArray).map (·.2)=vs.toArray;apply Array.toList_inj.mp;simp [List.map_snd_zip]
 refine wpAny_bind (seqEpoch_at HA rfl (wpAny_bind (listUpdate_at HA rfl ?_ (hsz2:=by rw [ez];rw [sizeLine_eq];omega))))
 simp only [bne_self_eq_false,eB,if_false];have h':=h;unfold sortedHeap at h';rw [ez];exact wpAny_pure h'
theorem nQ{l:Addr}{vs:List Value}{G:Value→Shared→Prop}(hl:s.heap.IsList l vs.toArray)(h2:vs.length<2)(h:G (.ref (s.heap.objs.size+1)) {s with heap:=sortedAll s.heap vs vs.toArray}):
  wpAny (model prog w) A (call (.builtin "sorted") [.ref l]) G E s:=by
 refine Calls.call_function_entry kind_sorted plain_sorted entry_sorted (args_sorted1 (.ref l)) ?_;unfold Builtin.«sorted»;have l2:vs.length≤sizeLine:=by rw [sizeLine_eq];omega
 refine wpAny_bind (m:=checkCount "sorted" 1 1 _) (wpAny_pure (wpAny_bind (collect_list hl (wpAny_bind (wpAny_newList ?_ l2)) l2)));have z1:((s.heap.push (seqObj "list" #[] 0)).update s.heap.objs.size (Obj.mapSeq (·++vs.toArray))).objs.size=s.heap.objs.size+1:=by rw [Heap.size_update,size_push']
 have z2:(((s.heap.push (seqObj "list" #[] 0)).update s.heap.objs.size (Obj.mapSeq (·++vs.toArray))).push (seqObj "list" vs.toArray 0)).get? (s.heap.objs.size+1)=some (seqObj "list" vs.toArray 0):=by
  rw [←z1];exact Heap.get?_push_size _ rfl
 show wpAny (model prog w) _ _ _ E {s with heap:=((s.heap.push (seqObj "list" #[] 0)).update s.heap.objs.size (Obj.mapSeq (·++vs.toArray))).push (seqObj "list" vs.toArray 0)}
 rw [z1];exact wpAny_bind (wpAny_holding (wpAny_call_entry slot_list_sort ⟨_,z2,rfl⟩ entry_list_sort (A0 z2 h2 ⟨_,rfl,wpAny_pure ⟨_,rfl,h⟩⟩) (args_list_sort _)))
end
end KS
namespace L2
open PySem PySem.Spec PyProof.Rows
section
variable {X:Cx} {pins:List (Addr×Obj)} {σ:St} {H:Hp} {s:Shared} {h':Heap}
end
def fS(k:Nat×Nat):List V:= [.int (k.1:Nat), .int (k.2:Nat)]
def nZ(H:Hp)(L:List (Addr×(Nat×Nat))):Prop:=∀p∈L,H p.1=some (.tup (fS p.2))
def iH(a b:Nat×Nat):Bool:=if a.1=b.1 then decide (a.2<b.2) else decide (a.1<b.1)
theorem qI(x y:Nat×Nat):iH x y=true↔x.1<y.1∨(x.1=y.1∧x.2<y.2):=by
 unfold iH
 by_cases e:x.1=y.1
 ·rw [if_pos e,decide_eq_true_iff]
  omega
 ·rw [if_neg e,decide_eq_true_iff]
  omega
theorem Fu(x y z:Nat×Nat)(h:iH x z=true):iH x y=true∨iH y z=true:=by
 rw [qI] at*;rw [qI];omega
theorem HW(x y z:Nat×Nat)(h:iH x y=true)(h':iH y z=true):iH x z=true:=by
 rw [qI] at*;omega
theorem uz{a b:Nat×Nat}(h:iH b a=false):Wb.lexLe a b:=by
 unfold iH at h;unfold Wb.lexLe
 by_cases e:b.1=a.1
 ·rw [if_pos e] at h
  have:=of_decide_eq_false h
  right;omega
 ·rw [if_neg e] at h
  have:=of_decide_eq_false h
  left;omega
theorem Kt{prog:Program}{w:World}{A:Around}{E:Value→Shared→Prop}{s:Shared}{x y:Addr}{a1 a2 b1 b2:Int}{t1 t2 u1 u2:Tok}{C:Bool→Shared→Prop}
  (hx:IsTup s.heap x [.int a1 t1, .int a2 t2].toArray) (hy:IsTup s.heap y [.int b1 u1, .int b2 u2].toArray)
  (h:C (if a1=b1 then decide (a2<b2) else decide (a1<b1)) s):wpAny (model prog w) A (keyLt' (tuples' true) (.ref x) (.ref y)) C E s:=by
 obtain ⟨ox,Y7,_,nx,dx⟩:=hx;obtain ⟨oy,Y8,_,ny,dy⟩:=hy;refine PySem.W.kat_lt Y7 dx Y8 dy ?_;refine PySem.W.kat_cons (SeqAt.EqAt.int_int a1 t1 b1 u1 prog w _ _ ?_)
 by_cases e1:a1=b1
 ·rw [if_pos e1] at h
  rw [show (a1==b1)=true by simpa using e1]
  refine PySem.W.kat_yes (PySem.W.kat_cons (SeqAt.EqAt.int_int a2 t2 b2 u2 prog w _ _ ?_))
  by_cases e2:a2=b2
  ·rw [show (a2==b2)=true by simpa using e2]
   refine PySem.W.kat_yes (PySem.W.kat_nil ?_);rw [show decide (a2<b2)=false by simp;omega] at h
   simpa using h
  ·rw [show (a2==b2)=false by simpa using e2]
   refine PySem.W.kat_no (PySem.W.kat_one _ _ ?_);exact lt_int h
 ·rw [if_neg e1] at h
  rw [show (a1==b1)=false by simpa using e1]
  exact PySem.W.kat_no (oneLt_int h)
section
variable {X:Cx}
theorem oQ:∀{as:List Addr}{us:List Value},Vals (as.map V.ref) us→us=as.map Value.ref
 | [],_, .nil=>rfl
 |a::as,_, .cons r t=>by cases r;rw [oQ t];rfl
theorem oJ:∀as:List Addr,Vals (as.map V.ref) (as.map Value.ref)
 | []=> .nil
 |a::as=> .cons rfl (oJ as)
theorem FJ{pins:List (Addr×Obj)}{σ:St}{H:Hp}{s:Shared}{a:Addr}{k:Nat×Nat}(I:Inv X pins σ H s)(h:H a=some (.tup (fS k))):
  ∃t u,IsTup s.heap a [.int (k.1:Nat) t, .int (k.2:Nat) u].toArray:=by
 obtain ⟨its,r,p,_⟩:=I.tuple (dr.of h);obtain ⟨u1,u2,rfl,⟨t,rfl⟩,⟨u,rfl⟩⟩:=Vals.two r;exact ⟨t,u,p⟩
end
end L2
set_option maxHeartbeats 4000000
namespace L2
open PySem
theorem bb.of{X:Cx}{scope:Scope}(sc:Scope)(e:X.env.scope=sc)(k:scope.kind= .function)(a:∀x∈scope.names,x.2= .local→scope.names.lookup x.1=some .local)(b:∀x∈scope.names,x.2≠ .cell)
  (c:∀x∈scope.names,x.2= .free→sc.names.lookup x.1=some .cell∨sc.names.lookup x.1=some .free):bb X scope:=⟨k,a,b,λx hx hf=>by rw [←e] at c;exact c x hx hf⟩
theorem wR{K:PySem.W.Frag}{a:Addr}{xs:List V}{g:TG}{tb:TS}{D:Ends}{σ:St}{H:Hp}(Pv:Nat→St→Hp→Prop)(h0:Pv 0 σ H)(hl:∀i σ H,i≤xs.length→Pv i σ H→aC K H a xs)
  (hs:∀(i:Nat) x t σ H,xs[i]? =some x→H t=none→Pv i σ H→g (.ref t) σ (upd H t (.tup [.int (i:Int),x])) λcD H2=>tb {D with nx:=Pv (i+1),ct:=Pv (i+1),bk:=D.nx} cD H2) (hd:∀σ H,Pv xs.length σ H→D.nx σ H):
  ∃W:Nat→Nat→St→Hp→Prop,(∃m,W 0 m σ H)∧∀i m σ H,W i m σ H→
   ((EA K a).stop i H∧D.nx σ H)∨((EA K a).go i H∧∃N:St→Hp→Prop,(∀aw H',N aw H'→∃m',m'<m∧W (i+1) m' aw H')∧∀x H',(EA K a).yld i H x H'→g x σ H' λcD H2=>tb {D with nx:=N,ct:=N,bk:=D.nx} cD H2):=by
 refine ⟨λi m σ H=>m=xs.length-i∧i≤xs.length∧Pv i σ H,⟨xs.length,by simp,cM _,h0⟩,?_⟩
 rintro i m σ H ⟨rfl,hi,p⟩;have q:=hl i σ H hi p
 by_cases br:i<xs.length
 ·refine .inr ⟨⟨xs,xs[i],q,by simp [br]⟩,Pv (i+1),λaw H' p'=>⟨xs.length-(i+1),by omega,rfl,br,p'⟩,λx H' y=>?_⟩
  obtain ⟨t,v,rfl,ht,rfl,hv⟩:=y;exact hs i v t σ H (hv xs q) ht p
 ·have e:i=xs.length:=by omega
  subst e;exact .inl ⟨⟨xs,q,aU _⟩,hd σ H p⟩
theorem xb{X:Cx}{K:PySem.W.Frag}(e:X.K=K:=by rfl):ya X (Ea K):=by rw [←e];exact bu
theorem Ar{X:Cx}{K:PySem.W.Frag}(e:X.K=K:=by rfl):ya X (M0 K):=by rw [←e];exact D0
theorem Cy{X:Cx}{K:PySem.W.Frag}(e:X.K=K:=by rfl):OpR X (compareOp .NotIn) (Li K true):=by rw [←e];exact nK
structure bM (K:PySem.W.Frag) (mg:Str→Option Value) (x:Str) (st:Stmt) (ps:List Str) where
 f:Addr
 fd:FuncData
 F:vO K x x st f fd
 b:Binds K fd ps []
 m:mg x=some (.ref f)
theorem av{H:Hp}{p:Addr}(h:H p=none)(o:HO):az H (upd H p o):=λb u q=>by rw [ae (ah q h)];exact q
theorem small{n:Nat}(h:n≤1000):n≤sizeLine:=Nat.le_of_lt (bB h)
end L2
namespace TS
open PySem PyProof.Rows
def dP:Bool→Keyed→Array Keyed→Nat→Nat→Nat→StateT SortSt Sem (Option Nat):=sortPriv%PySem.Builtin.gallop
def mX:Array Keyed→Array Keyed→StateT SortSt Sem (Array Keyed):=sortPriv%PySem.Builtin.mergeLo
def mW:Array Keyed→Array Keyed→StateT SortSt Sem (Array Keyed):=sortPriv%PySem.Builtin.mergeHi
def setMinGallop':Nat→StateT SortSt Sem Unit:=sortPriv%PySem.Builtin.setMinGallop
def iB(left:Bool)(key:Keyed)(arr:Array Keyed)(base i:Nat):StateT SortSt Sem (Option Bool):=do
 let x ←elem' arr (base+i)
 if left then lt' x key else return (←lt' key x).map (!·)
theorem z3(left:Bool)(key:Keyed)(arr:Array Keyed)(base n hint:Nat):dP left key arr base n hint=(do
 let mut lastofs:=0
 let mut ofs:=1
 let mut lo:=0
 let mut hi:=0
 let some right ←iB left key arr base hint|return none
 if right then
  let pM:=n-hint
  for _ in [0:n] do
   if ofs≥pM then break
   let some more ←iB left key arr base (hint+ofs) |return none
   if !more then break
   lastofs:=ofs
   ofs:=2*ofs+1
  lo:=hint+lastofs+1
  hi:=hint+min ofs pM
 else
  let pM:=hint+1
  for _ in [0:n] do
   if ofs≥pM then break
   let some found ←iB left key arr base (hint-ofs) |return none
   if found then break
   lastofs:=ofs
   ofs:=2*ofs+1
  lo:=hint+1-min ofs pM
  hi:=hint-lastofs
 for _ in [0:n] do
  if lo≥hi then break
  let m:=lo+(hi-lo) / 2
  let some more ←iB left key arr base m|return none
  if more then lo:=m+1 else hi:=m
 return some hi):=rfl
def fH(O:KeyOrd)(key:Keyed→O.α)(S:Keyed→Prop)(k0:SortKind)(M:Model)(A:Around)(E:Value→Shared→Prop)(s:Shared):Prop:=
 ∀(x y:Keyed)(st:SortSt)(Q:Option Bool→SortSt→Prop),S x→S y→kindOf st=k0→Q (some (O.blt (key x) (key y))) st→wpS M A E s (lt' x y) Q st
section
variable {O:KeyOrd} {key:Keyed→O.α} {S:Keyed→Prop} {k0:SortKind} {M:Model} {A:Around} {E:Value→Shared→Prop} {s:Shared} {st:SortSt}
def cP(O:KeyOrd)(key:Keyed→O.α)(left:Bool)(k x:Keyed):Bool:=if left then O.blt (key x) (key k) else !O.blt (key k) (key x)
theorem aR{arr:Array Keyed}{i:Nat}{x:Keyed}{Q:Keyed→SortSt→Prop}(h:arr[i]? =some x)(q:Q x st):wpS M A E s (elem' arr i) Q st:=by
 rw [elem'_eq,h];exact wpS_pure q
theorem jh(C:fH O key S k0 M A E s){left:Bool}{k x:Keyed}{arr:Array Keyed}{base i:Nat}{Q:Option Bool→SortSt→Prop}(hx:arr[base+i]? =some x)(sk:S k)(sx:S x)(hk:kindOf st=k0)
  (q:Q (some (cP O key left k x)) st):wpS M A E s (iB left k arr base i) Q st:=by
 unfold iB;refine wpS_bind (aR hx ?_);unfold cP at q;cases left with
 |true=>exact C _ _ _ _ sx sk hk q
 |false=>exact wpS_bind (C _ _ _ _ sk sx hk (wpS_pure q))
structure Seg (S:Keyed→Prop) (arr:Array Keyed) (base n:Nat) (g:Nat→Keyed):Prop where
 at_:∀i,i<n→arr[base+i]? =some (g i)
 mem:∀i,i<n→S (g i)
theorem fF(C:fH O key S k0 M A E s){left:Bool}{k:Keyed}{arr:Array Keyed}{base n hint:Nat}{g:Nat→Keyed}{Q:Option Nat→SortSt→Prop}(G:Seg S arr base n g)(sk:S k)(hk:kindOf st=k0)(hh:hint<n)
  (mono:∀i j,i≤j→j<n→cP O key left k (g j)=true→cP O key left k (g i)=true)
  (q:∀p,p≤n→(∀i,i<p→cP O key left k (g i)=true)→(∀i,p≤i→i<n→cP O key left k (g i)=false)→Q (some p) st):wpS M A E s (dP left k arr base n hint) Q st:=by
 rw [z3];refine wpS_bind (jh C (G.at_ _ hh) sk (G.mem _ hh) hk ?_)
 have Cq:∀i j,i≤j→j<n→cP O key left k (g i)=false→cP O key left k (g j)=false:=λi j cQ hj h=>by
  cases e:cP O key left k (g j) with
  |false=>rfl
  |true=>rw [mono i j cQ hj e] at h;cases h
 have fin:∀lo hi,lo≤hi→hi≤n→(∀i,i<lo→cP O key left k (g i)=true)→(∀i,hi≤i→i<n→cP O key left k (g i)=false)→
   wpS M A E s (do
    let mut lo:=lo
    let mut hi:=hi
    for _ in [0:n] do
     if lo≥hi then break
     let m:=lo+(hi-lo) / 2
     let some more ←iB left k arr base m|return none
     if more then lo:=m+1 else hi:=m
    return some hi) Q st:=by
  intro lo hi hle hn h1 h2;dsimp only
  refine wpS_bind (wpS_mono (wpS_forRange (I:=λx c ag=>ag=st∧∃lo hi,c=(none,lo,hi)∧lo≤hi∧hi≤n∧hi-lo≤n-x∧(∀i,i<lo→cP O key left k (g i)=true)∧(∀i,hi≤i→i<n→cP O key left k (g i)=false))
   (Q:=λc ag=>ag=st∧∃hi,c=(none,hi,hi)∧hi≤n∧(∀i,i<hi→cP O key left k (g i)=true)∧(∀i,hi≤i→i<n→cP O key left k (g i)=false)) ?step ?fin ⟨rfl,lo,hi,rfl,hle,hn,by omega,h1,h2⟩) ?post)
  case fin=>
   rintro c ag ⟨rfl,lo,hi,rfl,a1,a2,a3,a4,a5⟩
   have:lo=hi:=by omega
   subst this;exact ⟨rfl,lo,rfl,a2,a4,a5⟩
  case step=>
   rintro x c ag _ hx ⟨rfl,lo,hi,rfl,a1,a2,a3,a4,a5⟩;dsimp only
   by_cases lH:lo≥hi
   ·rw [if_pos lH]
    have:lo=hi:=by omega
    subst this;exact wpS_pure ⟨rfl,lo,rfl,a2,a4,a5⟩
   ·rw [if_neg lH]
    have hm:lo+(hi-lo) / 2<n:=by omega
    refine wpS_bind (jh C (G.at_ _ hm) sk (G.mem _ hm) hk ?_);cases e:cP O key left k (g (lo+(hi-lo) / 2)) with
    |true=>
     dsimp only;rw [if_pos rfl];exact wpS_pure ⟨rfl,_,_,rfl,by omega,a2,by omega,λi hi=>mono _ _ (by omega) hm e,a5⟩
    |false=>
     dsimp only;rw [if_neg (by decide)]
     exact wpS_pure ⟨rfl,_,_,rfl,by omega,by omega,by omega,a4,λi h1 h2=>Cq _ _ h1 h2 e⟩
  case post=>
   rintro c ag ⟨rfl,hi,rfl,b1,b2,b3⟩;exact wpS_pure (q _ b1 b2 b3)
 dsimp only;cases e0:cP O key left k (g hint) with
 |true=>
  rw [if_pos rfl]
  refine wpS_bind (wpS_mono (wpS_forRange (I:=λx c ag=>ag=st∧∃la o,c=(none,la,o)∧la<o∧x<o∧hint+la<n∧cP O key left k (g (hint+la))=true)
   (Q:=λc ag=>ag=st∧∃la o,c=(none,la,o)∧la<o∧hint+la<n∧cP O key left k (g (hint+la))=true∧(n-hint≤o∨(hint+o<n∧cP O key left k (g (hint+o))=false))) ?step ?fin2 ⟨rfl,0,1,rfl,by omega,by omega,by omega,e0⟩) ?post)
  case fin2=>
   rintro c ag ⟨rfl,la,o,rfl,a1,a2,a3,a4⟩;exact ⟨rfl,la,o,rfl,a1,a3,a4, .inl (by omega)⟩
  case step=>
   rintro x c ag _ hx ⟨rfl,la,o,rfl,a1,a2,a3,a4⟩;dsimp only
   by_cases lH:o≥n-hint
   ·rw [if_pos lH]
    exact wpS_pure ⟨rfl,la,o,rfl,a1,a3,a4, .inl lH⟩
   ·rw [if_neg lH]
    have hm:hint+o<n:=by omega
    refine wpS_bind (jh C (G.at_ _ hm) sk (G.mem _ hm) hk ?_);cases e:cP O key left k (g (hint+o)) with
    |true=>
     dsimp only;rw [if_neg (by decide)]
     exact wpS_pure ⟨rfl,_,_,rfl,by omega,by omega,hm,e⟩
    |false=>
     dsimp only;rw [if_pos (by decide)]
     exact wpS_pure ⟨rfl,la,o,rfl,a1,a3,a4, .inr ⟨hm,e⟩⟩
  case post=>
   rintro c ag ⟨rfl,la,o,rfl,b1,b2,b3,b4⟩;refine fin (hint+la+1) (hint+min o (n-hint)) (by omega) (by omega) (λi hi=>mono _ _ (by omega) b2 b3) (λi h1 h2=>?_)
   rcases b4 with b4| ⟨b4,b5⟩
   ·omega
   ·exact Cq _ _ (by omega) h2 b5
 |false=>
  rw [if_neg (by decide)]
  refine wpS_bind (wpS_mono (wpS_forRange (I:=λx c ag=>ag=st∧∃la o,c=(none,la,o)∧la<o∧x<o∧la≤hint∧cP O key left k (g (hint-la))=false)
   (Q:=λc ag=>ag=st∧∃la o,c=(none,la,o)∧la<o∧la≤hint∧cP O key left k (g (hint-la))=false∧(hint+1≤o∨(o≤hint∧cP O key left k (g (hint-o))=true))) ?step ?fin2 ⟨rfl,0,1,rfl,by omega,by omega,by omega,e0⟩) ?post)
  case fin2=>
   rintro c ag ⟨rfl,la,o,rfl,a1,a2,a3,a4⟩;exact ⟨rfl,la,o,rfl,a1,a3,a4, .inl (by omega)⟩
  case step=>
   rintro x c ag _ hx ⟨rfl,la,o,rfl,a1,a2,a3,a4⟩;dsimp only
   by_cases lH:o≥hint+1
   ·rw [if_pos lH]
    exact wpS_pure ⟨rfl,la,o,rfl,a1,a3,a4, .inl lH⟩
   ·rw [if_neg lH]
    have hm:hint-o<n:=by omega
    refine wpS_bind (jh C (G.at_ _ hm) sk (G.mem _ hm) hk ?_);cases e:cP O key left k (g (hint-o)) with
    |true=>
     dsimp only;rw [if_pos rfl];exact wpS_pure ⟨rfl,la,o,rfl,a1,a3,a4, .inr ⟨by omega,e⟩⟩
    |false=>
     dsimp only;rw [if_neg (by decide)]
     exact wpS_pure ⟨rfl,_,_,rfl,by omega,by omega,by omega,e⟩
  case post=>
   rintro c ag ⟨rfl,la,o,rfl,b1,b2,b3,b4⟩;refine fin (hint+1-min o (hint+1)) (hint-la) (by omega) (by omega) (λi hi=>?_) (λi h1 h2=>Cq _ _ h1 h2 b3)
   rcases b4 with b4| ⟨b4,b5⟩
   ·omega
   ·exact mono _ _ (by omega) (by omega) b5
end
section
variable {O:KeyOrd} {key:Keyed→O.α} {S:Keyed→Prop} {k0:SortKind} {M:Model} {A:Around} {E:Value→Shared→Prop} {s:Shared} {st bh:SortSt}
def ky(O:KeyOrd)(key:Keyed→O.α)(xs:Array Keyed)(i:Nat):O.α:=key (xs[i]?.getD (.none, .none))
theorem gu{xs ys:Array Keyed}{i j:Nat}(h:xs[i]? =ys[j]?):ky O key xs i=ky O key ys j:=by unfold ky;rw [h]
def hV(O:KeyOrd)(key:Keyed→O.α)(xs:Array Keyed)(a b:Nat):Prop:=∀i j,a≤i→i≤j→j<b→O.kle (ky O key xs i) (ky O key xs j)
def Ey(O:KeyOrd)(key:Keyed→O.α)(xs:Array Keyed)(a b:Nat):Prop:=∀i j,a≤i→i≤j→j<b→O.kle (ky O key xs j) (ky O key xs i)
structure fI (bh st:SortSt) (lo hi:Nat):Prop where
 perm:(arrOf st).Perm (arrOf bh)
 kind:kindOf st=kindOf bh
 failed:failedOf st=failedOf bh
 pend:pendingOf st=pendingOf bh
 out:∀i,i<lo∨hi≤i→(arrOf st)[i]? =(arrOf bh)[i]?
theorem fI.refl(st:SortSt)(lo hi:Nat):fI st st lo hi:=⟨.refl _,rfl,rfl,rfl,λ_ _=>rfl⟩
theorem fI.trans{za kz:SortSt}{lo hi:Nat}(a:fI bh za lo hi)(b:fI za kz lo hi):fI bh kz lo hi:=
 ⟨b.perm.trans a.perm,b.kind.trans a.kind,b.failed.trans a.failed,b.pend.trans a.pend,λi h=>(b.out i h).trans (a.out i h)⟩
theorem fI.size{lo hi:Nat}(a:fI bh st lo hi):(arrOf st).size=(arrOf bh).size:=a.perm.size_eq
theorem fI.mirror{lo hi i j:Nat}(fj:lo≤i)(hj:j≤hi)(hs:j≤(arrOf st).size):fI st (setArr st (mirror (arrOf st) i j ((j-i) / 2))) lo hi:=
 ⟨mirror_perm _ _ _ _,rfl,rfl,rfl,λk h=>by
  show (PyProof.Rows.mirror (arrOf st) i j ((j-i) / 2))[k]? =_;rw [getElem?_mirror_all hs,if_neg (by omega)]⟩
theorem fI.bubble{lo hi src d:Nat}(hd:d≤src)(h1:lo≤src-d)(h2:src<hi)(hs:src<(arrOf st).size):fI st (setArr st (bubble (arrOf st) src d)) lo hi:=
 ⟨bubble_perm _ _ _,rfl,rfl,rfl,λk h=>by
  show (PyProof.Rows.bubble (arrOf st) src d)[k]? =_;rw [getElem?_bubble hs d hd,if_neg (by omega),if_neg (by omega)]⟩
theorem oq{xs:Array Keyed}{i j:Nat}(hj:j≤xs.size)(k:Nat):ky O key (mirror xs i j ((j-i) / 2)) k=if i≤k∧k<j then ky O key xs (i+j-1-k) else ky O key xs k:=by
 have e:=getElem?_mirror_all (i:=i) hj k
 by_cases h1:i≤k∧k<j
 ·rw [if_pos h1] at e ⊢;exact gu e
 ·rw [if_neg h1] at e ⊢;exact gu e
theorem fk{xs:Array Keyed}{i j:Nat}(hj:j≤xs.size)(heq:∀k,i≤k→k<j→ky O key xs k=ky O key xs (j-1))(k:Nat):ky O key (mirror xs i j ((j-i) / 2)) k=ky O key xs k:=by
 rw [oq hj]
 split
 ·rw [heq _ (by omega) (by omega),heq k (by omega) (by omega)]
 ·rfl
theorem uu{xs:Array Keyed}{src d:Nat}(hs:src<xs.size)(hd:d≤src)(k:Nat):
  ky O key (bubble xs src d) k=if k=src-d then ky O key xs src else if src-d<k∧k≤src then ky O key xs (k-1) else ky O key xs k:=by
 have e:=getElem?_bubble hs d hd k
 by_cases h1:k=src-d
 ·rw [if_pos h1] at e ⊢;exact gu e
 ·rw [if_neg h1] at e ⊢
  by_cases h2:src-d<k∧k≤src
  ·rw [if_pos h2] at e ⊢;exact gu e
  ·rw [if_neg h2] at e ⊢;exact gu e
structure Ok (S:Keyed→Prop) (k0:SortKind) (st:SortSt):Prop where
 mem:∀p,p∈(arrOf st).toList→S p
 kind:kindOf st=k0
theorem Ok.step{lo hi:Nat}(o:Ok S k0 bh)(a:fI bh st lo hi):Ok S k0 st:=
 ⟨λp hp=>o.mem p ((Es.mp a.perm).mem_iff.mp hp),a.kind.trans o.kind⟩
theorem Ok.at{i:Nat}(o:Ok S k0 st)(hi:i<(arrOf st).size):(arrOf st)[i]? =some ((arrOf st)[i]?.getD (.none, .none))∧S ((arrOf st)[i]?.getD (.none, .none)):=by
 have e:(arrOf st)[i]? =some (arrOf st)[i]:=getElem?_pos _ i hi;rw [e];exact ⟨rfl,o.mem _ (by simp)⟩
theorem mG(C:fH O key S k0 M A E s){i j:Nat}{Q:Option Bool→SortSt→Prop}(o:Ok S k0 st)(hi:i<(arrOf st).size)(hj:j<(arrOf st).size)
  (q:Q (some (O.blt (ky O key (arrOf st) i) (ky O key (arrOf st) j))) st):wpS M A E s (ltAt' i j) Q st:=by
 rw [ltAt'_eq];obtain ⟨e1,s1⟩:=o.at hi;obtain ⟨e2,s2⟩:=o.at hj;refine wpS_bind (wpS_get (wpS_bind (aR e1 (wpS_bind (aR e2 (C _ _ _ _ s1 s2 o.kind q))))))
theorem wpS_binarySort(C:fH O key S k0 M A E s){lo n ok:Nat}{Q:Bool→SortSt→Prop}(o:Ok S k0 st)(hn:lo+n≤(arrOf st).size)(hok:ok≤n)(hs:hV O key (arrOf st) lo (lo+ok))
  (h:∀ag,fI st ag lo (lo+n)→hV O key (arrOf ag) lo (lo+n)→Q true ag):wpS M A E s (binarySort' lo n ok) Q st:=by
 rw [binarySort'_eq]
 refine wpS_bind (wpS_mono (wpS_forRange (I:=λk c ag=>c=(none,())∧fI st ag lo (lo+n)∧hV O key (arrOf ag) lo (lo+min k n))
  (Q:=λc ag=>c=(none,())∧fI st ag lo (lo+n)∧hV O key (arrOf ag) lo (lo+n)) ?step ?fin ?init) ?post)
 case post=>
  rintro c ag ⟨rfl,iU,e6⟩;exact wpS_pure (h ag iU e6)
 case init=>
  refine ⟨rfl, .refl _ _ _,λi j hi cQ hj=>?_⟩
  by_cases h1:ok=0
  ·have:i=j:=by omega
   subst this;exact KeyOrd.kle_refl _
  ·exact hs i j hi cQ (by omega)
 case fin=>
  rintro c ag ⟨hc,iU,e6⟩;refine ⟨hc,iU,?_⟩
  rwa [show min (max (max ok 1) n) n=n by omega] at e6
 case step=>
  rintro k c ag hak hkn ⟨rfl,iU,e6⟩;rw [show min k n=k by omega] at e6
  have o':=o.step iU;have eD:=iU.size;have hk:lo+k<(arrOf ag).size:=by omega
  refine wpS_bind (wpS_mono (wpS_forRange (I:=λx c b8=>b8=ag∧∃l r,c=(none,l,r)∧l≤r∧r≤k∧r-l≤k-x∧
    (∀i,i<l→O.kle (ky O key (arrOf ag) (lo+i)) (ky O key (arrOf ag) (lo+k)))∧(∀i,r≤i→i<k→O.klt (ky O key (arrOf ag) (lo+k)) (ky O key (arrOf ag) (lo+i))))
   (Q:=λc b8=>b8=ag∧∃l r,c=(none,l,r)∧l≤k∧
    (∀i,i<l→O.kle (ky O key (arrOf ag) (lo+i)) (ky O key (arrOf ag) (lo+k)))∧(∀i,l≤i→i<k→O.klt (ky O key (arrOf ag) (lo+k)) (ky O key (arrOf ag) (lo+i)))) ?istep ?ifin ?iinit) ?ipost)
  case iinit=>exact ⟨rfl,0,k,rfl,by omega,by omega,by omega,λi hi=>by omega,λi h1 h2=>by omega⟩
  case ifin=>
   rintro c b8 ⟨rfl,l,r,rfl,YZ,OP,hm,Ac,BR⟩
   have:l=r:=by omega
   subst this;exact ⟨rfl,l,l,rfl,OP,Ac,BR⟩
  case istep=>
   rintro x c b8 _ hxk ⟨rfl,l,r,rfl,YZ,OP,hm,Ac,BR⟩;dsimp only
   by_cases lH:l≥r
   ·rw [if_pos lH]
    have:l=r:=by omega
    subst this;exact wpS_pure ⟨rfl,l,l,rfl,OP,Ac,BR⟩
   ·rw [if_neg lH]
    refine wpS_bind (mG C o' hk (by omega) ?_)
    cases lI:O.blt (ky O key (arrOf b8) (lo+k)) (ky O key (arrOf b8) (lo+(l+r) / 2))
    case true=>
     simp only [if_true];refine wpS_pure ⟨rfl,l,(l+r) / 2,rfl,by omega,by omega,by omega,Ac,λi h1 h2=>?_⟩
     exact KeyOrd.klt_of_klt_of_kle lI (e6 _ _ (by omega) (by omega) (by omega))
    case false=>
     simp only [eB,if_false];refine wpS_pure ⟨rfl,(l+r) / 2+1,r,rfl,by omega,by omega,by omega,λi h1=>?_,BR⟩
     exact KeyOrd.kle_trans (e6 (lo+i) (lo+(l+r) / 2) (by omega) (by omega) (by omega)) (show O.kle _ _ from lI)
  case ipost=>
   rintro c b8 ⟨rfl,l,r,rfl,hlk,Ac,BR⟩;show wpS _ _ _ _ (do moveDown' (lo+k) (lo+l);pure (ForInStep.yield (none,()))) _ _
   rw [moveDown'_eq];have ed:lo+k-(lo+l)=k-l:=by omega
   refine wpS_bind (wpS_modify (wpS_pure ⟨rfl,iU.trans (fI.bubble (by omega) (by omega) (by omega) hk),?_⟩))
   rw [show min (k+1) n=k+1 by omega]
   intro i j hi cQ hj;show O.kle (ky O key (bubble (arrOf b8) (lo+k) (lo+k-(lo+l))) i) (ky O key (bubble (arrOf b8) (lo+k) (lo+k-(lo+l))) j);rw [uu hk (by omega),uu hk (by omega),show lo+k-(lo+k-(lo+l))=lo+l by omega]
   have SD:∀a,lo≤a→a<lo+l→O.kle (ky O key (arrOf b8) a) (ky O key (arrOf b8) (lo+k)):=λa h1 h2=>by
    have:=Ac (a-lo) (by omega);rwa [show lo+(a-lo)=a by omega] at this
   have Sr:∀a,lo+l≤a→a<lo+k→O.klt (ky O key (arrOf b8) (lo+k)) (ky O key (arrOf b8) a):=λa h1 h2=>by
    have:=BR (a-lo) (by omega) (by omega);rwa [show lo+(a-lo)=a by omega] at this
   repeat' split
   all_goals first
    | (exfalso;omega)
    |exact KeyOrd.kle_refl _
    |exact SD _ (by omega) (by omega)
    |exact KeyOrd.kle_of_klt (Sr _ (by omega) (by omega))
    |exact e6 _ _ (by omega) (by omega) (by omega)
end
def zB(lo a aQ:Nat):StateT SortSt Sem AscSt:=
 forIn [a:aQ] ((none,a):AscSt) λ_ __s=>do
  let __x ←ltAt' (lo+__s.snd) (lo+__s.snd-1)
  match __x with
  |some u3=>if u3=true then pure (ForInStep.done (none,__s.snd)) else pure (ForInStep.yield (none,__s.snd+1))
  |_=>pure (ForInStep.done (some none,__s.snd))
def tailL(lo n aQ:Nat):StateT SortSt Sem (Option Nat):=do
 reverseSlice' lo (lo+n)
 let __s ←zB lo n aQ
 match __s.fst with
 |some r=>pure r
 |none=>pure (some __s.snd)
def yn(lo n aQ:Nat):StateT SortSt Sem DescSt:=
 forIn [n:aQ] ((none,n,0):DescSt) λ_ __s=>do
  let __x ←ltAt' (lo+__s.snd.fst) (lo+__s.snd.fst-1)
  match __x with
  |some u3=>
   if u3=true then
    if __s.snd.snd>0 then do
     reverseSlice' (lo+__s.snd.fst-(__s.snd.snd+1)) (lo+__s.snd.fst)
     pure (ForInStep.yield (none,__s.snd.fst+1,0))
    else pure (ForInStep.yield (none,__s.snd.fst+1,0))
   else do
    let __x ←ltAt' (lo+__s.snd.fst-1) (lo+__s.snd.fst)
    match __x with
    |some Kx=>
     if Kx=true then pure (ForInStep.done (none,__s.snd.fst,__s.snd.snd))
     else pure (ForInStep.yield (none,__s.snd.fst+1,__s.snd.snd+1))
    |_=>pure (ForInStep.done (some none,__s.snd.fst,__s.snd.snd))
  |_=>pure (ForInStep.done (some none,__s.snd.fst,__s.snd.snd))
def descP(lo n aQ:Nat):StateT SortSt Sem (Option Nat):=do
 liftM (rule "list.sort.descending-run")
 let __s ←yn lo (n+1) aQ
 match __s.fst with
 |some r=>pure r
 |none=>
  if __s.snd.snd>0 then do
   reverseSlice' (lo+__s.snd.fst-(__s.snd.snd+1)) (lo+__s.snd.fst)
   tailL lo __s.snd.fst aQ
  else tailL lo __s.snd.fst aQ
theorem vT(lo aQ:Nat):countRun' lo aQ=(do
  let __s ←zB lo 1 aQ
  match __s.fst with
  |some r=>pure r
  |none=>
   if (__s.snd==aQ)=true then pure (some __s.snd)
   else if __s.snd>1 then do
    let __x ←ltAt' lo (lo+__s.snd-1)
    match __x with
    |some M1=>if M1=true then pure (some __s.snd) else do
      reverseSlice' lo (lo+__s.snd)
      descP lo __s.snd aQ
    |_=>pure none
   else descP lo __s.snd aQ):=by
 rw [countRun'_eq];dsimp only;unfold descP tailL yn zB
 congr 1
 funext __s
 obtain ⟨r,n⟩:=__s;cases r with
 |some r=>rfl
 |none=>
  dsimp only
  split
  ·rfl
  ·split
   ·congr 1
    funext x
    cases x with
    |none=>rfl
    |some M1=>
     dsimp only
     split
     ·rfl
     ·congr 1
      funext _r
      (congr 1;funext _u;congr 1;congr 1;funext s2;obtain ⟨r2,n2,q2⟩:=s2;cases r2 with
 |some r2=>rfl
 |none=>(dsimp only;split;(congr 1;funext _v;(congr 1;funext _w;congr 1;(funext s3;obtain ⟨r3,n3⟩:=s3;cases r3<;>rfl)));(congr 1;funext _w;congr 1;(funext s3;obtain ⟨r3,n3⟩:=s3;cases r3<;>rfl))))
   ·(congr 1;funext _u;congr 1;congr 1;funext s2;obtain ⟨r2,n2,q2⟩:=s2;cases r2 with
 |some r2=>rfl
 |none=>(dsimp only;split;(congr 1;funext _v;(congr 1;funext _w;congr 1;(funext s3;obtain ⟨r3,n3⟩:=s3;cases r3<;>rfl)));(congr 1;funext _w;congr 1;(funext s3;obtain ⟨r3,n3⟩:=s3;cases r3<;>rfl))))
section
variable {O:KeyOrd} {key:Keyed→O.α} {S:Keyed→Prop} {k0:SortKind} {prog:Program} {w:World} {A:Around} {E:Value→Shared→Prop} {s:Shared} {st bh:SortSt}
theorem xM(C:fH O key S k0 (model prog w) A E s){lo a aQ:Nat}{Q:AscSt→SortSt→Prop}(o:Ok S k0 st)(hn:lo+aQ≤(arrOf st).size)(ha:1≤a)(Yq:a≤aQ)(hs:hV O key (arrOf st) lo (lo+a))
  (h:∀n,a≤n→n≤aQ→hV O key (arrOf st) lo (lo+n)→(n=aQ∨O.klt (ky O key (arrOf st) (lo+n)) (ky O key (arrOf st) (lo+n-1)))→Q (none,n) st):
  wpS (model prog w) A E s (zB lo a aQ) Q st:=by
 unfold zB;refine wpS_forRange (I:=λx c ag=>ag=st∧c=(none,x)∧hV O key (arrOf st) lo (lo+x)) ?step ?fin ⟨rfl,rfl,hs⟩
 case fin=>
  rintro c ag ⟨rfl,rfl,e6⟩;rw [show max a aQ=aQ by omega] at e6 ⊢
  exact h aQ Yq (aU _) e6 (.inl rfl)
 case step=>
  rintro x c ag RZ Zn ⟨rfl,rfl,e6⟩;dsimp only;refine wpS_bind (mG C o (by omega) (by omega) ?_)
  cases lI:O.blt (ky O key (arrOf ag) (lo+x)) (ky O key (arrOf ag) (lo+x-1))
  case true=>
   simp only [if_true];exact wpS_pure (h x RZ (by omega) e6 (.inr lI))
  case false=>
   simp only [eB,if_false];refine wpS_pure ⟨rfl,rfl,λi j hi cQ hj=>?_⟩
   by_cases Ht:j<lo+x
   ·exact e6 i j hi cQ Ht
   ·have vX:j=lo+x:=by omega
    subst vX
    by_cases fj:i=lo+x
    ·subst fj;exact KeyOrd.kle_refl _
    ·exact KeyOrd.kle_trans (e6 i (lo+x-1) hi (by omega) (by omega)) lI
theorem qf{i j:Nat}{Q:Unit→SortSt→Prop}(h:Q () (setArr st (mirror (arrOf st) i j ((j-i) / 2)))):wpS (model prog w) A E s (reverseSlice' i j) Q st:=by
 rw [reverseSlice'_eq];exact wpS_modify h
theorem vy(C:fH O key S k0 (model prog w) A E s){lo n aQ:Nat}{Q:Option Nat→SortSt→Prop}(o:Ok S k0 st)(hn:lo+aQ≤(arrOf st).size)(h1:1≤n)(yA:n≤aQ)(hs:Ey O key (arrOf st) lo (lo+n))
  (h:∀m ag,fI st ag lo (lo+aQ)→1≤m→m≤aQ→hV O key (arrOf ag) lo (lo+m)→Q (some m) ag):wpS (model prog w) A E s (tailL lo n aQ) Q st:=by
 unfold tailL;have eD:lo+n≤(arrOf st).size:=by omega
 refine wpS_bind (qf ?_);have hB:fI st (setArr st (mirror (arrOf st) lo (lo+n) ((lo+n-lo) / 2))) lo (lo+aQ):=fI.mirror (aU _) (by omega) eD
 refine wpS_bind (xM C (o.step hB) (by rw [hB.size];exact hn) h1 yA ?_ λm OH Fm Zf _=>wpS_pure (h m _ hB (by omega) Fm Zf))
 intro i j hi cQ hj;show O.kle (ky O key (mirror (arrOf st) lo (lo+n) ((lo+n-lo) / 2)) i) (ky O key (mirror (arrOf st) lo (lo+n) ((lo+n-lo) / 2)) j);rw [oq eD,oq eD,if_pos (by omega),if_pos (by omega)]
 exact hs _ _ (by omega) (by omega) (by omega)
theorem Dc(C:fH O key S k0 (model prog w) A E s){lo n aQ:Nat}{Q:DescSt→SortSt→Prop}(o:Ok S k0 st)(hn:lo+aQ≤(arrOf st).size)(h1:1≤n)(yA:n≤aQ)(hs:Ey O key (arrOf st) lo (lo+n))
  (h:∀m lP ag,fI st ag lo (lo+aQ)→n≤m→m≤aQ→Ey O key (arrOf ag) lo (lo+m)→lP+1≤m→(∀i,lo+m-(lP+1)≤i→i<lo+m→ky O key (arrOf ag) i=ky O key (arrOf ag) (lo+m-1))→Q (none,m,lP) ag):
  wpS (model prog w) A E s (yn lo n aQ) Q st:=by
 unfold yn
 refine wpS_forRange (I:=λx c ag=>∃lP,c=(none,x,lP)∧fI st ag lo (lo+aQ)∧Ey O key (arrOf ag) lo (lo+x)∧lP+1≤x∧
   (∀i,lo+x-(lP+1)≤i→i<lo+x→ky O key (arrOf ag) i=ky O key (arrOf ag) (lo+x-1))) ?step ?fin ⟨0,rfl, .refl _ _ _,hs,by omega,λi h1 h2=>by congr 1;omega⟩
 case fin=>
  rintro c ag ⟨lP,rfl,iU,e6,hq,he⟩;rw [show max n aQ=aQ by omega] at e6 hq he ⊢
  exact h aQ lP ag iU yA (aU _) e6 hq he
 case step=>
  rintro x c ag RZ Zn ⟨lP,rfl,iU,e6,hq,he⟩;dsimp only;have o':=o.step iU;have hz:=iU.size;have eD:lo+x≤(arrOf ag).size:=by omega
  refine wpS_bind (mG C o' (by omega) (by omega) ?_)
  cases lI:O.blt (ky O key (arrOf ag) (lo+x)) (ky O key (arrOf ag) (lo+x-1))
  case true=>
   simp only [if_true]
   have Jv:∀xs:Array Keyed,(∀k,ky O key xs k=ky O key (arrOf ag) k)→Ey O key xs lo (lo+(x+1)):=by
    intro xs hk i j hi cQ hj;rw [hk,hk]
    by_cases Ht:j<lo+x
    ·exact e6 i j hi cQ Ht
    ·have vX:j=lo+x:=by omega
     subst vX
     by_cases fj:i=lo+x
     ·subst fj;exact KeyOrd.kle_refl _
     ·exact KeyOrd.kle_trans (KeyOrd.kle_of_klt lI) (e6 i (lo+x-1) hi (by omega) (by omega))
   by_cases Af:lP>0
   ·rw [if_pos Af]
    refine wpS_bind (qf (wpS_pure ⟨0,rfl,iU.trans (fI.mirror (by omega) (by omega) eD),Jv _ (fk eD he),by omega,λi h1 h2=>by congr 1;omega⟩))
   ·rw [if_neg Af]
    exact wpS_pure ⟨0,rfl,iU,Jv _ (λ_=>rfl),by omega,λi h1 h2=>by congr 1;omega⟩
  case false=>
   simp only [eB,if_false];refine wpS_bind (mG C o' (by omega) (by omega) ?_)
   cases Hx:O.blt (ky O key (arrOf ag) (lo+x-1)) (ky O key (arrOf ag) (lo+x))
   case true=>
    simp only [if_true];exact wpS_pure (h x lP ag iU (by omega) (by omega) e6 hq he)
   case false=>
    simp only [eB,if_false];have Mu:ky O key (arrOf ag) (lo+x)=ky O key (arrOf ag) (lo+x-1):=O.total _ _ lI Hx;refine wpS_pure ⟨lP+1,rfl,iU,λi j hi cQ hj=>?_,by omega,λi h1 h2=>?_⟩
    ·by_cases Ht:j<lo+x
     ·exact e6 i j hi cQ Ht
     ·have vX:j=lo+x:=by omega
      subst vX
      by_cases fj:i=lo+x
      ·subst fj;exact KeyOrd.kle_refl _
      ·rw [Mu];exact e6 i (lo+x-1) hi (by omega) (by omega)
    ·rw [show lo+(x+1)-1=lo+x by omega]
     by_cases YS:i=lo+x
     ·subst YS;rfl
     ·rw [Mu];exact he i (by omega) (by omega)
theorem vo(C:fH O key S k0 (model prog w) A E s){lo n aQ:Nat}{Q:Option Nat→SortSt→Prop}(o:Ok S k0 st)(hn:lo+aQ≤(arrOf st).size)(yA:n+1≤aQ)(hs:Ey O key (arrOf st) lo (lo+(n+1)))
  (h:∀m ag,fI st ag lo (lo+aQ)→1≤m→m≤aQ→hV O key (arrOf ag) lo (lo+m)→Q (some m) ag):wpS (model prog w) A E s (descP lo n aQ) Q st:=by
 unfold descP;refine wpS_bind (wpS_lift (wpAny_rule ⟨rfl,?_⟩));refine wpS_bind (Dc C o hn (by omega) yA hs λm lP ag iU OH Fm e6 hq he=>?_)
 dsimp only;have hz:=iU.size;have eD:lo+m≤(arrOf ag).size:=by omega
 by_cases Af:lP>0
 ·rw [if_pos Af]
  have N9:fI ag (setArr ag (mirror (arrOf ag) (lo+m-(lP+1)) (lo+m) ((lo+m-(lo+m-(lP+1))) / 2))) lo (lo+aQ):=fI.mirror (by omega) (by omega) eD
  refine wpS_bind (qf (vy C (o.step (iU.trans N9)) (by rw [N9.size];omega) (by omega) Fm ?_ λm' b8 hS=>h m' b8 ((iU.trans N9).trans hS)))
  intro i j hi cQ hj;show O.kle (ky O key (mirror (arrOf ag) _ _ _) j) (ky O key (mirror (arrOf ag) _ _ _) i);rw [fk eD he,fk eD he];exact e6 i j hi cQ hj
 ·rw [if_neg Af]
  exact vy C (o.step iU) (by omega) (by omega) Fm e6 λm' b8 hS=>h m' b8 (iU.trans hS)
theorem wpS_countRun(C:fH O key S k0 (model prog w) A E s){lo aQ:Nat}{Q:Option Nat→SortSt→Prop}(o:Ok S k0 st)(hn:lo+aQ≤(arrOf st).size)(h1:1≤aQ)
  (h:∀m ag,fI st ag lo (lo+aQ)→1≤m→m≤aQ→hV O key (arrOf ag) lo (lo+m)→Q (some m) ag):wpS (model prog w) A E s (countRun' lo aQ) Q st:=by
 rw [vT];refine wpS_bind (xM C o hn (aU 1) h1 (λi j hi cQ hj=>by have:i=j:=(by omega);subst this;exact KeyOrd.kle_refl _) λn Ke vY Kj Y6=>?_)
 dsimp only
 by_cases yA:n=aQ
 ·rw [if_pos (by simpa using yA)]
  exact wpS_pure (h n st (.refl _ _ _) Ke vY Kj)
 ·rw [if_neg (by simpa using yA)]
  have br:O.klt (ky O key (arrOf st) (lo+n)) (ky O key (arrOf st) (lo+n-1)):=Y6.resolve_left yA
  by_cases Sq:n>1
  ·rw [if_pos Sq]
   refine wpS_bind (mG C o (by omega) (by omega) ?_)
   cases OQ:O.blt (ky O key (arrOf st) lo) (ky O key (arrOf st) (lo+n-1))
   case true=>
    simp only [if_true];exact wpS_pure (h n st (.refl _ _ _) Ke vY Kj)
   case false=>
    simp only [eB,if_false];have eD:lo+n≤(arrOf st).size:=by omega
    have g6:∀k,lo≤k→k<lo+n→ky O key (arrOf st) k=ky O key (arrOf st) (lo+n-1):=by
     intro k sD hk;have a1:=Kj lo k (by omega) sD hk
     have a2:=Kj k (lo+n-1) sD (by omega) (by omega)
     exact KeyOrd.kle_antisymm a2 (KeyOrd.kle_trans OQ a1)
    have hB:fI st (setArr st (mirror (arrOf st) lo (lo+n) ((lo+n-lo) / 2))) lo (lo+aQ):=fI.mirror (aU _) (by omega) eD
    refine wpS_bind (qf (vo C (o.step hB) (by rw [hB.size];omega) (by omega) ?_ λm' b8 hS=>h m' b8 (hB.trans hS)))
    intro i j hi cQ hj;show O.kle (ky O key (mirror (arrOf st) _ _ _) j) (ky O key (mirror (arrOf st) _ _ _) i);rw [fk eD g6,fk eD g6]
    by_cases YU:j<lo+n
    ·rw [g6 i hi (by omega),g6 j (by omega) YU];exact KeyOrd.kle_refl _
    ·have vX:j=lo+n:=by omega
     subst vX
     by_cases fj:i=lo+n
     ·subst fj;exact KeyOrd.kle_refl _
     ·rw [g6 i hi (by omega)];exact KeyOrd.kle_of_klt br
  ·rw [if_neg Sq]
   have SH:n=1:=by omega
   subst SH;refine vo C o hn (by omega) ?_ h
   intro i j hi cQ hj
   by_cases fj:i=j
   ·subst fj;exact KeyOrd.kle_refl _
   ·have YN:i=lo:=by omega
    have YT:j=lo+1:=by omega
    subst YN;subst YT;exact KeyOrd.kle_of_klt br
end
section lists
variable (O:KeyOrd) (key:Keyed→O.α)
def LE(x y:Keyed):Prop:=O.kle (key x) (key y)
structure MI (l o ra rb:List Keyed):Prop where
 perm:(o++(ra++rb)).Perm l
 so:o.Pairwise (LE O key)
 sa:ra.Pairwise (LE O key)
 sb:rb.Pairwise (LE O key)
 le:∀x∈o,∀y∈ra++rb,LE O key x y
def Res(l r:List Keyed):Prop:=r.Perm l∧r.Pairwise (LE O key)
variable {O key}
theorem MI.ke{l o xs ra rb:List Keyed}(m:MI O key l o (xs++ra) rb)(h:∀x∈xs,∀y∈rb,LE O key x y):MI O key l (o++xs) ra rb:=by
 obtain ⟨sx,sr,sxr⟩:=zo.mp m.sa;refine ⟨by simpa [vH] using m.perm,zo.mpr ⟨m.so,sx,λx hx y hy=>m.le x hx y (by simp [hy])⟩,sr,m.sb,λx hx y hy=>?_⟩
 rcases cE.mp hx with z|z
 ·refine m.le x z y ?_
  rcases cE.mp hy with u|u<;>simp [u]
 ·rcases cE.mp hy with u|u
  ·exact sxr x z y u
  ·exact h x z y u
theorem MI.swap{l o ra rb:List Keyed}(m:MI O key l o ra rb):MI O key l o rb ra:=
 ⟨(List.Perm.append_left o Bj).trans m.perm,m.so,m.sb,m.sa,λx hx y hy=>m.le x hx y (by rcases cE.mp hy with u|u<;>simp [u])⟩
theorem MI.kg{l o xs ra rb:List Keyed}(m:MI O key l o ra (xs++rb))(h:∀x∈xs,∀y∈ra,LE O key x y):MI O key l (o++xs) ra rb:=(m.swap.ke h).swap
theorem MI.zX{l o ra:List Keyed}(m:MI O key l o ra []):Res O key l (o++ra):=
 ⟨by simpa using m.perm,zo.mpr ⟨m.so,m.sa,λx hx y hy=>m.le x hx y (by simp [hy])⟩⟩
theorem MI.yH{l o ra rb:List Keyed}(m:MI O key l o ra rb)(h:∀y∈rb,∀x∈ra,LE O key y x):Res O key l (o++rb++ra):=by
 have m':MI O key l o ra (rb++ []):=by rw [jV];exact m
 exact (m'.kg h).zX
end lists
def yM(a b:Array Keyed)(mg ac bc ia:Nat)(out:Array Keyed)(ib:Nat):StateT SortSt Sem (ForInStep (Option (Array Keyed)×Array Keyed×Nat×Nat×Nat×Nat×Nat)):=do
 let __do_lift ←elem' a ia
 let out:Array Keyed:=out.push __do_lift
 let ia:Nat:=ia+1
 if (ia+1==a.size)=true then pure (ForInStep.done (some (out++b.extract ib b.size++a.extract ia a.size),out,ia,ib,mg,ac,bc))
 else if (decide (ac<7)&&decide (bc<7))=true then pure (ForInStep.done (none,out,ia,ib,mg,ac,bc))
 else pure (ForInStep.yield (none,out,ia,ib,mg,ac,bc))
def qL(a b:Array Keyed)(mg ac bc ib:Nat)(out:Array Keyed)(ia:Nat):StateT SortSt Sem (ForInStep (Option (Array Keyed)×Array Keyed×Nat×Nat×Nat×Nat×Nat)):=do
 let __do_lift ←elem' b ib
 let out:Array Keyed:=out.push __do_lift
 let ib:Nat:=ib+1
 if (ib==b.size)=true then pure (ForInStep.done (some (out++a.extract ia a.size++b.extract ib b.size),out,ia,ib,mg,ac,bc))
 else do
  let __do_lift ←elem' a ia
  let __x ←dP true __do_lift b ib (b.size-ib) 0
  match __x with
  |some k=>
   if k>0 then
    if (ib+k==b.size)=true then pure (ForInStep.done (some (out++b.extract ib (ib+k)++a.extract ia a.size++b.extract (ib+k) b.size),out++b.extract ib (ib+k),ia,ib+k,mg,ac,k))
    else yM a b mg ac k ia (out++b.extract ib (ib+k)) (ib+k)
   else yM a b mg ac k ia out ib
  |_=>pure (ForInStep.done (some (out++a.extract ia a.size++b.extract ib b.size),out,ia,ib,mg,ac,bc))
def ou(a b:Array Keyed)(bc ac ia ib:Nat)(out:Array Keyed)(mg:Nat):StateT SortSt Sem (ForInStep (Option (Array Keyed)×Array Keyed×Nat×Nat×Nat×Nat×Nat)):=do
 setMinGallop' mg
 let __do_lift ←elem' b ib
 let __x ←dP false __do_lift a ia (a.size-ia) 0
 match __x with
 |some k=>
  if k>0 then
   if (ia+k+1==a.size)=true then pure (ForInStep.done (some (out++a.extract ia (ia+k)++b.extract ib b.size++a.extract (ia+k) a.size),out++a.extract ia (ia+k),ia+k,ib,mg,k,bc))
   else if (ia+k==a.size)=true then pure (ForInStep.done (some (out++a.extract ia (ia+k)++a.extract (ia+k) a.size++b.extract ib b.size),out++a.extract ia (ia+k),ia+k,ib,mg,k,bc))
   else qL a b mg k bc ib (out++a.extract ia (ia+k)) (ia+k)
  else qL a b mg k bc ib out ia
 |_=>pure (ForInStep.done (some (out++a.extract ia a.size++b.extract ib b.size),out,ia,ib,mg,ac,bc))
def yO(a b:Array Keyed)(__s:Option (Array Keyed)×Array Keyed×Nat×Nat×Nat×Nat×Nat):StateT SortSt Sem (ForInStep (Option (Array Keyed)×Array Keyed×Nat×Nat×Nat×Nat×Nat)):=
 if __s.2.2.2.2.1>1 then ou a b __s.2.2.2.2.2.2 __s.2.2.2.2.2.1 __s.2.2.1 __s.2.2.2.1 __s.2.1 (__s.2.2.2.2.1-1) else ou a b __s.2.2.2.2.2.2 __s.2.2.2.2.2.1 __s.2.2.1 __s.2.2.2.1 __s.2.1 __s.2.2.2.2.1
def yN(a b:Array Keyed)(mg:Nat)(__s:Option (Array Keyed)×Array Keyed×Nat×Nat×Nat×Nat):StateT SortSt Sem (ForInStep (Option (Array Keyed)×Array Keyed×Nat×Nat×Nat×Nat)):=do
 let y ←elem' b __s.2.2.2.1
 let x ←elem' a __s.2.2.1
 let __x ←lt' y x
 match __x with
 |some Bq=>
  if Bq=true then do
   let y ←elem' b __s.2.2.2.1
   if (__s.2.2.2.1+1==b.size)=true then pure (ForInStep.done (some (__s.2.1.push y++a.extract __s.2.2.1 a.size++b.extract (__s.2.2.2.1+1) b.size),__s.2.1.push y,__s.2.2.1,__s.2.2.2.1+1,0,__s.2.2.2.2.2+1))
   else if __s.2.2.2.2.2+1≥mg then pure (ForInStep.done (none,__s.2.1.push y,__s.2.2.1,__s.2.2.2.1+1,0,__s.2.2.2.2.2+1))
   else pure (ForInStep.yield (none,__s.2.1.push y,__s.2.2.1,__s.2.2.2.1+1,0,__s.2.2.2.2.2+1))
  else do
   let x ←elem' a __s.2.2.1
   if (__s.2.2.1+1+1==a.size)=true then pure (ForInStep.done (some (__s.2.1.push x++b.extract __s.2.2.2.1 b.size++a.extract (__s.2.2.1+1) a.size),__s.2.1.push x,__s.2.2.1+1,__s.2.2.2.1,__s.2.2.2.2.1+1,0))
   else if __s.2.2.2.2.1+1≥mg then pure (ForInStep.done (none,__s.2.1.push x,__s.2.2.1+1,__s.2.2.2.1,__s.2.2.2.2.1+1,0))
   else pure (ForInStep.yield (none,__s.2.1.push x,__s.2.2.1+1,__s.2.2.2.1,__s.2.2.2.2.1+1,0))
 |_=>pure (ForInStep.done (some (__s.2.1++a.extract __s.2.2.1 a.size++b.extract __s.2.2.2.1 b.size),__s.2.1,__s.2.2.1,__s.2.2.2.1,__s.2.2.2.2.1,__s.2.2.2.2.2))
def pK(a b:Array Keyed)(__s:Option (Array Keyed)×Array Keyed×Nat×Nat×Nat):StateT SortSt Sem (ForInStep (Option (Array Keyed)×Array Keyed×Nat×Nat×Nat)):=do
 let __t ←forIn [0:a.size+b.size] (none,__s.2.1,__s.2.2.1,__s.2.2.2.1,0,0) λ_ c=>yN a b __s.2.2.2.2 c
 match __t.1 with
 |some r=>pure (ForInStep.done (some r,__t.2.1,__t.2.2.1,__t.2.2.2.1,__s.2.2.2.2))
 |none=>do
  liftM (rule "list.sort.gallop")
  let __u ←forIn [0:a.size+b.size] (none,__t.2.1,__t.2.2.1,__t.2.2.2.1,__s.2.2.2.2+1,__t.2.2.2.2.1,__t.2.2.2.2.2) λ_ c=>yO a b c
  match __u.1 with
  |some r=>pure (ForInStep.done (some r,__u.2.1,__u.2.2.1,__u.2.2.2.1,__u.2.2.2.2.1))
  |none=>do
   setMinGallop' (__u.2.2.2.2.1+1)
   pure (ForInStep.yield (none,__u.2.1,__u.2.2.1,__u.2.2.2.1,__u.2.2.2.2.1+1))
theorem cx{α β:Type}{m m':StateT SortSt Sem α}{f f':α→StateT SortSt Sem β}(h:m=m')(g:∀x,f x=f' x):m>>=f=m'>>=f':=by rw [h,show f=f' from funext g]
theorem yt{β:Type}{n:Nat}{c0:β}{f f':Nat→β→StateT SortSt Sem (ForInStep β)}(h:∀i c,f i c=f' i c):forIn [0:n] c0 f=forIn [0:n] c0 f':=by rw [show f=f' from funext λi=>funext (h i)]
theorem dZ{α:Type}{c:Prop} [Decidable c] {x y x' y':α} (h:c→x=x') (g:¬c→y=y'):(if c then x else y)=if c then x' else y':=by
 by_cases e:c
 ·rw [if_pos e,if_pos e];exact h e
 ·rw [if_neg e,if_neg e];exact g e
theorem wc(a b:Array Keyed):mX a b=(do
 rule "list.sort.merge-lo"
 let total:=a.size+b.size
 let done (out:Array Keyed) (ia ib:Nat):=out++a.extract ia a.size++b.extract ib b.size
 let pG (out:Array Keyed) (ia ib:Nat):=out++b.extract ib b.size++a.extract ia a.size
 let mut out:Array Keyed:= #[←elem' b 0]
 let mut ia:=0
 let mut ib:=1
 if ib==b.size then return done out ia ib
 if ia+1==a.size then return pG out ia ib
 let mut minGallop:=gallopOf (←get)
 for _ in [0:total] do
  let mut acount:=0
  let mut bcount:=0
  for _ in [0:total] do
   let some Bq ←lt' (←elem' b ib) (←elem' a ia) |return done out ia ib
   if Bq then
    out:=out.push (←elem' b ib);ib:=ib+1;bcount:=bcount+1;acount:=0
    if ib==b.size then return done out ia ib
    if bcount≥minGallop then break
   else
    out:=out.push (←elem' a ia);ia:=ia+1;acount:=acount+1;bcount:=0
    if ia+1==a.size then return pG out ia ib
    if acount≥minGallop then break
  rule "list.sort.gallop"
  minGallop:=minGallop+1
  for _ in [0:total] do
   if minGallop>1 then minGallop:=minGallop-1
   setMinGallop' minGallop
   let some k ←dP false (←elem' b ib) a ia (a.size-ia) 0|return done out ia ib
   acount:=k
   if k>0 then
    out:=out++a.extract ia (ia+k);ia:=ia+k
    if ia+1==a.size then return pG out ia ib
    if ia==a.size then return done out ia ib
   out:=out.push (←elem' b ib);ib:=ib+1
   if ib==b.size then return done out ia ib
   let some k ←dP true (←elem' a ia) b ib (b.size-ib) 0|return done out ia ib
   bcount:=k
   if k>0 then
    out:=out++b.extract ib (ib+k);ib:=ib+k
    if ib==b.size then return done out ia ib
   out:=out.push (←elem' a ia);ia:=ia+1
   if ia+1==a.size then return pG out ia ib
   if acount<7&&bcount<7 then break
  minGallop:=minGallop+1
  setMinGallop' minGallop
 unsupported "internal:list.sort.merge-bound"):=rfl
theorem yS(a b:Array Keyed):mX a b=(do
 liftM (rule "list.sort.merge-lo")
 let y ←elem' b 0
 if (1==b.size)=true then pure (#[y]++a.extract 0 a.size++b.extract 1 b.size)
 else if (0+1==a.size)=true then pure (#[y]++b.extract 1 b.size++a.extract 0 a.size)
 else do
  let __do_lift ←get
  let __s ←forIn [0:a.size+b.size] (none, #[y],0,1,gallopOf __do_lift) λ_ c=>pK a b c
  match __s.1 with
  |some r=>pure r
  |none=>liftM (unsupported (α:=Array Keyed) "internal:list.sort.merge-bound")):=by
 rw [wc];dsimp only;refine cx rfl λ_=>cx rfl λy=>?_;refine congrArg (ite _ _) (congrArg (ite _ _) ?_);refine cx rfl λg=>cx (yt λ_ c=>?_) λu=>?_
 ·unfold pK
  refine cx (yt λ_ t=>?_) λt=>?_
  ·unfold yN
   refine cx rfl λ_=>cx rfl λ_=>cx rfl λz=>?_;cases z<;>rfl
  ·obtain ⟨t1,t2⟩:=t
   cases t1 with
   |some r=>rfl
   |none=>
    dsimp only;refine cx rfl λ_=>cx (yt λ_ u=>?_) λu=>?_
    ·unfold yO
     have jp:∀mg,ou a b u.2.2.2.2.2.2 u.2.2.2.2.2.1 u.2.2.1 u.2.2.2.1 u.2.1 mg=ou a b u.2.2.2.2.2.2 u.2.2.2.2.2.1 u.2.2.1 u.2.2.2.1 u.2.1 mg:=λ_=>rfl;refine dZ (λ_=>?_) (λ_=>?_)
     all_goals
      unfold ou;refine cx rfl λ_=>cx rfl λ_=>cx rfl λz=>?_;cases z with
      |none=>rfl
      |some k=>
       dsimp only;refine dZ (λ_=>?_) (λ_=>?_)
       ·refine dZ (λ_=>rfl) (λ_=>dZ (λ_=>rfl) (λ_=>?_))
        unfold qL;refine cx rfl λ_=>dZ (λ_=>rfl) (λ_=>cx rfl λ_=>cx rfl λz=>?_);cases z with
        |none=>rfl
        |some k=>rfl
       ·unfold qL
        refine cx rfl λ_=>dZ (λ_=>rfl) (λ_=>cx rfl λ_=>cx rfl λz=>?_);cases z with
        |none=>rfl
        |some k=>rfl
    ·obtain ⟨u1,u2⟩:=u
     cases u1<;>rfl
 ·obtain ⟨u1,u2⟩:=u
  cases u1<;>rfl
structure GS (st ag:SortSt):Prop where
 arr:arrOf ag=arrOf st
 kind:kindOf ag=kindOf st
 failed:failedOf ag=failedOf st
 pend:pendingOf ag=pendingOf st
theorem GS.refl(st:SortSt):GS st st:=⟨rfl,rfl,rfl,rfl⟩
theorem GS.trans{a b c:SortSt}(x:GS a b)(y:GS b c):GS a c:=⟨y.arr.trans x.arr,y.kind.trans x.kind,y.failed.trans x.failed,y.pend.trans x.pend⟩
theorem p8(g:Nat):setMinGallop' g=modify λs=>SortSt.mk' (kindOf s) (arrOf s) (pendingOf s) g (failedOf s):=rfl
theorem ext_toList(xs:Array Keyed)(i j:Nat):(xs.extract i j).toList=(xs.toList.drop i).take (j-i):=by
 rw [Array.toList_extract]
theorem jE(xs:Array Keyed)(i:Nat):(xs.extract i xs.size).toList=xs.toList.drop i:=by
 rw [ext_toList,nV (by simp)]
theorem drop_cons{xs:Array Keyed}{i:Nat}{x:Keyed}(h:xs[i]? =some x):xs.toList.drop i=x::xs.toList.drop (i+1):=by
 have h':xs.toList[i]? =some x:=by rw [←h];simp
 obtain ⟨br,e⟩:=b9.mp h';rw [rY br,e]
theorem lu(l:List Keyed)(i k:Nat):l.drop i=(l.drop i).take k++l.drop (i+k):=by
 rw [←List.drop_drop,jl]
theorem dg{l:List Keyed}{i k:Nat}{x:Keyed}(h:x∈(l.drop i).take k):∃j,j<k∧i+j<l.length∧l[i+j]? =some x:=by
 obtain ⟨j,hj⟩:=f7 h;rw [zq] at hj
 split at hj
 ·rename_i c
  rw [xT] at hj;exact ⟨j,c,(b9.mp hj).1,hj⟩
 ·cases hj
theorem fv{l:List Keyed}{i:Nat}{x:Keyed}(h:x∈l.drop i):∃j,i+j<l.length∧l[i+j]? =some x:=by
 obtain ⟨j,hj⟩:=f7 h;rw [xT] at hj;exact ⟨j,(b9.mp hj).1,hj⟩
section
variable {O:KeyOrd} {key:Keyed→O.α} {S:Keyed→Prop} {k0:SortKind} {M:Model} {A:Around} {E:Value→Shared→Prop} {s:Shared} {st bh:SortSt}
theorem nj{g:Nat}{Q:Unit→SortSt→Prop}(h:∀ag,GS st ag→Q () ag):wpS M A E s (setMinGallop' g) Q st:=by
 rw [p8];exact wpS_modify (h _ ⟨rfl,rfl,rfl,rfl⟩)
structure kW (O:KeyOrd) (key:Keyed→O.α) (S:Keyed→Prop) (a b:Array Keyed):Prop where
 ma:∀x∈a.toList,S x
 mb:∀x∈b.toList,S x
 sa:a.toList.Pairwise (LE O key)
 sb:b.toList.Pairwise (LE O key)
 na:1≤a.size
 nb:1≤b.size
 first:∀y,b[0]? =some y→∀x∈a.toList,LE O key y x
 last:∀x,a[a.size-1]? =some x→∀y∈b.toList,LE O key y x
theorem kW.yH{a b:Array Keyed}(T:kW O key S a b){ia ib:Nat}(h:ia+1=a.size):∀y∈b.toList.drop ib,∀x∈a.toList.drop ia,LE O key y x:=λy hy x hx=>by
 obtain ⟨j,hj,e⟩:=fv hx;rw [bX] at hj
 have:ia+j=a.size-1:=by omega
 rw [this] at e;exact T.last x (by rw [←e];simp) y (List.mem_of_mem_drop hy)
theorem e8{l:List Keyed}(h:l.Pairwise (LE O key)){i j:Nat}{x y:Keyed}(cQ:i≤j)(hx:l[i]? =some x)(hy:l[j]? =some y):LE O key x y:=by
 by_cases e:i=j
 ·subst e
  rw [hx] at hy;cases hy;exact KeyOrd.kle_refl _
 ·obtain ⟨h1,e1⟩:=b9.mp hx
  obtain ⟨h2,e2⟩:=b9.mp hy;rw [←e1,←e2];exact vE.mp h i j h1 h2 (by omega)
theorem nh{xs:Array Keyed}(m:∀x∈xs.toList,S x){i n:Nat}(h:i+n≤xs.size):Seg S xs i n (λj=>xs[i+j]?.getD (.none, .none)):=
 ⟨λj hj=>by
  have:i+j<xs.size:=by omega
  rw [getElem?_pos xs (i+j) this];rfl,λj hj=>by
  have:i+j<xs.size:=by omega
  rw [getElem?_pos xs (i+j) this];exact m _ (by simp)⟩
theorem aW{xs:Array Keyed}{i:Nat}(h:i<xs.size):∃x,xs[i]? =some x∧x∈xs.toList∧xs.toList[i]? =some x:=by
 refine ⟨xs[i],getElem?_pos xs i h,by simp,?_⟩
 rw [eu];exact getElem?_pos xs i h
theorem jJ{xs:Array Keyed}{i:Nat}{x:Keyed}(h:xs[i]? =some x):xs.toList[i]? =some x:=by rw [eu];exact h
theorem iX{xs:Array Keyed}{i:Nat}{x:Keyed}(h:xs.toList[i]? =some x):xs[i]? =some x:=by rw [←eu];exact h
structure IV (O:KeyOrd) (key:Keyed→O.α) (a b out:Array Keyed) (ia ib:Nat):Prop where
 mi:MI O key (a.toList++b.toList) out.toList (a.toList.drop ia) (b.toList.drop ib)
 ha:ia<a.size
 hb:ib<b.size
theorem IV.qS{a b out:Array Keyed}{ia ib:Nat}{y:Keyed}(v:MI O key (a.toList++b.toList) out.toList (a.toList.drop ia) (b.toList.drop ib))(hy:b[ib]? =some y)(h:∀x∈a.toList.drop ia,LE O key y x):
  MI O key (a.toList++b.toList) (out.push y).toList (a.toList.drop ia) (b.toList.drop (ib+1)):=by
 rw [drop_cons hy] at v;rw [xW];exact MI.kg (xs:= [y]) v λx hx=>by rw [iS.mp hx];exact h
theorem IV.qR{a b out:Array Keyed}{ia ib:Nat}{x:Keyed}(v:MI O key (a.toList++b.toList) out.toList (a.toList.drop ia) (b.toList.drop ib))(hx:a[ia]? =some x)(h:∀y∈b.toList.drop ib,LE O key x y):
  MI O key (a.toList++b.toList) (out.push x).toList (a.toList.drop (ia+1)) (b.toList.drop ib):=by
 rw [drop_cons hx] at v;rw [xW];exact MI.ke (xs:= [x]) v λx hx=>by rw [iS.mp hx];exact h
theorem IV.kg{a b out:Array Keyed}{ia ib k:Nat}(v:MI O key (a.toList++b.toList) out.toList (a.toList.drop ia) (b.toList.drop ib))(h:∀y∈(b.toList.drop ib).take k,∀x∈a.toList.drop ia,LE O key y x):
  MI O key (a.toList++b.toList) (out++b.extract ib (ib+k)).toList (a.toList.drop ia) (b.toList.drop (ib+k)):=by
 rw [lu b.toList ib k] at v;rw [hE,ext_toList,show ib+k-ib=k by omega]
 exact MI.kg v h
theorem IV.ke{a b out:Array Keyed}{ia ib k:Nat}(v:MI O key (a.toList++b.toList) out.toList (a.toList.drop ia) (b.toList.drop ib))(h:∀x∈(a.toList.drop ia).take k,∀y∈b.toList.drop ib,LE O key x y):
  MI O key (a.toList++b.toList) (out++a.extract ia (ia+k)).toList (a.toList.drop (ia+k)) (b.toList.drop ib):=by
 rw [lu a.toList ia k] at v;rw [hE,ext_toList,show ia+k-ia=k by omega]
 exact MI.ke v h
theorem IV.qy{a b out:Array Keyed}{ia ib:Nat}(v:MI O key (a.toList++b.toList) out.toList (a.toList.drop ia) (b.toList.drop ib))(h:ib=b.size):Res O key (a.toList++b.toList) (out++a.extract ia a.size++b.extract ib b.size).toList:=by
 have e:b.toList.drop ib= []:=vG (by rw [bX];omega)
 rw [hE,hE,jE,jE,e,jV];rw [e] at v;exact v.zX
theorem IV.qx{a b out:Array Keyed}{ia ib:Nat}(v:MI O key (a.toList++b.toList) out.toList (a.toList.drop ia) (b.toList.drop ib))(h:ia=a.size):Res O key (a.toList++b.toList) (out++a.extract ia a.size++b.extract ib b.size).toList:=by
 have e:a.toList.drop ia= []:=vG (by rw [bX];omega)
 rw [hE,hE,jE,jE,e,jV];rw [e] at v;exact v.swap.zX
theorem IV.last{a b out:Array Keyed}(T:kW O key S a b){ia ib:Nat}(v:MI O key (a.toList++b.toList) out.toList (a.toList.drop ia) (b.toList.drop ib))(h:ia+1=a.size):Res O key (a.toList++b.toList) (out++b.extract ib b.size++a.extract ia a.size).toList:=by
 rw [hE,hE,jE,jE];exact v.yH (T.yH h)
end
section
variable {O:KeyOrd} {key:Keyed→O.α} {S:Keyed→Prop} {k0:SortKind} {M:Model} {A:Around} {E:Value→Shared→Prop} {s:Shared} {st bh:SortSt} {a b:Array Keyed}
def Inv(O:KeyOrd)(key:Keyed→O.α)(a b:Array Keyed)(n:Nat)(out:Array Keyed)(ia ib:Nat):Prop:=MI O key (a.toList++b.toList) out.toList (a.toList.drop ia) (b.toList.drop ib)∧ia+1<a.size∧ib<b.size∧n≤ia+ib
def Fin{ρ:Type}(O:KeyOrd)(key:Keyed→O.α)(a b:Array Keyed)(n:Nat)(c:Option (Array Keyed)×Array Keyed×Nat×Nat×ρ):Prop:=
 (∃r,c.1=some r∧Res O key (a.toList++b.toList) r.toList)∨(c.1=none∧Inv O key a b n c.2.1 c.2.2.1 c.2.2.2.1)
def Out{ρ:Type}(O:KeyOrd)(key:Keyed→O.α)(a b:Array Keyed)(n:Nat)(r:ForInStep (Option (Array Keyed)×Array Keyed×Nat×Nat×ρ)):Prop:=match r with
 | .done c=>Fin O key a b n c
 | .yield c=>c.1=none∧Inv O key a b n c.2.1 c.2.2.1 c.2.2.2.1
def Qc{ρ:Type}(O:KeyOrd)(key:Keyed→O.α)(a b:Array Keyed)(n:Nat)(r:ForInStep (Option (Array Keyed)×Array Keyed×Nat×Nat×ρ)):Prop:=match r with
 | .done c=>∃r,c.1=some r∧Res O key (a.toList++b.toList) r.toList
 | .yield c=>c.1=none∧Inv O key a b n c.2.1 c.2.2.1 c.2.2.2.1
theorem vx{n mg ac bc ia ib:Nat}{out:Array Keyed}(T:kW O key S a b)(g:GS bh st)(v:MI O key (a.toList++b.toList) out.toList (a.toList.drop ia) (b.toList.drop ib))(ha:ia+1<a.size)(hb:ib<b.size)(hn:n≤ia+ib)
  (hx:∀x,a[ia]? =some x→∀y∈b.toList.drop ib,LE O key x y):wpS M A E s (yM a b mg ac bc ia out ib) (λr ag=>GS bh ag∧Out O key a b n r) st:=by
 unfold yM;obtain ⟨x,ex,mx,_⟩:=aW (xs:=a) (i:=ia) (by omega)
 refine wpS_bind (aR ex ?_);have v':=IV.qR v ex (hx x ex);dsimp only
 by_cases h1:ia+1+1=a.size
 ·rw [if_pos (by simpa using h1)]
  exact wpS_pure ⟨g, .inl ⟨_,rfl,IV.last T v' h1⟩⟩
 ·rw [if_neg (by simpa using h1)]
  have iv:Inv O key a b n (out.push x) (ia+1) ib:=⟨v',by omega,hb,by omega⟩
  by_cases h2:(decide (ac<7)&&decide (bc<7))=true
  ·rw [if_pos h2]
   exact wpS_pure ⟨g, .inr ⟨rfl,iv⟩⟩
  ·rw [if_neg h2]
   exact wpS_pure ⟨g,rfl,iv⟩
theorem vw(C:fH O key S k0 M A E s)(hk:kindOf st=k0){n mg ac bc ia ib:Nat}{out:Array Keyed}(T:kW O key S a b)(g:GS bh st)(v:MI O key (a.toList++b.toList) out.toList (a.toList.drop ia) (b.toList.drop ib))(ha:ia+1<a.size)(hb:ib<b.size)(hn:n≤ia+ib)
  (hy:∀y,b[ib]? =some y→∀x∈a.toList.drop ia,LE O key y x):wpS M A E s (qL a b mg ac bc ib out ia) (λr ag=>GS bh ag∧Out O key a b n r) st:=by
 unfold qL;obtain ⟨y,ey,my,_⟩:=aW (xs:=b) (i:=ib) hb;refine wpS_bind (aR ey ?_);have v':=IV.qS v ey (hy y ey);dsimp only
 by_cases h1:ib+1=b.size
 ·rw [if_pos (by simpa using h1)]
  exact wpS_pure ⟨g, .inl ⟨_,rfl,IV.qy v' h1⟩⟩
 ·rw [if_neg (by simpa using h1)]
  obtain ⟨x,ex,mx,lx⟩:=aW (xs:=a) (i:=ia) (by omega)
  refine wpS_bind (aR ex ?_)
  have xle:∀z∈a.toList.drop ia,LE O key x z:=λz hz=>by
   obtain ⟨j,_,ej⟩:=fv hz;exact e8 T.sa (by omega) lx ej
  have zE:∀j z,ib+1+j<b.size→b.toList[ib+1+j]? =some z→b[ib+1+j]?.getD (Value.none,Value.none)=z:=λj z hj e=>by rw [iX e];rfl
  refine wpS_bind (fF C (nh T.mb (i:=ib+1) (n:=b.size-(ib+1)) (by omega)) (T.ma x mx) hk (by omega) (λi j cQ hj h=>?_) λp hp pt pf=>?_)
  ·obtain ⟨yi,e1,_,l1⟩:=aW (xs:=b) (i:=ib+1+i) (by omega)
   obtain ⟨yj,e2,_,l2⟩:=aW (xs:=b) (i:=ib+1+j) (by omega)
   unfold cP at h ⊢;rw [if_pos rfl] at h ⊢;rw [e2] at h;rw [e1];exact KeyOrd.klt_of_kle_of_klt (e8 T.sb (by omega) l1 l2) h
  ·have lo:∀y∈(b.toList.drop (ib+1)).take p,∀x∈a.toList.drop ia,LE O key y x:=λz hz u hu=>by
    obtain ⟨j,hj,hl,ej⟩:=dg hz;rw [bX] at hl
    have:=pt j hj
    unfold cP at this;rw [if_pos rfl,zE j z hl ej] at this;exact KeyOrd.kle_trans (KeyOrd.kle_of_klt this) (xle u hu)
   have hi:∀x',a[ia]? =some x'→∀y∈b.toList.drop (ib+1+p),LE O key x' y:=λx' nz z hz=>by
    rw [ex] at nz;cases nz;obtain ⟨j,hl,ej⟩:=fv hz;rw [bX] at hl
    have:=pf (p+j) (by omega) (by omega)
    unfold cP at this;rw [if_pos rfl,zE (p+j) z (by omega) (by rw [←ej];congr 1;omega)] at this
    exact this
   dsimp only
   by_cases ui:p>0
   ·rw [if_pos ui]
    have v2:=IV.kg v' lo
    by_cases h2:ib+1+p=b.size
    ·rw [if_pos (by simpa using h2)]
     exact wpS_pure ⟨g, .inl ⟨_,rfl,IV.qy v2 h2⟩⟩
    ·rw [if_neg (by simpa using h2)]
     exact vx T g v2 ha (by omega) (by omega) hi
   ·rw [if_neg ui]
    have:p=0:=by omega
    subst this;exact vx T g v' ha (by omega) (by omega) hi
theorem vv(C:fH O key S k0 M A E s)(hk:kindOf st=k0){n mg ac bc ia ib:Nat}{out:Array Keyed}(T:kW O key S a b)(g:GS bh st)(iv:Inv O key a b n out ia ib):wpS M A E s (ou a b bc ac ia ib out mg) (λr ag=>GS bh ag∧Out O key a b n r) st:=by
 obtain ⟨v,ha,hb,hn⟩:=iv;unfold ou;refine wpS_bind (nj λza g1=>?_);have sE:kindOf za=k0:=g1.kind.trans hk;have g':=g.trans g1;obtain ⟨y,ey,my,ly⟩:=aW (xs:=b) (i:=ib) hb;refine wpS_bind (aR ey ?_)
 have yle:∀z∈b.toList.drop ib,LE O key y z:=λz hz=>by
  obtain ⟨j,_,ej⟩:=fv hz;exact e8 T.sb (by omega) ly ej
 have nE:∀j z,ia+j<a.size→a.toList[ia+j]? =some z→a[ia+j]?.getD (Value.none,Value.none)=z:=λj z hj e=>by rw [iX e];rfl
 refine wpS_bind (fF C (nh T.ma (i:=ia) (n:=a.size-ia) (by omega)) (T.mb y my) sE (by omega) (λi j cQ hj h=>?_) λp hp pt pf=>?_)
 ·obtain ⟨xi,e1,_,l1⟩:=aW (xs:=a) (i:=ia+i) (by omega)
  obtain ⟨xj,e2,_,l2⟩:=aW (xs:=a) (i:=ia+j) (by omega)
  unfold cP at h ⊢;rw [if_neg (by decide)] at h ⊢
  rw [e2] at h;rw [e1];have h':O.kle (key xj) (key y):=by unfold KeyOrd.kle;simpa using h
  have:=KeyOrd.kle_trans (e8 T.sa (by omega) l1 l2) h'
  unfold KeyOrd.kle at this;simpa using this
 ·have lo:∀x∈(a.toList.drop ia).take p,∀y∈b.toList.drop ib,LE O key x y:=λz hz u hu=>by
   obtain ⟨j,hj,hl,ej⟩:=dg hz;rw [bX] at hl
   have:=pt j hj
   unfold cP at this;rw [if_neg (by decide),nE j z hl ej] at this
   have h':O.kle (key z) (key y):=by unfold KeyOrd.kle;simpa using this
   exact KeyOrd.kle_trans h' (yle u hu)
  have hi:∀y',b[ib]? =some y'→∀x∈a.toList.drop (ia+p),LE O key y' x:=λy' lE z hz=>by
   rw [ey] at lE;cases lE;obtain ⟨j,hl,ej⟩:=fv hz;rw [bX] at hl
   have:=pf (p+j) (by omega) (by omega)
   unfold cP at this;rw [if_neg (by decide),nE (p+j) z (by omega) (by rw [←ej];congr 1;omega)] at this
   exact KeyOrd.kle_of_klt (show O.blt _ _=true by simpa using this)
  dsimp only
  by_cases ui:p>0
  ·rw [if_pos ui]
   have v2:=IV.ke v lo
   by_cases h2:ia+p+1=a.size
   ·rw [if_pos (by simpa using h2)]
    exact wpS_pure ⟨g', .inl ⟨_,rfl,IV.last T v2 h2⟩⟩
   ·rw [if_neg (by simpa using h2)]
    by_cases h3:ia+p=a.size
    ·rw [if_pos (by simpa using h3)]
     exact wpS_pure ⟨g', .inl ⟨_,rfl,IV.qx v2 h3⟩⟩
    ·rw [if_neg (by simpa using h3)]
     exact vw C sE T g' v2 (by omega) hb (by omega) hi
  ·rw [if_neg ui]
   have:p=0:=by omega
   subst this;exact vw C sE T g' v ha hb hn hi
theorem Dh(C:fH O key S k0 M A E s)(hk:kindOf st=k0){n:Nat}(T:kW O key S a b)(g:GS bh st)(c:Option (Array Keyed)×Array Keyed×Nat×Nat×Nat×Nat×Nat)(iv:Inv O key a b n c.2.1 c.2.2.1 c.2.2.2.1):
  wpS M A E s (yO a b c) (λr ag=>GS bh ag∧Out O key a b n r) st:=by
 unfold yO
 by_cases h:c.2.2.2.2.1>1
 ·rw [if_pos h];exact vv C hk T g iv
 ·rw [if_neg h];exact vv C hk T g iv
theorem Dg(C:fH O key S k0 M A E s)(hk:kindOf st=k0){n mg:Nat}(T:kW O key S a b)(g:GS bh st)(c:Option (Array Keyed)×Array Keyed×Nat×Nat×Nat×Nat)(iv:Inv O key a b n c.2.1 c.2.2.1 c.2.2.2.1):
  wpS M A E s (yN a b mg c) (λr ag=>GS bh ag∧Out O key a b (n+1) r) st:=by
 obtain ⟨c1,out,ia,ib,ac,bc⟩:=c;obtain ⟨v,ha,hb,hn⟩:=iv;dsimp only at v ha hb hn;unfold yN;dsimp only;obtain ⟨y,ey,my,ly⟩:=aW (xs:=b) (i:=ib) hb;obtain ⟨x,ex,mx,lx⟩:=aW (xs:=a) (i:=ia) (by omega)
 refine wpS_bind (aR ey (wpS_bind (aR ex (wpS_bind (C _ _ _ _ (T.mb y my) (T.ma x mx) hk ?_)))));cases e:O.blt (key y) (key x) with
 |true=>
  dsimp only;rw [if_pos rfl];refine wpS_bind (aR ey ?_)
  have v':=IV.qS v ey λz hz=>by
   obtain ⟨j,_,ej⟩:=fv hz;exact KeyOrd.kle_trans (KeyOrd.kle_of_klt e) (e8 T.sa (by omega) lx ej)
  by_cases h1:ib+1=b.size
  ·rw [if_pos (by simpa using h1)]
   exact wpS_pure ⟨g, .inl ⟨_,rfl,IV.qy v' h1⟩⟩
  ·rw [if_neg (by simpa using h1)]
   have iv:Inv O key a b (n+1) (out.push y) ia (ib+1):=⟨v',by omega,by omega,by omega⟩
   by_cases h2:bc+1≥mg
   ·rw [if_pos h2];exact wpS_pure ⟨g, .inr ⟨rfl,iv⟩⟩
   ·rw [if_neg h2];exact wpS_pure ⟨g,rfl,iv⟩
 |false=>
  dsimp only;rw [if_neg (by decide)]
  refine wpS_bind (aR ex ?_)
  have v':=IV.qR v ex λz hz=>by
   obtain ⟨j,_,ej⟩:=fv hz;exact KeyOrd.kle_trans e (e8 T.sb (by omega) ly ej)
  by_cases h1:ia+1+1=a.size
  ·rw [if_pos (by simpa using h1)]
   exact wpS_pure ⟨g, .inl ⟨_,rfl,IV.last T v' h1⟩⟩
  ·rw [if_neg (by simpa using h1)]
   have iv:Inv O key a b (n+1) (out.push x) (ia+1) ib:=⟨v',by omega,by omega,by omega⟩
   by_cases h2:ac+1≥mg
   ·rw [if_pos h2];exact wpS_pure ⟨g, .inr ⟨rfl,iv⟩⟩
   ·rw [if_neg h2];exact wpS_pure ⟨g,rfl,iv⟩
theorem Inv.le{n m:Nat}{out:Array Keyed}{ia ib:Nat}(h:Inv O key a b n out ia ib)(hm:m≤n):Inv O key a b m out ia ib:=⟨h.1,h.2.1,h.2.2.1,kU hm h.2.2.2⟩
theorem zh(C:fH O key S k0 M A E s)(hk:kindOf st=k0){n:Nat}(T:kW O key S a b)(g:GS bh st)(sD:kindOf bh=k0)(c:Option (Array Keyed)×Array Keyed×Nat×Nat×Nat)(iv:Inv O key a b n c.2.1 c.2.2.1 c.2.2.2.1):
  wpS M A E s (pK a b c) (λr ag=>GS bh ag∧Qc O key a b (n+1) r) st:=by
 have MA:0<a.size+b.size:=by have:=T.na;omega
 unfold pK;refine wpS_bind (wpS_mono (wpS_forRange (I:=λ(x:Nat)(c':Option (Array Keyed)×Array Keyed×Nat×Nat×Nat×Nat)(ag:SortSt)=>GS bh ag∧c'.1=none∧Inv O key a b (n+min x 1) c'.2.1 c'.2.2.1 c'.2.2.2.1) (Q:=λc' ag=>GS bh ag∧Fin O key a b (n+1) c') ?step ?fin ⟨g,rfl,iv.le (by omega)⟩) ?post)
 case fin=>
  rintro c' ag ⟨g',h1,h2⟩;exact ⟨g', .inr ⟨h1,h2.le (by omega)⟩⟩
 case step=>
  rintro x c' ag _ _ ⟨g',h1,h2⟩;refine wpS_mono (Dg C (g'.kind.trans sD) T g' c' h2) λr b8 ⟨lF,o⟩=>?_;cases r with
  |done d=>
   refine ⟨lF,?_⟩
   rcases o with o| ⟨o1,o2⟩
   ·exact .inl o
   ·exact .inr ⟨o1,o2.le (by omega)⟩
  |yield d=>exact ⟨lF,o.1,o.2.le (by omega)⟩
 case post=>
  rintro ⟨t1,t2⟩ ag ⟨g',o⟩
  rcases o with ⟨r,e,res⟩ | ⟨e,O4⟩
  ·dsimp only at e
   subst e;exact wpS_pure ⟨g',r,rfl,res⟩
  ·dsimp only at e
   subst e;dsimp only;refine wpS_bind (wpS_lift (wpAny_rule ⟨rfl,?_⟩));refine wpS_bind (wpS_mono (wpS_forRange (I:=λ(x:Nat)(c':Option (Array Keyed)×Array Keyed×Nat×Nat×Nat×Nat×Nat)(ag:SortSt)=>GS bh ag∧c'.1=none∧Inv O key a b (n+1) c'.2.1 c'.2.2.1 c'.2.2.2.1) (Q:=λc' ag=>GS bh ag∧Fin O key a b (n+1) c') ?step2 ?fin2 ⟨g',rfl,O4⟩) ?post2)
   case fin2=>
    rintro c' ag ⟨g',h1,h2⟩;exact ⟨g', .inr ⟨h1,h2⟩⟩
   case step2=>
    rintro x c' ag _ _ ⟨g',h1,h2⟩;refine wpS_mono (Dh C (g'.kind.trans sD) T g' c' h2) λr b8 ⟨lF,o⟩=>?_;cases r with
    |done d=>exact ⟨lF,o⟩
    |yield d=>exact ⟨lF,o⟩
   case post2=>
    rintro ⟨u1,u2⟩ ag ⟨g',o⟩
    rcases o with ⟨r,e,res⟩ | ⟨e,HR⟩
    ·dsimp only at e
     subst e;exact wpS_pure ⟨g',r,rfl,res⟩
    ·dsimp only at e
     subst e;refine wpS_bind (nj λza g1=>wpS_pure ⟨g'.trans g1,rfl,HR⟩)
theorem zk(C:fH O key S k0 M A E s)(hk:kindOf st=k0)(T:kW O key S a b){Q:Array Keyed→SortSt→Prop}(q:∀r ag,GS st ag→Res O key (a.toList++b.toList) r.toList→Q r ag):wpS M A E s (mX a b) Q st:=by
 rw [yS];refine wpS_bind (wpS_lift (wpAny_rule ⟨rfl,?_⟩));obtain ⟨y,ey,my,ly⟩:=aW (xs:=b) (i:=0) T.nb;refine wpS_bind (aR ey ?_);have v0:MI O key (a.toList++b.toList) (#[]:Array Keyed).toList (a.toList.drop 0) (b.toList.drop 0):=⟨by simp,by simp,by simpa using T.sa,by simpa using T.sb,by simp⟩
 have v1:=IV.qS v0 ey (by simpa using T.first y ey)
 have e1:(#[]:Array Keyed).push y= #[y]:=rfl;rw [e1] at v1
 by_cases h1:1=b.size
 ·rw [if_pos (by simpa using h1)]
  exact wpS_pure (q _ _ (GS.refl _) (IV.qy v1 h1))
 ·rw [if_neg (by simpa using h1)]
  by_cases h2:0+1=a.size
  ·rw [if_pos (by simpa using h2)]
   exact wpS_pure (q _ _ (GS.refl _) (IV.last T v1 h2))
  ·rw [if_neg (by simpa using h2)]
   refine wpS_bind (wpS_get ?_);have na:=T.na;have nb:=T.nb;refine wpS_bind (wpS_mono (wpS_forRange (I:=λ(x:Nat)(c':Option (Array Keyed)×Array Keyed×Nat×Nat×Nat)(ag:SortSt)=>GS st ag∧c'.1=none∧Inv O key a b (x+1) c'.2.1 c'.2.2.1 c'.2.2.2.1) (Q:=λc' ag=>GS st ag∧∃r,c'.1=some r∧Res O key (a.toList++b.toList) r.toList) ?step ?fin ⟨GS.refl _,rfl,v1,by show 0+1<a.size;omega,by show 1<b.size;omega,by show 0+1≤0+1;omega⟩) ?post)
   case fin=>
    rintro c' ag ⟨g',h1,h2⟩
    have:=h2.2.2.2
    have:=h2.2.1
    have:=h2.2.2.1
    omega
   case step=>
    rintro x c' ag _ _ ⟨g',h1,h2⟩;refine wpS_mono (zh C (g'.kind.trans hk) T g' hk c' h2) λr b8 ⟨lF,o⟩=>?_;cases r with
    |done d=>exact ⟨lF,o⟩
    |yield d=>exact ⟨lF,o⟩
   case post=>
    rintro ⟨c1,c2⟩ ag ⟨g',r,e,res⟩;dsimp only at e;subst e;exact wpS_pure (q r ag g' res)
end
theorem wb(a b:Array Keyed):mW a b=(do
 rule "list.sort.merge-hi"
 let total:=a.size+b.size
 let done (out:Array Keyed) (na nb:Nat):=a.extract 0 na++b.extract 0 nb++out.reverse
 let mR (out:Array Keyed) (na nb:Nat):=b.extract 0 nb++a.extract 0 na++out.reverse
 let mut na:=a.size-1
 let mut nb:=b.size
 let mut out:Array Keyed:= #[←elem' a na]
 if na==0 then return done out na nb
 if nb==1 then return mR out na nb
 let mut minGallop:=gallopOf (←get)
 for _ in [0:total] do
  let mut acount:=0
  let mut bcount:=0
  for _ in [0:total] do
   let some Bp ←lt' (←elem' b (nb-1)) (←elem' a (na-1)) |return done out na nb
   if Bp then
    na:=na-1;out:=out.push (←elem' a na);acount:=acount+1;bcount:=0
    if na==0 then return done out na nb
    if acount≥minGallop then break
   else
    nb:=nb-1;out:=out.push (←elem' b nb);bcount:=bcount+1;acount:=0
    if nb==1 then return mR out na nb
    if bcount≥minGallop then break
  rule "list.sort.gallop"
  minGallop:=minGallop+1
  for _ in [0:total] do
   if minGallop>1 then minGallop:=minGallop-1
   setMinGallop' minGallop
   let some at_ ←dP false (←elem' b (nb-1)) a 0 na (na-1) |return done out na nb
   let k:=na-at_
   acount:=k
   if k>0 then
    out:=out++(a.extract at_ na).reverse;na:=at_
    if na==0 then return done out na nb
   nb:=nb-1;out:=out.push (←elem' b nb)
   if nb==1 then return mR out na nb
   let some at_ ←dP true (←elem' a (na-1)) b 0 nb (nb-1) |return done out na nb
   let k:=nb-at_
   bcount:=k
   if k>0 then
    out:=out++(b.extract at_ nb).reverse;nb:=at_
    if nb==1 then return mR out na nb
    if nb==0 then return done out na nb
   na:=na-1;out:=out.push (←elem' a na)
   if na==0 then return done out na nb
   if acount<7&&bcount<7 then break
  minGallop:=minGallop+1
  setMinGallop' minGallop
 unsupported "internal:list.sort.merge-bound"):=rfl
abbrev S7:=Option (Array Keyed)×Nat×Nat×Array Keyed×Nat×Nat×Nat
abbrev S6:=Option (Array Keyed)×Nat×Nat×Array Keyed×Nat×Nat
abbrev S5:=Option (Array Keyed)×Nat×Nat×Array Keyed×Nat
def gU(a b out:Array Keyed)(na nb:Nat):Array Keyed:=a.extract 0 na++b.extract 0 nb++out.reverse
def mS(a b out:Array Keyed)(na nb:Nat):Array Keyed:=b.extract 0 nb++a.extract 0 na++out.reverse
def yx(a b:Array Keyed)(mg ac bc na:Nat)(out:Array Keyed)(nb:Nat):StateT SortSt Sem (ForInStep S7):=do
 let x ←elem' a (na-1)
 if (na-1==0)=true then pure (ForInStep.done (some (gU a b (out.push x) (na-1) nb),na-1,nb,out.push x,mg,ac,bc))
 else if (decide (ac<7)&&decide (bc<7))=true then pure (ForInStep.done (none,na-1,nb,out.push x,mg,ac,bc))
 else pure (ForInStep.yield (none,na-1,nb,out.push x,mg,ac,bc))
def qC(a b:Array Keyed)(mg ac bc nb:Nat)(out:Array Keyed)(na:Nat):StateT SortSt Sem (ForInStep S7):=do
 let y ←elem' b (nb-1)
 if (nb-1==1)=true then pure (ForInStep.done (some (mS a b (out.push y) na (nb-1)),na,nb-1,out.push y,mg,ac,bc))
 else do
  let x ←elem' a (na-1)
  let __x ←dP true x b 0 (nb-1) (nb-1-1)
  match __x with
  |some p=>
   if nb-1-p>0 then
    if (p==1)=true then pure (ForInStep.done (some (mS a b (out.push y++(b.extract p (nb-1)).reverse) na p),na,p,out.push y++(b.extract p (nb-1)).reverse,mg,ac,nb-1-p))
    else if (p==0)=true then pure (ForInStep.done (some (gU a b (out.push y++(b.extract p (nb-1)).reverse) na p),na,p,out.push y++(b.extract p (nb-1)).reverse,mg,ac,nb-1-p))
    else yx a b mg ac (nb-1-p) na (out.push y++(b.extract p (nb-1)).reverse) p
   else yx a b mg ac (nb-1-p) na (out.push y) (nb-1)
  |_=>pure (ForInStep.done (some (gU a b (out.push y) na (nb-1)),na,nb-1,out.push y,mg,ac,bc))
def uf(a b:Array Keyed)(bc ac na nb:Nat)(out:Array Keyed)(mg:Nat):StateT SortSt Sem (ForInStep S7):=do
 setMinGallop' mg
 let y ←elem' b (nb-1)
 let __x ←dP false y a 0 na (na-1)
 match __x with
 |some p=>
  if na-p>0 then
   if (p==0)=true then pure (ForInStep.done (some (gU a b (out++(a.extract p na).reverse) p nb),p,nb,out++(a.extract p na).reverse,mg,na-p,bc))
   else qC a b mg (na-p) bc nb (out++(a.extract p na).reverse) p
  else qC a b mg (na-p) bc nb out na
 |_=>pure (ForInStep.done (some (gU a b out na nb),na,nb,out,mg,ac,bc))
def yz(a b:Array Keyed)(c:S7):StateT SortSt Sem (ForInStep S7):=
 if c.2.2.2.2.1>1 then uf a b c.2.2.2.2.2.2 c.2.2.2.2.2.1 c.2.1 c.2.2.1 c.2.2.2.1 (c.2.2.2.2.1-1) else uf a b c.2.2.2.2.2.2 c.2.2.2.2.2.1 c.2.1 c.2.2.1 c.2.2.2.1 c.2.2.2.2.1
def yy(a b:Array Keyed)(mg:Nat)(c:S6):StateT SortSt Sem (ForInStep S6):=do
 let y ←elem' b (c.2.2.1-1)
 let x ←elem' a (c.2.1-1)
 let __x ←lt' y x
 match __x with
 |some Bp=>
  if Bp=true then do
   let x ←elem' a (c.2.1-1)
   if (c.2.1-1==0)=true then pure (ForInStep.done (some (gU a b (c.2.2.2.1.push x) (c.2.1-1) c.2.2.1),c.2.1-1,c.2.2.1,c.2.2.2.1.push x,c.2.2.2.2.1+1,0))
   else if c.2.2.2.2.1+1≥mg then pure (ForInStep.done (none,c.2.1-1,c.2.2.1,c.2.2.2.1.push x,c.2.2.2.2.1+1,0))
   else pure (ForInStep.yield (none,c.2.1-1,c.2.2.1,c.2.2.2.1.push x,c.2.2.2.2.1+1,0))
  else do
   let y ←elem' b (c.2.2.1-1)
   if (c.2.2.1-1==1)=true then pure (ForInStep.done (some (mS a b (c.2.2.2.1.push y) c.2.1 (c.2.2.1-1)),c.2.1,c.2.2.1-1,c.2.2.2.1.push y,0,c.2.2.2.2.2+1))
   else if c.2.2.2.2.2+1≥mg then pure (ForInStep.done (none,c.2.1,c.2.2.1-1,c.2.2.2.1.push y,0,c.2.2.2.2.2+1))
   else pure (ForInStep.yield (none,c.2.1,c.2.2.1-1,c.2.2.2.1.push y,0,c.2.2.2.2.2+1))
 |_=>pure (ForInStep.done (some (gU a b c.2.2.2.1 c.2.1 c.2.2.1),c.2.1,c.2.2.1,c.2.2.2.1,c.2.2.2.2.1,c.2.2.2.2.2))
def pz(a b:Array Keyed)(__s:S5):StateT SortSt Sem (ForInStep S5):=do
 let __t ←forIn [0:a.size+b.size] ((none,__s.2.1,__s.2.2.1,__s.2.2.2.1,0,0):S6) λ_ c=>yy a b __s.2.2.2.2 c
 match __t.1 with
 |some r=>pure (ForInStep.done (some r,__t.2.1,__t.2.2.1,__t.2.2.2.1,__s.2.2.2.2))
 |none=>do
  liftM (rule "list.sort.gallop")
  let __u ←forIn [0:a.size+b.size] ((none,__t.2.1,__t.2.2.1,__t.2.2.2.1,__s.2.2.2.2+1,__t.2.2.2.2.1,__t.2.2.2.2.2):S7) λ_ c=>yz a b c
  match __u.1 with
  |some r=>pure (ForInStep.done (some r,__u.2.1,__u.2.2.1,__u.2.2.2.1,__u.2.2.2.2.1))
  |none=>do
   setMinGallop' (__u.2.2.2.2.1+1)
   pure (ForInStep.yield (none,__u.2.1,__u.2.2.1,__u.2.2.2.1,__u.2.2.2.2.1+1))
theorem yR(a b:Array Keyed):mW a b=(do
 liftM (rule "list.sort.merge-hi")
 let x ←elem' a (a.size-1)
 if (a.size-1==0)=true then pure (gU a b #[x] (a.size-1) b.size)
 else if (b.size==1)=true then pure (mS a b #[x] (a.size-1) b.size)
 else do
  let __do_lift ←get
  let __s ←forIn [0:a.size+b.size] ((none,a.size-1,b.size, #[x],gallopOf __do_lift):S5) λ_ c=>pz a b c
  match __s.1 with
  |some r=>pure r
  |none=>liftM (unsupported (α:=Array Keyed) "internal:list.sort.merge-bound")):=by
 rw [wb];dsimp only;refine cx rfl λ_=>cx rfl λy=>?_;refine congrArg (ite _ _) (congrArg (ite _ _) ?_);refine cx rfl λg=>cx (yt λ_ c=>?_) λu=>?_
 ·unfold pz
  refine cx (yt λ_ t=>?_) λt=>?_
  ·unfold yy
   refine cx rfl λ_=>cx rfl λ_=>cx rfl λz=>?_;cases z<;>rfl
  ·obtain ⟨t1,t2⟩:=t
   cases t1 with
   |some r=>rfl
   |none=>
    dsimp only;refine cx rfl λ_=>cx (yt λ_ u=>?_) λu=>?_
    ·unfold yz
     refine dZ (λ_=>?_) (λ_=>?_)
     all_goals
      unfold uf;refine cx rfl λ_=>cx rfl λ_=>cx rfl λz=>?_;cases z with
      |none=>rfl
      |some k=>
       dsimp only;refine dZ (λ_=>?_) (λ_=>?_)
       ·refine dZ (λ_=>rfl) (λ_=>?_)
        unfold qC;refine cx rfl λ_=>dZ (λ_=>rfl) (λ_=>cx rfl λ_=>cx rfl λz=>?_);cases z with
        |none=>rfl
        |some k=>rfl
       ·unfold qC
        refine cx rfl λ_=>dZ (λ_=>rfl) (λ_=>cx rfl λ_=>cx rfl λz=>?_);cases z with
        |none=>rfl
        |some k=>rfl
    ·obtain ⟨u1,u2⟩:=u
     cases u1<;>rfl
 ·obtain ⟨u1,u2⟩:=u
  cases u1<;>rfl
def Mo(O:KeyOrd):KeyOrd:={α:=O.α,blt:=λa b=>O.blt b a,irrefl:=O.irrefl,trans:=λa b c h1 h2=>O.trans _ _ _ h2 h1,negTrans:=λa b c h=>(O.negTrans c b a h).symm,total:=λa b h1 h2=>O.total a b h2 h1}
section
variable {O:KeyOrd} {key:Keyed→O.α} {S:Keyed→Prop} {k0:SortKind} {M:Model} {A:Around} {E:Value→Shared→Prop} {s:Shared} {st bh:SortSt} {a b:Array Keyed}
abbrev MJ(O:KeyOrd)(key:Keyed→O.α)(a b out:Array Keyed)(na nb:Nat):Prop:=MI (Mo O) key (a.toList++b.toList) out.toList (a.toList.take na).reverse (b.toList.take nb).reverse
theorem qT{l r:List Keyed}(h:Res (Mo O) key l r.reverse):Res O key l r:=
 ⟨(vI r).symm.trans h.1,by
   have:=List.pairwise_reverse.mp h.2
   exact this.imp λh=>h⟩
theorem wM(xs:Array Keyed)(n:Nat):(xs.extract 0 n).toList=xs.toList.take n:=by rw [ext_toList];simp
theorem xK{xs:Array Keyed}{n:Nat}{x:Keyed}(hn:1≤n)(h:xs[n-1]? =some x):(xs.toList.take n).reverse=x::(xs.toList.take (n-1)).reverse:=by
 have h':=jJ h;obtain ⟨br,e⟩:=b9.mp h'
 have:xs.toList.take n=xs.toList.take (n-1)++ [x]:=by
  have:=List.take_succ_eq_append_getElem br
  rw [show n-1+1=n by omega,e] at this
  exact this
 rw [this,r9];rfl
theorem mD(l:List Keyed){p n:Nat}(h:p≤n):l.take n=l.take p++(l.drop p).take (n-p):=by
 conv=>lhs;rw [←jl p (l.take n)]
 rw [List.take_take,show min p n=p by omega,List.drop_take]
theorem fw{l:List Keyed}{n:Nat}{x:Keyed}(h:x∈l.take n):∃j,j<n∧j<l.length∧l[j]? =some x:=by
 have:=dg (l:=l) (i:=0) (k:=n) (x:=x) (by simpa using h)
 obtain ⟨j,h1,h2,h3⟩:=this;exact ⟨j,h1,by simpa using h2,by simpa using h3⟩
theorem MJ.qR{out:Array Keyed}{na nb:Nat}{x:Keyed}(v:MJ O key a b out na nb)(hn:1≤na)(hx:a[na-1]? =some x)(h:∀y∈b.toList.take nb,LE O key y x):MJ O key a b (out.push x) (na-1) nb:=by
 unfold MJ at v ⊢;rw [xK hn hx] at v;rw [xW];exact MI.ke (xs:= [x]) v λz hz y hy=>by rw [iS.mp hz];exact h y (jU.mp hy)
theorem MJ.qS{out:Array Keyed}{na nb:Nat}{y:Keyed}(v:MJ O key a b out na nb)(hn:1≤nb)(hy:b[nb-1]? =some y)(h:∀x∈a.toList.take na,LE O key x y):MJ O key a b (out.push y) na (nb-1):=by
 unfold MJ at v ⊢;rw [xK hn hy] at v;rw [xW];exact MI.kg (xs:= [y]) v λz hz x hx=>by rw [iS.mp hz];exact h x (jU.mp hx)
theorem MJ.ke{out:Array Keyed}{na nb p:Nat}(v:MJ O key a b out na nb)(hp:p≤na)(h:∀x∈(a.toList.drop p).take (na-p),∀y∈b.toList.take nb,LE O key y x):MJ O key a b (out++(a.extract p na).reverse) p nb:=by
 unfold MJ at v ⊢;rw [mD a.toList hp,r9] at v;rw [hE,Bi,ext_toList];exact MI.ke v λx hx y hy=>h x (jU.mp hx) y (jU.mp hy)
theorem MJ.kg{out:Array Keyed}{na nb p:Nat}(v:MJ O key a b out na nb)(hp:p≤nb)(h:∀y∈(b.toList.drop p).take (nb-p),∀x∈a.toList.take na,LE O key x y):MJ O key a b (out++(b.extract p nb).reverse) na p:=by
 unfold MJ at v ⊢;rw [mD b.toList hp,r9] at v;rw [hE,Bi,ext_toList];exact MI.kg v λx hx y hy=>h x (jU.mp hx) y (jU.mp hy)
theorem MJ.qx{out:Array Keyed}{nb:Nat}(v:MJ O key a b out 0 nb):Res O key (a.toList++b.toList) (gU a b out 0 nb).toList:=by
 refine qT ?_;unfold gU MJ at*;rw [hE,hE,wM,wM,Bi,vC,vA,r9,Eu];rw [vC,List.reverse_nil] at v;exact v.swap.zX
theorem MJ.qy{out:Array Keyed}{na:Nat}(v:MJ O key a b out na 0):Res O key (a.toList++b.toList) (gU a b out na 0).toList:=by
 refine qT ?_;unfold gU MJ at*;rw [hE,hE,wM,wM,Bi,vC,jV,r9,Eu];rw [vC,List.reverse_nil] at v;exact v.zX
theorem MJ.first(T:kW O key S a b){out:Array Keyed}{na:Nat}(v:MJ O key a b out na 1):Res O key (a.toList++b.toList) (mS a b out na 1).toList:=by
 refine qT ?_;have h:=v.swap.yH λx hx y hy=>?_
 ·unfold mS
  rw [hE,hE,wM,wM,Bi,r9,Eu,r9,←vH];exact h
 ·obtain ⟨j,h1,_,e⟩:=fw (jU.mp hy)
  have:j=0:=by omega
  subst this;exact T.first y (iX e) x (List.mem_of_mem_take (jU.mp hx))
def nq(O:KeyOrd)(key:Keyed→O.α)(a b:Array Keyed)(n:Nat)(na nb:Nat)(out:Array Keyed):Prop:=MJ O key a b out na nb∧1≤na∧na≤a.size∧2≤nb∧nb≤b.size∧n+na+nb≤a.size+b.size
def Nd{ρ:Type}(O:KeyOrd)(key:Keyed→O.α)(a b:Array Keyed)(n:Nat)(c:Option (Array Keyed)×Nat×Nat×Array Keyed×ρ):Prop:=
 (∃r,c.1=some r∧Res O key (a.toList++b.toList) r.toList)∨(c.1=none∧nq O key a b n c.2.1 c.2.2.1 c.2.2.2.1)
def Gd{ρ:Type}(O:KeyOrd)(key:Keyed→O.α)(a b:Array Keyed)(n:Nat)(r:ForInStep (Option (Array Keyed)×Nat×Nat×Array Keyed×ρ)):Prop:=match r with
 | .done c=>Nd O key a b n c
 | .yield c=>c.1=none∧nq O key a b n c.2.1 c.2.2.1 c.2.2.2.1
def Qa{ρ:Type}(O:KeyOrd)(key:Keyed→O.α)(a b:Array Keyed)(n:Nat)(r:ForInStep (Option (Array Keyed)×Nat×Nat×Array Keyed×ρ)):Prop:=match r with
 | .done c=>∃r,c.1=some r∧Res O key (a.toList++b.toList) r.toList
 | .yield c=>c.1=none∧nq O key a b n c.2.1 c.2.2.1 c.2.2.2.1
theorem vt{n mg ac bc na nb:Nat}{out:Array Keyed}(g:GS bh st)(v:MJ O key a b out na nb)(h1:1≤na)(h2:na≤a.size)(h3:2≤nb)(h4:nb≤b.size)(hn:n+na+nb≤a.size+b.size)
  (hx:∀x,a[na-1]? =some x→∀y∈b.toList.take nb,LE O key y x):wpS M A E s (yx a b mg ac bc na out nb) (λr ag=>GS bh ag∧Gd O key a b n r) st:=by
 unfold yx;obtain ⟨x,ex,mx,_⟩:=aW (xs:=a) (i:=na-1) (by omega)
 refine wpS_bind (aR ex ?_);have v':=MJ.qR v h1 ex (hx x ex)
 by_cases e:na-1=0
 ·rw [if_pos (by simpa using e)]
  rw [e] at v' ⊢;exact wpS_pure ⟨g, .inl ⟨_,rfl,v'.qx⟩⟩
 ·rw [if_neg (by simpa using e)]
  have iv:nq O key a b n (na-1) nb (out.push x):=⟨v',by omega,by omega,h3,h4,by omega⟩
  by_cases h2:(decide (ac<7)&&decide (bc<7))=true
  ·rw [if_pos h2]
   exact wpS_pure ⟨g, .inr ⟨rfl,iv⟩⟩
  ·rw [if_neg h2]
   exact wpS_pure ⟨g,rfl,iv⟩
theorem vq(C:fH O key S k0 M A E s)(hk:kindOf st=k0){n mg ac bc na nb:Nat}{out:Array Keyed}(T:kW O key S a b)(g:GS bh st)(v:MJ O key a b out na nb)(h1:1≤na)(h2:na≤a.size)(h3:2≤nb)(h4:nb≤b.size)(hn:n+na+nb≤a.size+b.size)
  (hy:∀y,b[nb-1]? =some y→∀x∈a.toList.take na,LE O key x y):wpS M A E s (qC a b mg ac bc nb out na) (λr ag=>GS bh ag∧Gd O key a b n r) st:=by
 unfold qC;obtain ⟨y,ey,my,_⟩:=aW (xs:=b) (i:=nb-1) (by omega)
 refine wpS_bind (aR ey ?_);have v':=MJ.qS v (by omega) ey (hy y ey)
 by_cases e:nb-1=1
 ·rw [if_pos (by simpa using e)]
  rw [e] at v' ⊢;exact wpS_pure ⟨g, .inl ⟨_,rfl,MJ.first T v'⟩⟩
 ·rw [if_neg (by simpa using e)]
  obtain ⟨x,ex,mx,lx⟩:=aW (xs:=a) (i:=na-1) (by omega)
  refine wpS_bind (aR ex ?_)
  have xge:∀z∈a.toList.take na,LE O key z x:=λz hz=>by
   obtain ⟨j,hj,_,ej⟩:=fw hz;exact e8 T.sa (by omega) ej lx
  have zE:∀j z,b.toList[j]? =some z→b[0+j]?.getD (Value.none,Value.none)=z:=λj z e=>by rw [vL,iX e];rfl
  refine wpS_bind (fF C (nh T.mb (i:=0) (n:=nb-1) (by omega)) (T.ma x mx) hk (by omega) (λi j cQ hj h=>?_) λp hp pt pf=>?_)
  ·obtain ⟨yi,e1,_,l1⟩:=aW (xs:=b) (i:=0+i) (by omega)
   obtain ⟨yj,e2,_,l2⟩:=aW (xs:=b) (i:=0+j) (by omega)
   unfold cP at h ⊢;rw [if_pos rfl] at h ⊢;rw [e2] at h;rw [e1];exact KeyOrd.klt_of_kle_of_klt (e8 T.sb (by omega) l1 l2) h
  ·have hi:∀y∈(b.toList.drop p).take (nb-1-p),∀x∈a.toList.take na,LE O key x y:=λz hz u hu=>by
    obtain ⟨j,hj,hl,ej⟩:=dg hz
    have:=pf (p+j) (by omega) (by omega)
    unfold cP at this;rw [if_pos rfl,zE (p+j) z ej] at this;exact KeyOrd.kle_trans (xge u hu) this
   have lo:∀x',a[na-1]? =some x'→∀y∈b.toList.take p,LE O key y x':=λx' nz z hz=>by
    rw [ex] at nz;cases nz;obtain ⟨j,hj,_,ej⟩:=fw hz
    have:=pt j hj
    unfold cP at this;rw [if_pos rfl,zE j z ej] at this;exact KeyOrd.kle_of_klt this
   dsimp only
   by_cases ui:nb-1-p>0
   ·rw [if_pos ui]
    have v2:=MJ.kg v' hp hi
    by_cases e1:p=1
    ·rw [if_pos (by simpa using e1)]
     subst e1;exact wpS_pure ⟨g, .inl ⟨_,rfl,MJ.first T v2⟩⟩
    ·rw [if_neg (by simpa using e1)]
     by_cases e2:p=0
     ·rw [if_pos (by simpa using e2)]
      subst e2;exact wpS_pure ⟨g, .inl ⟨_,rfl,v2.qy⟩⟩
     ·rw [if_neg (by simpa using e2)]
      exact vt g v2 h1 h2 (by omega) (by omega) (by omega) lo
   ·rw [if_neg ui]
    have:p=nb-1:=by omega
    subst this;exact vt g v' h1 h2 (by omega) (by omega) (by omega) lo
theorem vp(C:fH O key S k0 M A E s)(hk:kindOf st=k0){n mg ac bc na nb:Nat}{out:Array Keyed}(T:kW O key S a b)(g:GS bh st)(iv:nq O key a b n na nb out):wpS M A E s (uf a b bc ac na nb out mg) (λr ag=>GS bh ag∧Gd O key a b n r) st:=by
 obtain ⟨v,h1,h2,h3,h4,hn⟩:=iv;unfold uf;refine wpS_bind (nj λza g1=>?_);have sE:kindOf za=k0:=g1.kind.trans hk;have g':=g.trans g1;obtain ⟨y,ey,my,ly⟩:=aW (xs:=b) (i:=nb-1) (by omega)
 refine wpS_bind (aR ey ?_)
 have yge:∀z∈b.toList.take nb,LE O key z y:=λz hz=>by
  obtain ⟨j,hj,_,ej⟩:=fw hz;exact e8 T.sb (by omega) ej ly
 have nE:∀j z,a.toList[j]? =some z→a[0+j]?.getD (Value.none,Value.none)=z:=λj z e=>by rw [vL,iX e];rfl
 refine wpS_bind (fF C (nh T.ma (i:=0) (n:=na) (by omega)) (T.mb y my) sE (by omega) (λi j cQ hj h=>?_) λp hp pt pf=>?_)
 ·obtain ⟨xi,e1,_,l1⟩:=aW (xs:=a) (i:=0+i) (by omega)
  obtain ⟨xj,e2,_,l2⟩:=aW (xs:=a) (i:=0+j) (by omega)
  unfold cP at h ⊢;rw [if_neg (by decide)] at h ⊢
  rw [e2] at h;rw [e1];have h':O.kle (key xj) (key y):=by unfold KeyOrd.kle;simpa using h
  have:=KeyOrd.kle_trans (e8 T.sa (by omega) l1 l2) h'
  unfold KeyOrd.kle at this;simpa using this
 ·have hi:∀x∈(a.toList.drop p).take (na-p),∀y∈b.toList.take nb,LE O key y x:=λz hz u hu=>by
   obtain ⟨j,hj,hl,ej⟩:=dg hz
   have:=pf (p+j) (by omega) (by omega)
   unfold cP at this;rw [if_neg (by decide),nE (p+j) z ej] at this
   exact KeyOrd.kle_trans (yge u hu) (KeyOrd.kle_of_klt (show O.blt _ _=true by simpa using this))
  have lo:∀y',b[nb-1]? =some y'→∀x∈a.toList.take p,LE O key x y':=λy' lE z hz=>by
   rw [ey] at lE;cases lE;obtain ⟨j,hj,_,ej⟩:=fw hz
   have:=pt j hj
   unfold cP at this;rw [if_neg (by decide),nE j z ej] at this
   show O.blt _ _=false;simpa using this
  dsimp only
  by_cases ui:na-p>0
  ·rw [if_pos ui]
   have v2:=MJ.ke v hp hi
   by_cases e1:p=0
   ·rw [if_pos (by simpa using e1)]
    subst e1;exact wpS_pure ⟨g', .inl ⟨_,rfl,v2.qx⟩⟩
   ·rw [if_neg (by simpa using e1)]
    exact vq C sE T g' v2 (by omega) (by omega) h3 h4 (by omega) lo
  ·rw [if_neg ui]
   have:p=na:=by omega
   subst this;exact vq C sE T g' v h1 h2 h3 h4 hn lo
theorem Df(C:fH O key S k0 M A E s)(hk:kindOf st=k0){n:Nat}(T:kW O key S a b)(g:GS bh st)(c:S7)(iv:nq O key a b n c.2.1 c.2.2.1 c.2.2.2.1):
  wpS M A E s (yz a b c) (λr ag=>GS bh ag∧Gd O key a b n r) st:=by
 unfold yz
 by_cases h:c.2.2.2.2.1>1
 ·rw [if_pos h];exact vp C hk T g iv
 ·rw [if_neg h];exact vp C hk T g iv
theorem De(C:fH O key S k0 M A E s)(hk:kindOf st=k0){n mg:Nat}(T:kW O key S a b)(g:GS bh st)(c:S6)(iv:nq O key a b n c.2.1 c.2.2.1 c.2.2.2.1):
  wpS M A E s (yy a b mg c) (λr ag=>GS bh ag∧Gd O key a b (n+1) r) st:=by
 obtain ⟨c1,na,nb,out,ac,bc⟩:=c;obtain ⟨v,h1,h2,h3,h4,hn⟩:=iv;dsimp only at v h1 h2 h3 h4 hn;unfold yy;dsimp only;obtain ⟨y,ey,my,ly⟩:=aW (xs:=b) (i:=nb-1) (by omega)
 obtain ⟨x,ex,mx,lx⟩:=aW (xs:=a) (i:=na-1) (by omega)
 refine wpS_bind (aR ey (wpS_bind (aR ex (wpS_bind (C _ _ _ _ (T.mb y my) (T.ma x mx) hk ?_)))));cases e:O.blt (key y) (key x) with
 |true=>
  dsimp only;rw [if_pos rfl];refine wpS_bind (aR ex ?_)
  have v':=MJ.qR v h1 ex λz hz=>by
   obtain ⟨j,hj,_,ej⟩:=fw hz;exact KeyOrd.kle_trans (e8 T.sb (by omega) ej ly) (KeyOrd.kle_of_klt e)
  by_cases e1:na-1=0
  ·rw [if_pos (by simpa using e1)]
   rw [e1] at v' ⊢;exact wpS_pure ⟨g, .inl ⟨_,rfl,v'.qx⟩⟩
  ·rw [if_neg (by simpa using e1)]
   have iv:nq O key a b (n+1) (na-1) nb (out.push x):=⟨v',by omega,by omega,h3,h4,by omega⟩
   by_cases h2:ac+1≥mg
   ·rw [if_pos h2];exact wpS_pure ⟨g, .inr ⟨rfl,iv⟩⟩
   ·rw [if_neg h2];exact wpS_pure ⟨g,rfl,iv⟩
 |false=>
  dsimp only;rw [if_neg (by decide)]
  refine wpS_bind (aR ey ?_)
  have v':=MJ.qS v (by omega) ey λz hz=>by
   obtain ⟨j,hj,_,ej⟩:=fw hz;exact KeyOrd.kle_trans (e8 T.sa (by omega) ej lx) e
  by_cases e1:nb-1=1
  ·rw [if_pos (by simpa using e1)]
   rw [e1] at v' ⊢;exact wpS_pure ⟨g, .inl ⟨_,rfl,MJ.first T v'⟩⟩
  ·rw [if_neg (by simpa using e1)]
   have iv:nq O key a b (n+1) na (nb-1) (out.push y):=⟨v',by omega,by omega,by omega,by omega,by omega⟩
   by_cases h2:bc+1≥mg
   ·rw [if_pos h2];exact wpS_pure ⟨g, .inr ⟨rfl,iv⟩⟩
   ·rw [if_neg h2];exact wpS_pure ⟨g,rfl,iv⟩
theorem nq.le{n m:Nat}{out:Array Keyed}{na nb:Nat}(h:nq O key a b n na nb out)(hm:m≤n):nq O key a b m na nb out:=⟨h.1,h.2.1,h.2.2.1,h.2.2.2.1,h.2.2.2.2.1,by have:=h.2.2.2.2.2;omega⟩
theorem zg(C:fH O key S k0 M A E s){n:Nat}(T:kW O key S a b)(g:GS bh st)(sD:kindOf bh=k0)(c:S5)(iv:nq O key a b n c.2.1 c.2.2.1 c.2.2.2.1):
  wpS M A E s (pz a b c) (λr ag=>GS bh ag∧Qa O key a b (n+1) r) st:=by
 have MA:0<a.size+b.size:=by have:=T.na;omega
 unfold pz;refine wpS_bind (wpS_mono (wpS_forRange (I:=λ(x:Nat)(c':S6)(ag:SortSt)=>GS bh ag∧c'.1=none∧nq O key a b (n+min x 1) c'.2.1 c'.2.2.1 c'.2.2.2.1) (Q:=λc' ag=>GS bh ag∧Nd O key a b (n+1) c') ?step ?fin ⟨g,rfl,iv.le (by omega)⟩) ?post)
 case fin=>
  rintro c' ag ⟨g',h1,h2⟩;exact ⟨g', .inr ⟨h1,h2.le (by omega)⟩⟩
 case step=>
  rintro x c' ag _ _ ⟨g',h1,h2⟩;refine wpS_mono (De C (g'.kind.trans sD) T g' c' h2) λr b8 ⟨lF,o⟩=>?_;cases r with
  |done d=>
   refine ⟨lF,?_⟩
   rcases o with o| ⟨o1,o2⟩
   ·exact .inl o
   ·exact .inr ⟨o1,o2.le (by omega)⟩
  |yield d=>exact ⟨lF,o.1,o.2.le (by omega)⟩
 case post=>
  rintro ⟨t1,t2⟩ ag ⟨g',o⟩
  rcases o with ⟨r,e,res⟩ | ⟨e,O4⟩
  ·dsimp only at e
   subst e;exact wpS_pure ⟨g',r,rfl,res⟩
  ·dsimp only at e
   subst e;dsimp only;refine wpS_bind (wpS_lift (wpAny_rule ⟨rfl,?_⟩));refine wpS_bind (wpS_mono (wpS_forRange (I:=λ(x:Nat)(c':S7)(ag:SortSt)=>GS bh ag∧c'.1=none∧nq O key a b (n+1) c'.2.1 c'.2.2.1 c'.2.2.2.1) (Q:=λc' ag=>GS bh ag∧Nd O key a b (n+1) c') ?step2 ?fin2 ⟨g',rfl,O4⟩) ?post2)
   case fin2=>
    rintro c' ag ⟨g',h1,h2⟩;exact ⟨g', .inr ⟨h1,h2⟩⟩
   case step2=>
    rintro x c' ag _ _ ⟨g',h1,h2⟩;refine wpS_mono (Df C (g'.kind.trans sD) T g' c' h2) λr b8 ⟨lF,o⟩=>?_;cases r with
    |done d=>exact ⟨lF,o⟩
    |yield d=>exact ⟨lF,o⟩
   case post2=>
    rintro ⟨u1,u2⟩ ag ⟨g',o⟩
    rcases o with ⟨r,e,res⟩ | ⟨e,HR⟩
    ·dsimp only at e
     subst e;exact wpS_pure ⟨g',r,rfl,res⟩
    ·dsimp only at e
     subst e;refine wpS_bind (nj λza g1=>wpS_pure ⟨g'.trans g1,rfl,HR⟩)
theorem zj(C:fH O key S k0 M A E s)(hk:kindOf st=k0)(T:kW O key S a b){Q:Array Keyed→SortSt→Prop}(q:∀r ag,GS st ag→Res O key (a.toList++b.toList) r.toList→Q r ag):wpS M A E s (mW a b) Q st:=by
 rw [yR];refine wpS_bind (wpS_lift (wpAny_rule ⟨rfl,?_⟩));have na:=T.na;have nb:=T.nb;obtain ⟨x,ex,mx,lx⟩:=aW (xs:=a) (i:=a.size-1) (by omega)
 refine wpS_bind (aR ex ?_)
 have v0:MJ O key a b #[] a.size b.size:=by
  refine ⟨?_,by simp,?_,?_,by simp⟩
  ·rw [nV (by simp),nV (by simp)]
   simpa using (vI a.toList).append (vI b.toList)
  ·rw [nV (by simp)]
   exact List.pairwise_reverse.mpr (T.sa.imp λh=>h)
  ·rw [nV (by simp)]
   exact List.pairwise_reverse.mpr (T.sb.imp λh=>h)
 have v1:=MJ.qR v0 na ex λy hy=>T.last x ex y (List.mem_of_mem_take hy);have e1:(#[]:Array Keyed).push x= #[x]:=rfl;rw [e1] at v1
 by_cases h1:a.size-1=0
 ·rw [if_pos (by simpa using h1)]
  rw [h1] at v1 ⊢;exact wpS_pure (q _ _ (GS.refl _) v1.qx)
 ·rw [if_neg (by simpa using h1)]
  by_cases h2:b.size=1
  ·rw [if_pos (by simpa using h2)]
   rw [h2] at v1 ⊢;exact wpS_pure (q _ _ (GS.refl _) (MJ.first T v1))
  ·rw [if_neg (by simpa using h2)]
   refine wpS_bind (wpS_get ?_);refine wpS_bind (wpS_mono (wpS_forRange (I:=λ(x:Nat)(c':S5)(ag:SortSt)=>GS st ag∧c'.1=none∧nq O key a b (x+1) c'.2.1 c'.2.2.1 c'.2.2.2.1) (Q:=λc' ag=>GS st ag∧∃r,c'.1=some r∧Res O key (a.toList++b.toList) r.toList) ?step ?fin ⟨GS.refl _,rfl,v1,by show 1≤a.size-1;omega,by show a.size-1≤a.size;omega,by show 2≤b.size;omega,aU _,by show 0+1+(a.size-1)+b.size≤a.size+b.size;omega⟩) ?post)
   case fin=>
    rintro c' ag ⟨g',h1,h2⟩
    have:=h2.2.2.2.2.2
    have:=h2.2.1
    omega
   case step=>
    rintro x c' ag _ _ ⟨g',h1,h2⟩;refine wpS_mono (zg C T g' hk c' h2) λr b8 ⟨lF,o⟩=>?_;cases r with
    |done d=>exact ⟨lF,o⟩
    |yield d=>exact ⟨lF,o⟩
   case post=>
    rintro ⟨c1,c2⟩ ag ⟨g',r,e,res⟩;dsimp only at e;subst e;exact wpS_pure (q r ag g' res)
end
theorem yQ(i:Nat):mergeAt' i=(do
 let s ←get
 let (some (sa,na,power),some (sb,nb,_)):=((pendingOf s)[i]?,(pendingOf s)[i+1]?) |unsupported "internal:list.sort.pending"
 set (setPending s (((pendingOf s).setIfInBounds i (sa,na+nb,power)).eraseIdxIfInBounds (i+1)))
 let some k ←dP false (←elem' (arrOf s) sb) (arrOf s) sa na 0|return false
 let (sa,na):=(sa+k,na-k)
 if na==0 then return true
 let some nb ←dP true (←elem' (arrOf s) (sa+na-1)) (arrOf s) sb nb (nb-1) |return false
 if nb==0 then return true
 let x:=(arrOf s).extract sa sb
 let y:=(arrOf s).extract sb (sb+nb)
 let merged ←if na≤nb then mX x y else mW x y
 modify λs=>setArr s (merged.toList.zipIdx.foldl (λa (p,j)=>a.setIfInBounds (sa+j) p) (arrOf s))
 return (failedOf (←get)).isNone):=rfl
theorem n9:∀(m:List Keyed)(off b:Nat)(xs:Array Keyed),b+off+m.length≤xs.size→
  ((m.zipIdx off).foldl (λa (p:Keyed×Nat)=>a.setIfInBounds (b+p.2) p.1) xs).size=xs.size∧∀i,((m.zipIdx off).foldl (λa (p:Keyed×Nat)=>a.setIfInBounds (b+p.2) p.1) xs)[i]? =if b+off≤i∧i<b+off+m.length then m[i-(b+off)]? else xs[i]?
 | [],off,b,xs,_=>⟨rfl,λi=>by rw [if_neg (by simp)];rfl⟩
 |x::m,off,b,xs,h=>by
  rw [cL] at h;have ih:=n9 m (off+1) b (xs.setIfInBounds (b+off) x) (by rw [Array.size_setIfInBounds];omega)
  rw [List.zipIdx_cons,List.foldl_cons];refine ⟨by rw [ih.1,Array.size_setIfInBounds],λi=>?_⟩
  rw [ih.2 i]
  by_cases h1:b+(off+1)≤i∧i<b+(off+1)+m.length
  ·rw [if_pos h1,if_pos (by rw [cL];omega),show i-(b+off)=(i-(b+(off+1)))+1 by omega,qg]
  ·rw [if_neg h1,Array.getElem?_setIfInBounds]
   by_cases h2:b+off=i
   ·rw [if_pos h2,if_pos (by omega),if_pos (by rw [cL];omega),←h2,mL];rfl
   ·rw [if_neg h2,if_neg (by rw [cL];omega)]
def putAt(xs m:Array Keyed)(b:Nat):Array Keyed:=m.toList.zipIdx.foldl (λa (p:Keyed×Nat)=>a.setIfInBounds (b+p.2) p.1) xs
theorem uS{xs m:Array Keyed}{b:Nat}(h:b+m.size≤xs.size)(i:Nat):(putAt xs m b)[i]? =if b≤i∧i<b+m.size then m[i-b]? else xs[i]? :=by
 have:=(n9 m.toList 0 b xs (by simpa using h)).2 i
 unfold putAt;rw [this];simp
theorem AO{xs m:Array Keyed}{b:Nat}(h:b+m.size≤xs.size):(putAt xs m b).size=xs.size:=(n9 m.toList 0 b xs (by simpa using h)).1
theorem AN{xs m:Array Keyed}{b:Nat}(h:b+m.size≤xs.size)(p:m.toList.Perm ((xs.toList.drop b).take m.size)):(putAt xs m b).Perm xs:=by
 rw [Es]
 have e:(putAt xs m b).toList=xs.toList.take b++(m.toList++xs.toList.drop (b+m.size)):=by
  apply qi;intro i;rw [eu,uS h,List.getElem?_append,List.getElem?_append,jn,bX,bX,zq,xT,eu,eu,eu]
  repeat' split
  all_goals first|rfl| (exfalso;omega) | (congr 1;omega)
 have e2:xs.toList=xs.toList.take b++((xs.toList.drop b).take m.size++xs.toList.drop (b+m.size)):=by
  conv=>lhs;rw [←jl b xs.toList,lu xs.toList b m.size]
 rw [e]
 conv=>rhs;rw [e2]
 exact List.Perm.append_left _ (p.append_right _)
section
variable {O:KeyOrd} {key:Keyed→O.α} {S:Keyed→Prop} {k0:SortKind} {prog:Program} {w:World} {A:Around} {E:Value→Shared→Prop} {s:Shared} {st bh:SortSt}
theorem JB{M:Model}{ag:SortSt}{Q:PUnit→SortSt→Prop}(h:Q ⟨⟩ ag):wpS M A E s (set ag:StateT SortSt Sem PUnit) Q st:=by
 unfold wpS;rw [StateT.run_set];exact wpAny_pure ⟨rfl,h⟩
theorem eo{xs:Array Keyed}{a b:Nat}(h:hV O key xs a b){i j:Nat}{x y:Keyed}(ha:a≤i)(cQ:i≤j)(hj:j<b)(hx:xs[i]? =some x)(hy:xs[j]? =some y):LE O key x y:=by
 have:=h i j ha cQ hj
 unfold ky at this;rw [hx,hy] at this;exact this
theorem y9{xs:Array Keyed}{a b:Nat}(hb:b≤xs.size)(h:∀i j x y,a≤i→i≤j→j<b→xs[i]? =some x→xs[j]? =some y→LE O key x y):hV O key xs a b:=λi j ha cQ hj=>by
 obtain ⟨x,ex,_,_⟩:=aW (xs:=xs) (i:=i) (by omega)
 obtain ⟨y,ey,_,_⟩:=aW (xs:=xs) (i:=j) (by omega)
 unfold ky;rw [ex,ey];exact h i j x y ha cQ hj ex ey
theorem ext_get{xs:Array Keyed}{a b i:Nat}(hb:b≤xs.size)(hi:i<b-a):(xs.extract a b)[i]? =xs[a+i]? :=by
 rw [Array.getElem?_extract,if_pos (by omega)]
theorem ext_mem{xs:Array Keyed}{a b:Nat}{x:Keyed}(h:x∈(xs.extract a b).toList):∃i,a≤i∧i<b∧i<xs.size∧xs[i]? =some x:=by
 rw [ext_toList] at h;obtain ⟨j,h1,h2,h3⟩:=dg h;rw [bX] at h2;exact ⟨a+j,by omega,by omega,h2,iX h3⟩
theorem DU{xs:Array Keyed}{a b:Nat}(h:hV O key xs a b)(hb:b≤xs.size):(xs.extract a b).toList.Pairwise (LE O key):=by
 rw [vE];intro i j hi hj cQ;have hs:(xs.extract a b).toList.length=b-a:=by rw [bX,xU];omega
 rw [hs] at hi hj;have gi:=ext_get (xs:=xs) (a:=a) hb hi;have gj:=ext_get (xs:=xs) (a:=a) hb hj;refine eo h (i:=a+i) (j:=a+j) (by omega) (by omega) (by omega) ?_ ?_
 ·rw [←gi,←eu];exact cC _
 ·rw [←gj,←eu];exact cC _
theorem zi(C:fH O key S k0 (model prog w) A E s){i sa na nb pw Vm:Nat}{Q:Bool→SortSt→Prop}(o:Ok S k0 st)(hf:failedOf st=none)(p1:(pendingOf st)[i]? =some (sa,na,pw))(p2:(pendingOf st)[i+1]? =some (sa+na,nb,Vm))(hna:1≤na)(Kf:1≤nb)(eD:sa+na+nb≤(arrOf st).size)
  (s1:hV O key (arrOf st) sa (sa+na)) (s2:hV O key (arrOf st) (sa+na) (sa+na+nb))
  (q:∀ag,(arrOf ag).Perm (arrOf st)→kindOf ag=kindOf st→failedOf ag=none→pendingOf ag=((pendingOf st).setIfInBounds i (sa,na+nb,pw)).eraseIdxIfInBounds (i+1)→(∀j,j<sa∨sa+na+nb≤j→(arrOf ag)[j]? =(arrOf st)[j]?)→hV O key (arrOf ag) sa (sa+(na+nb))→Q true ag):
  wpS (model prog w) A E s (mergeAt' i) Q st:=by
 rw [yQ];refine wpS_bind (wpS_get ?_);rw [p1,p2];dsimp only;refine wpS_bind (JB ?_);generalize ((pendingOf st).setIfInBounds i (sa,na+nb,pw)).eraseIdxIfInBounds (i+1)=pn at q;have o':Ok S k0 (setPending st pn):=⟨o.mem,o.kind⟩;have mem:∀x∈(arrOf st).toList,S x:=o.mem;obtain ⟨b0,N0,mb0,lb0⟩:=aW (xs:=arrOf st) (i:=sa+na) (by omega)
 refine wpS_bind (aR N0 ?_);have nE:∀(j:Nat)(z:Keyed),(arrOf st)[j]? =some z→(arrOf st)[j]?.getD (Value.none,Value.none)=z:=λj z e=>by rw [e];rfl
 refine wpS_bind (fF C (nh mem (i:=sa) (n:=na) (by omega)) (mem b0 mb0) o'.kind (by omega) (λi j cQ hj h=>?_) λk hk kt kf=>?_)
 ·obtain ⟨xi,e1,_,_⟩:=aW (xs:=arrOf st) (i:=sa+i) (by omega)
  obtain ⟨xj,e2,_,_⟩:=aW (xs:=arrOf st) (i:=sa+j) (by omega)
  unfold cP at h ⊢;rw [if_neg (by decide)] at h ⊢
  rw [e2] at h;rw [e1];have h':O.kle (key xj) (key b0):=by unfold KeyOrd.kle;simpa using h
  have:=KeyOrd.kle_trans (eo s1 (by omega) (by omega) (by omega) e1 e2) h'
  unfold KeyOrd.kle at this;simpa using this
 have T3:∀j x,sa≤j→j<sa+k→(arrOf st)[j]? =some x→LE O key x b0:=λj x h1 h2 e=>by
  have:=kt (j-sa) (by omega)
  unfold cP at this;rw [if_neg (by decide),show sa+(j-sa)=j by omega,nE j x e] at this
  show O.blt _ _=false;simpa using this
 have khi:∀j x,sa+k≤j→j<sa+na→(arrOf st)[j]? =some x→LE O key b0 x:=λj x h1 h2 e=>by
  have:=kf (j-sa) (by omega) (by omega)
  unfold cP at this;rw [if_neg (by decide),show sa+(j-sa)=j by omega,nE j x e] at this
  exact KeyOrd.kle_of_klt (show O.blt _ _=true by simpa using this)
 dsimp only;have LX:∀j y,sa+na≤j→j<sa+na+nb→(arrOf st)[j]? =some y→LE O key b0 y:=λj y h1 h2 e=>eo s2 (by omega) h1 h2 N0 e
 by_cases e0:na-k=0
 ·rw [if_pos (by simpa using e0)]
  refine wpS_pure (q _ (.refl _) rfl hf rfl (λ_ _=>rfl) ?_);refine y9 (by show sa+(na+nb)≤(arrOf st).size;omega) λi j x y h1 cQ hj ex ey=>?_
  by_cases c1:j<sa+na
  ·exact eo s1 h1 cQ c1 ex ey
  ·by_cases c2:i<sa+na
   ·exact KeyOrd.kle_trans (T3 i x h1 (by omega) ex) (LX j y (by omega) (by omega) ey)
   ·exact eo s2 (by omega) cQ (by omega) ex ey
 rw [if_neg (by simpa using e0)]
 have RD:sa+k+(na-k)-1=sa+na-1:=by omega
 obtain ⟨al,J3,mal,lal⟩:=aW (xs:=arrOf st) (i:=sa+k+(na-k)-1) (by omega)
 refine wpS_bind (aR J3 ?_);rw [RD] at J3;refine wpS_bind (fF C (nh mem (i:=sa+na) (n:=nb) (by omega)) (mem al mal) o'.kind (by omega) (λi j cQ hj h=>?_) λm hm mt mf=>?_)
 ·obtain ⟨yi,e1,_,_⟩:=aW (xs:=arrOf st) (i:=sa+na+i) (by omega)
  obtain ⟨yj,e2,_,_⟩:=aW (xs:=arrOf st) (i:=sa+na+j) (by omega)
  unfold cP at h ⊢;rw [if_pos rfl] at h ⊢;rw [e2] at h;rw [e1];exact KeyOrd.klt_of_kle_of_klt (eo s2 (by omega) (by omega) (by omega) e1 e2) h
 have mlo:∀j y,sa+na≤j→j<sa+na+m→(arrOf st)[j]? =some y→LE O key y al:=λj y h1 h2 e=>by
  have:=mt (j-(sa+na)) (by omega)
  unfold cP at this;rw [if_pos rfl,show sa+na+(j-(sa+na))=j by omega,nE j y e] at this
  exact KeyOrd.kle_of_klt this
 have T7:∀j y,sa+na+m≤j→j<sa+na+nb→(arrOf st)[j]? =some y→LE O key al y:=λj y h1 h2 e=>by
  have:=mf (j-(sa+na)) (by omega) (by omega)
  unfold cP at this;rw [if_pos rfl,show sa+na+(j-(sa+na))=j by omega,nE j y e] at this
  exact this
 have Wl:∀j x,sa≤j→j<sa+na→(arrOf st)[j]? =some x→LE O key x al:=λj x h1 h2 e=>eo s1 h1 (by omega) (by omega) e J3
 dsimp only
 by_cases e1:m=0
 ·rw [if_pos (by simpa using e1)]
  refine wpS_pure (q _ (.refl _) rfl hf rfl (λ_ _=>rfl) ?_);refine y9 (by show sa+(na+nb)≤(arrOf st).size;omega) λi j x y h1 cQ hj ex ey=>?_
  by_cases c1:j<sa+na
  ·exact eo s1 h1 cQ c1 ex ey
  ·by_cases c2:i<sa+na
   ·exact KeyOrd.kle_trans (Wl i x h1 c2 ex) (T7 j y (by omega) (by omega) ey)
   ·exact eo s2 (by omega) cQ (by omega) ex ey
 rw [if_neg (by simpa using e1)]
 have T:kW O key S ((arrOf st).extract (sa+k) (sa+na)) ((arrOf st).extract (sa+na) (sa+na+m)):=by
  refine ⟨λx hx=>?_,λx hx=>?_,DU (λi j h1 h2 h3=>s1 i j (by omega) h2 h3) (by omega),DU (λi j h1 h2 h3=>s2 i j h1 h2 (by omega)) (by omega),by rw [xU];omega,by rw [xU];omega,λy hy x hx=>?_,λx hx y hy=>?_⟩
  ·obtain ⟨i,_,_,_,e⟩:=ext_mem hx
   exact mem x (cS (jJ e))
  ·obtain ⟨i,_,_,_,e⟩:=ext_mem hx
   exact mem x (cS (jJ e))
  ·rw [ext_get (by omega) (by omega)] at hy
   have Fo:(arrOf st)[sa+na]? =some y:=hy;rw [N0] at Fo;cases Fo;obtain ⟨i,h1,h2,_,e⟩:=ext_mem hx;exact khi i x h1 h2 e
  ·have hsz2:((arrOf st).extract (sa+k) (sa+na)).size=na-k:=by rw [xU];omega
   rw [hsz2,ext_get (by omega) (by omega)] at hx
   rw [show sa+k+(na-k-1)=sa+na-1 by omega,J3] at hx;cases hx
   obtain ⟨i,h1,h2,_,e⟩:=ext_mem hy;exact mlo i y h1 h2 e
 have szx:((arrOf st).extract (sa+k) (sa+na)).size=na-k:=by rw [xU];omega
 have szy:((arrOf st).extract (sa+na) (sa+na+m)).size=m:=by rw [xU];omega
 have fin:∀(r:Array Keyed)(ag:SortSt),GS (setPending st pn) ag→Res O key (((arrOf st).extract (sa+k) (sa+na)).toList++((arrOf st).extract (sa+na) (sa+na+m)).toList) r.toList→
   wpS (model prog w) A E s (do
    modify λs=>setArr s (r.toList.zipIdx.foldl (λa (p,j)=>a.setIfInBounds (sa+k+j) p) (arrOf s))
    return (failedOf (←get)).isNone) Q ag:=by
  intro r ag g res;refine wpS_bind (wpS_modify (wpS_bind (wpS_get ?_)));have Sn:failedOf ag=none:=g.failed.trans hf
  have hr:r.size=na-k+m:=by
   have:=res.1.length_eq
   rw [bV,bX,bX,bX,szx,szy] at this;exact this
  have hb:sa+k+r.size≤(arrOf ag).size:=by rw [g.arr];show _≤(arrOf st).size;omega
  have aad:(r.toList.zipIdx.foldl (λa (x:Keyed×Nat)=>match x with| (p,j)=>a.setIfInBounds (sa+k+j) p) (arrOf ag))=putAt (arrOf ag) r (sa+k):=rfl
  show wpS _ _ _ _ (pure (failedOf ag).isNone) Q (setArr ag (putAt (arrOf ag) r (sa+k)));rw [Sn];have ga:arrOf ag=arrOf st:=g.arr;rw [ga] at hb ⊢;have DX:=λi=>uS hb i;rw [hr] at DX
  have MH:∀j x,sa+k≤j→j<sa+na+m→(putAt (arrOf st) r (sa+k))[j]? =some x→∃i,sa+k≤i∧i<sa+na+m∧(arrOf st)[i]? =some x:=λj x h1 h2 e=>by
   rw [DX,if_pos (by omega)] at e
   have hm:=res.1.mem_iff.mp (cS (jJ e))
   rcases cE.mp hm with z|z
   ·obtain ⟨i,a1,a2,_,a4⟩:=ext_mem z
    exact ⟨i,a1,by omega,a4⟩
   ·obtain ⟨i,a1,a2,_,a4⟩:=ext_mem z
    exact ⟨i,by omega,a2,a4⟩
  have outs:∀j,j<sa+k∨sa+na+m≤j→(putAt (arrOf st) r (sa+k))[j]? =(arrOf st)[j]? :=λj h=>by rw [DX,if_neg (by omega)]
  have Ic:∀i x j y,sa≤i→i<sa+k→(arrOf st)[i]? =some x→sa+k≤j→j<sa+na+nb→(arrOf st)[j]? =some y→LE O key x y:=λi x j y a1 a2 a3 a4 a5 a6=>by
   by_cases c:j<sa+na
   ·exact eo s1 a1 (by omega) c a3 a6
   ·exact KeyOrd.kle_trans (T3 i x a1 a2 a3) (LX j y (by omega) a5 a6)
  have Kd:∀i x j y,sa≤i→i<sa+na+m→(arrOf st)[i]? =some x→sa+na+m≤j→j<sa+na+nb→(arrOf st)[j]? =some y→LE O key x y:=λi x j y a1 a2 a3 a4 a5 a6=>by
   by_cases c:i<sa+na
   ·exact KeyOrd.kle_trans (Wl i x a1 c a3) (T7 j y a4 a5 a6)
   ·exact eo s2 (by omega) (by omega) a5 a3 a6
  refine wpS_pure (q _ ?_ g.kind Sn g.pend (λj hj=>outs j (by omega)) ?_)
  ·refine AN hb ?_
   rw [hr];refine res.1.trans ?_;rw [ext_toList,ext_toList,show sa+na-(sa+k)=na-k by omega,show sa+na+m-(sa+na)=m by omega]
   have:((arrOf st).toList.drop (sa+k)).take (na-k+m)=((arrOf st).toList.drop (sa+k)).take (na-k)++((arrOf st).toList.drop (sa+na)).take m:=by
    rw [mD _ (show na-k≤na-k+m by omega),List.drop_drop,show sa+k+(na-k)=sa+na by omega,show na-k+m-(na-k)=m by omega]
   rw [this]
  ·refine y9 (by show sa+(na+nb)≤(putAt (arrOf st) r (sa+k)).size;rw [AO hb];omega) λi j x y h1 cQ hj ex ey=>?_
   have nz:(putAt (arrOf st) r (sa+k))[i]? =some x:=ex;have lE:(putAt (arrOf st) r (sa+k))[j]? =some y:=ey
   by_cases ci:i<sa+k
   ·rw [outs i (.inl ci)] at nz
    by_cases cj:j<sa+k
    ·rw [outs j (.inl cj)] at lE
     exact eo s1 h1 cQ (by omega) nz lE
    ·by_cases QF:j<sa+na+m
     ·obtain ⟨j',b1,b2,b3⟩:=MH j y (by omega) QF lE
      exact Ic i x j' y h1 ci nz b1 (by omega) b3
     ·rw [outs j (.inr (by omega))] at lE
      exact Ic i x j y h1 ci nz (by omega) (by omega) lE
   ·by_cases Xg:i<sa+na+m
    ·by_cases QF:j<sa+na+m
     ·rw [DX,if_pos (by omega)] at nz lE
      exact e8 res.2 (by omega) (jJ nz) (jJ lE)
     ·obtain ⟨i',b1,b2,b3⟩:=MH i x (by omega) Xg nz
      rw [outs j (.inr (by omega))] at lE
      exact Kd i' x j y (by omega) b2 b3 (by omega) (by omega) lE
    ·rw [outs i (.inr (by omega))] at nz
     rw [outs j (.inr (by omega))] at lE
     exact eo s2 (by omega) cQ (by omega) nz lE
 by_cases c:na-k≤m
 ·rw [if_pos c]
  exact wpS_bind (zk C o'.kind T λr ag g res=>fin r ag g res)
 ·rw [if_neg c]
  exact wpS_bind (zj C o'.kind T λr ag g res=>fin r ag g res)
end
abbrev U1:=Option Unit×Unit
def El(pw:Nat):StateT SortSt Sem (ForInStep U1):=do
 let st ←get
 match (if (pendingOf st).size>1 then (pendingOf st)[(pendingOf st).size-2]? else none) with
 |some (_,_,Pn)=>
  if Pn≤pw then pure (ForInStep.done (none,()))
  else do
   let ok ←mergeAt' ((pendingOf st).size-2)
   if (!ok)=true then pure (ForInStep.done (some (),())) else pure (ForInStep.yield (none,()))
 |_=>pure (ForInStep.done (none,()))
def kv(size lo n:Nat):StateT SortSt Sem (ForInStep (Option Unit×Nat)):=do
 let st ←get
 match (pendingOf st).back? with
 |some (s1,n1,_)=>do
  let t ←forIn [0:size] ((none,()):U1) λ_ _=>El (power' size (2*s1+n1) (2*s1+n1+n1+n) size)
  match t.1 with
  |some r=>pure (ForInStep.done (some r,lo))
  |none=>do
   modify λs=>setPending s ((pendingOf s).modify ((pendingOf s).size-1) λx=>(x.1,x.2.1,power' size (2*s1+n1) (2*s1+n1+n1+n) size))
   modify λs=>setPending s ((pendingOf s).push (lo,n,0))
   pure (ForInStep.yield (none,lo+n))
 |_=>do
  modify λs=>setPending s ((pendingOf s).push (lo,n,0))
  pure (ForInStep.yield (none,lo+n))
def y8(size lo:Nat):StateT SortSt Sem (ForInStep (Option Unit×Nat)):=
 if lo≥size then pure (ForInStep.done (none,lo))
 else do
  let x ←countRun' lo (size-lo)
  match x with
  |some found=>
   if found<minRun' size size 0 then do
    liftM (rule "list.sort.binary-insertion")
    let ok ←binarySort' lo (min (size-lo) (minRun' size size 0)) found
    if (!ok)=true then pure (ForInStep.done (some (),lo)) else kv size lo (min (size-lo) (minRun' size size 0))
   else kv size lo found
  |_=>pure (ForInStep.done (some (),lo))
def CV:StateT SortSt Sem (ForInStep U1):=do
 let st ←get
 if (pendingOf st).size≤1 then pure (ForInStep.done (none,()))
 else do
  let ok ←mergeAt' (if (if (pendingOf st).size-2>0 then (pendingOf st)[(pendingOf st).size-2-1]?.map (·.2.1) else none).any (·<((pendingOf st)[(pendingOf st).size-2+1]?.elim 0 (·.2.1))) then (pendingOf st).size-2-1 else (pendingOf st).size-2)
  if (!ok)=true then pure (ForInStep.done (some (),())) else pure (ForInStep.yield (none,()))
theorem u4:sortRuns'=(do
 let st ←get
 let c ←forIn [0:(arrOf st).size] ((none,0):Option Unit×Nat) λ_ c=>y8 (arrOf st).size c.2
 match c.1 with
 |some r=>pure r
 |none=>do
  let t ←forIn [0:(arrOf st).size] ((none,()):U1) λ_ _=>CV
  match t.1 with
  |some r=>pure r
  |none=>pure ()):=by
 rw [sortRuns'_eq];dsimp only;refine cx rfl λst=>cx (yt λ_ c=>?_) λc=>?_
 ·unfold y8
  refine dZ (λ_=>rfl) (λ_=>cx rfl λx=>?_);cases x with
  |none=>rfl
  |some f=>
   dsimp only;have jp:∀n:Nat,kv (arrOf st).size c.2 n=kv (arrOf st).size c.2 n:=λ_=>rfl;refine dZ (λ_=>cx rfl λ_=>cx rfl λok=>dZ (λ_=>rfl) (λ_=>?_)) (λ_=>?_)
   all_goals
    unfold kv;refine cx rfl λkz=>?_;cases (pendingOf kz).back? with
    |none=>rfl
    |some e=>
     obtain ⟨s1,n1,p1⟩:=e;dsimp only;refine cx (yt λ_ c=>?_) λt=>?_
     ·unfold El
      refine cx rfl λsM=>?_;cases (if (pendingOf sM).size>1 then (pendingOf sM)[(pendingOf sM).size-2]? else none) with
      |none=>rfl
      |some e=>rfl
     ·obtain ⟨t1,t2⟩:=t
      cases t1<;>rfl
 ·obtain ⟨c1,c2⟩:=c
  cases c1 with
  |some r=>rfl
  |none=>
   dsimp only;refine cx (yt λ_ c=>?_) λt=>?_
   ·rfl
   ·obtain ⟨t1,t2⟩:=t
    cases t1<;>rfl
section
variable {O:KeyOrd} {key:Keyed→O.α} {S:Keyed→Prop} {k0:SortKind} {prog:Program} {w:World} {A:Around} {E:Value→Shared→Prop} {s:Shared} {st bh:SortSt}
def ix(O:KeyOrd)(key:Keyed→O.α)(xs:Array Keyed):Nat→List (Nat×Nat)→Nat→Prop
 |a,[],b=>a=b
 |a,e::r,b=>e.1=a∧1≤e.2∧hV O key xs a (a+e.2)∧ix O key xs (a+e.2) r b
theorem ix.app{xs:Array Keyed}:∀{l1 l2:List (Nat×Nat)}{a b:Nat},ix O key xs a (l1++l2) b↔∃c,ix O key xs a l1 c∧ix O key xs c l2 b
 | [],l2,a,b=>⟨λh=>⟨a,rfl,h⟩,λ⟨c,h1,h2⟩=>by cases h1;exact h2⟩
 |e::l1,l2,a,b=>by
  constructor
  ·rintro ⟨h1,h2,h3,h4⟩
   obtain ⟨c,c1,c2⟩:=ix.app.mp h4;exact ⟨c,⟨h1,h2,h3,c1⟩,c2⟩
  ·rintro ⟨c,⟨h1,h2,h3,c1⟩,c2⟩
   exact ⟨h1,h2,h3,ix.app.mpr ⟨c,c1,c2⟩⟩
theorem ix.le{xs:Array Keyed}:∀{l:List (Nat×Nat)}{a b:Nat},ix O key xs a l b→a+l.length≤b
 | [],a,b,h=>by cases h;simp
 |e::l,a,b,⟨_,h2,_,h4⟩=>by
  have:=ix.le h4
  rw [cL];omega
theorem u7{xs ys:Array Keyed}{a b:Nat}(h:∀i,a≤i→i<b→ys[i]? =xs[i]?)(hs:hV O key xs a b):hV O key ys a b:=λi j h1 h2 h3=>by
 rw [gu (h i h1 (by omega)),gu (h j (by omega) h3)];exact hs i j h1 h2 h3
theorem ix.congr{xs ys:Array Keyed}:∀{l:List (Nat×Nat)}{a b:Nat},(∀i,a≤i→i<b→ys[i]? =xs[i]?)→ix O key xs a l b→ix O key ys a l b
 | [],a,b,_,h=>h
 |e::l,a,b,hc,⟨h1,h2,h3,h4⟩=>by
  have:=ix.le h4
  exact ⟨h1,h2,u7 (λi a1 a2=>hc i a1 (by omega)) h3,ix.congr (λi a1 a2=>hc i (by omega) a2) h4⟩
def pl(st:SortSt):List (Nat×Nat):=(pendingOf st).toList.map λe=>(e.1,e.2.1)
structure SI (O:KeyOrd) (key:Keyed→O.α) (S:Keyed→Prop) (k0:SortKind) (a0:Array Keyed) (st:SortSt) (lo:Nat):Prop where
 ok:Ok S k0 st
 failed:failedOf st=none
 perm:(arrOf st).Perm a0
 cov:ix O key (arrOf st) 0 (pl st) lo
 le:lo≤a0.size
theorem SI.size{a0:Array Keyed}{lo:Nat}(h:SI O key S k0 a0 st lo):(arrOf st).size=a0.size:=h.perm.size_eq
theorem Bc(C:fH O key S k0 (model prog w) A E s){a0:Array Keyed}{lo i:Nat}{Q:Bool→SortSt→Prop}(h:SI O key S k0 a0 st lo)(hi:i+1<(pendingOf st).size)
  (q:∀ag,SI O key S k0 a0 ag lo→(pendingOf ag).size=(pendingOf st).size-1→(∀j,lo≤j→(arrOf ag)[j]? =(arrOf st)[j]?)→Q true ag):wpS (model prog w) A E s (mergeAt' i) Q st:=by
 have e1:(pendingOf st)[i]? =some (pendingOf st)[i]:=getElem?_pos _ i (by omega)
 have e2:(pendingOf st)[i+1]? =some (pendingOf st)[i+1]:=getElem?_pos _ (i+1) hi
 have hl:(pendingOf st).toList=(pendingOf st).toList.take i++((pendingOf st)[i]::(pendingOf st)[i+1]::(pendingOf st).toList.drop (i+2)):=by
  conv=>lhs;rw [←jl i (pendingOf st).toList]
  congr 1
  rw [rY (by rw [bX];omega),rY (by rw [bX];omega)]
  rfl
 generalize hx:(pendingOf st)[i]=x at*;generalize hy:(pendingOf st)[i+1]=y at*;obtain ⟨sa,na,pw⟩:=x;obtain ⟨sb,nb,Vm⟩:=y;have hc:=h.cov;unfold pl at hc;rw [hl,dB,fY,fY] at hc;obtain ⟨c,c1,c2⟩:=ix.app.mp hc;obtain ⟨d1,d2,d3,d4,d5,d6,d7⟩:=c2;dsimp only at d1 d2 d3 d4 d5 d6 d7;subst d1;subst d4;have hle:=d7.le;have eD:=h.size;have Ac:=h.le;refine zi C h.ok h.failed e1 e2 d2 d5 (by omega) d3 d6 λag b1 b2 b3 b4 b5 b6=>?_
 have cW:(pendingOf ag).toList=(pendingOf st).toList.take i++((sa,na+nb,pw)::(pendingOf st).toList.drop (i+2)):=by
  rw [b4,Array.toList_eraseIdxIfInBounds,Array.toList_setIfInBounds]
  conv=>lhs;rw [hl]
  have hlen:((pendingOf st).toList.take i).length=i:=by rw [jn,bX];omega
  rw [List.set_append_right _ _ (by omega),List.eraseIdx_append_of_length_le (by omega),hlen,mL,show i+1-i=1 by omega]
  rfl
 refine q ag ⟨⟨λp hp=>h.ok.mem p ((Es.mp b1).mem_iff.mp hp),b2.trans h.ok.kind⟩,b3,b1.trans h.perm,?_,h.le⟩ ?_ λj hj=>b5 j (.inr (by omega))
 ·unfold pl
  rw [cW,dB,fY];refine ix.app.mpr ⟨sa,ix.congr (λj a1 a2=>b5 j (.inl a2)) c1,rfl,?_,b6,?_⟩
  ·show 1≤na+nb;omega
  ·show ix O key (arrOf ag) (sa+(na+nb)) _ lo
   rw [←Nat.add_assoc];exact ix.congr (λj a1 a2=>b5 j (.inr a1)) d7
 ·rw [←bX,cW,bV,cL,jn,qk,bX];omega
def Kp(bh st:SortSt)(lo:Nat):Prop:=∀j,lo≤j→(arrOf st)[j]? =(arrOf bh)[j]?
theorem F8(C:fH O key S k0 (model prog w) A E s){a0:Array Keyed}{lo pw:Nat}(h:SI O key S k0 a0 st lo)(hk:Kp bh st lo):wpS (model prog w) A E s (El pw) (λr ag=>match r with| .done c=>c=(none,())∧SI O key S k0 a0 ag lo∧Kp bh ag lo| .yield c=>c=(none,())∧SI O key S k0 a0 ag lo∧Kp bh ag lo) st:=by
 unfold El;refine wpS_bind (wpS_get ?_)
 by_cases hp:(pendingOf st).size>1
 ·rw [if_pos hp]
  cases e:(pendingOf st)[(pendingOf st).size-2]? with
  |none=>exact wpS_pure ⟨rfl,h,hk⟩
  |some x=>
   obtain ⟨x1,x2,x3⟩:=x;dsimp only
   by_cases hle:x3≤pw
   ·rw [if_pos hle];exact wpS_pure ⟨rfl,h,hk⟩
   ·rw [if_neg hle]
    refine wpS_bind (Bc C h (by omega) λag h' _ fe=>?_)
    exact wpS_pure ⟨rfl,h',λj hj=>(fe j hj).trans (hk j hj)⟩
 ·rw [if_neg hp]
  exact wpS_pure ⟨rfl,h,hk⟩
theorem IS{lo n:Nat}:pl (setPending st ((pendingOf st).push (lo,n,0)))=pl st++ [(lo,n)]:=by
 unfold pl;show ((pendingOf st).push (lo,n,0)).toList.map _=_;rw [xW,dB];rfl
theorem CD{i pw:Nat}:pl (setPending st ((pendingOf st).modify i λx=>(x.1,x.2.1,pw)))=pl st:=by
 unfold pl;show ((pendingOf st).modify i λx=>(x.1,x.2.1,pw)).toList.map _=_;apply qi;intro j;rw [dq,dq,eu,eu,Array.getElem?_modify]
 by_cases e:i=j
 ·rw [if_pos e]
  cases (pendingOf st)[j]? <;>rfl
 ·rw [if_neg e]
theorem SI.D7{a0:Array Keyed}{lo n:Nat}(h:SI O key S k0 a0 st lo)(hn:1≤n)(hl:lo+n≤a0.size)(hs:hV O key (arrOf st) lo (lo+n)):SI O key S k0 a0 (setPending st ((pendingOf st).push (lo,n,0))) (lo+n):=by
 refine ⟨⟨h.ok.mem,h.ok.kind⟩,h.failed,h.perm,?_,hl⟩;rw [IS];exact ix.app.mpr ⟨lo,h.cov,rfl,hn,hs,rfl⟩
theorem rX(C:fH O key S k0 (model prog w) A E s){a0:Array Keyed}{lo n:Nat}(h:SI O key S k0 a0 st lo)(hn:1≤n)(hl:lo+n≤a0.size)(hs:hV O key (arrOf st) lo (lo+n)):
  wpS (model prog w) A E s (kv a0.size lo n) (λr ag=>match r with| .done c=>False| .yield c=>c=(none,lo+n)∧SI O key S k0 a0 ag (lo+n)) st:=by
 unfold kv;refine wpS_bind (wpS_get ?_);cases (pendingOf st).back? with
 |none=>exact wpS_bind (wpS_modify (wpS_pure ⟨rfl,h.D7 hn hl hs⟩))
 |some e=>
  obtain ⟨s1,n1,p1⟩:=e;dsimp only;refine wpS_bind (wpS_mono (wpS_forRange (I:=λ(x:Nat)(c:U1)(ag:SortSt)=>c=(none,())∧SI O key S k0 a0 ag lo∧Kp st ag lo) (Q:=λc ag=>c=(none,())∧SI O key S k0 a0 ag lo∧Kp st ag lo) (λx c ag _ _ hh=>?_) (λc ag hh=>hh) ⟨rfl,h,λ_ _=>rfl⟩) ?_)
  ·refine wpS_mono (F8 C hh.2.1 hh.2.2) λr b8 o=>?_
   cases r with
   |done d=>exact o
   |yield d=>exact o
  ·rintro c ag ⟨rfl,h',fe⟩
   dsimp only;refine wpS_bind (wpS_modify (wpS_bind (wpS_modify (wpS_pure ⟨rfl,?_⟩))))
   have h2:SI O key S k0 a0 (setPending ag ((pendingOf ag).modify ((pendingOf ag).size-1) λx=>(x.1,x.2.1,power' a0.size (2*s1+n1) (2*s1+n1+n1+n) a0.size))) lo:=
    ⟨⟨h'.ok.mem,h'.ok.kind⟩,h'.failed,h'.perm,by rw [CD];exact h'.cov,h'.le⟩
   exact h2.D7 hn hl (u7 (λi a1 a2=>fe i a1) hs)
theorem SI.V1{a0:Array Keyed}{lo hi:Nat}{ag:SortSt}(h:SI O key S k0 a0 st lo)(t:fI st ag lo hi):SI O key S k0 a0 ag lo:=
 ⟨h.ok.step t,t.failed.trans h.failed,t.perm.trans h.perm,by
  have:pl ag=pl st:=by unfold pl;rw [t.pend]
  rw [this];exact ix.congr (λi _ a2=>t.out i (.inl a2)) h.cov,h.le⟩
theorem Dk(C:fH O key S k0 (model prog w) A E s){a0:Array Keyed}{lo:Nat}(h:SI O key S k0 a0 st lo):
  wpS (model prog w) A E s (y8 a0.size lo) (λr ag=>match r with| .done c=>c=(none,lo)∧a0.size≤lo∧SI O key S k0 a0 ag lo| .yield c=>∃n,1≤n∧c=(none,lo+n)∧SI O key S k0 a0 ag (lo+n)) st:=by
 unfold y8;have eD:=h.size;have hle:=h.le
 by_cases lH:lo≥a0.size
 ·rw [if_pos lH];exact wpS_pure ⟨rfl,lH,h⟩
 ·rw [if_neg lH]
  refine wpS_bind (wpS_countRun C h.ok (by omega) (by omega) λm za t1 m1 m2 sm=>?_)
  dsimp only;have h1:=h.V1 t1;have aah:=h1.size
  by_cases br:m<minRun' a0.size a0.size 0
  ·rw [if_pos br]
   refine wpS_bind (wpS_lift (wpAny_rule ⟨rfl,?_⟩));refine wpS_bind (wpS_binarySort C h1.ok (by omega) (by omega) sm λkz t2 s2=>?_)
   rw [if_neg (by decide)]
   refine wpS_mono (rX C (h1.V1 t2) (by omega) (by omega) s2) λr ag o=>?_
   cases r with
   |done d=>exact o.elim
   |yield d=>exact ⟨_,by omega,o.1,o.2⟩
  ·rw [if_neg br]
   refine wpS_mono (rX C h1 m1 (by omega) sm) λr ag o=>?_
   cases r with
   |done d=>exact o.elim
   |yield d=>exact ⟨_,m1,o.1,o.2⟩
theorem ite_le{c:Prop} [Decidable c] {p:Nat}:(if c then p-1 else p)≤p:=by split<;>omega
theorem Dj(C:fH O key S k0 (model prog w) A E s){a0:Array Keyed}{x:Nat}(h:SI O key S k0 a0 st a0.size)(hp:(pendingOf st).size≤max 1 (a0.size-x)):
  wpS (model prog w) A E s CV (λr ag=>match r with| .done c=>c=(none,())∧SI O key S k0 a0 ag a0.size∧(pendingOf ag).size≤1| .yield c=>c=(none,())∧SI O key S k0 a0 ag a0.size∧(pendingOf ag).size≤max 1 (a0.size-(x+1))) st:=by
 unfold CV;refine wpS_bind (wpS_get ?_)
 by_cases h1:(pendingOf st).size≤1
 ·rw [if_pos h1];exact wpS_pure ⟨rfl,h,h1⟩
 ·rw [if_neg h1]
  refine wpS_bind (Bc C h (mI (Nat.succ_le_succ ite_le) (by omega)) λag h' e _=>?_)
  exact wpS_pure ⟨rfl,h',by omega⟩
theorem wpS_sortRuns(C:fH O key S k0 (model prog w) A E s){Q:Unit→SortSt→Prop}(o:Ok S k0 st)(hf:failedOf st=none)(hp:pendingOf st= #[])(h1:1≤(arrOf st).size)
  (q:∀ag,(arrOf ag).Perm (arrOf st)→failedOf ag=none→hV O key (arrOf ag) 0 (arrOf st).size→Q () ag):wpS (model prog w) A E s sortRuns' Q st:=by
 rw [u4];refine wpS_bind (wpS_get ?_);have h0:SI O key S k0 (arrOf st) st 0:=⟨o,hf, .refl _,by unfold pl;rw [hp];rfl,cM _⟩
 refine wpS_bind (wpS_mono (wpS_forRange (I:=λ(x:Nat)(c:Option Unit×Nat)(ag:SortSt)=>∃lo,c=(none,lo)∧min x (arrOf st).size≤lo∧SI O key S k0 (arrOf st) ag lo) (Q:=λc ag=>c=(none,(arrOf st).size)∧SI O key S k0 (arrOf st) ag (arrOf st).size) (λx c ag _ _ hh=>?_) (λc ag hh=>?_) ⟨0,rfl,by omega,h0⟩) ?_)
 ·obtain ⟨lo,rfl,hx,hs⟩:=hh
  refine wpS_mono (Dk C hs) λr b8 o=>?_;cases r with
  |done d=>
   obtain ⟨e,e1,e2⟩:=o
   have:=e2.le
   have el:lo=(arrOf st).size:=by omega
   rw [el] at e e2;exact ⟨e,e2⟩
  |yield d=>
   obtain ⟨n,n1,e,e2⟩:=o;exact ⟨lo+n,e,by omega,e2⟩
 ·obtain ⟨lo,rfl,hx,hs⟩:=hh
  have:=hs.le
  have el:lo=(arrOf st).size:=by omega
  rw [el] at hs ⊢;exact ⟨rfl,hs⟩
 ·rintro c ag ⟨rfl,hs⟩
  dsimp only
  have hlen:(pendingOf ag).size≤(arrOf st).size:=by
   have:=hs.cov.le
   unfold pl at this;rw [aJ,bX] at this;omega
  refine wpS_bind (wpS_mono (wpS_forRange (I:=λ(x:Nat)(c:U1)(ag:SortSt)=>c=(none,())∧SI O key S k0 (arrOf st) ag (arrOf st).size∧(pendingOf ag).size≤max 1 ((arrOf st).size-x)) (Q:=λc ag=>c=(none,())∧SI O key S k0 (arrOf st) ag (arrOf st).size∧(pendingOf ag).size≤1) (λx c ag _ _ hh=>?_) (λc ag hh=>?_) ⟨rfl,hs,by omega⟩) ?_)
  ·refine wpS_mono (Dj C hh.2.1 hh.2.2) λr b8 o=>?_
   cases r with
   |done d=>exact o
   |yield d=>exact o
  ·exact ⟨hh.1,hh.2.1,by have:=hh.2.2;omega⟩
  ·rintro c b8 ⟨rfl,j5,SU⟩
   refine wpS_pure (q b8 j5.perm j5.failed ?_);have hc:=j5.cov;have YY:(pl b8).length≤1:=by unfold pl;rw [aJ,bX];exact SU
   match cW:pl b8,YY with
   | [],_=>rw [cW] at hc;exact absurd hc (by show ¬(0=(arrOf st).size);omega)
   | [e],_=>
    rw [cW] at hc;obtain ⟨a1,a2,a3,a4⟩:=hc
    have:0+e.2=(arrOf st).size:=a4
    rw [←this];exact a3
end
section
variable {O:KeyOrd} {key:Keyed→O.α} {S:Keyed→Prop} {k0:SortKind} {prog:Program} {w:World} {A:Around} {E:Value→Shared→Prop} {s:Shared}
def Keeps(s s':Shared):Prop:=∀b o,s.heap.get? b=some o→s'.heap.get? b=some o
theorem qZ(vs:List Value):(vs.toArray.zip vs.toArray).toList=vs.map λv=>(v,v):=by
 rw [Array.toList_zip];show List.zip vs vs=_
 induction vs with
 |nil=>rfl
 |cons v r ih=>rw [List.zip_cons_cons,fY,ih]
theorem LF{xs:Array Keyed}(h:hV O key xs 0 xs.size):xs.toList.Pairwise (LE O key):=by
 rw [vE];intro i j hi hj cQ;rw [bX] at hi hj;exact eo h (cM _) (Nat.le_of_lt cQ) hj (iX (cC _)) (iX (cC _))
theorem uD{a:Addr}{vs:List Value}{n:Nat}{P:PySem.Fin→Shared→Prop}(ho:s.heap.get? a=some (seqObj "list" vs.toArray n))(h2:2≤vs.length)(hz:vs.length≤1000)(ne:∀b o,s.heap.get? b=some o→b≠a→True)
  {s0:Shared} (k0s:∀b o,s0.heap.get? b=some o→b≠a∧s.heap.get? b=some o)
  (hk:∀(E:Value→Shared→Prop)(s':Shared)(Q':SortKind→Shared→Prop),Keeps s0 s'→Q' k0 s'→wpAny (model prog w) A (keyKind' vs.toArray) Q' E s')
  (C:∀(E:Value→Shared→Prop)(s':Shared),Keeps s0 s'→fH O key S k0 (model prog w) A E s') (mem:∀v∈vs,S (v,v))
  (h:∀out:Array Keyed,out.toList.Perm (vs.map λv=>(v,v))→out.toList.Pairwise (LE O key)→P (.done (.ret .none)) {s with heap:=sortedHeap s.heap a vs (out.map (·.2))}):
  wpAny (model prog w) A (Builtin.«list.sort» ⟨[.ref a],[]⟩) P E s:=by
 rw [list_sort_plain];have ha:a<s.heap.objs.size:=Heap.lt_size ho;have cA:1000<sizeLine:=by decide
 refine wpAny_bind (listItems_at ho rfl ?_);refine wpAny_bind (listUpdate_at ho rfl ?_ (by rw [dU];omega) (cM _))
 obtain ⟨e1,v5⟩:∃e1,(s.heap.update a (Obj.mapSeq λ_=> #[])).get? a=some (seqObj "list" #[] e1):=⟨_,get?_update_seq ho (λ_=> #[])⟩;refine wpAny_bind (seqEpoch_at v5 rfl ?_);refine wpAny_bind (wpAny_newTuple ?_ (by show vs.length≤_;omega))
 refine wpAny_bind (wpAny_newList ?_ (cM _));refine wpAny_holding ?_
 have HA:(((s.heap.update a (Obj.mapSeq λ_=> #[])).push (seqObj "tuple" vs.toArray 0)).push (seqObj "list" #[] 0)).get? a=some (seqObj "list" #[] e1):=by
  rw [Heap.get?_push_ne _ _ _ (by rw [size_push',Heap.size_update];exact bW (xX ha)),Heap.get?_push_ne _ _ _ (by rw [Heap.size_update];exact bW ha)]
  exact v5
 show wpAny (model prog w) A _ P E {s with heap:=((s.heap.update a (Obj.mapSeq λ_=> #[])).push (seqObj "tuple" vs.toArray 0)).push (seqObj "list" #[] 0)}
 have kp:Keeps s0 {s with heap:=((s.heap.update a (Obj.mapSeq λ_=> #[])).push (seqObj "tuple" vs.toArray 0)).push (seqObj "list" #[] 0)}:=λb o e=>by
  obtain ⟨n1,e'⟩:=k0s b o e;refine Heap.get?_push_of_some _ (Heap.get?_push_of_some _ ?_);rw [Heap.get?_update_ne _ _ _ _ n1];exact e'
 dsimp only;have eD:vs.toArray.size=vs.length:=by simp
 have vY:¬vs.toArray.size<2:=by omega
 rw [if_neg vY,if_neg vY];refine wpAny_bind (hk _ _ _ kp ?_);have hsz2:(vs.toArray.zip vs.toArray).size=vs.length:=by rw [←bX,qZ,aJ]
 refine wpAny_bind (wpAny_mono (wpS_sortRuns (C _ _ kp) (st:=SortSt.mk' k0 (vs.toArray.zip vs.toArray) #[] 7 none)
   (Q:=λ_ ag=>(arrOf ag).Perm (vs.toArray.zip vs.toArray)∧failedOf ag=none∧hV O key (arrOf ag) 0 (vs.toArray.zip vs.toArray).size)
   ⟨λp hp=>?_,rfl⟩ rfl rfl (by show 1≤(vs.toArray.zip vs.toArray).size;omega) λag a1 a2 a3=>⟨a1,a2,a3⟩) ?_ λ_ _ e=>e)
 ·have Ag:p∈(vs.toArray.zip vs.toArray).toList:=hp
  rw [qZ] at Ag;obtain ⟨v,hv,rfl⟩:=bN.mp Ag;exact mem v hv
 rintro ⟨⟨⟩,ag⟩ s' ⟨rfl,hp,hf,hs⟩;dsimp only;have hps:(arrOf ag).size=vs.length:=by rw [hp.size_eq,hsz2]
 refine wpAny_bind (seqEpoch_at HA rfl ?_);refine wpAny_bind (listUpdate_at HA rfl ?_ (cM _) (by rw [Array.size_map];omega))
 rw [hf];simp only [bne_self_eq_false,eB,if_false];refine wpAny_pure (h (arrOf ag) ?_ ?_)
 ·rw [←qZ];exact Es.mp hp
 ·refine LF ?_
  rw [hp.size_eq];exact hs
theorem rS{l:Addr}{vs:List Value}{Q:Value→Shared→Prop}(hl:s.heap.IsList l vs.toArray)(h2:2≤vs.length)(hz:vs.length≤1000)
  (hk:∀(E:Value→Shared→Prop)(s':Shared)(Q':SortKind→Shared→Prop),Keeps s s'→Q' k0 s'→wpAny (model prog w) A.in1.in1 (keyKind' vs.toArray) Q' E s')
  (C:∀(E:Value→Shared→Prop)(s':Shared),Keeps s s'→fH O key S k0 (model prog w) A.in1.in1 E s') (mem:∀v∈vs,S (v,v))
  (h:∀out:Array Keyed,out.toList.Perm (vs.map λv=>(v,v))→out.toList.Pairwise (LE O key)→Q (.ref (s.heap.objs.size+1)) {s with heap:=sortedAll s.heap vs (out.map (·.2))}):
  wpAny (model prog w) A (call (.builtin "sorted") [.ref l]) Q E s:=by
 have cA:1000<sizeLine:=by decide
 refine Calls.call_function_entry kind_sorted plain_sorted entry_sorted (args_sorted1 _) ?_;unfold Builtin.«sorted»;refine wpAny_bind (m:=checkCount "sorted" 1 1 _) (wpAny_pure ?_);refine wpAny_bind (collect_list hl ?_ (by omega))
 refine wpAny_bind (wpAny_newList ?_ (by show vs.length≤_;omega))
 have eD:((s.heap.push (seqObj "list" #[] 0)).update s.heap.objs.size (Obj.mapSeq (·++vs.toArray))).objs.size=s.heap.objs.size+1:=by
  rw [Heap.size_update,size_push']
 have Kg:(((s.heap.push (seqObj "list" #[] 0)).update s.heap.objs.size (Obj.mapSeq (·++vs.toArray))).push (seqObj "list" vs.toArray 0)).get? (s.heap.objs.size+1)=some (seqObj "list" vs.toArray 0):=by
  rw [←eD];exact Heap.get?_push_size _ rfl
 have keep:∀b o,s.heap.get? b=some o→(((s.heap.push (seqObj "list" #[] 0)).update s.heap.objs.size (Obj.mapSeq (·++vs.toArray))).push (seqObj "list" vs.toArray 0)).get? b=some o:=λb o q=>by
  have br:b<s.heap.objs.size:=Heap.lt_size q;rw [Heap.get?_push_ne _ _ _ (by rw [eD];exact bW (xX br)),Heap.get?_update_ne _ _ _ _ (bW br),Heap.get?_push_ne _ _ _ (bW br)]
  exact q
 show wpAny _ _ _ _ _ {s with heap:=((s.heap.push (seqObj "list" #[] 0)).update s.heap.objs.size (Obj.mapSeq (·++vs.toArray))).push (seqObj "list" vs.toArray 0)}
 rw [eD];refine wpAny_bind (wpAny_holding (wpAny_call_entry slot_list_sort ⟨_,Kg,rfl⟩ entry_list_sort (uD (s0:=s) Kg h2 hz (λ_ _ _ _=>trivial) (λb o e=>⟨bW (xX (Heap.lt_size e)),keep b o e⟩) hk C mem λout a1 a2=>⟨_,rfl,?_⟩) (args_list_sort _)));exact wpAny_pure ⟨_,rfl,h out a1 a2⟩
end
end TS
namespace L2
open PySem PySem.Spec PyProof.Rows
def lexOrd:KeyOrd where
 α:=Nat×Nat
 blt:=iH
 irrefl:=λa=>by unfold iH;rw [if_pos rfl];simp
 trans:=λa b c h1 h2=>HW _ _ _ h1 h2
 negTrans:=λa b c h=>Fu _ _ _ h
 total:=λa b h1 h2=>Wb.mV (uz h2) (uz h1)
def keyOf(L:List (Addr×(Nat×Nat)))(v:Keyed):Nat×Nat:=match v.1 with
 | .ref a=>((L.find? λe=>e.1==a).map (·.2)).getD (0,0)
 |_=>(0,0)
theorem CA{k k':Nat×Nat}(h:fS k=fS k'):k=k':=by
 unfold fS at h
 injection h with h1 h2
 injection h2 with h2 _
 injection h1 with h1
 injection h2 with h2
 exact Prod.ext (by omega) (by omega)
theorem j8{H:Hp}{L:List (Addr×(Nat×Nat))}(hL:nZ H L){e:Addr×(Nat×Nat)}(he:e∈L)(v:Value):keyOf L (.ref e.1,v)=e.2:=by
 unfold keyOf;dsimp only;cases hf:L.find? λx=>x.1==e.1 with
 |none=>exact absurd (List.find?_eq_none.mp hf e he) (by simp)
 |some x=>
  have hx:=List.mem_of_find?_eq_some hf;have hb:=List.find?_some hf;have e1:x.1=e.1:=by simpa using hb
  have a1:=hL x hx;have a2:=hL e he;rw [e1,a2] at a1
  injection a1 with a1
  injection a1 with a1
  exact (CA a1).symm
theorem fU{α β:Type} [DecidableEq α] (f:α→β):∀(l:List β)(L:List α),l.Perm (L.map f)→∃M:List α,M.Perm L∧l=M.map f
 | [],L,h=>by
  have:=h.length_eq
  rw [aJ] at this
  have:L= []:=List.length_eq_zero_iff.mp this.symm
  subst this;exact ⟨[], .refl _,rfl⟩
 |x::r,L,h=>by
  obtain ⟨e,he,rfl⟩:=bN.mp (h.mem_iff.mp bY);have p1:=List.perm_cons_erase he;have p2:(f e::r).Perm (f e::(L.erase e).map f):=h.trans (p1.map f);obtain ⟨M,m1,rfl⟩:=fU f r (L.erase e) ((List.perm_cons _).mp p2);exact ⟨e::M,(m1.cons e).trans p1.symm,rfl⟩
section
variable {X:Cx}
theorem vR:cN X (.builtin "sorted") (λxs H Q=>∃(p:Addr)(L:List (Addr×(Nat×Nat))),xs= [.ref p]∧aC X.K H p (L.map λe=>V.ref e.1)∧nZ H L∧L.length≤1000∧
  ∀(q:Addr)(M:List (Addr×(Nat×Nat))),H q=none→M.Perm L→(M.map (·.2)).Pairwise Wb.lexLe→Q (.ref q) (upd H q (.lst (M.map λe=>V.ref e.1)))):=by
 intro pins s σ H xs us Q I rv h;obtain ⟨p,L,rfl,hp,hL,hz,q⟩:=h;obtain ⟨u,rfl,ru⟩:=rv.one;cases ru;obtain ⟨its,r,pl,_⟩:=I.list hp;have hl:=r.length;rw [aJ] at hl;have cA:1000<sizeLine:=by decide
 have ei:its=L.map λe=>Value.ref e.1:=by
  have:=oQ (as:=L.map (·.1)) (us:=its) (by rw [bL];exact r)
  rw [this,bL];rfl
 by_cases h2:L.length<2
 ·refine KS.nQ pl.isList (by omega) ?_
  obtain ⟨e,he⟩:=sortedAll_at s.heap its its.toArray;have fr:H (s.heap.objs.size+1)=none:=I.hok.fresh (jq _);refine ⟨.ref (s.heap.objs.size+1),_,I.laid (t':=s.toks) (λb o hb=>sortedAll_old hb) (jq _) (o:= .lst (L.map λe=>V.ref e.1)) ⟨by rw [aJ];omega,its,e,r,he⟩,rfl,q _ L fr (.refl _) ?_⟩
  match L,h2 with
  | [],_=>exact .nil
  | [_],_=>exact List.pairwise_singleton _ _
 ·have tup:∀e∈L,∀s':Shared,TS.Keeps s s'→∃t u,IsTup s'.heap e.1 [.int (e.2.1:Nat) t, .int (e.2.2:Nat) u].toArray:=λe he s' kp=>by
   obtain ⟨t,u,o,ho,hc,n,hd⟩:=FJ I (hL e he);exact ⟨t,u,o,kp _ _ ho,hc,n,hd⟩
  refine TS.rS (O:=lexOrd) (key:=keyOf L) (S:=λp=>∃e∈L,p=(Value.ref e.1,Value.ref e.1)) (k0:=tuples' true) pl.isList (by omega) (by omega) (λE' s' Q' kp hq=>?_) (λE' s' kp x y st Q' sx sy hk hq=>?_) (λv hv=>?_) λout uj BZ=>?_
  ·have go:∀(M:List (Addr×(Nat×Nat))),(∀e∈M,e∈L)→∃fs:List Value,PySem.W.KatTups s'.heap (M.map λe=>Value.ref e.1) fs∧fs.length=M.length∧∀v∈fs,∃i t,v= .int i t:=by
    intro M
    induction M with
    |nil=>exact λ_=>⟨[],PySem.W.KatTups.nil,rfl,λv hv=>by cases hv⟩
    |cons e M ih=>
     intro hM;obtain ⟨fs,a,b,c⟩:=ih λx hx=>hM x (cu _ hx);obtain ⟨t,u,o,ho,hc,n,hd⟩:=tup e (hM e bY) s' kp;refine ⟨.int (e.2.1:Nat) t::fs,PySem.W.KatTups.cons ho hc hd rfl a,by simp [b],λv hv=>?_⟩
     rcases ck.mp hv with z|z
     ·exact ⟨_,_,z⟩
     ·exact c v z
   obtain ⟨fs,kt,kl,ki⟩:=go L λ_ h=>h;rw [ei];refine PySem.W.kat_kind (T:= .type "int") kt (by omega) (λv hv=>by obtain ⟨i,t,rfl⟩:=ki v hv;exact .now) (by decide) ?_
   have hb:(Value.type "int" !=Value.type "tuple")=true:=by decide
   rw [hb];exact hq
  ·obtain ⟨e1,m1,rfl⟩:=sx
   obtain ⟨e2,m2,rfl⟩:=sy;rw [lt'_eq];refine wpS_bind (wpS_get ?_);rw [hk];obtain ⟨t1,t2,k1⟩:=tup e1 m1 s' kp;obtain ⟨u1,u2,k2⟩:=tup e2 m2 s' kp;refine wpS_bind (wpS_lift (wpAny_attempt (Kt k1 k2 ⟨rfl,?_⟩)))
   have eb:(if ((e1.2.1:Nat):Int)=((e2.2.1:Nat):Int) then decide (((e1.2.2:Nat):Int)<((e2.2.2:Nat):Int)) else decide (((e1.2.1:Nat):Int)<((e2.2.1:Nat):Int)))=lexOrd.blt (keyOf L (.ref e1.1, .ref e1.1)) (keyOf L (.ref e2.1, .ref e2.1)):=by
    rw [j8 hL m1,j8 hL m2];show _=iH e1.2 e2.2;unfold iH;simp only [Int.ofNat_inj,Int.ofNat_lt]
   rw [eb];exact wpS_pure hq
  ·rw [ei] at hv
   obtain ⟨e,he,rfl⟩:=bN.mp hv;exact ⟨e,he,rfl⟩
  ·rw [ei,bL] at uj
   obtain ⟨M,mp,em⟩:=fU (λe:Addr×(Nat×Nat)=>((Value.ref e.1,Value.ref e.1):Keyed)) out.toList L uj
   have HD:(out.map (·.2)).toList=M.map λe=>Value.ref e.1:=by
    rw [Array.toList_map,em,bL];rfl
   obtain ⟨c,hc⟩:=sortedAll_at s.heap its (out.map (·.2));have fr:H (s.heap.objs.size+1)=none:=I.hok.fresh (jq _);have BV:=mp.length_eq;refine ⟨.ref (s.heap.objs.size+1),_,I.laid (t':=s.toks) (λb o hb=>sortedAll_old hb) (jq _) (o:= .lst (M.map λe=>V.ref e.1)) ⟨by rw [aJ];omega,(out.map (·.2)).toList,c,?_,by rw [Array.toArray_toList];exact hc⟩,rfl,q _ M fr mp ?_⟩
   ·rw [HD,show (λe:Addr×(Nat×Nat)=>V.ref e.1)=V.ref∘(·.1) from rfl,show (λe:Addr×(Nat×Nat)=>Value.ref e.1)=Value.ref∘(·.1) from rfl,←bL,←bL]
    exact oJ _
   ·rw [em,jm] at BZ
    rw [jm];refine List.Pairwise.imp_of_mem ?_ BZ;intro e1 e2 m1 m2 hle;have Ab:iH (keyOf L (.ref e2.1, .ref e2.1)) (keyOf L (.ref e1.1, .ref e1.1))=false:=hle;rw [j8 hL (mp.mem_iff.mp m1),j8 hL (mp.mem_iff.mp m2)] at Ab;exact uz Ab
end
section
open PySem.SeqAt
open PySem.AutoSeq1 (wpAny_loadPart')
open PySem.MeetsSeq PySem.MeetsSeq2 PySem.MeetsSeq3
theorem Am{vs:List Value}{ns:List Int}(h:IntsAre vs ns){i:Nat}{a:Int}(e:ns[i]? =some a):∃t,vs[i]? =some (.int a t):=by
 induction h generalizing i with
 |nil=>simp at e
 |cons b t _ ih=>
  cases i with
  |zero=>simp at e;subst e;exact ⟨t,rfl⟩
  |succ i=>simp at e;obtain ⟨u,hu⟩:=ih e;exact ⟨u,by simpa using hu⟩
theorem Ie(l b:Addr)(items bf:Array Value)(n n2:Nat)(dd qt:Option Addr)(sl oN:Array (Option Value))(ns ms:List Int)(hi:IntsAre items.toList ns)(hj:IntsAre bf.toList ms)(k:Nat):
  ∀i:Nat,items.size-i=k→i≤items.size→i≤bf.size→Meets (Builtin.«list.__eq__.loop» ⟨[.ref l, .ref b,rawInt i,rawInt 0],[]⟩)
   (λA R s=>s.heap.get? l=some {cls:= .type "list",dict:=dd,data:= .seq items n,slots:=sl}∧s.heap.get? b=some {cls:= .type "list",dict:=qt,data:= .seq bf n2,slots:=oN}∧
    R (.ok (.ret (.bool (HT.lexLt (ns.drop i) (ms.drop i))))) s):=by
 have z1:items.size=ns.length:=by rw [←hi.length];simp
 have z2:bf.size=ms.length:=by rw [←hj.length];simp
 induction k with
 |zero=>
  intro i hk h1 h2 prog w A R s h;obtain ⟨hp,g,d,tk,os⟩:=s;obtain ⟨hl,hb,h⟩:=h
  wp_walk using wpAny_loadPart' hl,wpAny_loadPart' hb
  have z6:items[((i:Nat):Int).toNat]? =none:=by simp;omega
  rw [z6];have e1:ns.drop i= []:=vG (by omega)
  rw [e1] at h
  have hv:HT.lexLt [] (ms.drop i)=decide (items.size<bf.size):=by
   by_cases c:i<ms.length
   ·rw [rY c,HT.kF]
    exact (decide_eq_true (by omega)).symm
   ·rw [vG (by omega),HT.lM]
    exact (decide_eq_false (by omega)).symm
  rw [hv] at h
  wp_walk using wpAny_loadPart' hl,wpAny_loadPart' hb
  exact h
 |succ k ih=>
  intro i hk h1 h2 prog w A R s h;obtain ⟨hp,g,d,tk,os⟩:=s;obtain ⟨hl,hb,h⟩:=h
  wp_walk using wpAny_loadPart' hl,wpAny_loadPart' hb
  have br:i<ns.length:=by omega
  obtain ⟨t,ht⟩:=Am hi (cC br);have z6:items[((i:Nat):Int).toNat]? =some (.int ns[i] t):=by rw [kP,←eu];exact ht
  have hc:((i:Int)+1)=((i+1:Nat):Int):=by push_cast;rfl
  rw [z6]
  by_cases c:i<ms.length
  ·obtain ⟨u,hu⟩:=Am hj (cC c)
   have BS:bf[((i:Nat):Int).toNat]? =some (.int ms[i] u):=by rw [kP,←eu];exact hu
   rw [BS];rw [rY br,rY c,HT.eO] at h;obtain ⟨e,he,z7⟩:=HT.wJ A.in1 ⟨hp,g,d,tk,os⟩ ns[i] t ms[i] u;refine wpAny_bind (he prog w _ _ ?_);cases e with
   |true=>
    rw [if_pos (z7.mp rfl)] at h
    wp_walk
    rw [hc]
    exact ⟨plainId_quiet plain_eq_loop _,codeAny_builtin entry_eq_loop (by
     rw [Around.under_plainId plain_eq_loop _];exact ih (i+1) (by omega) (by omega) (by omega) prog w A R _ ⟨hl,hb,h⟩)⟩
   |false=>
    rw [if_neg (λq=>absurd (z7.mpr q) cK)] at h
    wp_walk using wpAny_loadPart' hl,wpAny_loadPart' hb
    rw [z6,BS];have OO:=HT.xy A.in1 ⟨hp,g,d,tk,os⟩ ns[i] t ms[i] u prog w
    wp_walk using OO
    exact h
  ·have BS:bf[((i:Nat):Int).toNat]? =none:=by simp;omega
   rw [BS];rw [rY br,vG (show ms.length≤i by omega),HT.kE] at h
   wp_walk using wpAny_loadPart' hl,wpAny_loadPart' hb
   show R (.ok (.ret (.bool (decide (items.size<bf.size))))) _;rw [decide_eq_false (by omega)]
   exact h
end
section
open PySem.SeqAt
open PySem.AutoSeq1 (wpAny_loadPart')
open PySem.MeetsSeq PySem.MeetsSeq2 PySem.MeetsSeq3
theorem wa(l b:Addr)(items bf:Array Value)(n n2:Nat)(dd qt:Option Addr)(sl oN:Array (Option Value))(ns ms:List Int)(hi:IntsAre items.toList ns)(hj:IntsAre bf.toList ms):
  Meets (Builtin.«list.__lt__» ⟨[.ref l, .ref b],[]⟩)
   (λ_ R s=>s.heap.get? l=some {cls:= .type "list",dict:=dd,data:= .seq items n,slots:=sl}∧s.heap.get? b=some {cls:= .type "list",dict:=qt,data:= .seq bf n2,slots:=oN}∧
    R (.ok (.ret (.bool (HT.lexLt ns ms)))) s):=by
 intro prog w A R s h;obtain ⟨hp,g,d,tk,os⟩:=s;obtain ⟨hl,hb,h⟩:=h;have f3:=AutoSeq1.sub_list_list
 wp_walk using wpAny_loadPart' hl,wpAny_loadPart' hb
 exact ⟨plainId_quiet plain_eq_loop _,codeAny_builtin entry_eq_loop (by
  rw [Around.under_plainId plain_eq_loop _];exact Ie l b items bf n n2 dd qt sl oN ns ms hi hj _ 0 rfl (cM _) (cM _) prog w A R _ ⟨hl,hb,h⟩)⟩
end
section
variable {prog:Program} {w:World} {A:Around} {E:Value→Shared→Prop} {s:Shared}
theorem AG{l b:Addr}{items bf:Array Value}{ns ms:List Int}{Q:Bool→Shared→Prop}(hl:s.heap.IsList l items)(hb:s.heap.IsList b bf)(hi:IntsAre items.toList ns)(hj:IntsAre bf.toList ms)(hu:A.units<cLine)
  (h:Q (HT.lexLt ns ms) s):wpAny (model prog w) A (oneLt' true (.ref l) (.ref b)) Q E s:=by
 obtain ⟨⟨cls,dd,data,sl⟩,ho,hc,n,hd⟩:=id hl;obtain ⟨⟨Md,qt,data2,oN⟩,uh,vU,n2,hd2⟩:=id hb;simp only at hc hd vU hd2;subst hc hd vU hd2;rw [oneLt'_eq];simp only [if_true];refine wpAny_bind (wpAny_cRoomFor hu ?_);refine wpAny_bind (wpAny_callSpecialIfBound?_slot ⟨_,ho,rfl⟩ PySem.F.slot_list_lt (call_meets PySem.F.slot_list_lt ⟨_,ho,rfl⟩ PySem.F.entry_list_lt (PySem.F.args_list_lt_2 _ _) (wa l b items bf n n2 dd qt sl oN ns ms hi hj) ⟨ho,uh,?_⟩));exact wpAny_truthy_bool h
end
theorem lN:∀a:List Int,HT.lexLt a a=false
 | []=>rfl
 |x::xs=>by rw [HT.eO,if_pos rfl];exact lN xs
theorem sX:∀a b c:List Int,HT.lexLt a b=true→HT.lexLt b c=true→HT.lexLt a c=true
 | [],[],_,h,_=>by cases h
 | [],_::_,[],_,h=>by cases h
 | [],_::_,_::_,_,_=>rfl
 |_::_,[],_,h,_=>by cases h
 |_::_,_::_,[],_,h=>by cases h
 |x::xs,y::ys,z::zs,h1,h2=>by
  rw [HT.eO] at*
  by_cases e1:x=y
  ·rw [if_pos e1] at h1
   by_cases e2:y=z
   ·rw [if_pos e2] at h2
    rw [if_pos (e1.trans e2)];exact sX xs ys zs h1 h2
   ·rw [if_neg e2] at h2
    rw [if_neg (by rw [e1];exact e2),e1];exact h2
  ·rw [if_neg e1] at h1
   have l1:=of_decide_eq_true h1
   by_cases e2:y=z
   ·rw [if_neg (by rw [←e2];exact e1),←e2];exact h1
   ·rw [if_neg e2] at h2
    have l2:=of_decide_eq_true h2;rw [if_neg (by omega)]
    exact decide_eq_true (by omega)
theorem pJ:∀a b:List Int,HT.lexLt a b=false→HT.lexLt b a=false→a=b
 | [],[],_,_=>rfl
 | [],_::_,h,_=>by cases h
 |_::_,[],_,h=>by cases h
 |x::xs,y::ys,h1,h2=>by
  rw [HT.eO] at*
  by_cases e:x=y
  ·rw [if_pos e] at h1
   rw [if_pos e.symm] at h2;rw [e,pJ xs ys h1 h2]
  ·rw [if_neg e] at h1
   rw [if_neg (λz=>e z.symm)] at h2
   have:=of_decide_eq_false h1
   have:=of_decide_eq_false h2
   omega
theorem HX(a b c:List Int)(h:HT.lexLt a c=true):HT.lexLt a b=true∨HT.lexLt b c=true:=by
 cases e1:HT.lexLt a b with
 |true=>exact .inl rfl
 |false=>
  right
  cases e2:HT.lexLt b a with
  |true=>exact sX _ _ _ e2 h
  |false=>rw [←pJ a b e1 e2];exact h
def H0:KeyOrd where
 α:=List Int
 blt:=HT.lexLt
 irrefl:=lN
 trans:=sX
 negTrans:=HX
 total:=pJ
def fX(r:List Nat):List Int:=r.map λ(n:Nat)=>(n:Int)
def fQ(a b:List Nat):Prop:=HT.lexLt (fX b) (fX a)=false
def yb(H:Hp)(L:List (Addr×List Nat)):Prop:=∀p∈L,H p.1=some (.lst ((fX p.2).map V.int))
theorem A5{a b:List Nat}(h:(fX a).map V.int=(fX b).map V.int):a=b:=by
 unfold fX at h;rw [bL,bL] at h
 induction a generalizing b with
 |nil=>cases b with
  |nil=>rfl
  |cons y b=>simp at h
 |cons x a ih=>
  cases b with
  |nil=>simp at h
  |cons y b=>
   rw [fY,fY] at h
   injection h with h1 h2
   have J7:V.int (x:Int)=V.int (y:Int):=h1
   injection J7 with J7
   rw [ih h2,show x=y by omega]
def oj(L:List (Addr×List Nat))(v:Keyed):List Int:=match v.1 with
 | .ref a=>((L.find? λe=>e.1==a).map λe=>fX e.2).getD []
 |_=> []
theorem j7{H:Hp}{L:List (Addr×List Nat)}(hL:yb H L){e:Addr×List Nat}(he:e∈L)(v:Value):oj L (.ref e.1,v)=fX e.2:=by
 unfold oj;dsimp only;cases hf:L.find? λx=>x.1==e.1 with
 |none=>exact absurd (List.find?_eq_none.mp hf e he) (by simp)
 |some x=>
  have hx:=List.mem_of_find?_eq_some hf;have hb:=List.find?_some hf;have e1:x.1=e.1:=by simpa using hb
  have a1:=hL x hx;have a2:=hL e he;rw [e1,a2] at a1
  injection a1 with a1
  injection a1 with a1
  show fX x.2=fX e.2;rw [A5 a1]
section
variable {X:Cx}
theorem lh(hu:X.A.units+64<cLine):cN X (.builtin "sorted") (λxs H Q=>∃(p:Addr)(L:List (Addr×List Nat)),xs= [.ref p]∧aC X.K H p (L.map λe=>V.ref e.1)∧yb H L∧L.length≤1000∧
  ∀(q:Addr)(M:List (Addr×List Nat)),H q=none→M.Perm L→(M.map (·.2)).Pairwise fQ→Q (.ref q) (upd H q (.lst (M.map λe=>V.ref e.1)))):=by
 intro pins s σ H xs us Q I rv h;obtain ⟨p,L,rfl,hp,hL,hz,q⟩:=h;obtain ⟨u,rfl,ru⟩:=rv.one;cases ru;obtain ⟨its,r,pl,_⟩:=I.list hp;have hl:=r.length;rw [aJ] at hl;have cA:1000<sizeLine:=by decide
 have ei:its=L.map λe=>Value.ref e.1:=by
  have:=oQ (as:=L.map (·.1)) (us:=its) (by rw [bL];exact r)
  rw [this,bL];rfl
 by_cases h2:L.length<2
 ·refine KS.nQ pl.isList (by omega) ?_
  obtain ⟨e,he⟩:=sortedAll_at s.heap its its.toArray;have fr:H (s.heap.objs.size+1)=none:=I.hok.fresh (jq _);refine ⟨.ref (s.heap.objs.size+1),_,I.laid (t':=s.toks) (λb o hb=>sortedAll_old hb) (jq _) (o:= .lst (L.map λe=>V.ref e.1)) ⟨by rw [aJ];omega,its,e,r,he⟩,rfl,q _ L fr (.refl _) ?_⟩
  match L,h2 with
  | [],_=>exact .nil
  | [_],_=>exact List.pairwise_singleton _ _
 ·have lst:∀e∈L,∀s':Shared,TS.Keeps s s'→∃items:Array Value,s'.heap.IsList e.1 items∧IntsAre items.toList (fX e.2):=λe he s' kp=>by
   obtain ⟨ZA,r2,p2,_⟩:=I.list (aC.of (hL e he));obtain ⟨o,ho,hc,n,hd⟩:=p2.isList;exact ⟨ZA.toArray,⟨o,kp _ _ ho,hc,n,hd⟩,by simpa using intsAre_of r2⟩
  refine TS.rS (O:=H0) (key:=oj L) (S:=λp=>∃e∈L,p=(Value.ref e.1,Value.ref e.1)) (k0:=oneType') pl.isList (by omega) (by omega) (λE' s' Q' kp hq=>?_) (λE' s' kp x y st Q' sx sy hk hq=>?_) (λv hv=>?_) λout uj BZ=>?_
  ·refine PySem.W.kas_kind (T:= .type "list") (by omega) (λv hv=>?_) (by decide) (by decide) hq
   rw [ei] at hv;obtain ⟨e,he,rfl⟩:=bN.mp hv;obtain ⟨items,⟨o,ho,hc,_⟩,_⟩:=lst e he s' kp;rw [←hc];exact (PySem.W.Looks.ld ho).andThen .now
  ·obtain ⟨e1,m1,rfl⟩:=sx
   obtain ⟨e2,m2,rfl⟩:=sy;rw [lt'_eq];refine wpS_bind (wpS_get ?_);rw [hk,keyLt'_oneType];obtain ⟨i1,l1,n1⟩:=lst e1 m1 s' kp;obtain ⟨i2,l2,n2⟩:=lst e2 m2 s' kp;refine wpS_bind (wpS_lift (wpAny_attempt (AG l1 l2 n1 n2 ?_ ⟨rfl,?_⟩)))
   ·rw [Around.in1_units,Around.in1_units];omega
   ·have eb:HT.lexLt (fX e1.2) (fX e2.2)=H0.blt (oj L (.ref e1.1, .ref e1.1)) (oj L (.ref e2.1, .ref e2.1)):=by
     rw [j7 hL m1,j7 hL m2];rfl
    rw [eb];exact wpS_pure hq
  ·rw [ei] at hv
   obtain ⟨e,he,rfl⟩:=bN.mp hv;exact ⟨e,he,rfl⟩
  ·rw [ei,bL] at uj
   obtain ⟨M,mp,em⟩:=fU (λe:Addr×List Nat=>((Value.ref e.1,Value.ref e.1):Keyed)) out.toList L uj
   have HD:(out.map (·.2)).toList=M.map λe=>Value.ref e.1:=by
    rw [Array.toList_map,em,bL];rfl
   obtain ⟨c,hc⟩:=sortedAll_at s.heap its (out.map (·.2));have fr:H (s.heap.objs.size+1)=none:=I.hok.fresh (jq _);have BV:=mp.length_eq;refine ⟨.ref (s.heap.objs.size+1),_,I.laid (t':=s.toks) (λb o hb=>sortedAll_old hb) (jq _) (o:= .lst (M.map λe=>V.ref e.1)) ⟨by rw [aJ];omega,(out.map (·.2)).toList,c,?_,by rw [Array.toArray_toList];exact hc⟩,rfl,q _ M fr mp ?_⟩
   ·rw [HD,show (λe:Addr×List Nat=>V.ref e.1)=V.ref∘(·.1) from rfl,show (λe:Addr×List Nat=>Value.ref e.1)=Value.ref∘(·.1) from rfl,←bL,←bL]
    exact oJ _
   ·rw [em,jm] at BZ
    rw [jm];refine List.Pairwise.imp_of_mem ?_ BZ;intro e1 e2 m1 m2 hle;have Ab:HT.lexLt (oj L (.ref e2.1, .ref e2.1)) (oj L (.ref e1.1, .ref e1.1))=false:=hle;rw [j7 hL (mp.mem_iff.mp m1),j7 hL (mp.mem_iff.mp m2)] at Ab;exact Ab
end
end L2
namespace PySem.SetTable
def lb(xs:Array Nat):Prop:=∀i j (hj:j<xs.size),i<j→xs[i]! <xs[j]!
theorem Hf{xs:Array Nat}{i d:Nat}(h:i<xs.size):xs.getD i d=xs[i]! :=by
 simp [Array.getD,h]
theorem ue{xs:Array Nat}(R:lb xs)(j:Nat):∀(fuel lo hi:Nat),hi-lo≤fuel→lo≤hi→hi≤xs.size→(∀i,i<lo→xs[i]! <j)→(∀i,hi≤i→i<xs.size→j≤xs[i]!)→
  lo≤below.go xs j fuel lo hi∧below.go xs j fuel lo hi≤hi∧(∀i,i<below.go xs j fuel lo hi→xs[i]! <j)∧∀i,below.go xs j fuel lo hi≤i→i<xs.size→j≤xs[i]!
 |0,lo,hi,h1,h2,h3,a,b=>by
  have:lo=hi:=by omega
  subst this;rw [below.go];exact ⟨aU _,aU _,a,b⟩
 |fuel+1,lo,hi,h1,h2,h3,a,b=>by
  rw [below.go]
  by_cases c:lo<hi
  ·rw [if_pos c]
   have hm:(lo+hi) / 2<xs.size:=by omega
   dsimp only;rw [Hf hm]
   by_cases d:xs[(lo+hi) / 2]! <j
   ·rw [if_pos d]
    have:=ue R j fuel ((lo+hi) / 2+1) hi (by omega) (by omega) h3 (λi fj=>by
     by_cases e:i=(lo+hi) / 2
     ·rw [e];exact d
     ·have:=R i ((lo+hi) / 2) hm (by omega);omega) b
    exact ⟨by omega,this.2.1,this.2.2⟩
   ·rw [if_neg d]
    have:=ue R j fuel lo ((lo+hi) / 2) (by omega) (by omega) (by omega) a (λi h4 h5=>by
     by_cases e:i=(lo+hi) / 2
     ·rw [e];omega
     ·have:=R ((lo+hi) / 2) i h5 (by omega);omega)
    exact ⟨this.1,by omega,this.2.2⟩
  ·rw [if_neg c]
   have:lo=hi:=by omega
   subst this;exact ⟨aU _,aU _,a,b⟩
theorem iZ{xs:Array Nat}(R:lb xs)(j:Nat):below xs j≤xs.size∧(∀i,i<below xs j→xs[i]! <j)∧∀i,below xs j≤i→i<xs.size→j≤xs[i]! :=by
 have:=ue R j xs.size 0 xs.size (by omega) (cM _) (aU _) (λi h=>by omega) (λi h1 h2=>by omega)
 exact ⟨this.2.1,this.2.2⟩
theorem below_at{xs:Array Nat}(R:lb xs){i j:Nat}(h:xs[i]? =some j):below xs j=i:=by
 obtain ⟨hi,e⟩:=Bf.mp h;have e':xs[i]! =j:=by simp [hi,e]
 obtain ⟨b1,b2,b3⟩:=iZ R j;apply Nat.le_antisymm
 ·apply Classical.byContradiction
  intro c
  have:=b2 i (by omega)
  omega
 ·apply Classical.byContradiction
  intro c;have h1:=b3 (below xs j) (aU _) (by omega)
  have h2:=R (below xs j) i hi (by omega)
  omega
theorem oO{t:SetTable}(R:lb t.place){i j:Nat}(h:t.place[i]? =some j):t.slot j= .live i:=by
 unfold slot;rw [below_at R h];simp [h]
theorem AZ{t:SetTable}(R:lb t.place)(hd:t.dummies= #[]){j:Nat}(h:∀i:Nat,t.place[i]? ≠some j):t.slot j= .empty:=by
 unfold slot
 have h1:(t.place[below t.place j]? ==some j)=false:=by
  rw [beq_eq_false_iff_ne];exact h _
 dsimp only;rw [if_neg (by rw [h1];exact cK)]
 unfold has;rw [hd];rfl
def kX(mask:Nat)(p:Probe):Probe:=
 if p.more>0 then {p with j:=p.j+1,more:=p.more-1} else
 let (i,perturb):=leap mask p.i p.perturb
 {p with j:=i,more:=runEnd mask i-i,i,perturb}
def bh(mask:Nat)(h:Int):Probe:={j:=bits h%(mask+1),more:=runEnd mask (bits h%(mask+1))-bits h%(mask+1),i:=bits h%(mask+1),perturb:=bits h,dummy:=none}
def oP(mask:Nat)(h:Int):Nat→Probe
 |0=>bh mask h
 |k+1=>kX mask (oP mask h k)
def bz(mask:Nat)(h:Int)(k:Nat):Nat:=(oP mask h k).j
theorem Gs(h:Int):bits h<2^64:=by
 unfold bits;have h1:0≤h%(2^64:Int):=Int.emod_nonneg _ (by decide)
 have h2:h%(2^64:Int)<2^64:=Int.emod_lt_of_pos _ (by decide)
 omega
def cU(mask:Nat)(i p:Nat):Nat→Nat×Nat
 |0=>(i,p)
 |r+1=>leap mask (cU mask i p r).1 (cU mask i p r).2
theorem jv(mask i p:Nat):∀r,(cU mask i p r).2=p / 32^r
 |0=>by simp [cU]
 |r+1=>by
  show (cU mask i p r).2 / 32=_;rw [jv mask i p r,Nat.div_div_eq_div_mul,Nat.pow_succ]
def Kz(mask:Nat)(i:Nat):Nat:=(i*5+1)%(mask+1)
def jc(mask:Nat)(i:Nat):Nat→Nat
 |0=>i
 |r+1=>Kz mask (jc mask i r)
theorem jI(mask i:Nat)(a:Nat):∀b,jc mask i (a+b)=jc mask (jc mask i a) b
 |0=>rfl
 |b+1=>by
  show Kz mask (jc mask i (a+b))=_;rw [jI mask i a b];rfl
theorem qV{mask i p r0:Nat}(h:(cU mask i p r0).2=0):∀r,cU mask i p (r0+r)=(jc mask (cU mask i p r0).1 r,0)
 |0=>by rw [Nat.add_zero,jc];exact Prod.ext rfl h
 |r+1=>by
  show leap mask (cU mask i p (r0+r)).1 (cU mask i p (r0+r)).2=_;rw [qV h r];unfold leap;simp [jc,Kz]
def sj(mask:Nat):Prop:=mask=7∨mask=31∨mask=127∨mask=511
def Pq(mask:Nat):Nat→Nat→List Nat
 |_,0=> []
 |i,n+1=>i::Pq mask (Kz mask i) n
theorem AE{mask s:Nat}:∀{i n:Nat},s∈Pq mask i n→∃r,r<n∧jc mask i r=s
 |i,0,h=>by cases h
 |i,n+1,h=>by
  rcases ck.mp h with rfl|h
  ·exact ⟨0,by omega,rfl⟩
  ·obtain ⟨r,hr,e⟩:=AE h
   refine ⟨r+1,by omega,?_⟩
   have:=jI mask i 1 r
   rw [show 1+r=r+1 by omega] at this
   rw [this];exact e
theorem Pr{mask:Nat}(h:sj mask):(∀s,s≤mask→∃r,r≤mask∧jc mask 0 r=s)∧jc mask 0 (mask+1)=0:=by
 have key:∀m,(List.range (m+1)).all (λs=>(Pq m 0 (m+1)).contains s)=true→∀s,s≤m→∃r,r≤m∧jc m 0 r=s:=λm hm s hs=>by
  have:=List.all_eq_true.mp hm s (gd.mpr (by omega))
  obtain ⟨r,hr,e⟩:=AE (List.contains_iff_mem.mp this);exact ⟨r,by omega,e⟩
 rcases h with rfl|rfl|rfl|rfl
 ·exact ⟨key 7 (by decide+kernel),by decide+kernel⟩
 ·exact ⟨key 31 (by decide+kernel),by decide+kernel⟩
 ·exact ⟨key 127 (by decide+kernel),by decide+kernel⟩
 ·exact ⟨key 511 (by decide+kernel),by decide+kernel⟩
theorem cover{mask:Nat}(h:sj mask){i s:Nat}(hi:i≤mask)(hs:s≤mask):∃r,r≤mask∧jc mask i r=s:=by
 obtain ⟨o,per⟩:=Pr h;obtain ⟨a,ha,rfl⟩:=o i hi;obtain ⟨b,hb,rfl⟩:=o s hs
 by_cases c:a≤b
 ·refine ⟨b-a,by omega,?_⟩
  rw [←jI,show a+(b-a)=b by omega]
 ·refine ⟨mask+1-a+b,by omega,?_⟩
  rw [←jI,show a+(mask+1-a+b)=mask+1+b by omega,jI,per]
def bR(mask:Nat)(p:Probe):Nat→Probe
 |0=>p
 |k+1=>kX mask (bR mask p k)
theorem jB(mask:Nat)(p:Probe)(a:Nat):∀b,bR mask p (a+b)=bR mask (bR mask p a) b
 |0=>rfl
 |b+1=>by
  show kX mask (bR mask p (a+b))=_;rw [jB mask p a b];rfl
theorem kA(mask:Nat)(h:Int):∀k,oP mask h k=bR mask (bh mask h) k
 |0=>rfl
 |k+1=>by
  show kX mask _=kX mask _;rw [kA mask h k]
theorem qr(mask:Nat)(p:Probe):∀c,c≤p.more→bR mask p c={p with j:=p.j+c,more:=p.more-c}
 |0,_=>rfl
 |c+1,hc=>by
  show kX mask (bR mask p c)=_;rw [qr mask p c (by omega)]
  unfold kX;rw [if_pos (by show p.more-c>0;omega)]
  show ({p with j:=p.j+c+1,more:=p.more-c-1}:Probe)={p with j:=p.j+(c+1),more:=p.more-(c+1)}
  rw [show p.more-c-1=p.more-(c+1) by omega,show p.j+c+1=p.j+(c+1) by omega]
def LG(mask:Nat)(p:Probe)(ip:Nat×Nat):Probe:={p with j:=ip.1,more:=runEnd mask ip.1-ip.1,i:=ip.1,perturb:=ip.2}
theorem more_le(mask i:Nat):runEnd mask i-i≤9:=by
 unfold runEnd
 split<;>omega
theorem n0(mask:Nat)(p:Probe):bR mask p (p.more+1)=LG mask p (leap mask p.i p.perturb):=by
 show kX mask (bR mask p p.more)=_;rw [qr mask p p.more (aU _)];unfold kX;rw [if_neg (by show ¬p.more-p.more>0;omega)]
 rfl
theorem tI(mask:Nat)(p:Probe):∀r,∃k,k≤p.more+1+10*r∧bR mask p k=LG mask p (cU mask p.i p.perturb (r+1))
 |0=>⟨p.more+1,by omega,n0 mask p⟩
 |r+1=>by
  obtain ⟨k,hk,e⟩:=tI mask p r;have h9:=more_le mask (cU mask p.i p.perturb (r+1)).1;refine ⟨k+((runEnd mask (cU mask p.i p.perturb (r+1)).1-(cU mask p.i p.perturb (r+1)).1)+1),by omega,?_⟩
  rw [jB,e];exact n0 mask (LG mask p (cU mask p.i p.perturb (r+1)))
theorem AS(mask i p:Nat)(r:Nat):(cU mask i p (r+1)).1≤mask:=by
 show (((cU mask i p r).1*5+1+(cU mask i p r).2 / 32)%(mask+1))≤mask
 have:=Nat.mod_lt ((cU mask i p r).1*5+1+(cU mask i p r).2 / 32) (show 0<mask+1 by omega)
 omega
theorem Eb{mask i:Nat}(h:i≤mask):i+(runEnd mask i-i)≤mask:=by
 unfold runEnd
 split<;>omega
structure qq (mask:Nat) (p:Probe):Prop where
 le:p.j+p.more≤mask
 more:p.more≤9
 per:p.perturb<2^64
 dum:p.dummy=none
theorem qq.kX{mask:Nat}{p:Probe}(o:qq mask p):qq mask (kX mask p):=by
 unfold SetTable.kX
 split
 ·next h=>exact ⟨by show p.j+1+(p.more-1)≤mask;have:=o.le;omega,by show p.more-1≤9;have:=o.more;omega,o.per,o.dum⟩
 ·refine ⟨Eb (by have:=Nat.mod_lt (p.i*5+1+p.perturb / 32) (show 0<mask+1 by omega);show (p.i*5+1+p.perturb / 32)%(mask+1)≤mask;omega),more_le _ _,?_,o.dum⟩
  show p.perturb / 32<2^64
  have:=o.per
  omega
theorem qq.start(mask:Nat)(h:Int):qq mask (bh mask h):=⟨Eb (mask:=mask) (i:=bits h%(mask+1)) (by have:=Nat.mod_lt (bits h) (show 0<mask+1 by omega);omega),more_le _ _,Gs h,rfl⟩
theorem qq.bR{mask:Nat}{p:Probe}(o:qq mask p):∀k,qq mask (bR mask p k)
 |0=>o
 |k+1=>(o.bR k).kX
theorem meets{mask:Nat}(f:sj mask){p:Probe}(o:qq mask p){s:Nat}(hs:s≤mask):∃k,k<10*turns mask∧(bR mask p k).j=s:=by
 have z:(cU mask p.i p.perturb 13).2=0:=by
  rw [jv];exact Nat.div_eq_of_lt (f9 o.per (by decide))
 obtain ⟨r,hr,e⟩:=cover f (AS mask p.i p.perturb 12) hs;obtain ⟨k,hk,e2⟩:=tI mask p (12+r);refine ⟨k,?_,?_⟩
 ·have:=o.more
  unfold turns;omega
 ·rw [e2]
  show (cU mask p.i p.perturb (12+r+1)).1=s;rw [show 12+r+1=13+r by omega,qV z]
  exact e
theorem xu{t:SetTable}(R:lb t.place)(hd:t.dummies= #[])(hashAt:Nat→Int)(h:Int):∀(K fuel:Nat)(p:Probe),p.dummy=none→K<fuel→(∀i:Nat,t.place[i]? ≠some (bR t.mask p K).j)→
  ∃k0,k0≤K∧(∀k',k'<k0→∃i:Nat,t.place[i]? =some (bR t.mask p k').j∧hashAt i≠h)∧
   (((∀i:Nat,t.place[i]? ≠some (bR t.mask p k0).j)∧probe.go t hashAt h fuel p=some (.empty (bR t.mask p k0).j none))∨
    (∃i:Nat,t.place[i]? =some (bR t.mask p k0).j∧hashAt i=h∧probe.go t hashAt h fuel p=some (.candidate (bR t.mask p k0).j i (bR t.mask p (k0+1)))))
 |K,0,p,_,hK,_=>by omega
 |K,fuel+1,p,dn,hK,he=>by
  by_cases c:∃i:Nat,t.place[i]? =some p.j
  ·obtain ⟨i,hi⟩:=c
   have sl:=oO R hi
   by_cases c2:hashAt i=h
   ·refine ⟨0,cM _,λk' h'=>by omega, .inr ⟨i,hi,c2,?_⟩⟩
    rw [probe.go,sl];dsimp only;rw [if_pos (by simpa using c2)]
    rfl
   ·cases K with
    |zero=>exact absurd hi (he i)
    |succ K=>
     have XJ:(kX t.mask p).dummy=none:=by
      unfold kX
      split<;>exact dn
     have e1:∀k,bR t.mask (kX t.mask p) k=bR t.mask p (k+1):=λk=>by
      have:=jB t.mask p 1 k
      rw [show 1+k=k+1 by omega] at this
      exact this.symm
     obtain ⟨k0,sD,a,b⟩:=xu R hd hashAt h K fuel (kX t.mask p) XJ (by omega) (by rw [e1];exact he)
     have eg:probe.go t hashAt h (fuel+1) p=probe.go t hashAt h fuel (kX t.mask p):=by
      rw [probe.go,sl];dsimp only;rw [if_neg (by simpa using c2)]
      rfl
     refine ⟨k0+1,by omega,λk' h'=>?_,?_⟩
     ·cases k' with
      |zero=>exact ⟨i,hi,c2⟩
      |succ k'=>
       have:=a k' (by omega)
       rw [e1] at this;exact this
     ·rw [e1,e1] at b
      rw [eg];exact b
  ·have c:∀i:Nat,t.place[i]? ≠some p.j:=λi hi=>c ⟨i,hi⟩
   refine ⟨0,cM _,λk' h'=>by omega, .inl ⟨c,?_⟩⟩
   rw [probe.go,AZ R hd c];dsimp only;rw [dn];rfl
structure TOk (t:SetTable) (hs:List Int):Prop where
 few:sj t.mask
 dum:t.dummies= #[]
 rise:lb t.place
 size:t.place.size=hs.length
 le:∀(i j:Nat),t.place[i]? =some j→j≤t.mask
 room:t.place.size≤t.mask
 path:∀(i:Nat)(h:Int),hs[i]? =some h→∃k,t.place[i]? =some (bz t.mask h k)∧∀k',k'<k→∃i':Nat,t.place[i']? =some (bz t.mask h k')
theorem y6(mask:Nat)(h:Int)(k:Nat):bz mask h k≤mask:=by
 unfold bz;rw [kA]
 have:=((qq.start mask h).bR k).le
 omega
theorem TOk.empty{t:SetTable}{hs:List Int}(T:TOk t hs):∃s,s≤t.mask∧∀i:Nat,t.place[i]? ≠some s:=by
 apply Classical.byContradiction;intro c
 have all:∀s∈List.range (t.mask+1),s∈t.place.toList:=λs hs=>by
  apply Classical.byContradiction;intro n;refine c ⟨s,by have:=gd.mp hs;omega,λi hi=>n ?_⟩
  rw [←eu] at hi;exact cS hi
 have:=Wb.aS List.nodup_range all
 rw [mJ,bX] at this
 have:=T.room
 omega
theorem TOk.probe{t:SetTable}{hs:List Int}(T:TOk t hs)(hashAt:Nat→Int)(h:Int)(k:Nat):
  ∃k0,k≤k0∧(∀k',k≤k'→k'<k0→∃i:Nat,t.place[i]? =some (bz t.mask h k')∧hashAt i≠h)∧
   (((∀i:Nat,t.place[i]? ≠some (bz t.mask h k0))∧t.probe hashAt h (oP t.mask h k)=some (.empty (bz t.mask h k0) none))∨
    (∃i:Nat,t.place[i]? =some (bz t.mask h k0)∧hashAt i=h∧t.probe hashAt h (oP t.mask h k)=some (.candidate (bz t.mask h k0) i (oP t.mask h (k0+1))))):=by
 obtain ⟨s,e6,he⟩:=T.empty;have o:=(qq.start t.mask h).bR k;rw [←kA] at o;obtain ⟨K,hK,eK⟩:=meets T.few o e6;have e1:∀c,bR t.mask (oP t.mask h k) c=oP t.mask h (k+c):=λc=>by rw [kA,kA,←jB]
 obtain ⟨k0,h0,a,b⟩:=xu T.rise T.dum hashAt h K (10*turns t.mask) (oP t.mask h k) o.dum hK (by rw [eK];exact he)
 refine ⟨k+k0,by omega,λk' h1 h2=>?_,?_⟩
 ·have:=a (k'-k) (by omega)
  rw [e1,show k+(k'-k)=k' by omega] at this
  exact this
 ·rw [e1,e1] at b
  exact b
theorem jt{α:Type}{xs:Array α}{p:Nat}(x:α)(hp:p≤xs.size)(i:Nat):(insertAt xs p x)[i]? =if i<p then xs[i]? else if i=p then some x else xs[i-1]? :=by
 rw [←eu,SetTable.toList_insertAt];have lt:(xs.toList.take p).length=p:=by rw [jn,bX];omega
 by_cases c:i<p
 ·rw [if_pos c,jj (by omega),Et c,eu]
 ·rw [if_neg c]
  by_cases d:i=p
  ·subst d
   rw [if_pos rfl,ji (by omega),lt,mL];rfl
  ·rw [if_neg d,ji (by omega),lt]
   obtain ⟨m,hm⟩:∃m,i-p=m+1:=⟨i-p-1,by omega⟩
   rw [hm,qg,xT,eu]
   congr 1;omega
theorem fO{α:Type}(xs:Array α)(p:Nat)(x:α):(insertAt xs p x).size=xs.size+1:=by
 rw [←bX,(SetTable.insertAt_perm xs p x).length_eq];simp
theorem ig{xs:Array Nat}{i j:Nat}(h:xs[i]? =some j):xs[i]! =j:=by
 obtain ⟨hi,e⟩:=Bf.mp h;simp [hi,e]
theorem FU{xs:Array Nat}(R:lb xs){j:Nat}(h:∀i:Nat,xs[i]? ≠some j):lb (insertAt xs (below xs j) j):=by
 obtain ⟨b1,b2,b3⟩:=iZ R j;have g:=jt (xs:=xs) j b1;intro a b hb E9;rw [fO] at hb
 have val:∀i,i<xs.size+1→∃v,(insertAt xs (below xs j) j)[i]? =some v∧((i<below xs j∧xs[i]? =some v)∨(i=below xs j∧v=j)∨(below xs j<i∧xs[i-1]? =some v)):=λi hi=>by
  rw [g i]
  by_cases c:i<below xs j
  ·rw [if_pos c,xP (by omega)]
   exact ⟨_,rfl, .inl ⟨c,rfl⟩⟩
  ·rw [if_neg c]
   by_cases d:i=below xs j
   ·rw [if_pos d];exact ⟨j,rfl, .inr (.inl ⟨d,rfl⟩)⟩
   ·rw [if_neg d,xP (by omega)]
    exact ⟨_,rfl, .inr (.inr ⟨by omega,rfl⟩)⟩
 obtain ⟨va,ha,ca⟩:=val a (by omega)
 obtain ⟨vb,z5,cb⟩:=val b (by omega)
 rw [ig ha,ig z5];have lo:∀i v,i<below xs j→xs[i]? =some v→v<j:=λi v h1 h2=>by have:=b2 i h1;rw [ig h2] at this;exact this
 have hi:∀i v,below xs j≤i→xs[i]? =some v→j<v:=λi v h1 h2=>by
  have:=b3 i h1 (Bf.mp h2).1
  rw [ig h2] at this
  have:v≠j:=λz=>h i (by rw [h2,z])
  omega
 have mid:∀i k v u,xs[i]? =some v→xs[k]? =some u→i<k→v<u:=λi k v u h1 h2 h3=>by
  have:=R i k (Bf.mp h2).1 h3
  rw [ig h1,ig h2] at this;exact this
 rcases ca with ⟨a1,a2⟩ | ⟨a1,rfl⟩ | ⟨a1,a2⟩
 ·rcases cb with ⟨c1,c2⟩ | ⟨c1,rfl⟩ | ⟨c1,c2⟩
  ·exact mid _ _ _ _ a2 c2 E9
  ·exact lo _ _ a1 a2
  ·have:=lo _ _ a1 a2;have:=hi (b-1) _ (by omega) c2;omega
 ·rcases cb with ⟨c1,c2⟩ | ⟨c1,rfl⟩ | ⟨c1,c2⟩
  ·omega
  ·omega
  ·exact hi (b-1) _ (by omega) c2
 ·rcases cb with ⟨c1,c2⟩ | ⟨c1,rfl⟩ | ⟨c1,c2⟩
  ·omega
  ·omega
  ·exact mid _ _ _ _ a2 c2 (by omega)
theorem IU{xs:Array Nat}(R:lb xs){j s:Nat}:(∃i:Nat,(insertAt xs (below xs j) j)[i]? =some s)↔s=j∨∃i:Nat,xs[i]? =some s:=by
 obtain ⟨b1,_,_⟩:=iZ R j;have g:=jt (xs:=xs) j b1
 constructor
 ·rintro ⟨i,h⟩
  rw [g i] at h
  split at h
  ·exact .inr ⟨i,h⟩
  ·split at h
   ·exact .inl (Option.some.inj h).symm
   ·exact .inr ⟨_,h⟩
 ·rintro (rfl| ⟨i,h⟩)
  ·exact ⟨below xs s,by rw [g,if_neg (by omega),if_pos rfl]⟩
  ·by_cases c:i<below xs j
   ·exact ⟨i,by rw [g,if_pos c];exact h⟩
   ·exact ⟨i+1,by rw [g,if_neg (by omega),if_neg (by omega)];exact h⟩
theorem TOk.put{t:SetTable}{hs:List Int}(T:TOk t hs){h:Int}{k:Nat}(he:∀i:Nat,t.place[i]? ≠some (bz t.mask h k))(hp:∀k',k'<k→∃i:Nat,t.place[i]? =some (bz t.mask h k'))(room:t.place.size+1≤t.mask):
  (t.put (bz t.mask h k)).2=below t.place (bz t.mask h k)∧below t.place (bz t.mask h k)≤hs.length∧
  TOk (t.put (bz t.mask h k)).1 (hs.take (below t.place (bz t.mask h k))++h::hs.drop (below t.place (bz t.mask h k))):=by
 obtain ⟨b1,b2,b3⟩:=iZ T.rise (bz t.mask h k);have g:=jt (xs:=t.place) (bz t.mask h k) b1;have sz:=T.size;have pm:=λs=>IU (s:=s) (j:=bz t.mask h k) T.rise;refine ⟨rfl,by omega,T.few,?_,FU T.rise he,?_,?_,?_,?_⟩
 ·show (if has t.dummies _=true then _ else t.dummies)= #[]
  rw [T.dum];rfl
 ·show (insertAt t.place _ _).size=_
  rw [fO,bV,jn,cL,qk];omega
 ·intro i j hj
  have hj:(insertAt t.place (below t.place (bz t.mask h k)) (bz t.mask h k))[i]? =some j:=hj
  rcases (pm j).mp ⟨i,hj⟩ with rfl| ⟨i',h'⟩
  ·exact y6 _ _ _
  ·exact T.le _ _ h'
 ·show (insertAt t.place _ _).size≤_
  rw [fO];exact room
 ·intro i h' hi
  show ∃k1,(insertAt t.place (below t.place (bz t.mask h k)) (bz t.mask h k))[i]? =some (bz t.mask h' k1)∧∀k',k'<k1→∃i':Nat,(insertAt t.place (below t.place (bz t.mask h k)) (bz t.mask h k))[i']? =some (bz t.mask h' k');have lt:(hs.take (below t.place (bz t.mask h k))).length=below t.place (bz t.mask h k):=by rw [jn];omega
  by_cases c:i<below t.place (bz t.mask h k)
  ·rw [jj (by omega),Et c] at hi
   obtain ⟨k1,e1,e2⟩:=T.path i h' hi;exact ⟨k1,by rw [g,if_pos c];exact e1,λk' fe=>(pm _).mpr (.inr (e2 k' fe))⟩
  ·rw [ji (by omega),lt] at hi
   by_cases d:i=below t.place (bz t.mask h k)
   ·rw [d,mL] at hi
    cases (Option.some.inj hi);exact ⟨k,by rw [d,g,if_neg (by omega),if_pos rfl],λk' fe=>(pm _).mpr (.inr (hp k' fe))⟩
   ·obtain ⟨m,hm⟩:∃m,i-below t.place (bz t.mask h k)=m+1:=⟨i-below t.place (bz t.mask h k)-1,by omega⟩
    rw [hm,qg,xT] at hi;obtain ⟨k1,e1,e2⟩:=T.path _ h' hi;refine ⟨k1,?_,λk' fe=>(pm _).mpr (.inr (e2 k' fe))⟩;rw [g,if_neg c,if_neg d,show i-1=below t.place (bz t.mask h k)+m by omega]
    exact e1
theorem rM(mask i p:Nat):∀r,cU mask i p (r+1)=cU mask (leap mask i p).1 (leap mask i p).2 r
 |0=>rfl
 |r+1=>by
  show leap mask (cU mask i p (r+1)).1 (cU mask i p (r+1)).2=_;rw [rM mask i p r];rfl
def Own(o:Array (Option Nat))(s:Nat):Prop:=(o.getD s (some 0)).isNone=false
theorem ub{mask:Nat}(owner:Array (Option Nat)):∀(fuel:Nat)(p:Probe),p.j=p.i→p.more=runEnd mask p.i-p.i→p.i≤runEnd mask p.i→(∃r,r<fuel∧¬Own owner (cU mask p.i p.perturb r).1)→
  ∃k0,layClean.free mask owner fuel p.i p.perturb=some (bR mask p k0).j∧¬Own owner (bR mask p k0).j∧∀k',k'<k0→Own owner (bR mask p k').j
 |0,p,_,_,_,⟨r,hr,_⟩=>by omega
 |fuel+1,p,e1,e2,e3,⟨r,hr,he⟩=>by
  have run:∀c,c≤p.more→(bR mask p c).j=p.i+c:=λc hc=>by rw [qr mask p c hc];show p.j+c=_;rw [e1]
  cases hf:(List.range (runEnd mask p.i+1-p.i)).find? λk=>(owner.getD (p.i+k) (some 0)).isNone with
  |some k=>
   obtain ⟨h1,as,bs,h2,h3⟩:=List.find?_eq_some_iff_append.mp hf;have hk:k<runEnd mask p.i+1-p.i:=gd.mp (by rw [h2];simp)
   have las:as.length=k:=by
    have hl:as.length<(List.range (runEnd mask p.i+1-p.i)).length:=by rw [h2];simp
    have:=se (n:=runEnd mask p.i+1-p.i) (i:=as.length) (by simpa using hl)
    rw [h2,ji (aU _),mL] at this;exact (Option.some.inj this).symm
   refine ⟨k,?_,?_,λk' fe=>?_⟩
   ·rw [layClean.free,hf,run k (by omega)]
   ·rw [run k (by omega)]
    unfold Own;rw [h1];exact Bool.noConfusion
   ·rw [run k' (by omega)]
    have hm:k'∈as:=by
     have:=se (n:=runEnd mask p.i+1-p.i) (i:=k') (by omega)
     rw [h2,jj (by omega)] at this
     exact cS this
    have:=h3 k' hm
    unfold Own;exact Bool.not_eq_true' _▸this
  |none=>
   have all:=List.find?_eq_none.mp hf
   have own:∀c,c≤p.more→Own owner (p.i+c):=λc hc=>by
    have:=all c (gd.mpr (by omega))
    unfold Own;exact qj.mpr this
   cases r with
   |zero=>exact absurd (own 0 (cM _)) he
   |succ r=>
    have lp:=n0 mask p
    obtain ⟨k0,a,b,c⟩:=ub owner fuel (LG mask p (leap mask p.i p.perturb)) rfl rfl (by
     show (leap mask p.i p.perturb).1≤runEnd mask (leap mask p.i p.perturb).1;unfold runEnd;split<;>omega) ⟨r,by omega,by rw [rM] at he;exact he⟩
    rw [←lp] at a b c;have e4:∀k,bR mask (bR mask p (p.more+1)) k=bR mask p (p.more+1+k):=λk=>(jB mask p (p.more+1) k).symm;refine ⟨p.more+1+k0,?_,?_,λk' fe=>?_⟩
    ·rw [layClean.free,hf,←e4,←a,lp];rfl
    ·rw [←e4];exact b
    ·by_cases d:k'≤p.more
     ·rw [run k' d];exact own k' d
     ·have:=c (k'-(p.more+1)) (by omega)
      rw [e4,show p.more+1+(k'-(p.more+1))=k' by omega] at this
      exact this
structure Laid (mask:Nat) (hs:List Int) (owner:Array (Option Nat)) (ss:List Nat):Prop where
 size:owner.size=mask+1
 len:ss.length=hs.length
 nd:ss.Nodup
 le:∀s∈ss,s≤mask
 get:∀s,s≤mask→∀k,owner.getD s (some 0)=some k↔ss[k]? =some s
 path:∀(k:Nat)(h:Int),hs[k]? =some h→∃c,ss[k]? =some (bz mask h c)∧∀c',c'<c→bz mask h c'∈ss
theorem Laid.own{mask:Nat}{hs:List Int}{owner:Array (Option Nat)}{ss:List Nat}(L:Laid mask hs owner ss){s:Nat}(h:s≤mask):Own owner s↔s∈ss:=by
 unfold Own
 constructor
 ·intro e
  cases o:owner.getD s (some 0) with
  |none=>rw [o] at e;cases e
  |some k=>exact cS ((L.get s h k).mp o)
 ·intro e
  obtain ⟨k,hk⟩:=f7 e;rw [(L.get s h k).mpr hk];rfl
theorem Ca{mask:Nat}(f:sj mask){hs:List Int}{owner:Array (Option Nat)}{ss:List Nat}(L:Laid mask hs owner ss)(room:hs.length≤mask)(h:Int):
  ∃j,layClean.free mask owner (turns mask) (bits h%(mask+1)) (bits h)=some j∧Laid mask (hs++ [h]) (owner.setIfInBounds j (some hs.length)) (ss++ [j]):=by
 have o:=qq.start mask h
 obtain ⟨s,Fn,j5⟩:∃s,s≤mask∧s∉ss:=by
  apply Classical.byContradiction;intro c
  have all:∀s∈List.range (mask+1),s∈ss:=λs hs=>by
   apply Classical.byContradiction;intro n;exact c ⟨s,by have:=gd.mp hs;omega,n⟩
  have:=Wb.aS List.nodup_range all
  rw [mJ,L.len] at this;omega
 have z:(cU mask (bh mask h).i (bh mask h).perturb 13).2=0:=by
  rw [jv];exact Nat.div_eq_of_lt (f9 o.per (by decide))
 obtain ⟨r,hr,e⟩:=cover f (AS mask (bh mask h).i (bh mask h).perturb 12) Fn
 have hi:(bh mask h).i≤mask:=by
  have:=Nat.mod_lt (bits h) (show 0<mask+1 by omega)
  show bits h%(mask+1)≤mask;omega
 obtain ⟨k0,a,b,c⟩:=ub owner (turns mask) (bh mask h) rfl rfl (by unfold runEnd;split<;>omega) ⟨13+r,by unfold turns;omega,by
  rw [qV z];show ¬Own owner (jc mask _ r);rw [e,L.own Fn];exact j5⟩
 have sl:∀k,(bR mask (bh mask h) k).j=bz mask h k:=λk=>by unfold bz;rw [kA]
 rw [sl] at a b;have hle:=y6 mask h k0;rw [L.own hle] at b;refine ⟨bz mask h k0,a,?_,?_,?_,?_,?_,?_⟩
 ·rw [Array.size_setIfInBounds];exact L.size
 ·rw [bV,bV,L.len];rfl
 ·exact mK.mpr ⟨L.nd,by simp,λx hx y hy z=>b (by rw [←iS.mp hy,←z];exact hx)⟩
 ·intro x hx
  rcases cE.mp hx with hx|hx
  ·exact L.le x hx
  ·rw [iS.mp hx];exact hle
 ·intro x hx k
  have e1:(owner.setIfInBounds (bz mask h k0) (some hs.length)).getD x (some 0)=if bz mask h k0=x then some hs.length else owner.getD x (some 0):=by
   rw [Be,Be,Array.getElem?_setIfInBounds]
   by_cases d:bz mask h k0=x
   ·rw [if_pos d,if_pos d,if_pos (by rw [L.size];omega)];rfl
   ·rw [if_neg d,if_neg d]
  rw [e1]
  by_cases d:bz mask h k0=x
  ·rw [if_pos d]
   constructor
   ·intro e
    cases (Option.some.inj e);rw [←L.len,ji (aU _),mL,←d];rfl
   ·intro e
    by_cases q:k<ss.length
    ·rw [jj q] at e
     exact absurd (by rw [d];exact cS e) b
    ·have:k<(ss++ [bz mask h k0]).length:=(b9.mp e).1
     rw [bV] at this
     have:k<ss.length+1:=this
     rw [show k=ss.length by omega,L.len]
  ·rw [if_neg d,L.get x hx k]
   constructor
   ·intro e
    rw [jj (b9.mp e).1];exact e
   ·intro e
    by_cases q:k<ss.length
    ·rw [jj q] at e;exact e
    ·have:k<(ss++ [bz mask h k0]).length:=(b9.mp e).1
     rw [bV] at this
     have:k<ss.length+1:=this
     rw [show k=ss.length by omega,ji (aU _),mL] at e
     exact absurd (Option.some.inj e) d
 ·intro k h' hk
  by_cases q:k<hs.length
  ·rw [jj q] at hk
   obtain ⟨c1,e1,e2⟩:=L.path k h' hk;exact ⟨c1,by rw [jj (by rw [L.len];exact q)];exact e1,λc' pq=>r8 _ (e2 c' pq)⟩
  ·have:k<(hs++ [h]).length:=(b9.mp hk).1
   rw [bV] at this
   have:k<hs.length+1:=this
   have ek:k=hs.length:=by omega
   subst ek;rw [ji (aU _),mL] at hk;cases (Option.some.inj hk);refine ⟨k0,by rw [←L.len,ji (aU _),mL];rfl,λc' pq=>r8 _ ?_⟩
   have:=c c' pq
   rw [sl] at this;exact (L.own (y6 _ _ _)).mp this
theorem Cb(mask:Nat):Laid mask [] (Array.replicate (mask+1) none) [] where
 size:=by simp
 len:=rfl
 nd:=jW
 le:=λs h=>by cases h
 get:=λs hs k=>by
  rw [Be,Array.getElem?_replicate,if_pos (by omega)]
  simp
 path:=λk h e=>by cases e
def xc(mask:Nat)(acc:Option (Array (Option Nat)×Nat))(h:Int):Option (Array (Option Nat)×Nat):=do
 let (owner,k) ←acc
 let j ←layClean.free mask owner (turns mask) (bits h%(mask+1)) (bits h)
 pure (owner.setIfInBounds j (some k),k+1)
theorem xf{mask:Nat}(f:sj mask):∀(rest done:List Int)(owner:Array (Option Nat))(ss:List Nat),Laid mask done owner ss→done.length+rest.length≤mask+1→
  ∃pQ PJ,rest.foldl (xc mask) (some (owner,done.length))=some (pQ,done.length+rest.length)∧Laid mask (done++rest) pQ PJ
 | [],done,owner,ss,L,_=>⟨owner,ss,rfl,by rw [jV];exact L⟩
 |h::rest,done,owner,ss,L,hl=>by
  rw [cL] at hl;obtain ⟨j,e,L'⟩:=Ca f L (by omega) h
  have ef:xc mask (some (owner,done.length)) h=some (owner.setIfInBounds j (some done.length),done.length+1):=by
   unfold xc;simp [e]
  obtain ⟨pQ,PJ,e2,L2⟩:=xf f rest (done++ [h]) _ _ L' (by rw [bV];show done.length+1+rest.length≤_;omega)
  refine ⟨pQ,PJ,?_,by rw [vH] at L2;exact L2⟩
  rw [List.foldl_cons,ef];rw [bV] at e2;have e2:rest.foldl (xc mask) (some (owner.setIfInBounds j (some done.length),done.length+1))=some (pQ,done.length+1+rest.length):=e2;rw [e2,cL]
  congr 2;omega
theorem yI{mask:Nat}(f:sj mask)(hs:List Int)(room:hs.length≤mask+1):∃owner ss,layClean mask hs.toArray=some owner∧Laid mask hs owner ss:=by
 obtain ⟨owner,ss,e,L⟩:=xf f hs [] _ _ (Cb mask) (by simpa using room)
 refine ⟨owner,ss,?_,by simpa using L⟩
 have:layClean mask hs.toArray=(hs.foldl (xc mask) (some (Array.replicate (mask+1) none,0))).map (·.1):=by
  unfold layClean;rw [List.foldl_toArray];rfl
 have e:hs.foldl (xc mask) (some (Array.replicate (mask+1) none,0))=some (owner,[].length+hs.length):=e;rw [this,e];rfl
def cR(mask:Nat)(owner:Array (Option Nat)):List (Nat×Nat):=(List.range (mask+1)).filterMap λj=>(owner.getD j none).map (j,·)
theorem Fv{mask:Nat}{hs:List Int}{owner:Array (Option Nat)}{ss:List Nat}(L:Laid mask hs owner ss){j k:Nat}:(j,k)∈cR mask owner↔ss[k]? =some j:=by
 unfold cR;rw [List.mem_filterMap]
 have dflt:∀s,s≤mask→owner.getD s none=owner.getD s (some 0):=λs hs=>by
  rw [Be,Be,xP (by rw [L.size];omega)];rfl
 constructor
 ·rintro ⟨s,e6,e⟩
  have e6:=gd.mp e6;rw [dflt s (by omega)] at e
  cases o:owner.getD s (some 0) with
  |none=>rw [o] at e;cases e
  |some k'=>
   rw [o] at e;have e:=Option.some.inj e;have e1:s=j:=(Prod.mk.inj e).1;have e2:k'=k:=(Prod.mk.inj e).2;rw [←e1,←e2];exact (L.get s (by omega) k').mp o
 ·intro e
  have hj:=L.le j (cS e);refine ⟨j,gd.mpr (by omega),?_⟩
  rw [dflt j hj,(L.get j hj k).mpr e];rfl
theorem Cg(mask:Nat)(owner:Array (Option Nat)):((cR mask owner).map (·.1)).Pairwise (·<·):=by
 unfold cR;rw [jm,List.pairwise_filterMap];refine List.pairwise_lt_range.imp λ {a b} h x hx y hy=>?_;cases oa:owner.getD a none with
 |none=>rw [oa] at hx;cases hx
 |some ka=>
  cases ob:owner.getD b none with
  |none=>rw [ob] at hy;cases hy
  |some kb=>
   rw [oa] at hx;rw [ob] at hy;cases (Option.some.inj hx);cases (Option.some.inj hy);exact h
theorem HV{mask:Nat}(f:sj mask)(hs:List Int)(room:hs.length≤mask)(finger moves:Nat)(led plain:Bool):
  ∃t order,laid mask finger moves led plain hs.toArray=some (t,order)∧t.mask=mask∧t.led=led∧t.plain=plain∧t.moves=moves∧order.toList.Perm (List.range hs.length)∧TOk t (order.toList.map λk=>hs.getD k 0):=by
 obtain ⟨owner,ss,e,L⟩:=yI f hs (by omega)
 have lm:=λ {j k:Nat}=>Fv (j:=j) (k:=k) L;have ri:=Cg mask owner
 have Ik:((cR mask owner).map (·.2)).Nodup:=by
  rw [xN,jm];rw [jm] at ri;refine ri.imp_of_mem λ {a b} ha hb E9 z=>?_;obtain ⟨aj,ak⟩:=a;obtain ⟨bj,bk⟩:=b;have h1:=lm.mp ha;have h2:=lm.mp hb;have z:ak=bk:=z;rw [z,h2] at h1
  have:=Option.some.inj h1
  have E9:aj<bj:=E9;omega
 have perm:((cR mask owner).map (·.2)).Perm (List.range hs.length):=by
  refine (xO Ik List.nodup_range).mpr λk=>?_;rw [bN,gd]
  constructor
  ·rintro ⟨⟨j,k'⟩,h,rfl⟩
   have:=(b9.mp (lm.mp h)).1
   rw [L.len] at this;exact this
  ·intro hk
   have fe:k<ss.length:=by rw [L.len];exact hk
   exact ⟨(ss[k],k),lm.mpr (cC fe),rfl⟩
 have ll:(cR mask owner).length=hs.length:=by
  have:=perm.length_eq
  simpa using this
 refine ⟨{mask,place:=((cR mask owner).map (·.1)).toArray,dummies:= #[],finger,led,moves,plain},((cR mask owner).map (·.2)).toArray,?_,rfl,rfl,rfl,rfl,by simpa using perm,?_⟩
 ·unfold laid
  rw [e];rfl
 have IQ:∀(i j:Nat),((cR mask owner).map (·.1)).toArray[i]? =some j↔∃k,(cR mask owner)[i]? =some (j,k):=λi j=>by
  rw [List.getElem?_toArray,dq];cases o:(cR mask owner)[i]? with
  |none=>simp
  |some x=>
   obtain ⟨a,b⟩:=x;simp
 have Zz:∀s,s∈ss→∃i:Nat,((cR mask owner).map (·.1)).toArray[i]? =some s:=λs e6=>by
  obtain ⟨k,hk⟩:=f7 e6;obtain ⟨i,hi⟩:=f7 (lm.mpr hk);exact ⟨i,(IQ i s).mpr ⟨k,hi⟩⟩
 refine ⟨f,rfl,?_,?_,?_,?_,?_⟩
 ·intro a b hb E9
  have hb:b<((cR mask owner).map (·.1)).length:=by simpa using hb
  have:=vE.mp ri a b (by omega) hb E9
  simp [show a<(cR mask owner).length by simpa using (show a<((cR mask owner).map (·.1)).length by omega),show b<(cR mask owner).length by simpa using hb]
  simpa using this
 ·simp
 ·intro i j h
  obtain ⟨k,hk⟩:=(IQ i j).mp h;exact L.le j (cS (lm.mp (cS hk)))
 ·show ((cR mask owner).map (·.1)).toArray.size≤mask
  simp [ll];exact room
 ·intro i h' hi
  rw [dq] at hi;cases o:(cR mask owner)[i]? with
  |none=>
   have:(((cR mask owner).map (·.2)).toArray.toList)[i]? =none:=by simp [o]
   rw [this] at hi;cases hi
  |some x=>
   obtain ⟨j,k⟩:=x;have e1:(((cR mask owner).map (·.2)).toArray.toList)[i]? =some k:=by simp [o]
   rw [e1] at hi;have sk:=lm.mp (cS o);have hk:k<hs.length:=by rw [←L.len];exact (b9.mp sk).1
   have eh:hs[k]? =some h':=by
    rw [←Option.some.inj hi];show _=some (hs.getD k 0);rw [dJ,cC hk];rfl
   obtain ⟨c,p1,p2⟩:=L.path k h' eh;rw [sk] at p1;refine ⟨c,(IQ i _).mpr ⟨k,by rw [o,Option.some.inj p1]⟩,λc' pq=>Zz _ (p2 c' pq)⟩
end PySem.SetTable
namespace PySem
open SetTable PyProof.Rows
def fu(w:World):Bool:=w.params.followText "set-order"
structure kC (bt:Bool) (o:Obj) (es:Array (Int×Value)) (ep:Nat) (t:SetTable):Prop where
 ex:o.ExactSet
 dat:o.data= .set es ep t
 tok:TOk t (es.toList.map (·.1))
 pl:t.plain=true
 ld:t.led= !bt
 few:5*es.size<3*t.mask
theorem TOk.fits{t:SetTable}{hs:List Int}(T:TOk t hs):t.fits hs.length=true:=by
 simp only [SetTable.fits,SetTable.fill,T.dum,T.size,xY,beq_iff_eq,decide_eq_true_eq,true_and]
 have:=T.room
 rw [T.size] at this;simpa using this
theorem kC.fits{w:Bool}{o:Obj}{es:Array (Int×Value)}{ep:Nat}{t:SetTable}(S:kC w o es ep t):t.fits es.size=true:=by
 have:=TOk.fits S.tok
 simpa using this
theorem EV{mask n:Nat}(f:sj mask)(h:5*n<3*mask):n+1≤mask:=by
 rcases f with rfl|rfl|rfl|rfl<;>omega
theorem BL{mask n:Nat}(f:sj mask)(h1:3*mask≤5*n)(h2:5*(n-1)<3*mask)(h3:n≤306):sj (sizeAbove (grown n)-1)∧5*n<3*(sizeAbove (grown n)-1)∧n≤sizeAbove (grown n)-1∧sizeAbove (grown n)≤512:=by
 rcases f with rfl|rfl|rfl|rfl
 ·have:n=5:=by omega
  subst this;exact ⟨.inr (.inl rfl),by decide,by decide,by decide⟩
 ·have:n=19:=by omega
  subst this;exact ⟨.inr (.inr (.inl rfl)),by decide,by decide,by decide⟩
 ·have:n=77:=by omega
  subst this;exact ⟨.inr (.inr (.inr rfl)),by decide,by decide,by decide⟩
 ·omega
theorem CL{t:SetTable}{es:Array (Int×Value)}(T:TOk t (es.toList.map (·.1)))(full:t.tooFull=true)(near:5*(es.size-1)<3*t.mask)(small:es.size≤306):
  ∃t' order,t.relaid (es.map (·.1)) (grown es.size)=some (t',order)∧order.toList.Perm (List.range es.size)∧(order.filterMap (es[·]?)).toList.Perm es.toList∧(order.filterMap (es[·]?)).size=es.size∧
   TOk t' ((order.filterMap (es[·]?)).toList.map (·.1))∧t'.plain=t.plain∧t'.led=t.led∧5*es.size<3*t'.mask∧sizeAbove (grown es.size)≤512:=by
 have sz:t.place.size=es.size:=by rw [T.size];simp
 have f1:3*t.mask≤5*es.size:=by
  unfold SetTable.tooFull SetTable.fill at full;rw [T.dum,sz] at full;simp at full;omega
 obtain ⟨g1,g2,g3,g4⟩:=BL T.few f1 near small;obtain ⟨t',order,e,em,el,ep,_,pm,tk⟩:=HV g1 (es.toList.map (·.1)) (by simpa using g3) t.finger (t.movedTo (sizeAbove (grown es.size)-1)) t.led t.plain
 rw [aJ,bX] at pm
 have pf:(order.filterMap (es[·]?)).toList.Perm es.toList:=by
  rw [Array.toList_filterMap];exact (pm.filterMap _).trans (by rw [filterMap_getElem?_range])
 have sf:(order.filterMap (es[·]?)).size=es.size:=by rw [←bX,pf.length_eq,bX]
 refine ⟨t',order,?_,pm,pf,sf,?_,ep,el,by rw [em];exact g2,g4⟩
 ·unfold SetTable.relaid
  rw [show es.map (·.1)=(es.toList.map (·.1)).toArray by apply Array.toList_inj.mp;simp]
  exact e
 ·have:(order.filterMap (es[·]?)).toList.map (·.1)=order.toList.map λk=>(es.toList.map (·.1)).getD k 0:=by
   rw [Array.toList_filterMap];have lt:∀k∈order.toList,k<es.size:=λk hk=>gd.mp (pm.mem_iff.mp hk);generalize order.toList=l at lt
   induction l with
   |nil=>rfl
   |cons k l ih=>
    have hk:=lt k (bY ..);rw [List.filterMap_cons_some (b:=es[k]) (by simp [hk]),fY,fY,ih λj hj=>lt j (cu _ hj)]
    simp [hk]
  rw [this];exact tk
end PySem
set_option maxHeartbeats 1000000
namespace PySem
open SetTable PyProof.Rows
section
variable {prog:Program} {w:World} {A:Around} {E:Value→Shared→Prop} {s:Shared}
theorem rQ{h:Heap}{a:Addr}{o:Obj}{es:Array (Int×Value)}{ep:Nat}{t:SetTable}(ho:h.get? a=some o)(hd:o.data= .set es ep t)(lD:Array (Int×Value))(t':SetTable):
  (h.update a (Obj.putSet lD t')).get? a=some {o with data:= .set lD (ep+1) t'}:=by
 have:=Heap.get?_update_self (Obj.putSet lD t') ho (by rw [putSet_of lD t' hd];rfl)
 rw [putSet_of lD t' hd] at this;exact this
theorem tS{Q₁:Value→Shared→Prop}
  (h:Q₁ (.ref s.heap.objs.size) {s with heap:=s.heap.push {cls:= .type "set",dict:=none,data:= .set #[] 0 (.fresh 0 0 (!fu w))}}):
  codeAny (model prog w) A (.call (.builtin "set.__new__") ⟨[.type "set"],[]⟩) (wants Q₁ E) s:=by
 refine codeAny_of_tree ?_;show wpAny _ A.in1 (do checkBuiltinCall "set.__new__" ⟨[.type "set"],[]⟩;again (.builtin "set.__new__" ⟨[.type "set"],[]⟩)) _ _ s
 refine wpAny_bind (wpAny_of_eq F.newCall_set_0 (wpAny_pure ⟨plainId_quiet F.plain_set_new _,codeAny_builtin F.entry_set_new ?_⟩));rw [Around.under_plainId F.plain_set_new _];unfold Builtin.«set.__new__» Builtin.Frozenset.newClass;have S0:=sub_set_self;obtain ⟨hp,g,d,tk,os⟩:=s;dsimp only
 wp_walk
 refine wpAny_askSetting (wpAny_pure ?_);dsimp only;simp only [newObj];refine wpAny_bind (wpAny_alloc (wpAny_pure ?_));exact wpAny_pure h
theorem yg{Q:Value→Shared→Prop}
  (h:Q (.ref s.heap.objs.size) {s with heap:=s.heap.push {cls:= .type "set",dict:=none,data:= .set #[] 0 (.fresh 0 0 (!fu w))}}):
  wpAny (model prog w) A (call (.type "set") []) Q E s:=by
 obtain ⟨c,tl,aaf⟩:=F.called_set.mro;have Y1:=F.called_set.made;have S0:=F.called_set.sub;refine wpAny_call (codeAny_of_tree ?_);show wpAny _ _ (callAny (.type "set") _) _ _ _;refine wpAny_pure ⟨Code.quiet_builtin _ (by decide+kernel),codeAny_builtin F.entry_type_call ?_⟩
 rw [Around.under_plain (weight_type_call_type "set" [] []) rfl];have h1:=F.called_set.notType;have h2:=F.called_set.canCreate;have hct:=F.typeCall_set_0
 repeat (any_goals (first|assumption|wp_step))
 refine codeAny_mono (tS (E:=E) (Q₁:=λobj s₁=>obj= .ref s.heap.objs.size∧s₁={s with heap:=s.heap.push {cls:= .type "set",dict:=none,data:= .set #[] 0 (.fresh 0 0 (!fu w))}}) ⟨rfl,rfl⟩) λr s₁ hr=>?_
 cases r with
 |error e=>exact hr
 |ok fl=>
  cases fl with
  |ret obj=>
   obtain ⟨rfl,rfl⟩:=hr;have hS:(s.heap.push {cls:= .type "set",dict:=none,data:= .set #[] 0 (.fresh 0 0 (!fu w))}).get? s.heap.objs.size=some {cls:= .type "set",dict:=none,data:= .set #[] 0 (.fresh 0 0 (!fu w))}:=Heap.get?_push_size _ rfl;have hT:Shared.TypeIs {s with heap:=s.heap.push {cls:= .type "set",dict:=none,data:= .set #[] 0 (.fresh 0 0 (!fu w))}} (.ref s.heap.objs.size) "set":=⟨_,hS,rfl⟩
   have hli:=F.called_set.init.lookup;have hbi:=F.called_set.init.bind (.ref s.heap.objs.size)
   repeat (any_goals (first|assumption|wp_step))
   refine codeAny_mono (codeAny_call_builtin (R:=wants (λr Em=>r= .none∧Q (.ref s.heap.objs.size) Em) E) F.called_set.init.plain F.entry_set_init (check_set_init hT ?_)) λVA Em B3=>?_
   ·unfold Builtin.«set.__init__» noKeywords
    wp_walk
    exact ⟨rfl,h⟩
   ·cases VA with
    |error e=>exact B3
    |ok N6=>
     cases N6 with
     |ret r=>
      obtain ⟨rfl,hq⟩:=B3
      repeat (any_goals (first|assumption|wp_step))
     |_=>exact B3.elim
  |_=>exact hr.elim
theorem kC.new(w:World):kC (fu w) {cls:= .type "set",dict:=none,data:= .set #[] 0 (.fresh 0 0 (!fu w))} #[] 0 (.fresh 0 0 (!fu w)) where
 ex:=⟨rfl,rfl,rfl⟩
 dat:=rfl
 tok:=⟨.inl rfl,rfl,λi j hj=>by simp [SetTable.fresh] at hj,rfl,λi j h=>by simp [SetTable.fresh] at h,by simp [SetTable.fresh],λi h e=>by simp at e⟩
 pl:=rfl
 ld:=rfl
 few:=by simp [SetTable.fresh]
end
section
variable {prog:Program} {w:World} {A:Around} {E:Value→Shared→Prop} {s:Shared}
theorem ItemsAre.ints{ks:List Int}{vs:List Value}(h:ItemsAre (intKind prog w) ks vs):∀v∈vs,∃i t,v= .int i t:=by
 induction h with
 |nil=>intro v hv;simp at hv
 | @cons k v' ks vs h1 _ ih=>
  intro v hv
  rcases ck.mp hv with rfl|hv
  ·obtain ⟨t,rfl⟩:=Value.isInt_shape h1
   exact ⟨k,t,rfl⟩
  ·exact ih v hv
theorem mF{ks:List Int}{a:Addr}{Q:Bool→Shared→Prop}(hk:IsTupleKey (intKind prog w) s.heap ks a)(h:Q false s):wpAny (model prog w) A (ofAClassStatement 8 (.ref a)) Q E s:=by
 have hT:=hk.typeIs;obtain ⟨o,items,n,ho,_,hd,hi⟩:=hk;unfold ofAClassStatement;refine wpAny_bind (wpAny_typeOf hT ?_);dsimp only;simp only [beq_self_eq_true, ↓reduceIte];refine wpAny_bind (wpAny_pure ?_);simp only [Bool.not_true,eB, ↓reduceIte];refine wpAny_bind (wpAny_seqItems ho hd ?_);dsimp only;refine wpAny_bind ?_;rw [←Array.forIn_toList];refine wpAny_forIn_list _ (λrest r s'=>r.1=none∧s'=s∧∀v∈rest,∃i t,v=Value.int i t) _ ?_ ?_ _ _ ⟨rfl,rfl,hi.ints⟩
 ·rintro v rest r s' ⟨hr,rfl,g6⟩
  obtain ⟨i,t,rfl⟩:=g6 v bY;refine wpAny_bind (wpAny_of_eq (show ofAClassStatement 7 (.int i t)=pure false from by unfold ofAClassStatement;rfl) ?_)
  simp only [eB,if_false];exact wpAny_pure ⟨rfl,rfl,λu HK=>g6 u (cu _ HK)⟩
 ·rintro ⟨r1,r2⟩ s' ⟨hr,rfl,_⟩
  simp only at hr;subst hr;exact wpAny_pure h
theorem Bb{ks:List Int}{b:Addr}{Q:Bool→Shared→Prop}(hk:IsTupleKey (intKind prog w) s.heap ks b)(stored:List Value)(hs:∀y∈stored,∃k' a,y=Value.ref a∧IsTupleKey (intKind prog w) s.heap k' a)(h:Q false s):
  wpAny (model prog w) A (searchCouldBeSeen (.ref b) stored) Q E s:=by
 unfold searchCouldBeSeen;refine wpAny_bind ?_;refine wpAny_forIn_list _ (λrest r s'=>r.1=none∧s'=s∧∀y∈rest,∃k' a,y=Value.ref a∧IsTupleKey (intKind prog w) s.heap k' a) _ ?_ ?_ _ _ ⟨rfl,rfl,hs⟩
 ·rintro y rest r s' ⟨hr,rfl,g6⟩
  obtain ⟨k',a,rfl,fe⟩:=g6 y bY;have tl:∀y∈rest,∃k' a,y=Value.ref a∧IsTupleKey (intKind prog w) s'.heap k' a:=λy hy=>g6 y (cu _ hy);have e:(carriedByValue (Value.ref b)&&carriedByValue (Value.ref a))=false:=by simp [carriedByValue]
  dsimp only;rw [e,Bool.or_false]
  by_cases c:(b==a)=true
  ·rw [if_pos c]
   exact wpAny_pure ⟨rfl,rfl,tl⟩
  ·rw [if_neg c]
   refine wpAny_bind (wpAny_eqIsQuiet_tuple hk ?_);simp only [Bool.not_true,eB,if_false];refine wpAny_bind (wpAny_eqIsQuiet_tuple fe ?_);simp only [Bool.not_true,eB,if_false];refine wpAny_bind (mF hk ?_);simp only [eB,if_false];refine wpAny_bind (mF fe ?_);simp only [eB,if_false];exact wpAny_pure ⟨rfl,rfl,tl⟩
 ·rintro ⟨r1,r2⟩ s' ⟨hr,rfl,_⟩
  simp only at hr;subst hr;exact wpAny_pure h
theorem wq{ks:List Int}{a:Addr}{Q:Bool→Shared→Prop}(hk:IsTupleKey (intKind prog w) s.heap ks a)(h:Q true s):wpAny (model prog w) A (hashByValue 8 (.ref a)) Q E s:=by
 have hT:=hk.typeIs;obtain ⟨o,items,n,ho,_,hd,hi⟩:=hk;unfold hashByValue;refine wpAny_bind (wpAny_specialOf hT F.slot_tuple_hash.lookup ?_);dsimp only;refine wpAny_bind (wpAny_seqItems ho hd ?_);refine wpAny_bind ?_;show wpAny _ _ (forIn items _ _) _ _ s;rw [←Array.forIn_toList];refine wpAny_forIn_list _ (λrest r s'=>r.1=none∧s'=s∧∀v∈rest,∃i t,v=Value.int i t) _ ?_ ?_ _ _ ⟨rfl,rfl,hi.ints⟩
 ·rintro v rest r s' ⟨hr,rfl,g6⟩
  obtain ⟨i,t,rfl⟩:=g6 v bY;refine wpAny_bind (wpAny_of_eq (show hashByValue 7 (.int i t)=pure true from by unfold hashByValue;rfl) ?_)
  simp only [Bool.not_true,eB,if_false];exact wpAny_pure ⟨rfl,rfl,λu HK=>g6 u (cu _ HK)⟩
 ·rintro ⟨r1,r2⟩ s' ⟨hr,rfl,_⟩
  simp only at hr;subst hr;exact wpAny_pure h
def Gh(prog:Program)(w:World)(h:Heap)(es:Array (Int×Value)):Prop:=∀(i:Nat)(e:Int×Value),es[i]? =some e→∃k a,e=(tupleKeyHash (intKind prog w) k, .ref a)∧IsTupleKey (intKind prog w) h k a
def Ju(es:Array (Int×Value))(i:Nat):Int:=(es[i]?.map (·.1)).getD 0
theorem GY{m:Nat}(h:sj m):m%2=1:=by rcases h with rfl|rfl|rfl|rfl<;>rfl
theorem xB{xs:Array Nat}(R:lb xs){i j v:Nat}(hi:xs[i]? =some v)(hj:xs[j]? =some v):i=j:=by
 rw [←below_at R hi,←below_at R hj]
theorem nU{a:Addr}{o:Obj}{es:Array (Int×Value)}{ep:Nat}{t:SetTable}{b:Addr}{ks:List Int}{eW:Bool}{Q:SetFound→Shared→Prop}(hu:A.units<cLine)(ho:s.heap.get? a=some o)(S:kC (fu w) o es ep t)(P:Gh prog w s.heap es)(hk:IsTupleKey (intKind prog w) s.heap ks b)
  (Kb:(∃(i:Nat)(c:Addr),es[i]? =some (tupleKeyHash (intKind prog w) ks, .ref c)∧IsTupleKey (intKind prog w) s.heap ks c)→∀r:Option Nat,(eW=false→r.isSome=true)→Q (.there r) s)
  (yw:(∀(i:Nat)(e:Int×Value),es[i]? =some e→∀c,e.2= .ref c→¬IsTupleKey (intKind prog w) s.heap ks c)→∀k0,(∀i:Nat,t.place[i]? ≠some (bz t.mask (tupleKeyHash (intKind prog w) ks) k0))→(∀k',k'<k0→∃i:Nat,t.place[i]? =some (bz t.mask (tupleKeyHash (intKind prog w) ks) k'))→
   Q (.free (bz t.mask (tupleKeyHash (intKind prog w) ks) k0) false) s):
  wpAny (model prog w) A (setSearch a (.ref b) (tupleKeyHash (intKind prog w) ks) eW) Q E s:=by
 generalize hh:tupleKeyHash (intKind prog w) ks=h at*;have T:=S.tok;obtain ⟨s0,Zc,Sj⟩:=T.empty;obtain ⟨K,hK,eK⟩:=meets T.few (qq.start t.mask h) Zc;have eK:bz t.mask h K=s0:=by unfold bz;rw [kA];exact eK
 have kb:K<6000:=by
  have:10*turns t.mask≤5260:=by
   rcases T.few with e|e|e|e<;>rw [e]<;>decide
  omega
 have sz:t.place.size=es.size:=by rw [T.size];simp
 have hN:(t.mask%2==0)=false:=by rw [GY T.few];rfl
 have main:∀(n:Nat)(k:Nat)(fuel:Nat)(vc:Option Probe),K+1-k≤n→n<fuel→k≤K→vc.getD (t.probeStart h)=oP t.mask h k→(∀k',k'<k→∃i:Nat,t.place[i]? =some (bz t.mask h k'))→
   (∀(i:Nat) c,es[i]? =some (h, .ref c)→IsTupleKey (intKind prog w) s.heap ks c→∀kx,t.place[i]? =some (bz t.mask h kx)→k≤kx)→
   wpAny (model prog w) A (setSearchFrom a (.ref b) h eW fuel vc) Q E s:=by
  intro n
  induction n with
  |zero=>intro k fuel vc h1 h2 h3;omega
  |succ n ih=>
   intro k fuel vc h1 h2 h3 h4 h5 h6;obtain ⟨f,rfl⟩:∃f,fuel=f+1:=⟨fuel-1,by omega⟩
   unfold setSearchFrom;refine wpAny_bind (wpAny_setState_of ho S.dat S.fits ?_);dsimp only;unfold SetTable.gaveWay;rw [hN];simp only [eB,if_false]
   have RQ:∀(i:Nat)(e:Int×Value),es[i]? =some e→Ju es i=e.1:=λi e hi=>by
    show (es[i]?.map (·.1)).getD 0=e.1;rw [hi];rfl
   generalize hq:t.probe _ h (vc.getD (t.probeStart h))=r;have hq:t.probe (Ju es) h (oP t.mask h k)=r:=by rw [←h4];exact hq
   generalize Ju es=hA at RQ hq;obtain ⟨k0,sD,hp,alt⟩:=TOk.probe T hA h k
   have k0K:k0≤K:=by
    apply Classical.byContradiction;intro c;obtain ⟨i,hi,_⟩:=hp K h3 (by omega)
    rw [eK] at hi;exact Sj i hi
   have KQ:∀k',k'<k0→∃i:Nat,t.place[i]? =some (bz t.mask h k'):=λk' h'=>by
    by_cases c:k'<k
    ·exact h5 k' c
    ·obtain ⟨i,hi,_⟩:=hp k' (by omega) h'
     exact ⟨i,hi⟩
   have later:∀(i:Nat) c,es[i]? =some (h, .ref c)→IsTupleKey (intKind prog w) s.heap ks c→∀kx,t.place[i]? =some (bz t.mask h kx)→k0≤kx:=λi c hi hc kx HG=>by
    have YW:=h6 i c hi hc kx HG;apply Classical.byContradiction;intro z;obtain ⟨i',fj,fg⟩:=hp kx YW (by omega)
    have:i=i':=xB T.rise HG fj
    subst this;exact fg (RQ i _ hi)
   rcases alt with ⟨Hs,ep⟩ | ⟨i,hi,BR,ep⟩
   ·rw [ep] at hq
    subst hq;dsimp only;refine wpAny_pure (yw (λi e hi c hc Sx=>?_) k0 Hs KQ);obtain ⟨k',a',e1,fe⟩:=P i e hi;subst e1;cases hc
    have:k'=ks:=fe.inj Sx
    subst this;rw [hh] at hi;obtain ⟨ky,Tf,Zq⟩:=T.path i h (by rw [dq,eu,hi];rfl)
    have lt:=later i _ hi Sx ky Tf
    by_cases c1:k0<ky
    ·obtain ⟨i',fj⟩:=Zq k0 c1
     exact Hs i' fj
    ·have:ky=k0:=by omega
     subst this;exact Hs i Tf
   ·rw [ep] at hq
    subst hq;dsimp only
    have O3:i<es.size:=by
     have:=(Bf.mp hi).1
     omega
    obtain ⟨k',c,e1,fe⟩:=P i es[i] (xP O3);have ei:es[i]? =some (tupleKeyHash (intKind prog w) k', .ref c):=by rw [xP O3,e1]
    have rest:wpAny (model prog w) A (match es[i]? with
      |some (fst,y)=>do
       let equal ←holding [y] (eqBool y (Value.ref b))
       let __x ←setState a
       if (eW&&equal)=true then pure (SetFound.there none)
        else
         match __x.2.snd.sameMemory t.moves t.mask with
         |some same=>
          match if same=true then __x.2.snd.slot (bz t.mask h k0) else Slot.empty with
          |Slot.live i'=>
           match __x.fst[i']? with
           |some (fst,y')=>do
            let __do_lift ←isSame y' y
            let vd ←pure (if __do_lift=true then some i' else none)
            match vd with
             |none=>do
              rule "set.search.anew"
              setSearchFrom a (Value.ref b) h eW f none
             |some i'=>
              if equal=true then pure (SetFound.there (some i'))
              else setSearchFrom a (Value.ref b) h eW f (some (oP t.mask h (k0+1)))
           |none=>do
            let vd ←pure none
            match vd with
             |none=>do
              rule "set.search.anew"
              setSearchFrom a (Value.ref b) h eW f none
             |some i'=>
              if equal=true then pure (SetFound.there (some i'))
              else setSearchFrom a (Value.ref b) h eW f (some (oP t.mask h (k0+1)))
          |x=>do
           let vd ←pure none
           match vd with
            |none=>do
             rule "set.search.anew"
             setSearchFrom a (Value.ref b) h eW f none
            |some i'=>
             if equal=true then pure (SetFound.there (some i'))
             else setSearchFrom a (Value.ref b) h eW f (some (oP t.mask h (k0+1)))
         |x=>unsupported "set.changed-during-lookup:is-the-new-block-at-the-old-address"
      |x=>unsupported "internal:set-entry") Q E s:=by
     rw [ei];dsimp only;refine wpAny_bind (wpAny_holding (wpAny_eqBool_tuple hu fe hk ?_));refine wpAny_bind (wpAny_setState_of ho S.dat S.fits ?_);dsimp only;have sm:t.sameMemory t.moves t.mask=some true:=by unfold SetTable.sameMemory;simp
     have fg:k'≠ks→wpAny (model prog w) A (setSearchFrom a (Value.ref b) h eW f (some (oP t.mask h (k0+1)))) Q E s:=λne=>by
      by_cases kk:k0=K
      ·subst kk
       rw [eK] at hi;exact absurd hi (Sj i)
      refine ih (k0+1) f _ (by omega) (by omega) (by omega) rfl (λKq h''=>?_) λi' c' fj pq kx HG=>?_
      ·by_cases z:Kq=k0
       ·subst z;exact ⟨i,hi⟩
       ·exact KQ Kq (by omega)
      ·have l1:=later i' c' fj pq kx HG
       have:kx≠k0:=λz=>by
        subst z
        have:i'=i:=xB T.rise HG hi
        subst this;rw [ei] at fj;cases fj;exact ne (fe.inj pq)
       omega
     have there:k'=ks→∀r:Option Nat,(eW=false→r.isSome=true)→Q (.there r) s:=λe=>by
      subst e;rw [hh] at ei;exact Kb ⟨i,c,ei,fe⟩
     by_cases e:k'=ks
     ·rw [decide_eq_true e,Bool.and_true]
      cases eW with
      |true=>exact wpAny_pure (there e none λz=>absurd z (by decide))
      |false=>
       simp only [eB,if_false];rw [sm];dsimp only;rw [if_pos rfl,oO T.rise hi];dsimp only;rw [ei];dsimp only;refine wpAny_bind (wpAny_isSame_ref_self ?_);refine wpAny_bind (wpAny_pure ?_);simp only [if_true];exact wpAny_pure (there e (some i) λ_=>rfl)
     ·rw [decide_eq_false e,Bool.and_false]
      simp only [eB,if_false];rw [sm];dsimp only;rw [if_pos rfl,oO T.rise hi];dsimp only;rw [ei];dsimp only;refine wpAny_bind (wpAny_isSame_ref_self ?_);refine wpAny_bind (wpAny_pure ?_);simp only [if_true];exact fg e
    by_cases led:(!t.led)=true
    ·rw [if_pos led]
     refine wpAny_bind (Bb hk _ (λy hy=>?_) ?_)
     ·obtain ⟨e,he,rfl⟩:=bN.mp hy
      have he:=(Array.mem_filter.mp (Array.mem_toList_iff.mp he)).1;obtain ⟨i',fj,rfl⟩:=Array.mem_iff_getElem.mp he;obtain ⟨Kq,c',e1,Sw⟩:=P i' es[i'] (xP fj);exact ⟨Kq,c',by rw [e1],Sw⟩
     ·simp only [eB,if_false]
      exact rest
    ·rw [if_neg led]
     exact rest
 refine main (K+1) 0 100000 none (aU _) (by omega) (cM _) rfl (λk' h'=>by omega) λi c hi hc kx _=>cM _
end
section
variable {prog:Program} {w:World} {A:Around} {E:Value→Shared→Prop} {s:Shared}
theorem rj(b:Addr)(es:Array (Int×Value)):byScan (.ref b) es=false:=rfl
theorem wo{a:Addr}{o:Obj}{es:Array (Int×Value)}{ep:Nat}{t:SetTable}{b:Addr}{ks:List Int}{Q:Option Nat→Shared→Prop}(hu:A.units<cLine)(ho:s.heap.get? a=some o)(S:kC (fu w) o es ep t)(P:Gh prog w s.heap es)(hk:IsTupleKey (intKind prog w) s.heap ks b)
  (hy:(∃(i:Nat)(c:Addr),es[i]? =some (tupleKeyHash (intKind prog w) ks, .ref c)∧IsTupleKey (intKind prog w) s.heap ks c)→∀r:Option Nat,r.isSome=true→Q r s)
  (hn:(∀(i:Nat)(e:Int×Value),es[i]? =some e→∀c,e.2= .ref c→¬IsTupleKey (intKind prog w) s.heap ks c)→Q none s):
  wpAny (model prog w) A (setFind a (.ref b) (tupleKeyHash (intKind prog w) ks)) Q E s:=by
 unfold setFind setFindIn;refine wpAny_bind (wpAny_setState_of ho S.dat S.fits ?_);dsimp only;rw [rj];simp only [eB,if_false];refine wpAny_bind (nU hu ho S P hk (λh r hr=>?_) λh k0 _ _=>?_)
 ·exact wpAny_pure (hy h r (hr rfl))
 ·exact wpAny_pure (hn h)
theorem zf{a:Addr}{o:Obj}{es:Array (Int×Value)}{ep:Nat}{t:SetTable}{b:Addr}{ks:List Int}{Q:Bool→Shared→Prop}(hu:A.units<cLine)(ho:s.heap.get? a=some o)(S:kC (fu w) o es ep t)(P:Gh prog w s.heap es)(hk:IsTupleKey (intKind prog w) s.heap ks b)(room:es.size≤305)
  (hy:(∃(i:Nat)(c:Addr),es[i]? =some (tupleKeyHash (intKind prog w) ks, .ref c)∧IsTupleKey (intKind prog w) s.heap ks c)→Q false s)
  (hn:(∀(i:Nat)(e:Int×Value),es[i]? =some e→∀c,e.2= .ref c→¬IsTupleKey (intKind prog w) s.heap ks c)→∀h' o' lD BF t',Heap.SameBut a s.heap h'→h'.get? a=some o'→kC (fu w) o' lD BF t'→lD.toList.Perm (es.toList++ [(tupleKeyHash (intKind prog w) ks, .ref b)])→Q true {s with heap:=h'}):
  wpAny (model prog w) A (setAddHashed a (.ref b) (tupleKeyHash (intKind prog w) ks)) Q E s:=by
 have hd:=S.dat;have hf:=S.fits;have T:=S.tok;have sz:t.place.size=es.size:=by rw [T.size];simp
 unfold setAddHashed setAddHashedIn;refine wpAny_holding (wpAny_bind (wpAny_setState_of ho hd hf ?_));dsimp only;rw [rj];simp only [eB,if_false];refine wpAny_bind (nU hu ho S P hk (λh r hr=>?_) λh k0 emp KQ=>?_)
 ·exact wpAny_pure (hy h)
 ·dsimp only
  refine wpAny_bind (wpAny_setState_of ho hd hf ?_);dsimp only;obtain ⟨p1,p2,p3⟩:=TOk.put T emp KQ (by rw [sz];exact EV T.few S.few)
  rw [p1]
  have e:(SetTable.insertAt es (below t.place (bz t.mask (tupleKeyHash (intKind prog w) ks) k0)) (tupleKeyHash (intKind prog w) ks,Value.ref b)).toList.map (·.1)=(es.toList.map (·.1)).take (below t.place (bz t.mask (tupleKeyHash (intKind prog w) ks) k0))++tupleKeyHash (intKind prog w) ks::(es.toList.map (·.1)).drop (below t.place (bz t.mask (tupleKeyHash (intKind prog w) ks) k0)):=by
   rw [SetTable.toList_insertAt];simp
  rw [←e] at p3;have pl:(t.put (bz t.mask (tupleKeyHash (intKind prog w) ks) k0)).1.plain=true:=S.pl;have ld:(t.put (bz t.mask (tupleKeyHash (intKind prog w) ks) k0)).1.led= !fu w:=S.ld;have mk:(t.put (bz t.mask (tupleKeyHash (intKind prog w) ks) k0)).1.mask=t.mask:=rfl;generalize hx:((tupleKeyHash (intKind prog w) ks,Value.ref b):Int×Value)=x at*;generalize hp:below t.place (bz t.mask (tupleKeyHash (intKind prog w) ks) k0)=p at*;generalize (t.put (bz t.mask (tupleKeyHash (intKind prog w) ks) k0)).1=t1 at*;rw [if_pos pl];refine wpAny_bind (wq hk ?_);simp only [if_true,Bool.not_false,Bool.true_and];have Jw:(SetTable.insertAt es p x).size=es.size+1:=SetTable.fO ..;have IT:=SetTable.insertAt_perm es p x;rw [xW] at IT;refine wpAny_bind (wpAny_storeSet_of ho hd ?_ (by rw [Jw];refine fits_of_scanBound ?_;show es.size+1<4096;omega))
  have v5:=rQ ho hd (SetTable.insertAt es p x) t1;have VG:=Heap.SameBut.update s.heap a (Obj.putSet (SetTable.insertAt es p x) t1)
  have X5:t1.fits (SetTable.insertAt es p x).size=true:=by
   have:=TOk.fits p3
   rw [aJ,bX] at this;exact this
  by_cases full:t1.tooFull=true
  ·rw [if_pos full]
   obtain ⟨t2,order,eR,_,pf,sf,T2,pl2,l2,f2,VE⟩:=CL p3 full (by rw [Jw,mk];have:=S.few;omega) (by rw [Jw];omega)
   rw [Jw] at eR f2 VE;refine wpAny_bind ?_;unfold setRelay;refine wpAny_bind (wpAny_setState_of v5 rfl X5 ?_);dsimp only;have big:512≤sizeLine:=by decide
   rw [if_neg (by omega),eR]
   have V2:(order.filterMap ((SetTable.insertAt es p x)[·]?)).size=es.size+1:=by rw [sf,Jw]
   refine wpAny_bind (wpAny_of_eq (a:=(order.filterMap ((SetTable.insertAt es p x)[·]?),t2)) ?_ ?_)
   ·show (if ((order.filterMap ((SetTable.insertAt es p x)[·]?)).size !=(SetTable.insertAt es p x).size)=true then _ else pure (order.filterMap ((SetTable.insertAt es p x)[·]?),t2))=_
    rw [if_neg (by rw [sf];simp)]
   ·dsimp only
    refine wpAny_storeSet_of v5 rfl ?_ (by rw [V2];refine fits_of_scanBound ?_;show es.size+1<4096;omega)
    have uh:=rQ v5 rfl (order.filterMap ((SetTable.insertAt es p x)[·]?)) t2;exact wpAny_pure (hn h _ _ _ _ t2 (VG.trans (Heap.SameBut.update _ a _)) uh ⟨S.ex,rfl,T2,by rw [pl2];exact pl,by rw [l2];exact ld,by rw [V2];exact f2⟩ (pf.trans IT))
  ·rw [if_neg full]
   refine wpAny_pure (hn h _ _ _ _ t1 VG v5 ⟨S.ex,rfl,p3,pl,ld,?_⟩ IT);have ff:t1.tooFull=false:=by simpa using full
   unfold SetTable.tooFull SetTable.fill at ff;rw [p3.dum,p3.size] at ff;simp at ff;omega
variable {a b:Addr} {o:Obj} {es:Array (Int×Value)} {ep:Nat} {t:SetTable} {ks:List Int}
open Classical in
noncomputable def lG(prog:Program)(w:World)(h:Heap)(es:Array (Int×Value))(ks:List Int):Bool:=decide (∃(i:Nat)(c:Addr),es[i]? =some (tupleKeyHash (intKind prog w) ks, .ref c)∧IsTupleKey (intKind prog w) h ks c)
theorem Ho(h:∀(i:Nat)(e:Int×Value),es[i]? =some e→∀c,e.2= .ref c→¬IsTupleKey (intKind prog w) s.heap ks c):lG prog w s.heap es ks=false:=by
 classical
 unfold lG;exact decide_eq_false λ⟨i,c,h1,h2⟩=>h i _ h1 c rfl h2
theorem Fe(h:∃(i:Nat)(c:Addr),es[i]? =some (tupleKeyHash (intKind prog w) ks, .ref c)∧IsTupleKey (intKind prog w) s.heap ks c):lG prog w s.heap es ks=true:=by
 classical
 unfold lG;exact decide_eq_true h
theorem qe{Q:Bool→Shared→Prop}(hu:A.units+64<cLine)(ho:s.heap.get? a=some o)(S:kC (fu w) o es ep t)(P:Gh prog w s.heap es)(hk:IsTupleKey (intKind prog w) s.heap ks b)
  (h:∀tk,Q (lG prog w s.heap es ks) {s with toks:=tk}):wpAny (model prog w) A (contains (.ref a) (.ref b)) Q E s:=by
 have hT:s.TypeIs (.ref a) "set":=⟨o,ho,S.ex.1⟩;unfold contains
 try with_reducible refine wpAny_holding ?_
 refine wpAny_bind (wpAny_specialOf hT F.slot_set_contains.lookup ?_);show wpAny _ _ (if (some (Value.builtin "set.__contains__")==some Value.none)=true then _ else _) _ E s;rw [if_neg (by rw [beq_builtin_none];exact cK)]
 refine wpAny_bind (wpAny_callSpecialUnlessNone?_slot (name:=Str.ofString "__contains__") hT F.slot_set_contains
  (wpAny_call_entry F.slot_set_contains hT entry_set_contains ?_ (F.args_set_contains_2 _ _)))
 unfold Builtin.«frozenset.__contains__» Builtin.Frozenset.oneOther;simp only [List.isEmpty_nil,bind_assoc];unfold Builtin.Frozenset.addrOf Builtin.Frozenset.withSetAsKey setContains;refine wpAny_bind (wpAny_pure ?_)
 try dsimp only
 refine wpAny_bind (wpAny_pure ?_)
 try dsimp only
 refine wpAny_bind (wpAny_tryCatch ?_);refine wpAny_holding ?_;refine wpAny_bind (wpAny_pyHash_tuple ?_ hk ?_)
 ·show A.units+1<cLine;omega
 refine wpAny_bind (wo (s:={s with toks:=s.toks+(ks.length+1)}) ?_ ho S P hk (λhy r hr=>?_) λhn=>?_)
 ·show A.units+1<cLine;omega
 ·refine wpAny_pure ?_
  show wpAny _ _ (ret (Value.bool r.isSome)) _ _ _;rw [hr]
  have:=h (s.toks+(ks.length+1))
  rw [Fe hy] at this;exact wpAny_pure ⟨_,rfl,wpAny_truthy_bool this⟩
 ·refine wpAny_pure ?_
  show wpAny _ _ (ret (Value.bool false)) _ _ _
  have:=h (s.toks+(ks.length+1))
  rw [Ho hn] at this;exact wpAny_pure ⟨_,rfl,wpAny_truthy_bool this⟩
end
end PySem
set_option maxHeartbeats 4000000
namespace L2
open PySem PySem.Spec PyProof.Rows
inductive FV where
 |int (i:Int) |bl (b:Bool)
inductive XD where
 |pT (b:Bool) (ps:List (Int×Int)) |MY (ks:List (Int×Int)) (vs:List FV)
inductive D where
 |aM|bl (b:Bool) |int (i:Int) |str (x:Str) |lst (l:List D) |tup (l:List D) |jA (ns:List Int) |rng (lo hi:Int) |obj (a:Addr) |gO (w:List (List Nat)) |set (b:Bool) (l:List Int) |x (k:XD)
structure DC where
 K:PySem.W.Frag
 C:Addr
def ay(n:Nat):D:= .int n
def aD(r:List Nat):D:= .lst (r.map ay)
def bG(w:List (List Nat)):D:= .lst (w.map aD)
def P9(es:Array (Int×Value))(ns:List Int):Prop:=(∀e∈es.toList,∃k t,e=(hashInt k,Value.int k t))∧ns.Nodup∧∃ms,IntsAre (es.toList.map (·.2)) ms∧ms.Perm ns
def LV(b:Bool)(a:Addr)(ns:List Int)(h:Heap):Prop:=∃o es ep t,h.get? a=some o∧kC b o es ep t∧P9 es ns
def fD(p:Int×Int):Int:=reduceHash (Builtin.Tuple.tupleHashOf [hashInt p.1,hashInt p.2])
inductive iz (H:Hp):List (Int×Addr)→List (Int×Int)→Prop
 |nil:iz H [] []
 |cons {a:Addr} {p:Int×Int} {es:List (Int×Addr)} {ps:List (Int×Int)}:H a=some (.tup [.int p.1, .int p.2])→iz H es ps→iz H ((fD p,a)::es) (p::ps)
theorem iz.mono{H H':Hp}(s:az H H'):∀{es:List (Int×Addr)}{ps:List (Int×Int)},iz H es ps→iz H' es ps
 |_,_, .nil=> .nil
 |_,_, .cons h t=> .cons (s _ _ h) (t.mono s)
def eG(b:Bool)(a:Addr)(es:List (Int×Addr))(h:Heap):Prop:=∃o eA ep t,h.get? a=some o∧kC b o eA ep t∧eA.toList.Perm (es.map λe=>(e.1,Value.ref e.2))
def Wx:FV→Value→Prop
 | .int i,v=>∃t,v= .int i t
 | .bl b,v=>v= .bool b
inductive JF:List DictEntry→List (Int×Addr)→List FV→Prop
 |nil:JF [] [] []
 |cons {e:DictEntry} {l:List DictEntry} {h:Int} {a:Addr} {v:FV} {es:List (Int×Addr)} {vs:List FV}:e.hash=h→e.key= .ref a→Wx v e.val→JF l es vs→JF (e::l) ((h,a)::es) (v::vs)
def Ng(a:Addr)(es:List (Int×Addr))(vs:List FV)(h:Heap):Prop:=(a==sysModules)=false∧∃o eA ep,h.get? a=some o∧o.ExactDict∧o.data= .dict eA ep∧JF eA.toList es vs
def ED(H:Hp)(a:Addr)(φ:Heap→Prop):XD→Prop
 | .pT b ps=>ps.Nodup∧∃es,φ=eG b a es∧iz H es ps
 | .MY ks vs=>ks.Nodup∧∃es,φ=Ng a es vs∧iz H es ks
theorem ED.mono{H H':Hp}(s:az H H'){a:Addr}{φ:Heap→Prop}:∀{k:XD},ED H a φ k→ED H' a φ k
 | .pT _ _,⟨n,es,e,p⟩=>⟨n,es,e,p.mono s⟩
 | .MY _ _,⟨n,es,e,p⟩=>⟨n,es,e,p.mono s⟩
mutual
inductive Dv (Z:DC) (H:Hp):V→D→Prop
 |aM:Dv Z H .aM .aM
 |bl (b:Bool):Dv Z H (.bl b) (.bl b)
 |int (i:Int):Dv Z H (.int i) (.int i)
 |str (x:Str) (h:PyData.strOk x=true):Dv Z H (.str x) (.str x)
 |lst {a:Addr} {xs:List V} {ds:List D}:H a=some (.lst xs)→aq Z H xs ds→Dv Z H (.ref a) (.lst ds)
 |tup {a:Addr} {xs:List V} {ds:List D}:H a=some (.tup xs)→aq Z H xs ds→Dv Z H (.ref a) (.tup ds)
 |obj (a:Addr):Dv Z H (.ref a) (.obj a)
 |rng {a:Addr} {lo hi:Int}:H a=some (.rng lo hi)→Dv Z H (.ref a) (.rng lo hi)
 |jA {a:Addr} {ns:List Int}:aC Z.K H a (ns.map V.int)→ns.length≤63→Dv Z H (.ref a) (.jA ns)
 |gO {p dx R:Addr} {w:List (List Nat)}:H p=some (.ins Z.C dx [("rows", .ref R)])→Dv Z H (.ref R) (bG w)→Wb.Good w→1≤w.length→w.length≤14→Dv Z H (.ref p) (.gO w)
 |set {a:Addr} {b:Bool} {ns:List Int}:H a=some (.ext (LV b a ns))→Dv Z H (.ref a) (.set b ns)
 |x {a:Addr} {φ:Heap→Prop} {k:XD}:H a=some (.ext φ)→ED H a φ k→Dv Z H (.ref a) (.x k)
inductive aq (Z:DC) (H:Hp):List V→List D→Prop
 |nil:aq Z H [] []
 |cons {v:V} {vs:List V} {d:D} {ds:List D}:Dv Z H v d→aq Z H vs ds→aq Z H (v::vs) (d::ds)
end
theorem aC.mono{K:PySem.W.Frag}{H H':Hp}{a:Addr}{xs:List V}(s:az H H')(h:aC K H a xs):aC K H' a xs:=by
 rcases h with (h| ⟨o,h⟩) |h
 ·exact .inl (.inl (s _ _ h))
 ·exact .inl (.inr ⟨o,s _ _ h⟩)
 ·exact .inr h
section
variable {Z:DC} {H H' G G':Hp}
theorem Dv.ofInt{v:V}{i:Int}(h:Dv Z H v (.int i)):v= .int i:=by cases h;rfl
theorem Dv.UY{v:V}{b:Bool}(h:Dv Z H v (.bl b)):v= .bl b:=by cases h;rfl
theorem Dv.km{v:V}{ds:List D}(h:Dv Z H v (.lst ds)):∃a xs,v= .ref a∧H a=some (.lst xs)∧aq Z H xs ds:=by cases h with|lst h e=>exact ⟨_,_,rfl,h,e⟩
theorem Dv.oF{v:V}{ds:List D}(h:Dv Z H v (.tup ds)):∃a xs,v= .ref a∧H a=some (.tup xs)∧aq Z H xs ds:=by cases h with|tup h e=>exact ⟨_,_,rfl,h,e⟩
theorem Dv.qO{v:V}{ns:List Int}(h:Dv Z H v (.jA ns)):∃a,v= .ref a∧aC Z.K H a (ns.map V.int)∧ns.length≤63:=by cases h with|jA h z=>exact ⟨_,rfl,h,z⟩
theorem aq.Iv{vs:List V}(h:aq Z H vs []):vs= []:=by cases h;rfl
theorem aq.sY{vs:List V}{d:D}{ds:List D}(h:aq Z H vs (d::ds)):∃v us,vs=v::us∧Dv Z H v d∧aq Z H us ds:=by cases h with|cons a b=>exact ⟨_,_,rfl,a,b⟩
theorem aq.ofOne{vs:List V}{d:D}(h:aq Z H vs [d]):∃v,vs= [v]∧Dv Z H v d:=by
 obtain ⟨v,us,rfl,a,b⟩:=h.sY;rw [b.Iv];exact ⟨v,rfl,a⟩
theorem aq.uJ{vs:List V}{d e:D}(h:aq Z H vs [d,e]):∃v u,vs= [v,u]∧Dv Z H v d∧Dv Z H u e:=by
 obtain ⟨v,us,rfl,a,b⟩:=h.sY;obtain ⟨u,rfl,c⟩:=b.ofOne;exact ⟨v,u,rfl,a,c⟩
mutual
theorem Dv.mono(s:az H H'):∀{v:V}{d:D},Dv Z H v d→Dv Z H' v d
 |_,_, .aM=> .aM
 |_,_, .bl b=> .bl b
 |_,_, .int i=> .int i
 |_,_, .str x h=> .str x h
 |_,_, .lst h a=> .lst (s _ _ h) (aq.mono s a)
 |_,_, .tup h a=> .tup (s _ _ h) (aq.mono s a)
 |_,_, .obj a=> .obj a
 |_,_, .rng h=> .rng (s _ _ h)
 |_,_, .jA h z=> .jA (h.mono s) z
 |_,_, .gO h r g a b=> .gO (s _ _ h) (Dv.mono s r) g a b
 |_,_, .set h=> .set (s _ _ h)
 |_,_, .x h k=> .x (s _ _ h) (k.mono s)
theorem aq.mono(s:az H H'):∀{vs:List V}{ds:List D},aq Z H vs ds→aq Z H' vs ds
 |_,_, .nil=> .nil
 |_,_, .cons a as=> .cons (Dv.mono s a) (aq.mono s as)
end
theorem aq.length:∀{vs:List V}{ds:List D},aq Z H vs ds→vs.length=ds.length
 |_,_, .nil=>rfl
 |_,_, .cons _ as=>congrArg (·+1) as.length
theorem aq.get:∀{vs:List V}{ds:List D}{i:Nat}{d:D},aq Z H vs ds→ds[i]? =some d→∃v,vs[i]? =some v∧Dv Z H v d
 |_,_,_,_, .nil,e=>by simp at e
 |_,_,0,_, .cons a as,e=>by simp at e;subst e;exact ⟨_,rfl,a⟩
 |_,_,i+1,d, .cons a as,e=>by
  obtain ⟨v,h1,h2⟩:=aq.get (i:=i) (d:=d) as (by simpa using e)
  exact ⟨v,by simpa using h1,h2⟩
theorem aq.DV:∀{vs:List V}{ds:List D}{i:Nat}{v:V},aq Z H vs ds→vs[i]? =some v→∃d,ds[i]? =some d∧Dv Z H v d
 |_,_,_,_, .nil,e=>by simp at e
 |_,_,0,_, .cons a as,e=>by simp at e;subst e;exact ⟨_,rfl,a⟩
 |_,_,i+1,d, .cons a as,e=>by
  obtain ⟨v,h1,h2⟩:=aq.DV (i:=i) (v:=d) as (by simpa using e)
  exact ⟨v,by simpa using h1,h2⟩
theorem aq.append:∀{vs us:List V}{ds es:List D},aq Z H vs ds→aq Z H us es→aq Z H (vs++us) (ds++es)
 |_,_,_,_, .nil,b=>b
 |_,_,_,_, .cons a as,b=> .cons a (as.append b)
theorem aq.take:∀{vs:List V}{ds:List D}(n:Nat),aq Z H vs ds→aq Z H (vs.take n) (ds.take n)
 |_,_,0,_=>by simpa using aq.nil
 |_,_,n+1, .nil=>by simpa using aq.nil
 |_,_,n+1, .cons a as=>by simpa using aq.cons a (as.take n)
theorem aq.drop:∀{vs:List V}{ds:List D}(n:Nat),aq Z H vs ds→aq Z H (vs.drop n) (ds.drop n)
 |_,_,0,h=>h
 |_,_,n+1, .nil=>by simpa using aq.nil
 |_,_,n+1, .cons a as=>by simpa using as.drop n
theorem aq.set{v:V}{d:D}(h:Dv Z H v d):∀{vs:List V}{ds:List D}(n:Nat),aq Z H vs ds→aq Z H (vs.set n v) (ds.set n d)
 |_,_,_, .nil=> .nil
 |_,_,0, .cons a as=> .cons h as
 |_,_,n+1, .cons a as=> .cons a (aq.set h n as)
theorem aq.rev:∀{vs:List V}{ds:List D},aq Z H vs ds→aq Z H vs.reverse ds.reverse
 |_,_, .nil=> .nil
 |_,_, .cons a as=>by
  rw [List.reverse_cons,List.reverse_cons];exact as.rev.append (.cons a .nil)
theorem aq.ints:∀(ns:List Int),aq Z H (ns.map V.int) (ns.map D.int)
 | []=> .nil
 |n::ns=> .cons (.int n) (aq.ints ns)
theorem aq.snoc{vs:List V}{ds:List D}{v:V}{d:D}(a:aq Z H vs ds)(b:Dv Z H v d):aq Z H (vs++ [v]) (ds++ [d]):=a.append (.cons b .nil)
structure Ext (G H G' H':Hp):Prop where
 gg:az G G'
 sub:az G' H'
 hh:az H H'
 off:∀b,H b≠none→G b=none→G' b=none
theorem Ext.refl(s:az G H):Ext G H G H:=⟨.refl _,s, .refl _,λ_ _ h=>h⟩
theorem Ext.trans{G1 H1 G2 H2:Hp}(a:Ext G H G1 H1)(b:Ext G1 H1 G2 H2):Ext G H G2 H2:=
 ⟨a.gg.trans b.gg,b.sub,a.hh.trans b.hh,λx h g=>b.off x (λz=>by
  cases e:H x with
  |none=>exact h e
  |some o=>rw [a.hh x o e] at z;cases z) (a.off x h g)⟩
theorem Ext.new{p:Addr}{o:HO}(s:az G H)(h:H p=none):Ext G H (upd G p o) (upd H p o):=by
 have hg:G p=none:=s.free h;refine ⟨av hg o,λb u e=>?_,av h o,λb hb hg=>?_⟩
 ·by_cases z:b=p
  ·subst z;rw [ab] at e ⊢;exact e
  ·rw [ae z] at e ⊢;exact s b u e
 ·have:b≠p:=λz=>hb (by rw [z];exact h)
  rw [ae this];exact hg
end
abbrev DN:=List (Option D)
structure cY (Z:DC) (G:Hp) (σ:St) (ρ:DN):Prop where
 len:ρ.length=σ.length
 at_:∀(i:Nat)(d:D),ρ[i]? =some (some d)→∃v,σ[i]? =some (some v)∧Dv Z G v d
section
variable {Z:DC} {G G' H H':Hp} {σ:St} {ρ:DN}
theorem cY.mono(e:cY Z G σ ρ)(s:az G G'):cY Z G' σ ρ:=⟨e.len,λi d h=>let ⟨v,a,b⟩:=e.at_ i d h;⟨v,a,b.mono s⟩⟩
theorem cY.set{i:Nat}{v:V}{d:D}(e:cY Z G σ ρ)(h:Dv Z G v d):cY Z G (σ.set i (some v)) (ρ.set i (some d)):=by
 refine ⟨by rw [gb,gb];exact e.len,λj c hj=>?_⟩
 by_cases z:i=j
 ·subst z
  by_cases hi:i<ρ.length
  ·rw [kN hi] at hj
   cases hj;exact ⟨v,by rw [kN (by rw [←e.len];exact hi)],h⟩
  ·rw [xQ (jo hi)] at hj
   rw [fG (jo hi)] at hj;cases hj
 ·rw [kO z] at hj ⊢
  exact e.at_ j c hj
end
abbrev aT:=DN→(D→Prop)→Prop
abbrev dM:=DN→(Bool→Prop)→Prop
abbrev hJ:=DN→(List D→Prop)→Prop
abbrev iy:=D→D→(D→Prop)→Prop
abbrev eC:=D→DN→(DN→Prop)→Prop
abbrev jr:=DN→(List D→Prop)→Prop
def df(Z:DC)(t:aT):TE:=λσ H Q=>∃(G:Hp)(ρ:DN)(P:D→Prop),az G H∧cY Z G σ ρ∧t ρ P∧∀d,P d→∀v G' H',Ext G H G' H'→Dv Z G' v d→Q v H'
def liftT(Z:DC)(t:dM):TT:=λσ H Q=>∃(G:Hp)(ρ:DN)(P:Bool→Prop),az G H∧cY Z G σ ρ∧t ρ P∧∀b,P b→∀G' H',Ext G H G' H'→Q b H'
def Cd(Z:DC)(t:hJ):TA:=λσ H Q=>∃(G:Hp)(ρ:DN)(P:List D→Prop),az G H∧cY Z G σ ρ∧t ρ P∧∀ds,P ds→∀vs G' H',Ext G H G' H'→aq Z G' vs ds→Q vs H'
def cf(Z:DC)(r:iy):R2:=λx y H Q=>∃(G:Hp)(a b:D)(P:D→Prop),az G H∧Dv Z G x a∧Dv Z G y b∧r a b P∧∀d,P d→∀v G' H',Ext G H G' H'→Dv Z G' v d→Q v H'
def kc(Z:DC)(r:List D→(D→Prop)→Prop):List V→Hp→VK→Prop:=λvs H Q=>∃(G:Hp)(ds:List D)(P:D→Prop),az G H∧aq Z G vs ds∧r ds P∧∀d,P d→∀v G' H',Ext G H G' H'→Dv Z G' v d→Q v H'
abbrev eF:=List D→(D→Prop)→Prop
def aZ(Z:DC)(sd:eF):Sp:=λvs H Q _=>kc Z sd vs H Q
def DE(Z:DC)(X:Cx)(e:Expr)(t:aT):Prop:=PE X e (df Z t)
def DT(Z:DC)(X:Cx)(e:Expr)(t:dM):Prop:=PT X e (liftT Z t)
def DA(Z:DC)(X:Cx)(es:List Expr)(t:hJ):Prop:=PA X es (Cd Z t)
theorem PE.imp{X:Cx}{e:Expr}{t t':TE}(h:PE X e t)(f:∀σ H Q,t' σ H Q→t σ H Q):PE X e t':=λpins s σ H Q I q=>h pins s σ H Q I (f _ _ _ q)
theorem PT.imp{X:Cx}{e:Expr}{t t':TT}(h:PT X e t)(f:∀σ H Q,t' σ H Q→t σ H Q):PT X e t':=λpins s σ H Q I q=>h pins s σ H Q I (f _ _ _ q)
theorem PW.imp{X:Cx}{e:Expr}{t t':TT}(h:PW X e t)(f:∀σ H Q,t' σ H Q→t σ H Q):PW X e t':=λwh pins s σ H Q I q=>h wh pins s σ H Q I (f _ _ _ q)
theorem PA.imp{X:Cx}{es:List Expr}{t t':TA}(h:PA X es t)(f:∀σ H Q,t' σ H Q→t σ H Q):PA X es t':=λpos pins s σ H Q I q=>h pos pins s σ H Q I (f _ _ _ q)
theorem OpR.imp{X:Cx}{f:Value→Value→Sem Value}{r r':R2}(h:OpR X f r)(g:∀x y H Q,r' x y H Q→r x y H Q):OpR X f r':=λpins s σ H x y v u Q I a b q=>h pins s σ H x y v u Q I a b (g _ _ _ _ q)
theorem cN.imp{X:Cx}{f:Value}{r r':List V→Hp→VK→Prop}(h:cN X f r)(g:∀xs H Q,r' xs H Q→r xs H Q):cN X f r':=λpins s σ H xs us Q I a q=>h pins s σ H xs us Q I a (g _ _ _ q)
def Dx(i:Nat):aT:=λρ P=>∃d,ρ[i]? =some (some d)∧P d
def dC(d:D):aT:=λ_ P=>P d
section
variable {Z:DC} {X:Cx}
theorem U(i:Nat){x:Str}{pos:Pos}(hN:X.N[i]? =some x:=by rfl)(hv:sq X.env.scope x:=by first|exact Or.inl rfl|exact Or.inr (Or.inl rfl) |exact Or.inr (Or.inr rfl))(hd:(x==("__debug__":Str))=false:=by decide)
  (gq:(x==("__classdict__":Str))=false:=by decide):DE Z X (.Name x pos) (Dx i):=
 (D5 hN hv hd gq).imp λσ H Q ⟨G,ρ,P,s,e,⟨d,hd,p⟩,q⟩=>let ⟨v,hv,dv⟩:=e.at_ i d hd;⟨v,hv,q d p v G H (.refl s) dv⟩
theorem cG{i j pos}:DE Z X (.Constant (.int i) j pos) (dC (.int i)):=aL.imp λσ H Q ⟨G,ρ,P,s,e,p,q⟩=>q _ p _ G H (.refl s) (.int i)
theorem qu{b j pos}:DE Z X (.Constant (.bool b) j pos) (dC (.bl b)):=Pt.imp λσ H Q ⟨G,ρ,P,s,e,p,q⟩=>q _ p _ G H (.refl s) (.bl b)
theorem gE{j pos}:DE Z X (.Constant .none j pos) (dC .aM):=K6.imp λσ H Q ⟨G,ρ,P,s,e,p,q⟩=>q _ p _ G H (.refl s) .aM
theorem oX{x j pos}(h:PyData.strOk x=true:=by decide+kernel):DE Z X (.Constant (.str x) j pos) (dC (.str x)):=K9.imp λσ H Q ⟨G,ρ,P,s,e,p,q⟩=>q _ p _ G H (.refl s) (.str x h)
theorem EJ{x:Str}{i:Int}{pos:Pos}(hg:Gl X x)(hm:∃tk,X.mg x=some (.int i tk))(hd:(x==("__debug__":Str))=false:=by decide):DE Z X (.Name x pos) (dC (.int i)):=by
 obtain ⟨tk,hm⟩:=hm;exact (IK hg hm (v:= .int i) ⟨tk,rfl⟩ hd).imp λσ H Q ⟨G,ρ,P,s,e,p,q⟩=>q _ p _ G H (.refl s) (.int i)
def Bz(r:iy)(ta tb:aT):aT:=λρ P=>ta ρ λa=>tb ρ λb=>r a b P
variable {a b c:Expr} {ta tb tc:aT} {pos:Pos}
theorem yL{r:iy}:∀σ H Q,df Z (Bz r ta tb) σ H Q→zd (cf Z r) (df Z ta) (df Z tb) σ H Q:=by
 rintro σ H Q ⟨G,ρ,P,s,e,h,q⟩;refine ⟨G,ρ,_,s,e,h,λa ha v G1 H1 x1 dv=>?_⟩;refine ⟨G1,ρ,_,x1.sub,e.mono x1.gg,ha,λb hb u G2 H2 x2 du=>?_⟩;exact ⟨G2,a,b,P,x2.sub,dv.mono x2.gg,du,hb,λd hd v' G' H' x3 yp=>q d hd v' G' H' ((x1.trans x2).trans x3) yp⟩
theorem js{op:Operator}{r:iy}(ho:OpR X (binaryOp op) (cf Z r))(ha:DE Z X a ta)(hb:DE Z X b tb):DE Z X (.BinOp a op b pos) (Bz r ta tb):=(bU ho ha hb).imp yL
theorem sQ{op:CmpOp}{r:iy}(ho:OpR X (compareOp op) (cf Z r))(ha:DE Z X a ta)(hb:DE Z X b tb)(hm:behindInMarks op b=false):DE Z X (.Compare a [op] [b] pos) (Bz r ta tb):=(AI ho ha hb hm).imp yL
def yk(t:aT):dM:=λρ P=>t ρ λd=>∃k,d= .bl k∧P k
theorem xm{t:aT}:∀σ H Q,liftT Z (yk t) σ H Q→C5 (df Z t) σ H Q:=by
 rintro σ H Q ⟨G,ρ,P,s,e,h,q⟩;refine ⟨G,ρ,_,s,e,h,?_⟩;rintro _ ⟨k,rfl,p⟩ v G1 H1 x1 dv;cases dv;exact ⟨k,rfl,q k p G1 H1 x1⟩
theorem cH{op:CmpOp}{r:iy}(ho:OpR X (compareOp op) (cf Z r))(ha:DE Z X a ta)(hb:DE Z X b tb)(hm:behindInMarks op b=false):DT Z X (.Compare a [op] [b] pos) (yk (Bz r ta tb)):=
 (gJ ho ha hb hm).imp λσ H Q h=>by
  obtain h:=xm σ H Q h;exact yL σ H _ h
def yh(r r':iy)(ta tb tc:aT):aT:=λρ P=>ta ρ λx=>tb ρ λy=>r x y λz=>∃k,z= .bl k∧(if k=true then tc ρ λw'=>r' y w' P else P (.bl false))
theorem uA{r r':iy}:∀σ H Q,df Z (yh r r' ta tb tc) σ H Q→zc (cf Z r) (cf Z r') (df Z ta) (df Z tb) (df Z tc) σ H Q:=by
 rintro σ H Q ⟨G,ρ,P,s,e,h,q⟩;refine ⟨G,ρ,_,s,e,h,λa ha v G1 H1 x1 dv=>?_⟩;refine ⟨G1,ρ,_,x1.sub,e.mono x1.gg,ha,λb hb u G2 H2 x2 du=>?_⟩;refine ⟨G2,a,b,_,x2.sub,dv.mono x2.gg,du,hb,?_⟩;rintro _ ⟨k,rfl,hk⟩ v' G3 H3 x3 yp;cases yp;refine ⟨k,rfl,?_⟩;have x:=(x1.trans x2).trans x3;cases k with
 |false=>exact fC (q _ hk _ G3 H3 x (.bl false))
 |true=>
  refine fP ⟨G3,ρ,_,x3.sub,e.mono x.gg,hk,λc hc w' G4 H4 x4 dw=>?_⟩;exact ⟨G4,b,c,P,x4.sub,(du.mono x3.gg).mono x4.gg,dw,hc,λd hd v'' G' H' x5 d5=>q d hd v'' G' H' ((x.trans x4).trans x5) d5⟩
theorem EI{op oH:CmpOp}{r r':iy}(ho:OpR X (compareOp op) (cf Z r))(kY:OpR X (compareOp oH) (cf Z r'))(ha:DE Z X a ta)(hb:DE Z X b tb)(hc:DE Z X c tc)
  (hm:lastMarks [op,oH] [b,c]=false:=by with_unfolding_all rfl):DE Z X (.Compare a [op,oH] [b,c] pos) (yh r r' ta tb tc):=(FK ho kY ha hb hc hm).imp uA
theorem ET{op oH:CmpOp}{r r':iy}(ho:OpR X (compareOp op) (cf Z r))(kY:OpR X (compareOp oH) (cf Z r'))(ha:DE Z X a ta)(hb:DE Z X b tb)(hc:DE Z X c tc)
  (hm:lastMarks [op,oH] [b,c]=false:=by with_unfolding_all rfl):DT Z X (.Compare a [op,oH] [b,c] pos) (yk (yh r r' ta tb tc)):=
 (FR ho kY ha hb hc hm).imp λσ H Q h=>by
  obtain h:=xm σ H Q h;exact uA σ H _ h
def Ep:D→Bool
 | .aM=>false
 | .bl b=>b
 | .int i=>i !=0
 | .str x=>x.length !=0
 | .lst l=>!l.isEmpty
 | .tup l=>!l.isEmpty
 | .jA l=>!l.isEmpty
 | .rng lo hi=>decide (lo<hi)
 | .obj _=>true
 | .gO _=>true
 | .set _ l=>!l.isEmpty
 | .x _=>true
def Tt:D→Bool
 | .bl _=>true
 | .int _=>true
 | .lst _=>true
 | .tup _=>true
 | .aM=>true
 |_=>false
def Q7(t:aT):dM:=λρ P=>t ρ λd=>Tt d=true∧P (Ep d)
theorem rG{G:Hp}{vs:List V}{ds:List D}(h:aq Z G vs ds):vs.isEmpty=ds.isEmpty:=by cases h<;>rfl
theorem sT(ha:DE Z X a ta)(he:∀whole,isTrue a X.env whole=(do let v ←whole;standAt a.pos;holding [v] (truthy v)):=by intro _;rfl):DT Z X a (Q7 ta):=by
 refine (FT ha he).imp ?_;rintro σ H Q ⟨G,ρ,P,s,e,h,q⟩;refine ⟨G,ρ,_,s,e,h,?_⟩;rintro d ⟨hd,p⟩ v G1 H1 x1 dv;refine ⟨Ep d,?_,q _ p G1 H1 x1⟩;cases dv with
 |aM=>rfl
 |bl b=>rfl
 |int i=>rfl
 |lst h a=>exact .inl ⟨_,aC.of (x1.sub _ _ h),by rw [rG a];rfl⟩
 |tup h a=>exact .inr (.inl ⟨_,dr.of (x1.sub _ _ h),by rw [rG a];rfl⟩)
 |_=>cases hd
def Xu(t u:dM):dM:=λρ P=>t ρ λc=>if c=true then P true else u ρ P
def Q0(t:dM):dM:=λρ P=>t ρ λc=>P (!c)
variable {tA C3:dM} {rest:List Expr}
def DW(Z:DC)(X:Cx)(e:Expr)(t:dM):Prop:=PW X e (liftT Z t)
theorem DW.dt{e:Expr}{t:dM}(h:DW Z X e t):DT Z X e t:=PW.pt h
theorem DQ(ha:DT Z X a tA):DW Z X (.BoolOp .Or [a] pos) tA:=Lg ha
theorem GW(ha:DT Z X a tA)(hb:DW Z X (.BoolOp .Or (b::rest) pos) C3):DW Z X (.BoolOp .Or (a::b::rest) pos) (Xu tA C3):=by
 refine (Pw ha hb).imp ?_;rintro σ H Q ⟨G,ρ,P,s,e,h,q⟩;refine ⟨G,ρ,_,s,e,h,λc hc G1 H1 x1=>?_⟩;cases c with
 |false=>exact fC ⟨G1,ρ,P,x1.sub,e.mono x1.gg,hc,λb hb G2 H2 x2=>q b hb G2 H2 (x1.trans x2)⟩
 |true=>exact fP (q _ hc G1 H1 x1)
theorem sS(ha:DT Z X a tA):DT Z X (.UnaryOp .Not a pos) (Q0 tA):=by
 refine (D6 ha).imp ?_;rintro σ H Q ⟨G,ρ,P,s,e,h,q⟩;exact ⟨G,ρ,_,s,e,h,λc hc G1 H1 x1=>q _ hc G1 H1 x1⟩
def NJ(ta tb:aT):aT:=λρ P=>ta ρ λx=>∃c,x= .bl c∧if c=true then tb ρ P else P (.bl false)
def NO(ta:aT):aT:=λρ P=>ta ρ λx=>∃c,x= .bl c∧P (.bl (!c))
theorem DB{op}(h:DE Z X a ta):DE Z X (.BoolOp op [a] pos) ta:=K8 h
theorem yl(ha:DE Z X a ta)(hb:DE Z X (.BoolOp .And (b::rest) pos) tb):DE Z X (.BoolOp .And (a::b::rest) pos) (NJ ta tb):=by
 refine (K1 ha hb).imp ?_;rintro σ H Q ⟨G,ρ,P,s,e,h,q⟩;refine ⟨G,ρ,_,s,e,h,?_⟩;rintro _ ⟨c,rfl,hc⟩ v G1 H1 x1 dv;cases dv;refine ⟨c,rfl,?_⟩;cases c with
 |true=>exact fP ⟨G1,ρ,P,x1.sub,e.mono x1.gg,hc,λb hb v G2 H2 x2 d2=>q b hb v G2 H2 (x1.trans x2) d2⟩
 |false=>exact fC (q _ hc _ G1 H1 x1 (.bl false))
theorem JV(ha:DE Z X a ta):DE Z X (.UnaryOp .Not a pos) (NO ta):=by
 refine (K7 ha).imp ?_;rintro σ H Q ⟨G,ρ,P,s,e,h,q⟩;refine ⟨G,ρ,_,s,e,h,?_⟩;rintro _ ⟨c,rfl,hc⟩ v G1 H1 x1 dv;cases dv;exact ⟨c,rfl,q _ hc _ G1 H1 x1 (.bl _)⟩
def rp:hJ:=λ_ P=>P []
def NK(ta:aT)(t:hJ):hJ:=λρ P=>ta ρ λx=>t ρ λxs=>P (x::xs)
variable {es:List Expr} {t:hJ} {e:Expr}
theorem au:DA Z X [] rp:=ar.imp λσ H Q ⟨G,ρ,P,s,e,p,q⟩=>q _ p _ G H (.refl s) .nil
theorem af(ha:DE Z X e ta)(hr:DA Z X es t)(hs:starEach (e::es) X.env=(false,eval e X.env)::starEach es X.env:=by rfl):DA Z X (e::es) (NK ta t):=by
 refine (aa ha hr hs).imp ?_;rintro σ H Q ⟨G,ρ,P,s,e,h,q⟩;refine ⟨G,ρ,_,s,e,h,λa ha v G1 H1 x1 dv=>?_⟩;exact ⟨G1,ρ,_,x1.sub,e.mono x1.gg,ha,λds hd vs G2 H2 x2 bg=>q _ hd _ G2 H2 (x1.trans x2) (.cons (dv.mono x2.gg) bg)⟩
def Q8(t:hJ):aT:=λρ P=>t ρ λxs=>xs.length≤sizeLine∧P (.tup xs)
theorem fK{x1}(h:DA Z X es t):DE Z X (.Tuple es x1 pos) (Q8 t):=by
 refine (sZ h).imp ?_;rintro σ H Q ⟨G,ρ,P,s,e,h,q⟩;refine ⟨G,ρ,_,s,e,h,?_⟩;rintro ds ⟨hl,hp⟩ vs G1 H1 x1 bg;exact ⟨by rw [bg.length];exact hl,λp Ag=>q _ hp _ _ _ (x1.trans (.new x1.sub Ag)) (.tup ab (bg.mono (av (x1.sub.free Ag) _)))⟩
def tW(r:List D→(D→Prop)→Prop)(t:hJ):aT:=λρ P=>t ρ λds=>r ds P
theorem qJ{r:List D→(D→Prop)→Prop}:∀σ H Q,df Z (tW r t) σ H Q→Cd Z t σ H λvs H1=>kc Z r vs H1 Q:=by
 rintro σ H Q ⟨G,ρ,P,s,e,h,q⟩;exact ⟨G,ρ,_,s,e,h,λds hd vs G1 H1 x1 bg=>⟨G1,ds,P,x1.sub,bg,hd,λd hp v G2 H2 x2 dv=>q d hp v G2 H2 (x1.trans x2) dv⟩⟩
theorem GF{sd:eF}{k:Nat}{f:Addr}{fd:FuncData}{ps:List Str}{x:Str}{p:Pos}(F:FnOk X.prog X.w X.K X.mg X.base bQ k f fd ps (aZ Z sd))(hr:bO k X.A)(hg:Gl X x)(hm:X.mg x=some (.ref f))(hk:PySem.W.keepIn X.K (.ref f)=true)(hb:Binds X.K fd ps [])
  (ha:DA Z X (e::es) t) (gW:(x==("__debug__":Str))=false:=by decide) (he:starEach (e::es) X.env=(false,eval e X.env)::starEach es X.env:=by rfl) (cW:(backTo pos (starEach es X.env)).any (·.1)=false:=by rfl):
  DE Z X (.Call (.Name x p) (e::es) [] pos) (tW sd t):=
 (aP F hr hg hm hk hb .nil bA ha gW he cW).imp λσ H Q h=>by
  have h:=qJ σ H Q h;obtain ⟨G,ρ,P,s,e,h,q⟩:=h;exact ⟨G,ρ,P,s,e,h,λds hd vs G1 H1 x1 bg=>by show aZ Z sd (vs++ []) H1 Q E0;rw [jV];exact q ds hd vs G1 H1 x1 bg⟩
theorem cm{id:String}{x:Str}{p:Pos}{r:List D→(D→Prop)→Prop}(hc:cN X (.builtin id) (kc Z r))(hg:Gl X x)(hm:X.mg x=none)(hv:bootBuiltins x=some (.builtin id))(ha:DA Z X (e::es) t)(hn:x≠"__name__":=by decide)(gW:(x==("__debug__":Str))=false:=by decide)
  (he:starEach (e::es) X.env=(false,eval e X.env)::starEach es X.env:=by rfl) (cW:(backTo pos (starEach es X.env)).any (·.1)=false:=by rfl):
  DE Z X (.Call (.Name x p) (e::es) [] pos) (tW r t):=(cp hc hg hm hv ha hn gW he cW).imp qJ
theorem tZ{T:String}{x:Str}{p:Pos}{r:List D→(D→Prop)→Prop}(hc:cN X (.type T) (kc Z r))(hg:Gl X x)(hm:X.mg x=none)(hv:bootBuiltins x=some (.type T))(ha:DA Z X (e::es) t)(hn:x≠"__name__":=by decide)(gW:(x==("__debug__":Str))=false:=by decide)
  (he:starEach (e::es) X.env=(false,eval e X.env)::starEach es X.env:=by rfl) (cW:(backTo pos (starEach es X.env)).any (·.1)=false:=by rfl):
  DE Z X (.Call (.Name x p) (e::es) [] pos) (tW r t):=(uO hc hg hm hv ha hn gW he cW).imp qJ
end
end L2
namespace L2
open PySem PySem.Spec PyProof.Rows
section
variable {Z:DC} {X:Cx}
def Me:iy:=λx y P=>match x,y with
 | .int i, .int j=>P (.int (i+j))
 | .lst a, .lst b=>a.length+b.length≤sizeLine∧P (.lst (a++b))
 | .tup a, .tup b=>a≠ []∧a.length+b.length≤sizeLine∧b≠ []∧P (.tup (a++b))
 |_,_=>False
def dI(c:Int→Int→Prop)(g:Int→Int→Int):iy:=λx y P=>match x,y with
 | .int i, .int j=>c i j∧P (.int (g i j))
 |_,_=>False
def QZ:iy:=dI (λ_ j=>0<j) λi j=>i%j
theorem KC{f:Value→Value→Sem Value}{c:Int→Int→Prop}{g:Int→Int→Int}(h:OpR X f (rI c λi j=> .int (g i j))):OpR X f (cf Z (dI c g)):=by
 refine h.imp ?_;rintro x y H Q ⟨G,a,b,P,s,da,db,hr,q⟩;unfold dI at hr
 split at hr
 ·exact ⟨_,_,da.ofInt,db.ofInt,hr.1,q _ hr.2 _ G H (.refl s) (.int _)⟩
 ·exact hr.elim
theorem yU:OpR X (binaryOp .Mod) (cf Z QZ):=KC mZ
theorem kj(e:X.K=Z.K:=by rfl):OpR X (binaryOp .Add) (cf Z Me):=by
 refine (fR.or (yX.or (IE))).imp ?_;rintro x y H Q ⟨G,a,b,P,s,da,db,hr,q⟩;unfold Me at hr
 split at hr
 ·exact .inl ⟨_,_,da.ofInt,db.ofInt,q _ hr _ G H (.refl s) (.int _)⟩
 ·obtain ⟨a1,xs1,rfl,h1,e1⟩:=da.km
  obtain ⟨a2,Wm,rfl,h2,e2⟩:=db.km;obtain ⟨hz,hp⟩:=hr;refine .inr (.inl ⟨_,_,_,_,rfl,rfl,s _ _ h1,s _ _ h2,by rw [e1.length,e2.length];exact hz,λp hn=>?_⟩)
  exact q _ hp _ _ _ (.new s hn) (.lst ab ((e1.append e2).mono (av (s.free hn) _)))
 ·obtain ⟨a1,xs1,rfl,h1,e1⟩:=da.oF
  obtain ⟨a2,Wm,rfl,h2,e2⟩:=db.oF;obtain ⟨h0,hz,Yb,hp⟩:=hr;refine .inr (.inr ⟨_,_,_,_,rfl,rfl,dr.of (s _ _ h1),dr.of (s _ _ h2),?_,by rw [e1.length,e2.length];exact hz,?_⟩)
  ·rintro rfl;cases e1;exact h0 rfl
  ·refine ⟨?_,λ_ p hn=>q _ hp _ _ _ (.new s hn) (.tup ab ((e1.append e2).mono (av (s.free hn) _)))⟩
   rintro rfl;cases e2;exact (Yb rfl).elim
 ·exact hr.elim
mutual
def D.py:D→Option PyData
 | .aM=>some .none
 | .bl b=>some (.bool b)
 | .int i=>some (.int i)
 | .str x=>some (.str x)
 | .lst l=>(eU l).map PyData.list
 | .tup l=>(eU l).map PyData.tuple
 | .jA _=>none
 | .rng _ _=>none
 | .obj _=>none
 | .gO _=>none
 | .set _ _=>none
 | .x _=>none
def eU:List D→Option (List PyData)
 | []=>some []
 |d::ds=>(D.py d).bind λa=>(eU ds).map λas=>a::as
end
mutual
theorem Dv.dp{K:PySem.W.Frag}{G:Hp}:∀{v:V}{d:D}{e:PyData},Dv Z G v d→d.py=some e→Dp K G v e
 |_,_,_, .aM,h=>by simp [D.py] at h;subst h;exact .aM
 |_,_,_, .bl b,h=>by simp [D.py] at h;subst h;exact .bl b
 |_,_,_, .int i,h=>by simp [D.py] at h;subst h;exact .int i
 |_,_,_, .str x k,h=>by simp [D.py] at h;subst h;exact .str x k
 |_,_,_, .lst a as,h=>by
  simp [D.py] at h;obtain ⟨l,h1,rfl⟩:=h;exact .lst (aC.of a) (aq.dp as h1)
 |_,_,_, .tup a as,h=>by
  simp [D.py] at h;obtain ⟨l,h1,rfl⟩:=h;exact .tup (dr.of a) (aq.dp as h1)
 |_,_,_, .jA _ _,h=>by simp [D.py] at h
 |_,_,_, .rng _,h=>by simp [D.py] at h
 |_,_,_, .obj _,h=>by simp [D.py] at h
 |_,_,_, .gO _ _ _ _ _,h=>by simp [D.py] at h
 |_,_,_, .set _,h=>by simp [D.py] at h
 |_,_,_, .x _ _,h=>by simp [D.py] at h
theorem aq.dp{K:PySem.W.Frag}{G:Hp}:∀{vs:List V}{ds:List D}{es:List PyData},aq Z G vs ds→eU ds=some es→cw K G vs es
 |_,_,_, .nil,h=>by simp [eU] at h;subst h;exact .nil
 |_,_,_, .cons (d:=d) (ds:=ds) a as,h=>by
  rw [eU] at h;cases h1:d.py with
  |none=>rw [h1] at h;cases h
  |some x=>
   rw [h1] at h;cases h2:eU ds with
   |none=>rw [h2] at h;cases h
   |some y=>rw [h2] at h;cases h;exact .cons (Dv.dp a h1) (aq.dp as h2)
end
theorem dr.mono{K:PySem.W.Frag}{H H':Hp}{a:Addr}{xs:List V}(s:az H H')(h:dr K H a xs):dr K H' a xs:=by
 rcases h with (h| ⟨o,h⟩) |h
 ·exact .inl (.inl (s _ _ h))
 ·exact .inl (.inr ⟨o,s _ _ h⟩)
 ·exact .inr h
mutual
theorem Dp.mono{K:PySem.W.Frag}{G H:Hp}(s:az G H):∀{v:V}{d:PyData},Dp K G v d→Dp K H v d
 |_,_, .aM=> .aM
 |_,_, .bl b=> .bl b
 |_,_, .int i=> .int i
 |_,_, .str x h=> .str x h
 |_,_, .lst h a=> .lst (h.mono s) (cw.mono s a)
 |_,_, .tup h a=> .tup (h.mono s) (cw.mono s a)
theorem cw.mono{K:PySem.W.Frag}{G H:Hp}(s:az G H):∀{vs:List V}{ds:List PyData},cw K G vs ds→cw K H vs ds
 |_,_, .nil=> .nil
 |_,_, .cons a as=> .cons (Dp.mono s a) (cw.mono s as)
end
def Mf(neg:Bool):iy:=λx y P=>∃a b,x.py=some a∧y.py=some b∧a.depth≤64∧P (.bl (if neg then !PyData.eqv a b else PyData.eqv a b))
abbrev JP:iy:=Mf false
abbrev zN:iy:=Mf true
theorem uI(hu:X.A.units+64<cLine):OpR X (compareOp .Eq) (cf Z JP):=by
 refine (KY hu).imp ?_;rintro x y H Q ⟨G,a,b,P,s,da,db,⟨c,d,h1,h2,h3,hp⟩,q⟩;exact ⟨c,d,(da.dp h1).mono s,(db.dp h2).mono s,h3,q _ hp _ G H (.refl s) (.bl _)⟩
theorem qN(hu:X.A.units+64<cLine):OpR X (compareOp .NotEq) (cf Z zN):=by
 refine (yY hu).imp ?_;rintro x y H Q ⟨G,a,b,P,s,da,db,⟨c,d,h1,h2,h3,hp⟩,q⟩;exact ⟨c,d,(da.dp h1).mono s,(db.dp h2).mono s,h3,q _ hp _ G H (.refl s) (.bl _)⟩
theorem zM{i j:Int}{P:D→Prop}(h:P (.bl (decide (i=j)))):JP (.int i) (.int j) P:=⟨.int i, .int j,rfl,rfl,by simp [PyData.depth],by
 have:PyData.eqv (.int i) (.int j)=decide (i=j):=by
  rw [PyData.eqv]
  by_cases z:i=j<;>simp [z]
 simpa [this] using h⟩
def Du(p:Int→Int→Bool):iy:=λx y P=>match x,y with
 | .int i, .int j=>P (.bl (p i j))
 |_,_=>False
theorem Av{f:Value→Value→Sem Value}{p:Int→Int→Bool}(h:OpR X f (CJ λi j=> .bl (p i j))):OpR X f (cf Z (Du p)):=by
 refine h.imp ?_;rintro x y H Q ⟨G,a,b,P,s,da,db,hr,q⟩;unfold Du at hr
 split at hr
 ·exact ⟨_,_,da.ofInt,db.ofInt,q _ hr _ G H (.refl s) (.bl _)⟩
 ·exact hr.elim
end
end L2
namespace L2
open PySem PySem.Spec PyProof.Rows
section
variable {Z:DC} {X:Cx}
abbrev Xt:iy:=Du λi j=>decide (i<j)
abbrev Xs:iy:=Du λi j=>decide (i≤j)
theorem Iu:OpR X (compareOp .Lt) (cf Z Xt):=Av Cw
theorem Cs:OpR X (compareOp .LtE) (cf Z Xs):=Av Po
def B8:D→Bool
 | .aM=>true
 |_=>false
def Gz(neg:Bool):iy:=λx y P=>match y with
 | .aM=>P (.bl (if neg then !B8 x else B8 x))
 |_=>False
theorem wZ{G:Hp}{v:V}{d:D}(h:Dv Z G v d):decide (v= .aM)=B8 d:=by cases h<;>rfl
theorem yT:OpR X (compareOp .Is) (cf Z (Gz false)):=by
 refine KZ.imp ?_;rintro x y H Q ⟨G,a,b,P,s,da,db,hr,q⟩;cases db<;>first|exact hr.elim|skip
 exact ⟨rfl,by rw [wZ da];exact q _ hr _ G H (.refl s) (.bl _)⟩
theorem FF:OpR X (compareOp .IsNot) (cf Z (Gz true)):=by
 refine IH.imp ?_;rintro x y H Q ⟨G,a,b,P,s,da,db,hr,q⟩;cases db<;>first|exact hr.elim|skip
 exact ⟨rfl,by rw [wZ da];exact q _ hr _ G H (.refl s) (.bl _)⟩
def gS:D→Bool
 | .aM=>true
 | .bl _=>true
 | .int _=>true
 | .str _=>true
 |_=>false
def i9:D→D→Bool
 | .aM, .aM=>true
 | .bl a, .bl b=>a==b
 | .bl a, .int b=>(if a then 1 else 0)==b
 | .int a, .bl b=>a==(if b then 1 else 0)
 | .int a, .int b=>a==b
 | .str a, .str b=>a==b
 |_,_=>false
def inD(x:D)(l:List D):Bool:=l.any λy=>i9 y x
theorem ph{G:Hp}{v:V}{d:D}(h:Dv Z G v d):fM v=gS d:=by cases h<;>rfl
theorem ja{G:Hp}:∀{vs:List V}{ds:List D},aq Z G vs ds→vs.all fM=ds.all gS
 |_,_, .nil=>rfl
 |_,_, .cons a as=>by rw [List.all_cons,List.all_cons,ph a,ja as]
theorem yr{G:Hp}{v u:V}{d e:D}(h:Dv Z G v d)(k:Dv Z G u e):n6 v u=i9 d e:=by cases h<;>cases k<;>rfl
theorem B5{G:Hp}{v:V}{d:D}(h:Dv Z G v d):∀{vs:List V}{ds:List D},aq Z G vs ds→B4 v vs=inD d ds
 |_,_, .nil=>rfl
 |_,_, .cons a as=>by
  unfold B4 inD;rw [rg,rg,yr a h];exact congrArg _ (B5 h as)
def JQ(neg:Bool):iy:=λx y P=>match y with
 | .lst l=>gS x=true∧l.all gS=true∧P (.bl (if neg then !inD x l else inD x l))
 | .tup l=>gS x=true∧l.all gS=true∧P (.bl (if neg then !inD x l else inD x l))
 |_=>False
theorem Ja{neg:Bool}:∀x y H Q,cf Z (JQ neg) x y H Q→Li X.K neg x y H Q:=by
 rintro x y H Q ⟨G,a,b,P,s,da,db,hr,q⟩;cases db<;>first|exact hr.elim|skip
 ·rename_i p xs ds h e
  obtain ⟨h1,h2,hp⟩:=hr;refine ⟨p,xs,rfl, .inl (aC.of (s _ _ h)),by rw [ph da];exact h1,by rw [ja e];exact h2,?_⟩
  rw [B5 da e];exact q _ hp _ G H (.refl s) (.bl _)
 ·rename_i p xs ds h e
  obtain ⟨h1,h2,hp⟩:=hr;refine ⟨p,xs,rfl, .inr (dr.of (s _ _ h)),by rw [ph da];exact h1,by rw [ja e];exact h2,?_⟩
  rw [B5 da e];exact q _ hp _ G H (.refl s) (.bl _)
theorem Ir:OpR X (compareOp .In) (cf Z (JQ false)):=Cv.imp Ja
theorem FG:OpR X (compareOp .NotIn) (cf Z (JQ true)):=nK.imp Ja
def NL:iy:=λx y P=>match x,y with
 | .lst l, .int i=>∃d,gf l i=some d∧P d
 | .tup l, .int i=>∃d,gf l i=some d∧P d
 | .jA l, .int i=>∃n,gf l i=some n∧P (.int n)
 |_,_=>False
theorem Ds{G:Hp}{vs:List V}{ds:List D}{i:Int}{d:D}(h:aq Z G vs ds)(e:gf ds i=some d):∃v,gf vs i=some v∧Dv Z G v d:=by
 unfold gf at e ⊢;rw [h.length];cases z:nA ds.length i with
 |none=>rw [z] at e;cases e
 |some j=>rw [z] at e;exact h.get e
theorem Gj{α β:Type}(f:α→β)(l:List α)(i:Int):gf (l.map f) i=(gf l i).map f:=by
 unfold gf;rw [aJ];cases nA l.length i with
 |none=>rfl
 |some j=>show (l.map f)[j]? =_;rw [dq];rfl
variable {a b c e:Expr} {ta tb tc te:aT} {pos:Pos}
theorem lq(ha:DE Z X a ta)(hb:DE Z X b tb)(eK:X.K=Z.K:=by rfl)(hs:zx b:=by exact λ_ _=>rfl):DE Z X (.Subscript a b pos) (Bz NL ta tb):=by
 refine (cg (bu.or D0) ha hb hs).imp λσ H Q h=>?_;obtain ⟨G,ρ,P,s,e,h,q⟩:=yL σ H Q h;refine ⟨G,ρ,P,s,e,h,λd hd v G1 H1 x1 dv=>?_⟩;obtain ⟨G',aF,P',s',e',h',q'⟩:=q d hd v G1 H1 x1 dv;refine ⟨G',aF,P',s',e',h',λd2 hd2 v2 G2 H2 x2 BE=>?_⟩;obtain ⟨G,a,b,P,s,da,db,hr,q⟩:=q' d2 hd2 v2 G2 H2 x2 BE;unfold NL at hr
 split at hr
 ·obtain ⟨d,h1,hp⟩:=hr
  obtain ⟨_,_,rfl,h,e⟩:=da.km;obtain ⟨v,hv,dv⟩:=Ds e h1;exact .inl ⟨_,_,_,v,rfl,db.ofInt,aC.of (s _ _ h),hv,q _ hp _ G _ (.refl s) dv⟩
 ·obtain ⟨d,h1,hp⟩:=hr
  obtain ⟨_,_,rfl,h,e⟩:=da.oF;obtain ⟨v,hv,dv⟩:=Ds e h1;exact .inr ⟨_,_,_,v,rfl,db.ofInt,dr.of (s _ _ h),hv,q _ hp _ G _ (.refl s) dv⟩
 rotate_left
 ·exact hr.elim
 ·obtain ⟨d,h1,hp⟩:=hr
  obtain ⟨_,rfl,h,_⟩:=da.qO;refine .inl ⟨_,_,_, .int d,rfl,db.ofInt,by rw [eK];exact h.mono s,by rw [Gj,h1];rfl,q _ hp _ G _ (.refl s) (.int d)⟩
def cutD{α:Type}(xs:List α)(lo hi:Option Int):List α:=(xs.drop (HT.bx xs.length 0 lo)).take (HT.bx xs.length xs.length hi-HT.bx xs.length 0 lo)
theorem Dt{G:Hp}{vs:List V}{ds:List D}(h:aq Z G vs ds)(lo hi:Option Int):aq Z G (f6 vs lo hi) (cutD ds lo hi):=by
 unfold f6 cutD;rw [h.length];exact (h.drop _).take _
theorem EE{α β:Type}(f:α→β)(l:List α)(lo hi:Option Int):cutD (l.map f) lo hi=(cutD l lo hi).map f:=by
 unfold cutD;rw [aJ,si,vK]
abbrev Bl:=DN→(Option Int→Prop)→Prop
def GB:Bl:=λ_ P=>P none
def NP(t:aT):Bl:=λρ P=>t ρ λd=>match d with
 | .int i=>P (some i)
 |_=>False
def O7(Z:DC)(t:Bl):TO:=λσ H Q=>∃(G:Hp)(ρ:DN)(P:Option Int→Prop),az G H∧cY Z G σ ρ∧t ρ P∧∀o,P o→∀G' H',Ext G H G' H'→Q o H'
def DO(Z:DC)(X:Cx)(e:Option Expr)(t:Bl):Prop:=PO X e (O7 Z t)
theorem PO.imp{e:Option Expr}{t t':TO}(h:PO X e t)(f:∀σ H Q,t' σ H Q→t σ H Q):PO X e t':=λpins s σ H Q I q=>h pins s σ H Q I (f _ _ _ q)
theorem t7:DO Z X none GB:=uQ.imp λσ H Q ⟨G,ρ,P,s,e,p,q⟩=>q _ p G H (.refl s)
theorem t8(h:DE Z X e te):DO Z X (some e) (NP te):=by
 refine (lW h).imp ?_;rintro σ H Q ⟨G,ρ,P,s,e,h,q⟩;refine ⟨G,ρ,_,s,e,h,λd hd v G1 H1 x1 dv=>?_⟩;cases dv<;>first|exact hd.elim|skip
 exact ⟨_,rfl,q _ hd G1 H1 x1⟩
def Xv(te:aT)(tl th:Bl):aT:=λρ P=>te ρ λx=>tl ρ λlo=>th ρ λhi=>match x with
 | .lst l=>P (.lst (cutD l lo hi))
 | .tup l=>¬(HT.bx l.length 0 lo=0∧HT.bx l.length l.length hi=l.length)∧P (.tup (cutD l lo hi))
 | .jA l=>P (.lst ((cutD l lo hi).map D.int))
 |_=>False
variable {lo hi:Option Expr} {tl th:Bl} {p2:Pos}
theorem qv(he:DE Z X e te)(hl:DO Z X lo tl)(hu:DO Z X hi th)(eK:X.K=Z.K:=by rfl):DE Z X (.Subscript e (.Slice lo hi none p2) pos) (Xv te tl th):=by
 refine (m7 (p9.or Ls) he hl hu).imp ?_;rintro σ H Q ⟨G,ρ,P,s,en,h,q⟩;refine ⟨G,ρ,_,s,en,h,λd hd v G1 H1 x1 dv=>?_⟩;refine ⟨G1,ρ,_,x1.sub,en.mono x1.gg,hd,λl hl G2 H2 x2=>?_⟩;refine ⟨G2,ρ,_,x2.sub,(en.mono x1.gg).mono x2.gg,hl,λu hu G3 H3 x3=>?_⟩;have x:=(x1.trans x2).trans x3;have dv:=(dv.mono x2.gg).mono x3.gg;cases dv<;>first|exact hu.elim|skip
 ·rename_i h e
  exact .inl ⟨_,_,rfl,aC.of (x3.sub _ _ h),λp hn=>q _ hu _ _ _ (x.trans (.new x3.sub hn)) (.lst ab ((Dt e l u).mono (av (x3.sub.free hn) _)))⟩
 ·rename_i h e
  refine .inr ⟨_,_,rfl,dr.of (x3.sub _ _ h),by rw [e.length];exact hu.1,λp hn=>q _ hu.2 _ _ _ (x.trans (.new x3.sub hn)) (.tup ab ((Dt e l u).mono (av (x3.sub.free hn) _)))⟩
 ·rename_i h _
  refine .inl ⟨_,_,rfl,by rw [eK];exact h.mono x3.sub,λp hn=>q _ hu _ _ _ (x.trans (.new x3.sub hn)) (.lst ab ?_)⟩
  show aq Z _ (cutD _ l u) _;rw [EE];exact .ints _
def Gm:eF:=λds P=>match ds with
 | [.lst l]=>P (.int l.length)
 | [.tup l]=>P (.int l.length)
 | [.jA l]=>P (.int l.length)
 |_=>False
theorem i6(eK:X.K=Z.K:=by rfl):cN X (.builtin "len") (kc Z Gm):=by
 refine bP.imp ?_;rintro xs H Q ⟨G,ds,P,s,dv,hr,q⟩;unfold Gm at hr
 split at hr
 ·obtain ⟨_,rfl,a⟩:=dv.ofOne
  obtain ⟨_,_,rfl,h,e⟩:=a.km;exact ⟨_,_,rfl, .inl (aC.of (s _ _ h)),by rw [e.length];exact q _ hr _ G H (.refl s) (.int _)⟩
 ·obtain ⟨_,rfl,a⟩:=dv.ofOne
  obtain ⟨_,_,rfl,h,e⟩:=a.oF;exact ⟨_,_,rfl, .inr (dr.of (s _ _ h)),by rw [e.length];exact q _ hr _ G H (.refl s) (.int _)⟩
 ·obtain ⟨_,rfl,a⟩:=dv.ofOne
  obtain ⟨_,rfl,h,_⟩:=a.qO;exact ⟨_,_,rfl, .inl (by rw [eK];exact h.mono s),by rw [aJ];exact q _ hr _ G H (.refl s) (.int _)⟩
 ·exact hr.elim
def Gn:eF:=λds P=>match ds with
 | [.lst l]=>P (.lst l)
 | [.tup l]=>P (.lst l)
 |_=>False
theorem zI:cN X (.type "list") (kc Z Gn):=by
 refine vQ.imp ?_;rintro xs H Q ⟨G,ds,P,s,dv,hr,q⟩;unfold Gn at hr
 split at hr
 ·obtain ⟨_,rfl,a⟩:=dv.ofOne
  obtain ⟨_,_,rfl,h,e⟩:=a.km;exact ⟨_,_,rfl, .inl (aC.of (s _ _ h)),λp hn=>q _ hr _ _ _ (.new s hn) (.lst ab (e.mono (av (s.free hn) _)))⟩
 ·obtain ⟨_,rfl,a⟩:=dv.ofOne
  obtain ⟨_,_,rfl,h,e⟩:=a.oF;exact ⟨_,_,rfl, .inr (dr.of (s _ _ h)),λp hn=>q _ hr _ _ _ (.new s hn) (.lst ab (e.mono (av (s.free hn) _)))⟩
 ·exact hr.elim
def aab:eF:=λds P=>match ds with
 | [.int i]=>P (.int i)
 | [.bl b]=>P (.int (if b then 1 else 0))
 |_=>False
def Tq:String→D→Bool
 |"int", .int _=>true
 |"int", .bl _=>true
 |"bool", .bl _=>true
 |"list", .lst _=>true
 |"tuple", .tup _=>true
 |_,_=>false
def Pm(n:String):Bool:=n=="int"||n=="bool"||n=="list"||n=="tuple"
def MW:D→Bool
 | .aM=>true
 | .bl _=>true
 | .int _=>true
 | .str _=>true
 | .lst _=>true
 | .tup _=>true
 |_=>false
def QY(n:String)(t:aT):aT:=λρ P=>t ρ λd=>MW d=true∧P (.bl (Tq n d))
theorem Kw{K:PySem.W.Frag}{H:Hp}{v:V}{d:D}{n:String}(hn:Pm n=true)(hd:MW d=true)(h:Dv Z H v d):∃t,iW K H v t∧PySem.W.kitOne K t (.type n)=some (Tq n d):=by
 unfold Pm at hn;rw [Bool.or_eq_true,Bool.or_eq_true,Bool.or_eq_true,beq_iff_eq,beq_iff_eq,beq_iff_eq,beq_iff_eq] at hn;cases h with
 |aM=>refine ⟨_, .aM,?_⟩;rcases hn with ((rfl|rfl) |rfl) |rfl<;>kernel_rfl
 |bl b=>refine ⟨_, .bl b,?_⟩;rcases hn with ((rfl|rfl) |rfl) |rfl<;>kernel_rfl
 |int b=>refine ⟨_, .int b,?_⟩;rcases hn with ((rfl|rfl) |rfl) |rfl<;>kernel_rfl
 |str b=>refine ⟨_, .str b,?_⟩;rcases hn with ((rfl|rfl) |rfl) |rfl<;>kernel_rfl
 |lst h a=>refine ⟨_, .lst h,?_⟩;rcases hn with ((rfl|rfl) |rfl) |rfl<;>kernel_rfl
 |tup h a=>refine ⟨_, .tup h,?_⟩;rcases hn with ((rfl|rfl) |rfl) |rfl<;>kernel_rfl
 |_=>cases hd
end
section
variable {Z:DC} {X:Cx} {a b c e:Expr} {ta tb tc te:aT} {pos:Pos}
theorem Dz(n:String){x:Str}{p p':Pos}(ha:DE Z X a ta)(hg:Gl X "isinstance")(hm:X.mg "isinstance"=none)(YK:Gl X x)(Fl:X.mg x=none)(hv:bootBuiltins x=some (.type n))(ok:Pm n=true:=by decide)
  (hn:x≠"__name__":=by decide) (hd:(x==("__debug__":Str))=false:=by decide) (hs:starEach [a, .Name x p'] X.env=(false,eval a X.env)::starEach [.Name x p'] X.env:=by rfl)
  (cW:(backTo pos (starEach [.Name x p'] X.env)).any (·.1)=false:=by rfl) (j5:starEach [.Name x p'] X.env=(false,eval (.Name x p') X.env)::starEach [] X.env:=by rfl):
  DE Z X (.Call (.Name "isinstance" p) [a, .Name x p'] [] pos) (QY n ta):=by
 have hb:PE X (.Name x p') (tC (.ty n)):=IJ YK Fl hv rfl hn hd;refine (cp yf hg hm (by decide+kernel) (aa ha (aa hb ar j5) hs) (by decide) (by decide) hs cW).imp ?_
 rintro σ H Q ⟨G,ρ,P,s,e,h,q⟩;refine ⟨G,ρ,_,s,e,h,?_⟩;rintro d ⟨hk,hp⟩ v G1 H1 x1 dv;obtain ⟨t,ht,fe⟩:=Kw (K:=X.K) (H:=H1) ok hk (dv.mono x1.sub);exact ⟨v,n,t,_,rfl,ht,fe,q _ hp _ G1 H1 x1 (.bl _)⟩
def qK(Z:DC)(g:eC):TG:=λv σ H Q=>∃(G:Hp)(ρ:DN)(d:D)(P:DN→Prop),az G H∧cY Z G σ ρ∧Dv Z G v d∧g d ρ P∧∀aF,P aF→∀aw,cY Z G aw aF→Q aw H
def DG(Z:DC)(X:Cx)(e:Expr)(g:eC):Prop:=PG X e (qK Z g)
theorem PG.imp{e:Expr}{t t':TG}(h:PG X e t)(f:∀v σ H Q,t' v σ H Q→t v σ H Q):PG X e t':=λpins s σ H v u Q I r q=>h pins s σ H v u Q I r (f _ _ _ _ q)
def mN(i:Nat):eC:=λd ρ P=>P (ρ.set i (some d))
theorem cy(i:Nat){x:Str}(hN:X.N.Nodup)(hi:X.N[i]? =some x:=by rfl)(hx:Loc X.env.scope x:=by exact Or.inl rfl)(hf:X.fn x=true∨X.env.scope.names.lookup x=some .local:=by first|exact .inl rfl|exact .inr rfl|assumption):DG Z X (.Name x pos) (mN i):=
 (bI hN hi hx hf).imp λv σ H Q ⟨G,ρ,d,P,s,e,dv,h,q⟩=>q _ h _ (e.set dv)
abbrev kB:=List D→DN→(DN→Prop)→Prop
def KA(Z:DC)(g:kB):vP:=λvs σ H Q=>∃(G:Hp)(ρ:DN)(ds:List D)(P:DN→Prop),az G H∧cY Z G σ ρ∧aq Z G vs ds∧g ds ρ P∧∀aF,P aF→∀aw,cY Z G aw aF→Q aw H
def JG(Z:DC)(X:Cx)(es:List Expr)(g:kB):Prop:=yc X es (KA Z g)
theorem yc.imp{es:List Expr}{t t':vP}(h:yc X es t)(f:∀v σ H Q,t' v σ H Q→t v σ H Q):yc X es t':=λpins s σ H v u Q I r q=>h pins s σ H v u Q I r (f _ _ _ _ q)
def GO:kB:=λds ρ P=>ds= []∧P ρ
def DD(g:eC)(gs:kB):kB:=λds ρ P=>match ds with
 |d::r=>g d ρ λaF=>gs r aF P
 | []=>False
theorem t6:JG Z X [] GO:=jP.imp λv σ H Q ⟨G,ρ,ds,P,s,e,dv,⟨h,p⟩,q⟩=>by
 subst h;cases dv;exact ⟨rfl,q _ p _ e⟩
theorem ie{es:List Expr}{g:eC}{gs:kB}(h1:DG Z X e g)(h2:JG Z X es gs)(hs:(assignEach (e::es) X.env).map (·.2)=assign e X.env::(assignEach es X.env).map (·.2):=by rfl):JG Z X (e::es) (DD g gs):=by
 refine (dW h1 h2 hs).imp ?_;rintro v σ H Q ⟨G,ρ,ds,P,s,e,dv,h,q⟩;cases dv with
 |nil=>exact h.elim
 |cons a as=>
  refine ⟨_,_,rfl,G,ρ,_,_,s,e,a,h,λaF hp aw e'=>?_⟩;exact ⟨G,aF,_,P,s,e',as,hp,q⟩
def GP(n:Nat)(gs:kB):eC:=λd ρ P=>match d with
 | .tup l=>l.length=n∧gs l ρ P
 |_=>False
theorem yo(n:Nat){es:List Expr}{k:Nat}{gs:kB}(hc:X.calm=true)(h:JG Z X es gs)(hn:(assignEach es X.env).length=n:=by rfl)(jH:(assignEach es X.env).findIdx? (·.1)=none:=by rfl):DG Z X (.Tuple es k pos) (GP n gs):=by
 refine (m8 hc h hn jH).imp ?_;rintro v σ H Q ⟨G,ρ,d,P,s,e,dv,h,q⟩;cases dv<;>first|exact h.elim|skip
 rename_i a xs ds ha es
 exact ⟨a,xs,rfl,dr.of (s _ _ ha),by rw [es.length];exact h.1,G,ρ,_,P,s,e,es,h.2,q⟩
def tF(Z:DC)(G:Hp)(J:It)(ds:List D):Prop:=∀G2 H2,az G G2→az G2 H2→∀i:Nat,(i<ds.length→J.go i H2)∧(ds.length≤i→J.stop i H2)∧
 ∀x H',i<ds.length→J.yld i H2 x H'→∃G3 d,Ext G2 H2 G3 H'∧ds[i]? =some d∧Dv Z G3 x d
def uB(Z:DC)(wi:jr):TI:=λσ H R=>∃(G:Hp)(ρ:DN)(P:List D→Prop),az G H∧cY Z G σ ρ∧wi ρ P∧∀ds,P ds→∀J G' H',Ext G H G' H'→tF Z G' J ds→R J H'
def DI(Z:DC)(X:Cx)(tg e:Expr)(wi:jr):Prop:=PI X tg e (uB Z wi)
theorem PI.imp{tg e:Expr}{t t':TI}(h:PI X tg e t)(f:∀σ H Q,t' σ H Q→t σ H Q):PI X tg e t':=λpins s σ H Q I q=>h pins s σ H Q I (f _ _ _ q)
def NT(t:aT):jr:=λρ P=>t ρ λd=>match d with
 | .lst l=>P l
 |_=>False
theorem HQ{K:PySem.W.Frag}{G:Hp}{a:Addr}{xs:List V}{ds:List D}(h:G a=some (.lst xs))(e:aq Z G xs ds):tF Z G (EB K a) ds:=by
 intro G2 H2 s1 s2 i;have h2:=aC.of (K:=K) (s2 _ _ (s1 _ _ h));have l:=e.length;refine ⟨λhi=>⟨xs,xs[i],h2,cC (by omega)⟩,λhi=>⟨xs,h2,by omega⟩,?_⟩
 rintro x H' hi ⟨rfl,hx⟩;obtain ⟨d,hd,dv⟩:=e.DV (hx _ h2);exact ⟨G2,d, .refl s2,hd,dv.mono s1⟩
theorem cz{tg:Expr}(h:DE Z X e te):DI Z X tg e (NT te):=by
 refine (jQ h).imp ?_;rintro σ H Q ⟨G,ρ,P,s,en,h,q⟩;refine ⟨G,ρ,_,s,en,h,λd hd v G1 H1 x1 dv=>?_⟩;cases dv<;>first|exact hd.elim|skip
 rename_i ha e
 exact ⟨_,rfl,⟨_,aC.of (x1.sub _ _ ha)⟩,q _ hd _ G1 H1 x1 (HQ ha e)⟩
def fo(lo:Int)(n:Nat):List D:=(List.range n).map λ(k:Nat)=>D.int (lo+(k:Int))
theorem rL{lo:Int}{n i:Nat}(h:i<n):(fo lo n)[i]? =some (.int (lo+i)):=by
 unfold fo;rw [dq,se h];rfl
theorem w4{G:Hp}(lo:Int)(n:Nat):tF Z G (zv lo n) (fo lo n):=by
 intro G2 H2 s1 s2 i;have l:(fo lo n).length=n:=by unfold fo;simp
 rw [l];refine ⟨λhi=>hi,λhi=>hi,?_⟩;rintro x H' hi ⟨rfl,rfl⟩;exact ⟨G2,_, .refl s2,rL hi, .int _⟩
def Mn(t:hJ):jr:=λρ P=>t ρ λds=>match ds with
 | [.int j]=>(-(2^62)≤j∧j<2^62)∧P (fo 0 j.toNat)
 |_=>False
variable {t:hJ}
theorem BB{tg:Expr}{p:Pos}(hg:Gl X "range")(hm:X.mg "range"=none)(ha:DA Z X [a] t)(hs:starEach [a] X.env= [(false,eval a X.env)]:=by rfl):DI Z X tg (.Call (.Name "range" p) [a] [] pos) (Mn t):=by
 refine (iL hg hm ha hs).imp ?_;rintro σ H Q ⟨G,ρ,P,s,en,h,q⟩;refine ⟨G,ρ,_,s,en,h,λds hd vs G1 H1 x1 dv=>?_⟩
 split at hd
 ·obtain ⟨_,rfl,a⟩:=dv.ofOne
  exact ⟨_,by rw [a.ofInt],hd.1.1,hd.1.2,q _ hd.2 _ G1 H1 x1 (w4 0 _)⟩
 ·exact hd.elim
def gn(l:List D):List D:=l.mapIdx λi x=> .tup [.int (i:Int),x]
def JZ(t:hJ):jr:=λρ P=>t ρ λds=>match ds with
 | [.lst l]=>P (gn l)
 |_=>False
theorem HP{K:PySem.W.Frag}{G:Hp}{a:Addr}{xs:List V}{ds:List D}(h:G a=some (.lst xs))(e:aq Z G xs ds):tF Z G (EA K a) (gn ds):=by
 intro G2 H2 s1 s2 i;have h2:=aC.of (K:=K) (s2 _ _ (s1 _ _ h));have l:=e.length;rw [show (gn ds).length=ds.length by unfold gn;simp]
 refine ⟨λhi=>⟨xs,xs[i],h2,cC (by omega)⟩,λhi=>⟨xs,h2,by omega⟩,?_⟩
 rintro x H' hi ⟨t,y,rfl,ht,rfl,hx⟩;obtain ⟨d,hd,dv⟩:=e.DV (hx _ h2);refine ⟨_,_, .new s2 ht,by unfold gn;rw [List.getElem?_mapIdx,hd];rfl,?_⟩
 exact .tup ab (.cons (.int _) (.cons ((dv.mono s1).mono (av (s2.free ht) _)) .nil))
theorem iF{p:Pos}{es:List Expr}{k1}{tp:Pos}(hg:Gl X "enumerate")(hm:X.mg "enumerate"=none)(ha:DA Z X [a] t)(hs:starEach [a] X.env= [(false,eval a X.env)]:=by rfl):DI Z X (.Tuple es k1 tp) (.Call (.Name "enumerate" p) [a] [] pos) (JZ t):=by
 refine (uP hg hm ha hs).imp ?_;rintro σ H Q ⟨G,ρ,P,s,en,h,q⟩;refine ⟨G,ρ,_,s,en,h,λds hd vs G1 H1 x1 dv=>?_⟩
 split at hd
 ·obtain ⟨_,rfl,a⟩:=dv.ofOne
  obtain ⟨_,_,rfl,h,e⟩:=a.km;exact ⟨_,rfl,⟨_,x1.sub _ _ h⟩,q _ hd _ G1 H1 x1 (HP h e)⟩
 ·exact hd.elim
def xI(src:List (Option Nat))(ρ:DN):DN:=src.map λo=>o.bind λi=>(ρ[i]?).bind id
theorem cY.src{G:Hp}{σ:St}{ρ:DN}(e:cY Z G σ ρ)(src:List (Option Nat)):cY Z G (mz src σ) (xI src ρ):=by
 refine ⟨by unfold mz xI;simp,λi d h=>?_⟩
 unfold xI at h;unfold mz;rw [dq] at h ⊢;cases k:src[i]? with
 |none=>rw [k] at h;cases h
 |some o=>
  rw [k] at h;cases o with
  |none=>cases h
  |some j=>
   have h':(ρ[j]?).bind id=some d:=Option.some.inj h;cases m:ρ[j]? with
   |none=>rw [m] at h';cases h'
   |some z=>
    rw [m] at h';have h2:z=some d:=h';subst h2;obtain ⟨v,hv,dv⟩:=e.at_ j d m;exact ⟨v,by show some ((σ[j]?).bind id)=_;rw [hv];rfl,dv⟩
def lcW(g:eC)(tt:dM)(te:aT):List D→DN→List D→(DN→List D→Prop)→Prop
 | [],ρ,acc,N=>N ρ acc
 |x::xs,ρ,acc,N=>g x ρ λbo=>tt bo λb=>if b=true then te bo λd=>acc.length<sizeLine∧lcW g tt te xs bo (acc++ [d]) N else lcW g tt te xs bo acc N
def NM(wi:jr)(g:eC)(tt:dM)(te:aT)(src:List (Option Nat)):aT:=λρ P=>wi ρ λds=>lcW g tt te ds (xI src ρ) [] λ_ out=>P (.lst out)
def nJ(g:eC)(tt:dM)(fZ:jr)(g1:eC)(dj:dM)(te:aT):List D→DN→List D→(List D→Prop)→Prop
 | [],_,acc,P=>P acc
 |x::xs,ρ,acc,P=>g x ρ λbo=>tt bo λb=>if b=true then fZ bo λes=>lcW g1 dj te es bo acc λeE tH=>nJ g tt fZ g1 dj te xs eE tH P else nJ g tt fZ g1 dj te xs bo acc P
def Mj(wi:jr)(g:eC)(tt:dM)(fZ:jr)(g1:eC)(dj:dM)(te:aT)(src:List (Option Nat)):aT:=λρ P=>wi ρ λds=>nJ g tt fZ g1 dj te ds (xI src ρ) [] λout=>P (.lst out)
def oW:dM:=λ_ P=>P true
def zt(Z:DC)(X:Cx)(ifs:List Expr)(t:dM):Prop:=nY X ifs (liftT Z t)
theorem nY.imp{ifs:List Expr}{t t':TT}(h:nY X ifs t)(f:∀σ H Q,t' σ H Q→t σ H Q):nY X ifs t':=λpins s σ H Q I q=>h pins s σ H Q I (f _ _ _ q)
theorem eL:zt Z X [] oW:=pU.imp λσ H Q ⟨G,ρ,P,s,e,p,q⟩=>q _ p G H (.refl s)
theorem GV{tA:dM}(h:DT Z X c tA):zt Z X [c] tA:=AL h
def CS(Z:DC)(G1 H1:Hp)(Ad:Addr)(ρ:DN)(acc:List D)(σ:St)(H:Hp):Prop:=
 ∃(G:Hp)(ys:List V),az G1 G∧az G H∧az H1 H∧(∀b,H1 b≠none→G1 b=none→G b=none)∧G Ad=none∧H Ad=some (.lst ys)∧aq Z G ys acc∧cY Z G σ ρ
theorem gL{H H':Hp}(s:az H H'){b:Addr}(h:H b≠none):H' b≠none:=λz=>by
 cases e:H b with
 |none=>exact h e
 |some o=>rw [s b o e] at z;cases z
theorem oZ{α:Type}{l:List α}{i:Nat}{x:α}(h:l[i]? =some x):l.drop i=x::l.drop (i+1):=by
 obtain ⟨hi,e⟩:=b9.mp h;rw [rY hi,e]
theorem xg{G1 H1:Hp}{Ad:Addr}{J:It}{ds:List D}{g:eC}{tt:dM}{te:aT}{N:DN→List D→Prop}(hA:H1 Ad=none)(G0:Hp)(it:tF Z G0 J ds)(i:Nat)(ρ:DN)(acc:List D)(σ:St)(H:Hp)
  (c:CS Z G1 H1 Ad ρ acc σ H) (hG:∀G,az G1 G→az G0 G) (hi:i<ds.length) (h:lcW g tt te (ds.drop i) ρ acc N):
  J.go i H∧∀x H3,J.yld i H x H3→qK Z g x σ H3 λcT H4=>liftT Z tt cT H4 λb H5=>
   if b=true then df Z te cT H5 λv H6=>∃ys,H6 Ad=some (.lst ys)∧ys.length<sizeLine∧(∃aF dz,CS Z G1 H1 Ad aF dz cT (upd H6 Ad (.lst (ys++ [v])))∧lcW g tt te (ds.drop (i+1)) aF dz N)
   else ∃aF dz,CS Z G1 H1 Ad aF dz cT H5∧lcW g tt te (ds.drop (i+1)) aF dz N:=by
 obtain ⟨G2,ys,s1,s2,s3,off,gA,sC,bg,en⟩:=c;obtain ⟨go,_,yld⟩:=it G2 H (hG _ s1) s2 i;refine ⟨go hi,λx H3 y=>?_⟩;obtain ⟨G3,d,x3,hd,dv⟩:=yld x H3 hi y;rw [oZ hd] at h;refine ⟨G3,ρ,d,_,x3.sub,en.mono x3.gg,dv,h,λbo h1 cT yq=>?_⟩;refine ⟨G3,bo,_,x3.sub,yq,h1,λb hb G5 H5 x5=>?_⟩;have mH:=x3.trans x5;have xr:∀{G tD:Hp},Ext G2 H G tD→G Ad=none:=λx=>x.off Ad (by rw [sC];exact λz=>nomatch z) gA
 have AF:∀{G tD:Hp},Ext G2 H G tD→∀b,H1 b≠none→G1 b=none→G b=none:=λx b h1 h2=>x.off b (gL s3 h1) (off b h1 h2);cases b with
 |false=>
  refine fC ⟨bo,acc,⟨G5,ys,s1.trans mH.gg,mH.sub,s3.trans mH.hh,AF mH,xr mH,mH.hh _ _ sC,bg.mono mH.gg,yq.mono x5.gg⟩,?_⟩;simpa using hb
 |true=>
  refine fP ⟨G5,bo,_,x5.sub,yq.mono x5.gg,(by simpa using hb),λd' qB v G6 H6 x6 XS=>?_⟩
  have x:=mH.trans x6;refine ⟨ys,x.hh _ _ sC,by rw [bg.length];exact qB.1,bo,_,⟨G6,ys++ [v],s1.trans x.gg,λb o e=>?_,λb o e=>?_,AF x,xr x,ab,(bg.mono x.gg).snoc XS,(yq.mono x5.gg).mono x6.gg⟩,qB.2⟩
  ·rw [ae (ah e (xr x))];exact x.sub _ _ e
  ·rw [ae (ah e hA)];exact (s3.trans x.hh) _ _ e
theorem CS.done{G H G1 H1 H2:Hp}{Ad:Addr}{ρ:DN}{acc:List D}{σ:St}(c:CS Z G1 H1 Ad ρ acc σ H2)(x1:Ext G H G1 H1)(hA:H1 Ad=none):∃G',Ext G H G' H2∧Dv Z G' (.ref Ad) (.lst acc):=by
 obtain ⟨G2,ys,s1,s2,s3,off,gA,sC,bg,en⟩:=c;refine ⟨upd G2 Ad (.lst ys),⟨(x1.gg.trans s1).trans (av gA _),λb o e=>?_,x1.hh.trans s3,λb hb hg=>?_⟩, .lst ab (bg.mono (av gA _))⟩
 ·by_cases z:b=Ad
  ·subst z;rw [ab] at e;cases e;exact sC
  ·rw [ae z] at e;exact s2 _ _ e
 ·have h1:=gL x1.hh hb
  rw [ae (λz=>h1 (by rw [z];exact hA))]
  exact off b h1 (x1.off b hb hg)
theorem CS.begin{G1 H1:Hp}{Ad:Addr}{ρ:DN}{σ:St}(s:az G1 H1)(hA:H1 Ad=none)(en:cY Z G1 σ ρ):CS Z G1 H1 Ad ρ [] σ (upd H1 Ad (.lst [])):=
 ⟨G1,[], .refl _,λb o e=>by rw [ae (ah e (s.free hA))];exact s _ _ e,av hA _,λ_ _ h=>h,s.free hA,ab, .nil,en⟩
variable {tg iter elt:Expr} {ifs:List Expr} {scope:Scope} {NC:List Str} {src:List (Option Nat)} {wi:jr} {g:eC} {tt:dM}
theorem D2:∀σ H Q,df Z (NM wi g tt te src) σ H Q→LI (uB Z wi) (qK Z g) (liftT Z tt) (df Z te) src σ H Q:=by
 rintro σ H Q ⟨G,ρ,P,s,en,h,q⟩;refine ⟨G,ρ,_,s,en,h,λds hd J G1 H1 x1 it Ad hA=>?_⟩;refine ⟨λi m cD H2=>m=ds.length-i∧i≤ds.length∧∃eE acc,CS Z G1 H1 Ad eE acc cD H2∧lcW g tt te (ds.drop i) eE acc λ_ out=>P (.lst out),⟨_,rfl,cM _,_,[], .begin x1.sub hA ((en.mono x1.gg).src src),hd⟩,?_⟩;rintro i m cD H2 ⟨rfl,hi,eE,acc,c,hl⟩
 by_cases br:i<ds.length
 ·obtain ⟨go,turn⟩:=xg hA G1 it i eE acc cD H2 c (λ_ s=>s) br hl
  exact .inr ⟨go,_,λaw H' n=>⟨ds.length-(i+1),by omega,rfl,br,n⟩,turn⟩
 ·have e:ds.drop i= []:=Bh (by omega)
  rw [e] at hl;obtain ⟨G',x,dv⟩:=c.done x1 hA;obtain ⟨G2,ys,s1,s2,_⟩:=c;exact .inl ⟨(it G2 H2 s1 s2 i).2.1 (by omega),q _ hl _ G' H2 x dv⟩
theorem ym(hc:X.calm=true)(c:bb X scope)(fB:cZ scope X.N src NC)(hi:DI Z X tg iter wi)
  (hg:∀ex s H,DG Z (cV X scope NC ex s H) tg g) (ht:∀ex s H,zt Z (cV X scope NC ex s H) ifs tt) (he:∀ex s H,DE Z (cV X scope NC ex s H) elt te)
  (hs:∀x,foldedSetIterable iter X.env x=pure x:=by intro _;rfl):DE Z X (.ListComp elt [⟨tg,iter,ifs,0⟩] scope pos) (NM wi g tt te src):=(CB hc c fB hi hg ht he hs).imp D2
variable {t0 i0 t1 i1:Expr} {f0 f1:List Expr} {fZ:jr} {g1:eC} {dj:dM}
theorem HZ:∀σ H Q,df Z (Mj wi g tt fZ g1 dj te src) σ H Q→M6 (uB Z wi) (qK Z g) (liftT Z tt) (uB Z fZ) (qK Z g1) (liftT Z dj) (df Z te) src σ H Q:=by
 rintro σ H Q ⟨G,ρ,P,s,en,h,q⟩;refine ⟨G,ρ,_,s,en,h,λds hd J G1 H1 x1 it Ad hA=>?_⟩;refine ⟨λi m cD H2=>m=ds.length-i∧i≤ds.length∧∃eE acc,CS Z G1 H1 Ad eE acc cD H2∧nJ g tt fZ g1 dj te (ds.drop i) eE acc λout=>P (.lst out),⟨_,rfl,cM _,_,[], .begin x1.sub hA ((en.mono x1.gg).src src),hd⟩,?_⟩;rintro i m cD H2 ⟨rfl,hi,eE,acc,c,hl⟩
 by_cases br:i<ds.length
 ·have c0:=c
  obtain ⟨G2,ys,s1,s2,s3,off,gA,sC,bg,XW⟩:=c;obtain ⟨go,_,yld⟩:=it G2 H2 s1 s2 i;refine .inr ⟨go br,λaw H'=>∃aF dz,CS Z G1 H1 Ad aF dz aw H'∧nJ g tt fZ g1 dj te (ds.drop (i+1)) aF dz λout=>P (.lst out),λaw H' n=>⟨ds.length-(i+1),by omega,rfl,br,n⟩,λx H3 y=>?_⟩
  obtain ⟨G3,d,x3,Oq,dv⟩:=yld x H3 br y;rw [oZ Oq] at hl;refine ⟨G3,eE,d,_,x3.sub,XW.mono x3.gg,dv,hl,λbo h1 cT yq=>?_⟩;refine ⟨G3,bo,_,x3.sub,yq,h1,λb hb G5 H5 x5=>?_⟩;have mH:=x3.trans x5;have xr:∀{G tD:Hp},Ext G2 H2 G tD→G Ad=none:=λx=>x.off Ad (by rw [sC];exact λz=>nomatch z) gA
  have AF:∀{G tD:Hp},Ext G2 H2 G tD→∀b,H1 b≠none→G1 b=none→G b=none:=λx b h1 h2=>x.off b (gL s3 h1) (off b h1 h2);cases b with
  |false=>exact fC ⟨bo,acc,⟨G5,ys,s1.trans mH.gg,mH.sub,s3.trans mH.hh,AF mH,xr mH,mH.hh _ _ sC,bg.mono mH.gg,yq.mono x5.gg⟩,by simpa using hb⟩
  |true=>
   refine fP ⟨G5,bo,_,x5.sub,yq.mono x5.gg,(by simpa using hb),λes YI J1 G6 H6 x6 HN=>?_⟩
   have x:=mH.trans x6;have c6:CS Z G6 H6 Ad bo acc cT H6→True:=λ_=>trivial
   refine ⟨λk m qm H7=>m=es.length-k∧k≤es.length∧∃(JE:DN)(zy:List D),(∃(G:Hp)(ys:List V),az G6 G∧az G H7∧az H1 H7∧(∀b,H1 b≠none→G1 b=none→G b=none)∧G Ad=none∧H7 Ad=some (.lst ys)∧aq Z G ys zy∧cY Z G qm JE)∧
    lcW g1 dj te (es.drop k) JE zy λeE tH=>nJ g tt fZ g1 dj te (ds.drop (i+1)) eE tH λout=>P (.lst out),
    ⟨_,rfl,cM _,bo,acc,⟨G6,ys, .refl _,x.sub,s3.trans x.hh,AF x,xr x,x.hh _ _ sC,bg.mono x.gg,(yq.mono x5.gg).mono x6.gg⟩,YI⟩,?_⟩
   rintro k m qm H7 ⟨rfl,hk,JE,zy,⟨G7,LN,a1,a2,a3,a4,a5,a6,a7,a8⟩,ug⟩;have X6:az G1 G6:=s1.trans x.gg
   by_cases Hu:k<es.length
   ·obtain ⟨Ya,_,Wn⟩:=HN G7 H7 a1 a2 k
    refine .inr ⟨Ya Hu,λaw H'=>∃(aF:DN)(dz:List D),(∃(G:Hp)(ys:List V),az G6 G∧az G H'∧az H1 H'∧(∀b,H1 b≠none→G1 b=none→G b=none)∧G Ad=none∧H' Ad=some (.lst ys)∧aq Z G ys dz∧cY Z G aw aF)∧
     lcW g1 dj te (es.drop (k+1)) aF dz λeE tH=>nJ g tt fZ g1 dj te (ds.drop (i+1)) eE tH λout=>P (.lst out),λaw H' n=>⟨es.length-(k+1),by omega,rfl,Hu,n⟩,λy H8 hy=>?_⟩
    obtain ⟨G8,d8,x8,YA,XT⟩:=Wn y H8 Hu hy;rw [oZ YA] at ug;refine ⟨G8,JE,d8,_,x8.sub,a8.mono x8.gg,XT,ug,λLR h9 σ9 J4=>?_⟩;refine ⟨G8,LR,_,x8.sub,J4,h9,λb hb P8 x9 JC=>?_⟩;have xx:=x8.trans JC;have oA:∀{G tD:Hp},Ext G7 H7 G tD→G Ad=none:=λx=>x.off Ad (by rw [a6];exact λz=>nomatch z) a5
    have oB:∀{G tD:Hp},Ext G7 H7 G tD→∀b,H1 b≠none→G1 b=none→G b=none:=λx b h1 h2=>x.off b (gL a3 h1) (a4 b h1 h2);cases b with
    |false=>exact fC ⟨LR,zy,⟨P8,LN,a1.trans xx.gg,xx.sub,a3.trans xx.hh,oB xx,oA xx,xx.hh _ _ a6,a7.mono xx.gg,J4.mono JC.gg⟩,by simpa using hb⟩
    |true=>
     refine fP ⟨P8,LR,_,JC.sub,J4.mono JC.gg,(by simpa using hb),λd' qB v Wy Ez Wj RA=>?_⟩
     have xz:=xx.trans Wj;refine ⟨LN,xz.hh _ _ a6,by rw [a7.length];exact qB.1,LR,_,⟨Wy,LN++ [v],a1.trans xz.gg,λb o e=>?_,λb o e=>?_,oB xz,oA xz,ab,(a7.mono xz.gg).snoc RA,(J4.mono JC.gg).mono Wj.gg⟩,qB.2⟩
     ·rw [ae (ah e (oA xz))];exact xz.sub _ _ e
     ·rw [ae (ah e hA)];exact (a3.trans xz.hh) _ _ e
   ·have e:es.drop k= []:=Bh (by omega)
    rw [e] at ug;exact .inl ⟨(HN G7 H7 a1 a2 k).2.1 (by omega),JE,zy,⟨G7,LN,X6.trans a1,a2,a3,a4,a5,a6,a7,a8⟩,ug⟩
 ·have e:ds.drop i= []:=Bh (by omega)
  rw [e] at hl;obtain ⟨G',x,dv⟩:=c.done x1 hA;obtain ⟨G2,ys,s1,s2,_⟩:=c;exact .inl ⟨(it G2 H2 s1 s2 i).2.1 (by omega),q _ hl _ G' H2 x dv⟩
theorem JU(hc:X.calm=true)(c:bb X scope)(fB:cZ scope X.N src NC)(hi:DI Z X t0 i0 wi)
  (hg:∀ex s H,DG Z (cV X scope NC ex s H) t0 g) (ht:∀ex s H,zt Z (cV X scope NC ex s H) f0 tt) (z6:∀ex s H,DI Z (cV X scope NC ex s H) t1 i1 fZ) (Ox:∀ex s H,DG Z (cV X scope NC ex s H) t1 g1)
  (OS:∀ex s H,zt Z (cV X scope NC ex s H) f1 dj) (he:∀ex s H,DE Z (cV X scope NC ex s H) elt te)
  (hs:∀x,foldedSetIterable i0 X.env x=pure x:=by intro _;rfl) (Fn:∀env x,foldedSetIterable i1 env x=pure x:=by intro _ _;rfl):
  DE Z X (.ListComp elt [⟨t0,i0,f0,0⟩,⟨t1,i1,f1,0⟩] scope pos) (Mj wi g tt fZ g1 dj te src):=(K5 hc c fB hi hg ht z6 Ox OS he hs Fn).imp HZ
end
inductive dN (R:V→D→List Addr→Prop):List V→List D→List Addr→Prop
 |nil:dN R [] [] []
 |cons {v:V} {vs:List V} {d:D} {ds:List D} {f fs:List Addr}:R v d f→dN R vs ds fs→dN R (v::vs) (d::ds) (f++fs)
def Ts:D→Bool
 | .lst _=>true
 |_=>false
def Own(Z:DC)(G H:Hp):Nat→V→D→List Addr→Prop
 |0,v,d,fp=>Dv Z G v d∧fp= []
 |n+1,v,d,fp=>(∃a xs ds eZ,v= .ref a∧d= .lst ds∧H a=some (.lst xs)∧fp=a::eZ∧dN (Own Z G H n) xs ds eZ)∨(1≤n∧∃a xs ds,v= .ref a∧d= .tup ds∧G a=some (.tup xs)∧dN (λv d f=>(Ts d=true∧Own Z G H n v d f)∨(Ts d=false∧Dv Z G v d∧f= [])) xs ds fp)∨(∃a φ,v= .ref a∧H a=some (.ext φ)∧fp= [a]∧((n=98∧∃b ns,d= .set b ns∧φ=LV b a ns)∨(n=97∧∃k,d= .x k∧ED G a φ k)))
theorem Own.lst{Z:DC}{G H:Hp}{n:Nat}{v:V}{ds:List D}{fp:List Addr}(o:Own Z G H (n+1) v (.lst ds) fp):∃a xs t9 eZ,v= .ref a∧D.lst ds= .lst t9∧H a=some (.lst xs)∧fp=a::eZ∧dN (Own Z G H n) xs t9 eZ:=by
 rcases o with o| ⟨_,a,xs,ds,_,e,_⟩ | ⟨a,φ,_,_,_,⟨_,b,ns,e,_⟩ | ⟨_,k,e,_⟩⟩
 ·exact o
 ·cases e
 ·cases e
 ·cases e
theorem Own.xA{Z:DC}{G H:Hp}{v:V}{k:XD}{fp:List Addr}(o:Own Z G H 98 v (.x k) fp):∃a φ,v= .ref a∧H a=some (.ext φ)∧fp= [a]∧ED G a φ k:=by
 rcases o with ⟨_,_,_,_,_,e,_⟩ | ⟨_,a,xs,ds,_,e,_⟩ | ⟨a,φ,h1,h2,h3,⟨_,b,ns,e,e2⟩ | ⟨_,k,e,h4⟩⟩
 ·cases e
 ·cases e
 ·cases e
 ·cases e;exact ⟨a,φ,h1,h2,h3,h4⟩
theorem Own.one{Z:DC}{G H:Hp}{v:V}{d:D}{fp:List Addr}(o:Own Z G H 1 v d fp):∃a xs ds eZ,v= .ref a∧d= .lst ds∧H a=some (.lst xs)∧fp=a::eZ∧dN (Own Z G H 0) xs ds eZ:=by
 rcases o with o| ⟨z,_⟩ | ⟨_,_,_,_,_,⟨z,_⟩ | ⟨z,_⟩⟩
 ·exact o
 ·exact absurd z (by decide)
 ·exact absurd z (by decide)
 ·exact absurd z (by decide)
theorem dN.imp{R R':V→D→List Addr→Prop}:∀{vs:List V}{ds:List D}{fp:List Addr},dN R vs ds fp→(∀v d f,(∀b∈f,b∈fp)→R v d f→R' v d f)→dN R' vs ds fp
 |_,_,_, .nil,_=> .nil
 |_,_,_, .cons a as,h=> .cons (h _ _ _ (λb hb=>r8 _ hb) a) (as.imp λv d f hf r=>h v d f (λb hb=>eV _ (hf b hb)) r)
theorem dN.length{R:V→D→List Addr→Prop}:∀{vs:List V}{ds:List D}{fp:List Addr},dN R vs ds fp→vs.length=ds.length
 |_,_,_, .nil=>rfl
 |_,_,_, .cons _ as=>congrArg (·+1) as.length
section
variable {Z:DC} {G G' H H':Hp}
theorem Own.keep:∀{n:Nat}{v:V}{d:D}{fp:List Addr},Own Z G H n v d fp→az G G'→(∀b∈fp,H' b=H b)→Own Z G' H' n v d fp
 |0,_,_,_,⟨a,b⟩,s,_=>⟨a.mono s,b⟩
 |n+1,_,_,_, .inl ⟨a,xs,ds,eZ,hv,hd,ha,hf,ho⟩,s,k=>by
  subst hf;exact .inl ⟨a,xs,ds,eZ,hv,hd,by rw [k a (bY ..)];exact ha,rfl,ho.imp λv d f hb r=>Own.keep r s λb q=>k b (cu _ (hb b q))⟩
 |n+1,_,_,_, .inr (.inl ⟨h1,a,xs,ds,hv,hd,ha,ho⟩),s,k=> .inr (.inl ⟨h1,a,xs,ds,hv,hd,s _ _ ha,ho.imp λv d f hb r=>r.imp (λr=>⟨r.1,Own.keep r.2 s λb q=>k b (hb b q)⟩) λr=>⟨r.1,r.2.1.mono s,r.2.2⟩⟩)
 |n+1,_,_,_, .inr (.inr ⟨a,φ,hv,ha,hf,hx⟩),s,k=> .inr (.inr ⟨a,φ,hv,by rw [k a (by rw [hf];exact bY ..)];exact ha,hf,hx.imp id λ⟨h1,k,h2,h3⟩=>⟨h1,k,h2,h3.mono s⟩⟩)
theorem dN.zW{R:V→D→List Addr→Prop}:∀{vs:List V}{ds:List D}{fp:List Addr},dN R vs ds fp→(∀v d f,(∀b∈f,b∈fp)→R v d f→Dv Z G' v d)→aq Z G' vs ds
 |_,_,_, .nil,_=> .nil
 |_,_,_, .cons a as,k=> .cons (k _ _ _ (λb hb=>r8 _ hb) a) (as.zW λv d f hf r=>k v d f (λb hb=>eV _ (hf b hb)) r)
theorem Own.dv:∀{n:Nat}{v:V}{d:D}{fp:List Addr},Own Z G H n v d fp→az G G'→(∀b∈fp,∀o,H b=some o→G' b=some o)→Dv Z G' v d
 |0,_,_,_,⟨a,_⟩,s,_=>a.mono s
 |n+1,_,_,_, .inl ⟨a,xs,ds,eZ,hv,hd,ha,hf,ho⟩,s,k=>by
  subst hf hv hd;exact .lst (k a (bY ..) _ ha) (ho.zW λv d f hf r=>Own.dv r s λb hb=>k b (cu _ (hf b hb)))
 |n+1,_,_,_, .inr (.inl ⟨_,a,xs,ds,hv,hd,ha,ho⟩),s,k=>by
  subst hv hd;exact .tup (s _ _ ha) (ho.zW λv d f hf r=>r.elim (λr=>Own.dv r.2 s λb hb=>k b (hf b hb)) λr=>r.2.1.mono s)
 |n+1,_,_,_, .inr (.inr ⟨a,φ,hv,ha,hf,hx⟩),s,k=>by
  subst hv hf
  rcases hx with ⟨_,b,ns,hd,hp⟩ | ⟨_,kx,hd,hp⟩
  ·subst hd hp
   exact .set (k a (bY ..) _ ha)
  ·subst hd
   exact .x (k a (bY ..) _ ha) (hp.mono s)
theorem dN.flat:∀{vs:List V}{ds:List D}{fp:List Addr},dN (Own Z G H 0) vs ds fp→aq Z G vs ds∧fp= []
 |_,_,_, .nil=>⟨.nil,rfl⟩
 |_,_,_, .cons a as=>by
  obtain ⟨h1,h2⟩:=as.flat;obtain ⟨a1,a2⟩:=a;exact ⟨.cons a1 h1,by rw [a2,h2];rfl⟩
theorem aq.own:∀{vs:List V}{ds:List D},aq Z G vs ds→dN (Own Z G H 0) vs ds []
 |_,_, .nil=> .nil
 |_,_, .cons a as=> .cons (f:= []) (fs:= []) ⟨a,rfl⟩ as.own
end
mutual
def lQ:D→Bool
 | .aM=>true
 | .bl _=>true
 | .int _=>true
 | .str _=>true
 | .tup l=>D3 l
 |_=>false
def D3:List D→Bool
 | []=>true
 |d::ds=>lQ d&&D3 ds
end
mutual
theorem Dv.lQ{Z:DC}{G G':Hp}(k:∀b xs,G b=some (.tup xs)→G' b=some (.tup xs)):∀{v:V}{d:D},Dv Z G v d→L2.lQ d=true→Dv Z G' v d
 |_,_, .aM,_=> .aM
 |_,_, .bl b,_=> .bl b
 |_,_, .int i,_=> .int i
 |_,_, .str x h,_=> .str x h
 |_,_, .tup h a,f=> .tup (k _ _ h) (aq.lQ k a (by rw [L2.lQ] at f;exact f))
 |_,_, .lst _ _,f=>by simp [L2.lQ] at f
 |_,_, .obj _,f=>by simp [L2.lQ] at f
 |_,_, .rng _,f=>by simp [L2.lQ] at f
 |_,_, .jA _ _,f=>by simp [L2.lQ] at f
 |_,_, .gO _ _ _ _ _,f=>by simp [L2.lQ] at f
 |_,_, .set _,f=>by simp [L2.lQ] at f
 |_,_, .x _ _,f=>by simp [L2.lQ] at f
theorem aq.lQ{Z:DC}{G G':Hp}(k:∀b xs,G b=some (.tup xs)→G' b=some (.tup xs)):∀{vs:List V}{ds:List D},aq Z G vs ds→D3 ds=true→aq Z G' vs ds
 |_,_, .nil,_=> .nil
 |_,_, .cons a as,f=>by
  rw [D3,xY] at f;exact .cons (Dv.lQ k a f.1) (aq.lQ k as f.2)
end
def MX:HO→Bool
 | .lst _=>true
 | .ext _=>true
 |_=>false
theorem Own.NY{Z:DC}{G G' H:Hp}:∀{n:Nat}{v:V}{d:D}{fp:List Addr},Own Z G H n v d fp→az G G'→(∀b∈fp,∀o,MX o=true→H b=some o→G' b=some o)→Dv Z G' v d
 |0,_,_,_,⟨a,_⟩,s,_=>a.mono s
 |n+1,_,_,_, .inl ⟨a,xs,ds,eZ,hv,hd,ha,hf,ho⟩,s,k=>by
  subst hf hv hd;exact .lst (k a (bY ..) _ rfl ha) (ho.zW λv d f hf r=>Own.NY r s λb hb=>k b (cu _ (hf b hb)))
 |n+1,_,_,_, .inr (.inl ⟨_,a,xs,ds,hv,hd,ha,ho⟩),s,k=>by
  subst hv hd;exact .tup (s _ _ ha) (ho.zW λv d f hf r=>r.elim (λr=>Own.NY r.2 s λb hb=>k b (hf b hb)) λr=>r.2.1.mono s)
 |n+1,_,_,_, .inr (.inr ⟨a,φ,hv,ha,hf,hx⟩),s,k=>by
  subst hv hf
  rcases hx with ⟨_,b,ns,hd,hp⟩ | ⟨_,kx,hd,hp⟩
  ·subst hd hp
   exact .set (k a (bY ..) _ rfl ha)
  ·subst hd
   exact .x (k a (bY ..) _ rfl ha) (hp.mono s)
structure Bs where
 G₀:Hp
 H₀:Hp
 Gf:Hp
structure SIx (Z:DC) (B:Bs) (md:List Nat) (ρ:DN) (σ:St) (H G:Hp) (fp:Nat→List Addr):Prop where
 ex:Ext B.G₀ B.H₀ G H
 fl:az B.Gf G
 len:ρ.length=σ.length
 at_:∀(i:Nat)(d:D),ρ[i]? =some (some d)→∃v,σ[i]? =some (some v)∧Own Z G H (md.getD i 0) v d (fp i)
 nd:∀i,(fp i).Nodup
 ap:∀i j b,i≠j→b∈fp i→b∉fp j
 nw:∀i b,b∈fp i→B.H₀ b=none∧H b≠none∧G b=none
def SI(Z:DC)(B:Bs)(md:List Nat)(ρ:DN)(σ:St)(H:Hp):Prop:=∃G fp,SIx Z B md ρ σ H G fp
def di:List Nat→DN→DN
 |_,[]=> []
 | [],o::ρ=>o::ρ
 |0::md,o::ρ=>o::di md ρ
 | (_+1)::md,_::ρ=>none::di md ρ
theorem oI:∀(md:List Nat)(ρ:DN),(di md ρ).length=ρ.length
 |md,[]=>by cases md<;>rfl
 | [],o::ρ=>rfl
 |0::md,o::ρ=>by rw [di,cL,oI md ρ,cL]
 | (_+1)::md,_::ρ=>by rw [di,cL,oI md ρ,cL]
theorem qQ{d:D}:∀(md:List Nat)(ρ:DN)(i:Nat),(di md ρ)[i]? =some (some d)→md.getD i 0=0∧ρ[i]? =some (some d)
 |md,[],i,h=>by cases md<;>simp [di] at h
 | [],o::ρ,i,h=>⟨by simp,h⟩
 |0::md,o::ρ,0,h=>⟨rfl,by simpa [di] using h⟩
 |0::md,o::ρ,i+1,h=>by
  rw [di,qg] at h;obtain ⟨a,b⟩:=qQ md ρ i h;exact ⟨by rw [List.getD_cons_succ];exact a,by rw [qg];exact b⟩
 | (_+1)::md,_::ρ,0,h=>by simp [di] at h
 | (_+1)::md,_::ρ,i+1,h=>by
  rw [di,qg] at h;obtain ⟨a,b⟩:=qQ md ρ i h;exact ⟨by rw [List.getD_cons_succ];exact a,by rw [qg];exact b⟩
def A9(md:List Nat):Bool→DN→DN
 |true,ρ=>ρ
 |false,ρ=>di md ρ
def sV:Bool→D→Prop
 |true,d=>lQ d=true
 |false,_=>True
section
variable {Z:DC} {B:Bs} {md:List Nat} {ρ:DN} {σ:St} {H G:Hp} {fp:Nat→List Addr}
theorem CI{i:Nat}{d:D}(h:(di md ρ)[i]? =some (some d)):md.getD i 0=0∧ρ[i]? =some (some d):=qQ md ρ i h
theorem SIx.zY(S:SIx Z B md ρ σ H G fp):cY Z G σ (di md ρ):=by
 refine ⟨by rw [oI];exact S.len,λi d h=>?_⟩
 obtain ⟨z,h⟩:=CI h;obtain ⟨v,hv,o⟩:=S.at_ i d h;rw [z] at o;exact ⟨v,hv,o.1⟩
theorem SIx.Mq(S:SIx Z B md ρ σ H G fp):cY Z H σ ρ:=by
 refine ⟨S.len,λi d h=>?_⟩;obtain ⟨v,hv,o⟩:=S.at_ i d h;exact ⟨v,hv,o.dv S.ex.sub λb _ u e=>e⟩
theorem SIx.grow{G' H':Hp}(S:SIx Z B md ρ σ H G fp)(x:Ext G H G' H'):SIx Z B md ρ σ H' G' fp where
 ex:=S.ex.trans x
 fl:=S.fl.trans x.gg
 len:=S.len
 at_:=λi d h=>by
  obtain ⟨v,hv,o⟩:=S.at_ i d h;refine ⟨v,hv,o.keep x.gg λb hb=>?_⟩;cases e:H b with
  |none=>exact absurd e (S.nw i b hb).2.1
  |some u=>exact x.hh _ _ e
 nd:=S.nd
 ap:=S.ap
 nw:=λi b hb=>let ⟨h1,h2,h3⟩:=S.nw i b hb;⟨h1,gL x.hh h2,x.off b h2 h3⟩
theorem Ext.all{G' H':Hp}(s:az G H)(x:Ext H H G' H'):Ext G H G H':=⟨.refl _,s.trans x.hh,x.hh,λ_ _ h=>h⟩
open Classical in
noncomputable def gZ(G H:Hp)(fp:Nat→List Addr):Hp:=λb=>if ∃i,b∈fp i then (match H b with|some (.lst xs)=>some (.lst xs) |some (.ext φ)=>some (.ext φ) |_=>none) else G b
open Classical in
noncomputable def qH(G:Hp)(fp:Nat→List Addr):Hp:=λb=>if ∃i,b∈fp i then none else G b
theorem F7{b:Addr}{o:HO}(i:Nat)(h:b∈fp i)(ho:MX o=true)(e:H b=some o):gZ G H fp b=some o:=by
 unfold gZ;rw [if_pos ⟨i,h⟩,e];cases o<;>first|rfl|cases ho
theorem oS{b:Addr}(h:¬∃i,b∈fp i):gZ G H fp b=G b:=if_neg h
theorem SIx.Mr(S:SIx Z B md ρ σ H G fp):az G (gZ G H fp)∧az (gZ G H fp) H∧cY Z (gZ G H fp) σ ρ:=by
 have s1:az G (gZ G H fp):=λb o e=>by
  by_cases h:∃i,b∈fp i
  ·obtain ⟨i,hi⟩:=h
   rw [(S.nw i b hi).2.2] at e;cases e
  ·rw [oS h];exact e
 refine ⟨s1,λb o e=>?_,S.len,λi d h=>?_⟩
 ·by_cases h:∃i,b∈fp i
  ·unfold gZ at e
   rw [if_pos h] at e
   split at e
   ·next xs hx=>rw [hx];exact e
   ·next φ hx=>rw [hx];exact e
   ·cases e
  ·rw [oS h] at e;exact S.ex.sub _ _ e
 ·obtain ⟨v,hv,o⟩:=S.at_ i d h
  exact ⟨v,hv,o.NY s1 λb hb u hu hx=>F7 i hb hu hx⟩
theorem SIx.UZ{G' H':Hp}(S:SIx Z B md ρ σ H G fp)(x:Ext (gZ G H fp) H G' H'):Ext G H (qH G' fp) H'∧∀b xs,G' b=some (.tup xs)→qH G' fp b=some (.tup xs):=by
 obtain ⟨s1,s2,_⟩:=S.Mr;refine ⟨⟨λb o e=>?_,λb o e=>?_,x.hh,λb hb hg=>?_⟩,λb xs e=>?_⟩
 ·have h:¬∃i,b∈fp i:=by
   rintro ⟨i,hi⟩;rw [(S.nw i b hi).2.2] at e;cases e
  unfold qH;rw [if_neg h];exact x.gg _ _ (s1 _ _ e)
 ·unfold qH at e
  split at e
  ·cases e
  ·exact x.sub _ _ e
 ·unfold qH
  split
  ·rfl
  ·next h=>exact x.off b hb (by rw [oS h];exact hg)
 ·have h:¬∃i,b∈fp i:=by
   rintro ⟨i,hi⟩;have hb:=(S.nw i b hi).2.1;cases hw:gZ G H fp b with
   |none=>rw [x.off b hb hw] at e;cases e
   |some o=>
    have:=x.gg _ _ hw
    rw [e] at this;cases this;unfold gZ at hw;rw [if_pos ⟨i,hi⟩] at hw
    split at hw<;>cases hw
  unfold qH;rw [if_neg h];exact e
theorem SIx.ev{t:aT}{P:D→Prop}{Q:VK}(S:SIx Z B md ρ σ H G fp)(m:Bool)(h:t (A9 md m ρ) P)
  (hq:∀d,P d→sV m d∧∀v G' H',SIx Z B md ρ σ H' G' fp→Ext G H G' H'→Dv Z G' v d→Q v H'):df Z t σ H Q:=by
 cases m with
 |false=>exact ⟨G,_,P,S.ex.sub,S.zY,h,λd hd v G' H' x dv=>(hq d hd).2 v G' H' (S.grow x) x dv⟩
 |true=>
  obtain ⟨s1,s2,e⟩:=S.Mr;refine ⟨gZ G H fp,_,P,s2,e,h,λd hd v G' H' x dv=>?_⟩;obtain ⟨x',k⟩:=S.UZ x;exact (hq d hd).2 v _ H' (S.grow x') x' (dv.lQ k (hq d hd).1)
theorem SIx.RG{t:dM}{P:Bool→Prop}{Q:Bool→Hp→Prop}(S:SIx Z B md ρ σ H G fp)(h:t ρ P)(hq:∀b,P b→∀H',SIx Z B md ρ σ H' G fp→Q b H'):liftT Z t σ H Q:=
 ⟨H,ρ,P, .refl _,S.Mq,h,λb hb G' H' x=>hq b hb H' (S.grow (Ext.all S.ex.sub x))⟩
theorem SIx.nP{i:Nat}{v:V}{d:D}(S:SIx Z B md ρ σ H G fp)(hm:md.getD i 0=0)(dv:Dv Z G v d):SIx Z B md (ρ.set i (some d)) (σ.set i (some v)) H G (λj=>if j=i then [] else fp j) where
 ex:=S.ex
 fl:=S.fl
 len:=by rw [gb,gb];exact S.len
 at_:=λj c h=>by
  by_cases z:i=j
  ·subst z
   by_cases hi:i<ρ.length
   ·rw [kN hi] at h
    cases h;exact ⟨v,kN (by rw [←S.len];exact hi),by rw [hm,if_pos rfl];exact ⟨dv,rfl⟩⟩
   ·rw [xQ (jo hi),fG (jo hi)] at h;cases h
  ·rw [kO z] at h ⊢
   rw [if_neg (Ne.symm z)];exact S.at_ j c h
 nd:=λj=>by split;exact jW;exact S.nd j
 ap:=λj k b ne hj hk=>by
  split at hj
  ·cases hj
  ·split at hk
   ·cases hk
   ·exact S.ap j k b ne hj hk
 nw:=λj b hb=>by
  split at hb
  ·cases hb
  ·exact S.nw j b hb
theorem SIx.M3{i n:Nat}{v:V}{d:D}{f:List Addr}(S:SIx Z B md ρ σ H G fp)(hm:md.getD i 0=n)(o:Own Z G H n v d f)(nd:f.Nodup)(nw:∀b∈f,B.H₀ b=none∧H b≠none∧G b=none)(ap:∀b∈f,∀j,j≠i→b∉fp j):
  SIx Z B md (ρ.set i (some d)) (σ.set i (some v)) H G (λj=>if j=i then f else fp j) where
 ex:=S.ex
 fl:=S.fl
 len:=by rw [gb,gb];exact S.len
 at_:=λj c h=>by
  by_cases z:i=j
  ·subst z
   by_cases hi:i<ρ.length
   ·rw [kN hi] at h
    cases h;exact ⟨v,kN (by rw [←S.len];exact hi),by rw [hm,if_pos rfl];exact o⟩
   ·rw [xQ (jo hi),fG (jo hi)] at h;cases h
  ·rw [kO z] at h ⊢
   rw [if_neg (Ne.symm z)];exact S.at_ j c h
 nd:=λj=>by split;exact nd;exact S.nd j
 ap:=λj k b ne hj hk=>by
  split at hj
  ·next z=>
   rw [if_neg (λw=>ne (z.trans w.symm))] at hk;exact ap b hj k (λw=>ne (z.trans w.symm)) hk
  ·next z=>
   split at hk
   ·exact ap b hk j z hj
   ·exact S.ap j k b ne hj hk
 nw:=λj b hb=>by
  split at hb
  ·exact nw b hb
  ·exact S.nw j b hb
noncomputable def plus(G H:Hp)(F:Addr→Prop):Hp:=λb=>open Classical in if F b then H b else G b
theorem dR{F:Addr→Prop}{b:Addr}(h:F b):plus G H F b=H b:=by unfold plus;rw [if_pos h]
theorem cq{F:Addr→Prop}{b:Addr}(h:¬F b):plus G H F b=G b:=by unfold plus;rw [if_neg h]
theorem iu{F:Addr→Prop}(s:az G H):az (plus G H F) H:=λb o e=>by
 by_cases h:F b
 ·rw [dR h] at e;exact e
 ·rw [cq h] at e;exact s _ _ e
theorem dX{F:Addr→Prop}(s:az G H):az G (plus G H F):=λb o e=>by
 by_cases h:F b
 ·rw [dR h];exact s _ _ e
 ·rw [cq h];exact e
theorem SIx.XY{t:aT}{P:D→Prop}{Q:VK}(S:SIx Z B md ρ σ H G fp)(h:t ρ P)(hq:∀d,P d→∀v G' H',Ext B.G₀ B.H₀ G' H'→Dv Z G' v d→Q v H'):df Z t σ H Q:=by
 let F:Addr→Prop:=λb=>∃i,b∈fp i
 have s:=S.ex.sub
 have x0:Ext B.G₀ B.H₀ (plus G H F) H:=⟨S.ex.gg.trans (dX s),iu s,S.ex.hh,λb hb hg=>by
  rw [cq (λ⟨i,hi⟩=>hb (S.nw i b hi).1)];exact S.ex.off b hb hg⟩
 refine ⟨plus G H F,ρ,P,iu s,⟨S.len,λi d h=>?_⟩,h,λd hd v G' H' x dv=>hq d hd v G' H' (x0.trans x) dv⟩;obtain ⟨v,hv,o⟩:=S.at_ i d h;exact ⟨v,hv,o.dv (dX s) λb hb u e=>by rw [dR ⟨i,hb⟩];exact e⟩
end
structure gP where
 nx:DN→Prop
 rt:D→Prop
 bk:DN→Prop:=λ_=>False
 ct:DN→Prop:=λ_=>False
abbrev dD:=gP→DN→Prop
structure Meets (Z:DC) (B:Bs) (md:List Nat) (rn:Nat) (E:gP) (Dn:Ends):Prop where
 nx:∀ρ,E.nx ρ→∀σ H,SI Z B md ρ σ H→Dn.nx σ H
 rt:∀d,E.rt d→∀v f G' H',Ext B.G₀ B.H₀ G' H'→Own Z G' H' rn v d f→f.Nodup→(∀b∈f,B.H₀ b=none∧H' b≠none∧G' b=none)→Dn.rt v H'
 bk:∀ρ,E.bk ρ→∀σ H,SI Z B md ρ σ H→Dn.bk σ H
 ct:∀ρ,E.ct ρ→∀σ H,SI Z B md ρ σ H→Dn.ct σ H
def ot(Z:DC)(md:List Nat)(rn:Nat)(t:dD):TS:=λDn σ H=>∃(B:Bs)(ρ:DN)(E:gP),SI Z B md ρ σ H∧t E ρ∧Meets Z B md rn E Dn
def DSt(Z:DC)(X:Cx)(md:List Nat)(rn:Nat)(st:Stmt)(t:dD):Prop:=PS X st (ot Z md rn t)
def qp(Z:DC)(X:Cx)(md:List Nat)(rn:Nat)(CW:List Stmt)(t:dD):Prop:=jZ X CW (ot Z md rn t)
theorem PS.imp{X:Cx}{st:Stmt}{t t':TS}(h:PS X st t)(f:∀D σ H,t' D σ H→t D σ H):PS X st t':=λpins s σ H D I q=>h pins s σ H D I (f _ _ _ q)
theorem jZ.imp{X:Cx}{st:List Stmt}{t t':TS}(h:jZ X st t)(f:∀D σ H,t' D σ H→t D σ H):jZ X st t':=λpins s σ H D I q=>h pins s σ H D I (f _ _ _ q)
section
variable {Z:DC} {X:Cx} {md:List Nat} {rn:Nat} {st:Stmt} {CW:List Stmt} {t u:dD} {e:Expr} {te:aT} {pos:Pos}
def GA:dD:=λE ρ=>E.nx ρ
def Q6(t u:dD):dD:=λE ρ=>t {E with nx:=u E} ρ
theorem bT:qp Z X md rn [] GA:=lX.imp λD σ H ⟨B,ρ,E,S,h,M⟩=>M.nx _ h _ _ S
theorem ax(h1:DSt Z X md rn st t)(h2:qp Z X md rn CW u):qp Z X md rn (st::CW) (Q6 t u):=
 (aB h1 h2).imp λD σ H ⟨B,ρ,E,S,h,M⟩=>⟨B,ρ,_,S,h,⟨λaF h' aw H' S'=>⟨B,aF,E,S',h',M⟩,M.rt,M.bk,M.ct⟩⟩
theorem aA(h1:DSt Z X md rn st t):qp Z X md rn [st] t:=aY h1
theorem wD:DSt Z X md rn st (λ_ _=>False):=FQ.imp λD σ H ⟨B,ρ,E,S,h,M⟩=>h
def Q4(te:aT):dD:=λE ρ=>te ρ E.rt
theorem bE(he:DE Z X e te):DSt Z X md 0 (.Return (some e) pos) (Q4 te):=(e7 he).imp λD σ H ⟨B,ρ,E,⟨G,fp,S⟩,h,M⟩=>S.XY h λd hd v G' H' x dv=>M.rt d hd v [] G' H' x ⟨dv,rfl⟩ jW (λb hb=>by cases hb)
def Mh(c:dM)(t u:dD):dD:=λE ρ=>c ρ λb=>if b=true then t E ρ else u E ρ
theorem eJ{c:Expr}{a b:List Stmt}{tc:dM}(hc:DT Z X c tc)(ha:qp Z X md rn a t)(hb:qp Z X md rn b u):DSt Z X md rn (.If c a b pos) (Mh tc t u):=by
 refine (uR hc ha hb).imp ?_;rintro D σ H ⟨B,ρ,E,⟨G,fp,S⟩,h,M⟩;refine S.RG h λb hb H' S'=>?_;cases b with
 |true=>exact fP ⟨B,ρ,E,⟨G,fp,S'⟩,(by simpa using hb),M⟩
 |false=>exact fC ⟨B,ρ,E,⟨G,fp,S'⟩,(by simpa using hb),M⟩
def Mm(md:List Nat)(m:Bool)(i:Nat)(te:aT):dD:=λE ρ=>te (A9 md m ρ) λd=>sV m d∧E.nx (ρ.set i (some d))
theorem dE(m:Bool)(i:Nat){x:Str}{pos':Pos}(hN:X.N.Nodup)(he:DE Z X e te)(hm:md.getD i 0=0:=by rfl)(hi:X.N[i]? =some x:=by rfl)(hx:Loc X.env.scope x:=by first|exact Or.inl rfl|exact Or.inr rfl)(hs:swapsWith e (some (.Name x pos')) pos.line X.env=pure false:=by rfl)
  (hf:X.fn x=true∨X.env.scope.names.lookup x=some .local:=by first|exact .inl rfl|exact .inr rfl|assumption):DSt Z X md rn (.Assign [.Name x pos'] e pos) (Mm md m i te):=by
 refine (bJ hN hi hx he hs hf).imp ?_;rintro D σ H ⟨B,ρ,E,⟨G,fp,S⟩,h,M⟩;exact S.ev m h λd hd=>⟨hd.1,λv G' H' S' x dv=>M.nx _ hd.2 _ _ ⟨G',_,S'.nP hm dv⟩⟩
theorem mO(i:Nat){x:Str}{px rT:Pos}{tg iter elt:Expr}{ifs:List Expr}{scope:Scope}{NC:List Str}{src:List (Option Nat)}{wi:jr}{g:eC}{tt:dM}(hc:X.calm=true)(hN:X.N.Nodup)(c:bb X scope)(fB:cZ scope X.N src NC)(hi:DI Z X tg iter wi)
  (hg:∀ex s H,DG Z (cV X scope NC ex s H) tg g) (ht:∀ex s H,zt Z (cV X scope NC ex s H) ifs tt) (he:∀ex s H,DE Z (cV X scope NC ex s H) elt te)
  (qE:swapsWith (.ListComp elt [⟨tg,iter,ifs,0⟩] scope pos) (some (.Name x px)) rT.line X.env=pure true:=by rfl) (hm:md.getD i 0=0:=by rfl) (fj:X.N[i]? =some x:=by rfl) (hx:Loc X.env.scope x:=by first|exact Or.inl rfl|exact Or.inr rfl)
  (hf:X.fn x=true∨X.env.scope.names.lookup x=some .local:=by first|exact .inl rfl|exact .inr rfl|assumption)
  (hs:∀x,foldedSetIterable iter X.env x=pure x:=by intro _;rfl):DSt Z X md rn (.Assign [.Name x px] (.ListComp elt [⟨tg,iter,ifs,0⟩] scope pos) rT) (Mm md false i (NM wi g tt te src)):=by
 refine (jR hc hN fj hx c fB hi hg ht he qE hf hs).imp ?_;rintro D σ H ⟨B,ρ,E,⟨G,fp,S⟩,h,M⟩;refine D2 σ H _ (S.ev false h λd hd=>⟨hd.1,λv G' H' S' x dv=>M.nx _ hd.2 _ _ ⟨G',_,S'.nP hm dv⟩⟩)
end
end L2
namespace L2
open PySem PySem.Spec PyProof.Rows
section
variable {Z:DC} {X:Cx} {B:Bs} {md:List Nat} {rn:Nat} {ρ:DN} {σ:St} {H G:Hp} {fp:Nat→List Addr}
def D1(Z:DC)(md:List Nat)(g:eC):TG:=λv σ H Q=>∃(B:Bs)(ρ:DN)(d:D)(P:DN→Prop)(G:Hp)(fp:Nat→List Addr),SIx Z B md ρ σ H G fp∧Dv Z G v d∧g d ρ P∧∀aF,P aF→∀aw BI,SIx Z B md aF aw H G BI→Q aw H
def HY(Z:DC)(md:List Nat)(g:kB):vP:=λvs σ H Q=>∃(B:Bs)(ρ:DN)(ds:List D)(P:DN→Prop)(G:Hp)(fp:Nat→List Addr),SIx Z B md ρ σ H G fp∧aq Z G vs ds∧g ds ρ P∧∀aF,P aF→∀aw BI,SIx Z B md aF aw H G BI→Q aw H
def Ex(Z:DC)(X:Cx)(md:List Nat)(e:Expr)(g:eC):Prop:=PG X e (D1 Z md g)
def Dq(Z:DC)(X:Cx)(md:List Nat)(es:List Expr)(g:kB):Prop:=yc X es (HY Z md g)
theorem ba(i:Nat){x:Str}{pos:Pos}(hN:X.N.Nodup)(hm:md.getD i 0=0:=by rfl)(hi:X.N[i]? =some x:=by rfl)(hx:Loc X.env.scope x:=by first|exact Or.inl rfl|exact Or.inr rfl)(hf:X.fn x=true∨X.env.scope.names.lookup x=some .local:=by first|exact .inl rfl|exact .inr rfl|assumption):Ex Z X md (.Name x pos) (mN i):=
 (bI hN hi hx hf).imp λv σ H Q ⟨B,ρ,d,P,G,fp,S,dv,h,q⟩=>q _ h _ _ (S.nP hm dv)
theorem fA:Dq Z X md [] GO:=jP.imp λv σ H Q ⟨B,ρ,ds,P,G,fp,S,dv,⟨h,p⟩,q⟩=>by
 subst h;cases dv;exact ⟨rfl,q _ p _ _ S⟩
theorem bC{e:Expr}{es:List Expr}{g:eC}{gs:kB}(h1:Ex Z X md e g)(h2:Dq Z X md es gs)(hs:(assignEach (e::es) X.env).map (·.2)=assign e X.env::(assignEach es X.env).map (·.2):=by rfl):Dq Z X md (e::es) (DD g gs):=by
 refine (dW h1 h2 hs).imp ?_;rintro v σ H Q ⟨B,ρ,ds,P,G,fp,S,dv,h,q⟩;cases dv with
 |nil=>exact h.elim
 |cons a as=>exact ⟨_,_,rfl,B,ρ,_,_,G,fp,S,a,h,λaF hp aw BI S'=>⟨B,aF,_,P,G,BI,S',as,hp,q⟩⟩
theorem i8(n:Nat){es:List Expr}{k:Nat}{pos:Pos}{gs:kB}(hc:X.calm=true)(h:Dq Z X md es gs)(hn:(assignEach es X.env).length=n:=by rfl)(jH:(assignEach es X.env).findIdx? (·.1)=none:=by rfl):Ex Z X md (.Tuple es k pos) (GP n gs):=by
 refine (m8 hc h hn jH).imp ?_;rintro v σ H Q ⟨B,ρ,d,P,G,fp,S,dv,h,q⟩;cases dv<;>first|exact h.elim|skip
 rename_i a xs ds ha es
 exact ⟨a,xs,rfl,dr.of (S.ex.sub _ _ ha),by rw [es.length];exact h.1,B,ρ,_,P,G,fp,S,es,h.2,q⟩
def QW(md:List Nat)(te:aT)(g:eC):dD:=λE ρ=>te (di md ρ) λd=>g d ρ E.nx
theorem DL{tg e:Expr}{te:aT}{g:eC}{pos:Pos}(he:DE Z X e te)(hg:Ex Z X md tg g)(hs:swapsWithSole [tg] e pos.line X.env=pure false:=by rfl)(hw:swappedStores [tg] e X.env=pure none:=by rfl)
  (h1:(assignEach [tg] X.env).map (·.2)= [assign tg X.env]:=by rfl):DSt Z X md rn (.Assign [tg] e pos) (QW md te g):=by
 refine (m9 he hg hs hw h1).imp ?_;rintro D σ H ⟨B,ρ,E,⟨G,fp,S⟩,h,M⟩;exact S.ev false h λd hd=>⟨trivial,λv G' H' S' x dv=>⟨B,ρ,d,E.nx,G',fp,S',dv,hd,λaF h' aw BI S2=>M.nx _ h' _ _ ⟨G',BI,S2⟩⟩⟩
def nH(g:eC)(tb:dD)(E:gP):List D→DN→Prop
 | [],ρ=>E.nx ρ
 |x::xs,ρ=>g x ρ λbo=>tb {nx:=nH g tb E xs,ct:=nH g tb E xs,bk:=E.nx,rt:=E.rt} bo
def Mg(md:List Nat)(m:Bool)(wi:jr)(g:eC)(tb:dD):dD:=λE ρ=>wi (A9 md m ρ) λds=>nH g tb E ds ρ
theorem wU{D':Ends}{J:It}{ds:List D}{g:eC}{tb:dD}{E:gP}(S:SIx Z B md ρ σ H G fp)(it:tF Z G J ds)(hd:nH g tb E ds ρ)(M:Meets Z B md rn E D'):
  ∃W:Nat→Nat→St→Hp→Prop,(∃m,W 0 m σ H)∧∀i m σ H,W i m σ H→
   (J.stop i H∧D'.nx σ H)∨(J.go i H∧∃N:St→Hp→Prop,(∀aw H',N aw H'→∃m',m'<m∧W (i+1) m' aw H')∧∀x H',J.yld i H x H'→D1 Z md g x σ H' λcD H2=>ot Z md rn tb {D' with nx:=N,ct:=N,bk:=D'.nx} cD H2):=by
 let B1:Bs:={B with Gf:=G}
 have back:∀ρ σ H,SI Z B1 md ρ σ H→SI Z B md ρ σ H:=λρ σ H ⟨G2,BJ,S2⟩=>⟨G2,BJ,⟨S2.ex,S.fl.trans S2.fl,S2.len,S2.at_,S2.nd,S2.ap,S2.nw⟩⟩;have S1:SIx Z B1 md ρ σ H G fp:=⟨S.ex, .refl _,S.len,S.at_,S.nd,S.ap,S.nw⟩;refine ⟨λi m σ H=>m=ds.length-i∧i≤ds.length∧∃ρ,SI Z B1 md ρ σ H∧nH g tb E (ds.drop i) ρ,⟨_,rfl,cM _,ρ,⟨G,fp,S1⟩,hd⟩,?_⟩;rintro i m cD H2 ⟨rfl,hi,eE,⟨G2,BJ,S2⟩,hf⟩;obtain ⟨go,stop,yld⟩:=it G2 H2 S2.fl S2.ex.sub i
 by_cases br:i<ds.length
 ·refine .inr ⟨go br,λaw H'=>∃aF,SI Z B1 md aF aw H'∧nH g tb E (ds.drop (i+1)) aF,λaw H' n=>⟨ds.length-(i+1),by omega,rfl,br,n⟩,λx H' y=>?_⟩
  obtain ⟨G3,d,x3,Oq,dv⟩:=yld x H' br y;rw [oZ Oq] at hf;refine ⟨B1,eE,d,_,G3,BJ,S2.grow x3,dv,hf,λρ4 h4 cT X2 S4=>?_⟩;exact ⟨B1,ρ4,_,⟨G3,X2,S4⟩,h4,⟨λaF h' aw H' s'=>⟨aF,s',h'⟩,M.rt,λaF h' aw H' s'=>M.nx _ h' _ _ (back _ _ _ s'),λaF h' aw H' s'=>⟨aF,s',h'⟩⟩⟩
 ·have e:ds.drop i= []:=Bh (by omega)
  rw [e] at hf;exact .inl ⟨stop (by omega),M.nx _ hf _ _ (back _ _ _ ⟨G2,BJ,S2⟩)⟩
variable {tg iter:Expr} {body:List Stmt} {wi:jr} {g:eC} {tb:dD} {pos:Pos}
theorem fL(hc:X.calm=true)(hp:PassesOwn (model X.prog X.w) X.A X.env X.xe)(hi:DI Z X tg iter wi)(hg:Ex Z X md tg g)(hb:qp Z X md rn body tb)
  (hs:∀x,foldedSetIterable iter X.env x=pure x:=by intro _;rfl):DSt Z X md rn (.For tg iter body [] pos) (Mg md false wi g tb):=by
 refine (h8 hp hc hi hg hb hs).imp ?_;rintro D σ H ⟨B,ρ,E,⟨G,fp,S⟩,h,M⟩;exact ⟨G,_,_,S.ex.sub,S.zY,h,λds hd J G1 H1 x1 it=>wU (S.grow x1) it hd M⟩
def KD(Z:DC)(wi:jr):TI:=λσ H R=>∃(G:Hp)(ρ:DN)(P:List D→Prop),az G H∧cY Z G σ ρ∧wi ρ P∧∀ds,P ds→∀J G' H',Ext G H G' H'→(∀G2,tF Z G2 J ds)→R J H'
def P7(Z:DC)(X:Cx)(tg e:Expr)(wi:jr):Prop:=PI X tg e (KD Z wi)
theorem GR(hc:X.calm=true)(hp:PassesOwn (model X.prog X.w) X.A X.env X.xe)(hi:P7 Z X tg iter wi)(hg:Ex Z X md tg g)(hb:qp Z X md rn body tb)
  (hs:∀x,foldedSetIterable iter X.env x=pure x:=by intro _;rfl):DSt Z X md rn (.For tg iter body [] pos) (Mg md true wi g tb):=by
 refine (h8 hp hc hi hg hb hs).imp ?_;rintro D σ H ⟨B,ρ,E,⟨G,fp,S⟩,h,M⟩;exact ⟨H,ρ,_, .refl _,S.Mq,h,λds hd J G1 H1 x1 it=>wU (S.grow (Ext.all S.ex.sub x1)) (it _) hd M⟩
variable {a b e:Expr} {ta te:aT} {t:hJ}
theorem BC{p:Pos}(hg:Gl X "range")(hm:X.mg "range"=none)(ha:DA Z X [a] t)(hs:starEach [a] X.env= [(false,eval a X.env)]:=by rfl):P7 Z X tg (.Call (.Name "range" p) [a] [] pos) (Mn t):=by
 refine (iL hg hm ha hs).imp ?_;rintro σ H Q ⟨G,ρ,P,s,en,h,q⟩;refine ⟨G,ρ,_,s,en,h,λds hd vs G1 H1 x1 dv=>?_⟩
 split at hd
 ·obtain ⟨_,rfl,a⟩:=dv.ofOne
  exact ⟨_,by rw [a.ofInt],hd.1.1,hd.1.2,q _ hd.2 _ G1 H1 x1 λ_=>w4 0 _⟩
 ·exact hd.elim
def Dy(c:dM)(tb:dD):dD:=λE ρ=>∃W:Nat→DN→Prop,(∃m,W m ρ)∧∀m ρ,W m ρ→c ρ λb=>if b=true then tb {nx:=λaF=>∃m',m'<m∧W m' aF,ct:=λaF=>∃m',m'<m∧W m' aF,bk:=E.nx,rt:=E.rt} ρ else E.nx ρ
theorem wG{c:Expr}{tc:dM}(hp:PassesOwn (model X.prog X.w) X.A X.env X.xe)(hc:DT Z X c tc)(hb:qp Z X md rn body tb):DSt Z X md rn (.While c body [] pos) (Dy tc tb):=by
 refine (xv hp hc hb).imp ?_;rintro D σ H ⟨B,ρ,E,S,⟨W,⟨m0,w0⟩,turn⟩,M⟩;refine ⟨λm σ H=>∃ρ,SI Z B md ρ σ H∧W m ρ,⟨m0,ρ,S,w0⟩,?_⟩;rintro m cD H2 ⟨eE,⟨G2,BJ,S2⟩,w2⟩;refine S2.RG (turn m eE w2) λb hb H' S'=>?_;cases b with
 |false=>exact fC (M.nx _ (by simpa using hb) _ _ ⟨G2,BJ,S'⟩)
 |true=>
  refine fP ⟨λaw H'=>∃aF m',m'<m∧SI Z B md aF aw H'∧W m' aF,λaw H' ⟨aF,m',h1,h2,h3⟩=>⟨m',h1,aF,h2,h3⟩,B,eE,_,⟨G2,BJ,S'⟩,(by simpa using hb),?_⟩
  exact ⟨λaF ⟨m',h1,h2⟩ aw H' s'=>⟨aF,m',h1,s',h2⟩,M.rt,M.nx,λaF ⟨m',h1,h2⟩ aw H' s'=>⟨aF,m',h1,s',h2⟩⟩
abbrev nk:=DN→(List D→Prop)→Prop
def Cf(Z:DC)(n:Nat)(t:nk):TE:=λσ H Q=>∃(G:Hp)(ρ:DN)(P:List D→Prop),az G H∧cY Z G σ ρ∧t ρ P∧∀ds,P ds→∀v f G' H',Ext G H G' H'→Own Z G' H' n v (.lst ds) f→f.Nodup→(∀b∈f,H b=none∧H' b≠none∧G' b=none)→Q v H'
def DF(Z:DC)(X:Cx)(n:Nat)(e:Expr)(t:nk):Prop:=PE X e (Cf Z n t)
theorem Ext.side{p:Addr}{o:HO}{G1 H1:Hp}(x:Ext G H G1 H1)(hp:H1 p=none):Ext G H G1 (upd H1 p o):=
 ⟨x.gg,λb u e=>by rw [ae (ah e (x.sub.free hp))];exact x.sub _ _ e,x.hh.trans (av hp _),x.off⟩
theorem II{p:Addr}{xs:List V}{ds:List D}{G1 H1:Hp}(x:Ext G H G1 H1)(hp:H1 p=none)(dv:aq Z G1 xs ds):
  Own Z G1 (upd H1 p (.lst xs)) 1 (.ref p) (.lst ds) [p]∧([p]:List Addr).Nodup∧∀b∈([p]:List Addr),H b=none∧(upd H1 p (.lst xs)) b≠none∧G1 b=none:=by
 refine ⟨.inl ⟨p,xs,ds,[],rfl,rfl,ab,rfl,dv.own⟩,by simp,λb hb=>?_⟩
 have:b=p:=by simpa using hb
 subst this;exact ⟨x.hh.free hp,(by rw [ab];exact λz=>nomatch z),x.sub.free hp⟩
def Ms(t:hJ):nk:=λρ P=>t ρ λds=>ds.length≤sizeLine∧P ds
theorem sR{es:List Expr}(h:DA Z X es t):DF Z X 1 (.List es pos) (Ms t):=by
 refine (dH h).imp ?_;rintro σ H Q ⟨G,ρ,P,s,e,h,q⟩;refine ⟨G,ρ,_,s,e,h,?_⟩;rintro ds ⟨hl,hp⟩ vs G1 H1 x1 bg;refine ⟨by rw [bg.length];exact hl,λp Ag=>?_⟩
 obtain ⟨o1,o2,o3⟩:=II x1 Ag bg;exact q _ hp _ _ _ _ (x1.side Ag) o1 o2 o3
def N3(wi:jr)(g:eC)(tt:dM)(te:aT)(src:List (Option Nat)):nk:=λρ P=>wi ρ λds=>lcW g tt te ds (xI src ρ) [] λ_ out=>P out
theorem Aw{src:List (Option Nat)}{tt:dM}:∀σ H Q,Cf Z 1 (N3 wi g tt te src) σ H Q→LI (uB Z wi) (qK Z g) (liftT Z tt) (df Z te) src σ H Q:=by
 rintro σ H Q ⟨G,ρ,P,s,en,h,q⟩;refine ⟨G,ρ,_,s,en,h,λds hd J G1 H1 x1 it Ad hA=>?_⟩;refine ⟨λi m cD H2=>m=ds.length-i∧i≤ds.length∧∃eE acc,CS Z G1 H1 Ad eE acc cD H2∧lcW g tt te (ds.drop i) eE acc λ_ out=>P out,⟨_,rfl,cM _,_,[], .begin x1.sub hA ((en.mono x1.gg).src src),hd⟩,?_⟩;rintro i m cD H2 ⟨rfl,hi,eE,acc,c,hl⟩
 by_cases br:i<ds.length
 ·obtain ⟨go,turn⟩:=xg hA G1 it i eE acc cD H2 c (λ_ s=>s) br hl
  exact .inr ⟨go,_,λaw H' n=>⟨ds.length-(i+1),by omega,rfl,br,n⟩,turn⟩
 ·have e:ds.drop i= []:=Bh (by omega)
  rw [e] at hl;obtain ⟨G2,ys,s1,s2,s3,off,gA,sC,bg,en⟩:=c;refine .inl ⟨(it G2 H2 s1 s2 i).2.1 (by omega),q _ hl (.ref Ad) [Ad] G2 H2 ⟨x1.gg.trans s1,s2,x1.hh.trans s3,λb hb hg=>off b (gL x1.hh hb) (x1.off b hb hg)⟩ (.inl ⟨Ad,ys,acc,[],rfl,rfl,sC,rfl,bg.own⟩) (by simp) λb hb=>?_⟩
  have:b=Ad:=by simpa using hb
  subst this;exact ⟨x1.hh.free hA,(by rw [sC];exact λz=>nomatch z),gA⟩
variable {elt:Expr} {ifs:List Expr} {scope:Scope} {NC:List Str} {src:List (Option Nat)} {tt:dM}
def Ml(md:List Nat)(i:Nat)(t:nk):dD:=λE ρ=>t (di md ρ) λds=>E.nx (ρ.set i (some (.lst ds)))
theorem xp{n i:Nat}{t:nk}{D':Ends}{E:gP}(hm:md.getD i 0=n)(S:SIx Z B md ρ σ H G fp)(h:t (di md ρ) λds=>E.nx (ρ.set i (some (.lst ds))))(M:Meets Z B md rn E D'):Cf Z n t σ H λv H'=>D'.nx (σ.set i (some v)) H':=by
 refine ⟨G,_,_,S.ex.sub,S.zY,h,λds hd v f G' H' x o nd nw=>?_⟩;refine M.nx _ hd _ _ ⟨G',_,(S.grow x).M3 hm o nd (λb hb=>⟨S.ex.hh.free (nw b hb).1,(nw b hb).2⟩) λb hb j _ hj=>(S.nw j b hj).2.1 (nw b hb).1⟩
theorem o9(i:Nat){n:Nat}{x:Str}{pos':Pos}{t:nk}(hN:X.N.Nodup)(he:DF Z X n e t)(hm:md.getD i 0=n:=by rfl)(hi:X.N[i]? =some x:=by rfl)(hx:Loc X.env.scope x:=by first|exact Or.inl rfl|exact Or.inr rfl)(hs:swapsWith e (some (.Name x pos')) pos.line X.env=pure false:=by rfl)
  (hf:X.fn x=true∨X.env.scope.names.lookup x=some .local:=by first|exact .inl rfl|exact .inr rfl|assumption):DSt Z X md rn (.Assign [.Name x pos'] e pos) (Ml md i t):=by
 refine (bJ hN hi hx he hs hf).imp ?_;rintro D σ H ⟨B,ρ,E,⟨G,fp,S⟩,h,M⟩;exact xp hm S h M
theorem ER(i:Nat){x:Str}{px rT:Pos}(hc:X.calm=true)(hN:X.N.Nodup)(c:bb X scope)(fB:cZ scope X.N src NC)(hi:DI Z X tg iter wi)
  (hg:∀ex s H,DG Z (cV X scope NC ex s H) tg g) (ht:∀ex s H,zt Z (cV X scope NC ex s H) ifs tt) (he:∀ex s H,DE Z (cV X scope NC ex s H) elt te)
  (qE:swapsWith (.ListComp elt [⟨tg,iter,ifs,0⟩] scope pos) (some (.Name x px)) rT.line X.env=pure true:=by rfl) (hm:md.getD i 0=1:=by rfl) (fj:X.N[i]? =some x:=by rfl) (hx:Loc X.env.scope x:=by first|exact Or.inl rfl|exact Or.inr rfl)
  (hf:X.fn x=true∨X.env.scope.names.lookup x=some .local:=by first|exact .inl rfl|exact .inr rfl|assumption)
  (hs:∀x,foldedSetIterable iter X.env x=pure x:=by intro _;rfl):DSt Z X md rn (.Assign [.Name x px] (.ListComp elt [⟨tg,iter,ifs,0⟩] scope pos) rT) (Ml md i (N3 wi g tt te src)):=by
 refine (jR hc hN fj hx c fB hi hg ht he qE hf hs).imp ?_;rintro D σ H ⟨B,ρ,E,⟨G,fp,S⟩,h,M⟩;exact Aw σ H _ (xp hm S h M)
end
section
variable {Z:DC} {X:Cx} {B:Bs} {md:List Nat} {rn:Nat} {ρ:DN} {σ:St} {H G:Hp} {fp:Nat→List Addr} {a e k o:Expr} {ta te tk tp:aT} {pos apos aN p2:Pos}
theorem SIx.mut{i:Nat}{v:V}{d':D}{b:Addr}{c:HO}(S:SIx Z B md ρ σ H G fp)(hi:σ[i]? =some (some v))(hb:b∈fp i)(o:Own Z G (upd H b c) (md.getD i 0) v d' (fp i)):SIx Z B md (ρ.set i (some d')) σ (upd H b c) G fp where
 ex:=by
  obtain ⟨h1,h2,h3⟩:=S.nw i b hb;exact ⟨S.ex.gg,λx u e=>by rw [ae (ah e h3)];exact S.ex.sub _ _ e,λx u e=>by rw [ae (ah e h1)];exact S.ex.hh _ _ e,S.ex.off⟩
 fl:=S.fl
 len:=by rw [gb];exact S.len
 at_:=λj w h=>by
  by_cases z:i=j
  ·subst z
   by_cases hl:i<ρ.length
   ·rw [kN hl] at h
    cases h;exact ⟨v,hi,o⟩
   ·rw [xQ (jo hl),fG (jo hl)] at h;cases h
  ·rw [kO z] at h
   obtain ⟨u,hu,ow⟩:=S.at_ j w h;exact ⟨u,hu,ow.keep (.refl _) λx hx=>ae λq=>S.ap i j b z hb (by rw [←q];exact hx)⟩
 nd:=S.nd
 ap:=S.ap
 nw:=λj x hx=>by
  obtain ⟨h1,h2,h3⟩:=S.nw j x hx;refine ⟨h1,?_,h3⟩
  by_cases z:x=b
  ·rw [z,ab];exact λq=>nomatch q
  ·rw [ae z];exact h2
theorem SIx.one{i:Nat}{d:D}(S:SIx Z B md ρ σ H G fp)(hm:md.getD i 0=1)(h:ρ[i]? =some (some d)):∃l xs ds,d= .lst ds∧σ[i]? =some (some (.ref l))∧H l=some (.lst xs)∧aq Z G xs ds∧
  ∀sO t9,aq Z G sO t9→SIx Z B md (ρ.set i (some (.lst t9))) σ (upd H l (.lst sO)) G fp:=by
 obtain ⟨v,hv,o⟩:=S.at_ i d h;rw [hm] at o;obtain ⟨l,xs,ds,eZ,rfl,rfl,hl,hf,ol⟩:=o.one;obtain ⟨dv,rfl⟩:=ol.flat;refine ⟨l,xs,ds,rfl,hv,hl,dv,λsO t9 yp=>S.mut hv (by rw [hf];simp) ?_⟩
 rw [hm,hf];exact .inl ⟨l,sO,t9,[],rfl,rfl,ab,rfl,yp.own⟩
theorem ty_list{K:PySem.W.Frag}{l:Addr}{xs:List V}(h:H l=some (.lst xs)):LM K "list" (.ref l) H:= .inl ⟨rfl,_,aC.of h⟩
def QV(md:List Nat)(m:Bool)(i:Nat)(te:aT):dD:=λE ρ=>∃ds,ρ[i]? =some (some (.lst ds))∧te (A9 md m ρ) λd=>sV m d∧ds.length<sizeLine∧E.nx (ρ.set i (some (.lst (ds++ [d]))))
theorem DK(m:Bool)(i:Nat){x:Str}{px:Pos}(he:DE Z X e te)(hm:md.getD i 0=1:=by rfl)(hi:X.N[i]? =some x:=by rfl)(hv:sq X.env.scope x:=by first|exact Or.inl rfl|exact Or.inr (Or.inl rfl) |exact Or.inr (Or.inr rfl))(hd:(x==("__debug__":Str))=false:=by decide)(gq:(x==("__classdict__":Str))=false:=by decide)
  (dF:attributeBase (.Name x px) "append" X.env (eval (.Name x px) X.env)=eval (.Name x px) X.env:=by rfl)
  (iG:((backTo aN (starEach [e] X.env)).all (λx=>!x.1)&&(backToKw aN (keywordEach [] X.env)).all (λx=>x.1.isSome)&&decide (([e]:List Expr).length+([]:List Keyword).length+(if ([]:List Keyword).isEmpty then 0 else 1)<30))=true:=by rfl)
  (cA:(apos.endLine==aN.line)=true:=by rfl) (hs:starEach [e] X.env=(false,eval e X.env)::starEach [] X.env:=by rfl) (dG:(backTo aN (starEach [] X.env)).any (·.1)=false:=by rfl)
  (qE:swapsWith (.Call (.Attribute (.Name x px) "append" apos) [e] [] aN) none pos.line X.env=pure false:=by rfl):
  DSt Z X md rn (.Expr (.Call (.Attribute (.Name x px) "append" apos) [e] [] aN) pos) (QV md m i te):=by
 refine (dh (fh PySem.F.plainAttrs_list PySem.F.slot_list_append PySem.F.type_list_append gw (pv i hi hv hd gq) (aa he ar hs) dF iG cA hs dG) qE).imp ?_;rintro D σ H ⟨B,ρ,E,⟨G,fp,S⟩,⟨ds,h1,h⟩,M⟩;obtain ⟨l,xs,_,_,e2,e3,_⟩:=S.one hm h1;refine ⟨_,e2,ty_list e3,S.ev m h λd hd=>⟨hd.1,λv G' H' S' x dv=>?_⟩⟩;obtain ⟨_,h2,h3⟩:=hd;obtain ⟨l',sO,t9,e1,qA,NZ,bg,put⟩:=S'.one hm h1;cases e1;rw [e2] at qA;cases qA;exact ⟨l,sO,v,rfl,rfl,NZ,by rw [bg.length];exact h2,M.nx _ h3 _ _ ⟨G',fp,put _ _ (bg.snoc dv)⟩⟩
theorem aq.ins{vs:List V}{ds:List D}{v:V}{d:D}(n:Nat)(h:aq Z G vs ds)(dv:Dv Z G v d):aq Z G (Wb.ins vs n v) (Wb.ins ds n d):=(h.take n).append (.cons dv (h.drop n))
def JS(md:List Nat)(m:Bool)(i:Nat)(tk te:aT):dD:=λE ρ=>te (A9 md m ρ) λd=>sV m d∧∃ds,ρ[i]? =some (some (.lst ds))∧tk ρ λkk=>∃k j,kk= .int k∧nA ds.length k=some j∧E.nx (ρ.set i (some (.lst (ds.set j d))))
theorem wF(m:Bool)(i:Nat){x:Str}{px ps:Pos}(hk:DE Z X k tk)(he:DE Z X e te)(hm:md.getD i 0=1:=by rfl)(hi:X.N[i]? =some x:=by rfl)(hv:sq X.env.scope x:=by first|exact Or.inl rfl|exact Or.inr (Or.inl rfl) |exact Or.inr (Or.inr rfl))(hd:(x==("__debug__":Str))=false:=by decide)(gq:(x==("__classdict__":Str))=false:=by decide)
  (ha:∀v,assign (.Subscript (.Name x px) k ps) X.env v=(do
   let ov ←holding [v] (eval (.Name x px) X.env)
   let iv ←holding [v,ov] (eval k X.env)
   standAt ps
   holding [v,ov,iv] (setItem ov iv v)
   release [v,ov,iv] []):=by intro _;rfl)
  (hs:swapsWithSole [.Subscript (.Name x px) k ps] e pos.line X.env=pure false:=by rfl) (hw:swappedStores [.Subscript (.Name x px) k ps] e X.env=pure none:=by rfl)
  (h1:(assignEach [.Subscript (.Name x px) k ps] X.env).map (·.2)= [assign (.Subscript (.Name x px) k ps) X.env]:=by rfl):DSt Z X md rn (.Assign [.Subscript (.Name x px) k ps] e pos) (JS md m i tk te):=by
 refine (m9 he (yZ (pv i hi hv hd gq) hk set_list ha) hs hw h1).imp ?_;rintro D σ H ⟨B,ρ,E,⟨G,fp,S⟩,h,M⟩;refine S.ev m h λd hd=>⟨hd.1,λv G' H' S' x dv=>?_⟩;obtain ⟨_,ds,h1,h⟩:=hd;obtain ⟨l,xs,_,_,e2,e3,_⟩:=S'.one hm h1;refine ⟨_,e2,S'.ev true h ?_⟩;rintro _ ⟨k,j,rfl,hj,h3⟩;refine ⟨rfl,λv1 G1 H1 S1 x1 NW=>?_⟩;cases NW;obtain ⟨l',sO,t9,e1,qA,NZ,bg,put⟩:=S1.one hm h1;cases e1;rw [e2] at qA;cases qA;exact ⟨l,sO,k,j,rfl,rfl,NZ,by rw [bg.length];exact hj,M.nx _ h3 _ _ ⟨G1,fp,put _ _ (bg.set (dv.mono x1.gg) j)⟩⟩
def Q2(md:List Nat)(i j:Nat):dD:=λE ρ=>∃ds d,ρ[j]? =some (some (.lst (ds++ [d])))∧E.nx ((ρ.set j (some (.lst ds))).set i (some d))
theorem J0(i j:Nat){x y:Str}{px py:Pos}(hN:X.N.Nodup)(hm:md.getD i 0=0:=by rfl)(Ae:md.getD j 0=1:=by rfl)(hi:X.N[i]? =some x:=by rfl)(hx:Loc X.env.scope x:=by first|exact Or.inl rfl|exact Or.inr rfl)
  (hj:X.N[j]? =some y:=by rfl) (hv:sq X.env.scope y:=by first|exact Or.inl rfl|exact Or.inr (Or.inl rfl) |exact Or.inr (Or.inr rfl)) (hd:(y==("__debug__":Str))=false:=by decide) (gq:(y==("__classdict__":Str))=false:=by decide)
  (dF:attributeBase (.Name y py) "pop" X.env (eval (.Name y py) X.env)=eval (.Name y py) X.env:=by rfl) (cA:(apos.endLine==aN.line)=true:=by rfl)
  (hs:swapsWith (.Call (.Attribute (.Name y py) "pop" apos) [] [] aN) (some (.Name x px)) pos.line X.env=pure false:=by rfl)
  (hf:X.fn x=true∨X.env.scope.names.lookup x=some .local:=by first|exact .inl rfl|exact .inr rfl|assumption):DSt Z X md rn (.Assign [.Name x px] (.Call (.Attribute (.Name y py) "pop" apos) [] [] aN) pos) (Q2 md i j):=by
 refine (bJ hN hi hx (K2 PySem.F.plainAttrs_list PySem.F.slot_list_pop PySem.F.type_list_pop KI (pv j hj hv hd gq) dF cA) hs hf).imp ?_;rintro D σ H ⟨B,ρ,E,⟨G,fp,S⟩,⟨ds,d,h1,h⟩,M⟩;obtain ⟨l,xs,t9,e1,e2,e3,bg,put⟩:=S.one Ae h1;cases e1;have hl:xs.length=ds.length+1:=by rw [bg.length];simp
 obtain ⟨v,HL,dv⟩:=bg.get (i:=xs.length-1) (d:=d) (by rw [hl];simp)
 refine ⟨_,e2,ty_list e3,l,xs,v,rfl,rfl,e3,HL,M.nx _ h _ _ ⟨G,_,(put xs.dropLast ds ?_).nP hm dv⟩⟩
 have:=bg.take ds.length
 rw [List.take_left'] at this
 ·rw [List.dropLast_eq_take,hl];exact this
 ·rfl
theorem SIx.Ll{j:Nat}{d:D}(S:SIx Z B md ρ σ H G fp)(h:ρ[j]? =some (some d)):∃v,σ[j]? =some (some v)∧Dv Z (plus G H λb=>b∈fp j) v d∧SIx Z B md (ρ.set j none) σ H (plus G H λb=>b∈fp j) (λk=>if k=j then [] else fp k):=by
 have s:=S.ex.sub;obtain ⟨v,hv,o⟩:=S.at_ j d h;refine ⟨v,hv,o.dv (dX s) λb hb u e=>by rw [dR hb];exact e,?_⟩
 refine ⟨⟨S.ex.gg.trans (dX s),iu s,S.ex.hh,λb hb hg=>?_⟩,S.fl.trans (dX s),by rw [gb];exact S.len,λk c hk=>?_,λk=>by split;exact jW;exact S.nd k,λk k' b ne hk fe=>?_,λk b hb=>?_⟩
 ·rw [cq (λz=>hb (S.nw j b z).1)];exact S.ex.off b hb hg
 ·by_cases z:j=k
  ·subst z
   by_cases hl:j<ρ.length
   ·rw [kN hl] at hk;cases hk
   ·rw [xQ (jo hl),fG (jo hl)] at hk;cases hk
  ·rw [kO z] at hk
   obtain ⟨u,hu,ow⟩:=S.at_ k c hk;exact ⟨u,hu,by rw [if_neg (Ne.symm z)];exact ow.keep (dX s) λ_ _=>rfl⟩
 ·split at hk
  ·cases hk
  ·split at fe
   ·cases fe
   ·exact S.ap k k' b ne hk fe
 ·split at hb
  ·cases hb
  ·next z=>
   obtain ⟨h1,h2,h3⟩:=S.nw k b hb;exact ⟨h1,h2,by rw [cq (λw=>S.ap k j b z hb w)];exact h3⟩
end
structure P5 (mg:Str→Option Value):Prop where
 len:mg "len"=none
 range:mg "range"=none
 max:mg "max"=none
 min:mg "min"=none
 enumerate:mg "enumerate"=none
 zip:mg "zip"=none
 sorted:mg "sorted"=none
 all:mg "all"=none
 isinstance:mg "isinstance"=none
 int:mg "int"=none
 bool:mg "bool"=none
 list:mg "list"=none
 tuple:mg "tuple"=none
 sum:mg "sum"=none
 reversed:mg "reversed"=none
theorem JL:bootBuiltins "min"=some (.builtin "min"):=by decide+kernel
theorem Gq:bootBuiltins "bool"=some (.type "bool"):=by decide+kernel
theorem JK:bootBuiltins "int"=some (.type "int"):=by decide+kernel
theorem tJ:bootBuiltins "list"=some (.type "list"):=by decide+kernel
theorem iA:bootBuiltins "sorted"=some (.builtin "sorted"):=by decide+kernel
theorem iY:bootBuiltins "len"=some (.builtin "len"):=by decide+kernel
section
variable {P:Program} {w:World} {K:PySem.W.Frag} {mg:Str→Option Value} {base:Heap} {Z:DC}
def tq(N:List Str)(ds:List D):DN:=ds.map some++List.replicate (N.length-ds.length) none
def iI(Z:DC)(n:Nat)(sd:eF):Sp:=λvs H Q _=>∃(G:Hp)(ds:List D)(P:D→Prop),az G H∧aq Z G vs ds∧sd ds P∧∀d,P d→∀v f G' H',Ext G H G' H'→Own Z G' H' n v d f→f.Nodup→(∀b∈f,H b=none∧H' b≠none∧G' b=none)→Q v H'
theorem Own.pure{n:Nat}{v:V}{d:D}{f:List Addr}{G H G' H':Hp}(x:Ext G H G' H')(o:Own Z G' H' n v d f)(nw:∀b∈f,H b=none∧H' b≠none∧G' b=none):∃G2,Ext G H G2 H'∧Dv Z G2 v d:=by
 refine ⟨plus G' H' λb=>b∈f,⟨x.gg.trans (dX x.sub),iu x.sub,x.hh,λb hb hg=>?_⟩,o.dv (dX x.sub) λb hb u e=>by rw [dR hb];exact e⟩
 rw [cq (λz=>hb (nw b z).1)];exact x.off b hb hg
theorem F4{n:Nat}{sd:eF}:∀vs H Q E,aZ Z sd vs H Q E→iI Z n sd vs H Q E:=by
 rintro vs H Q E ⟨G,ds,P,s,dv,h,q⟩;exact ⟨G,ds,P,s,dv,h,λd hd v f G' H' x o nd nw=>let ⟨G2,x2,BE⟩:=o.pure x nw;q d hd v G2 H' x2 BE⟩
theorem wO(rn:Nat){x qual:Str}{st:Stmt}{f:Addr}{fd:FuncData}{N ps:List Str}{k:Nat}{sd:eF}(F:vO K x qual st f fd)(S:aI N ps (ao st))(md:List Nat)(OI:∀i,i<ps.length→md.getD i 0=0)(len:∀ds P,sd ds P→ds.length=ps.length)
  (oh:∀(bp:Value)(A:Around)(outer:List Env)(s:Shared)(H:Hp)(E:XK)(ds:List D)(R:D→Prop),bO k (A.deeper (envOfC qual (ao st) s.heap.objs.size f bp))→sd ds R→
   ∃t,qp Z (oV bQ P w K mg base N qual (ao st) f bp A outer s H E).iV md rn (eH st) t∧t {nx:=λ_=>rn=0∧R .aM,rt:=R} (tq N ds)):FnOk P w K mg base bQ (k+1) f fd ps (iI Z rn sd):=by
 refine F.ok S (λvs H Q E h=>?_) (λbp A outer s H vs Q E hr h=>?_)
 ·obtain ⟨G,ds,R,s,dv,h,q⟩:=h
  rw [dv.length];exact len _ _ h
 obtain ⟨G,ds,R,s0,dv,h,q⟩:=h;have SX:=q;obtain ⟨t,ht,hq⟩:=oh bp A outer s H E ds R hr h;have hl:=len _ _ h;refine ⟨_,ht,⟨G,H,G⟩,_,_,⟨G,λ_=> [],?_⟩,hq,⟨λρ Tj aw H' ⟨G',fp,S'⟩=>q _ Tj.2 _ [] G' H' S'.ex (by rw [Tj.1];exact ⟨.aM,rfl⟩) jW (λb hb=>by cases hb),SX,λ_ z=>z.elim,λ_ z=>z.elim⟩⟩
 refine ⟨.refl s0, .refl _,by unfold tq start;simp [dv.length],λi d hi=>?_,λ_=>jW,(λ_ _ _ _ z=>by cases z),(λ_ _ z=>by cases z)⟩
 unfold tq at hi
 have BS:i<ds.length:=by
  apply Classical.byContradiction;intro z;rw [ji (by simpa using jo z),Bg] at hi
  split at hi<;>cases hi
 rw [jj (by simpa using BS),dq] at hi
 have qB:ds[i]? =some d:=by
  cases z:ds[i]? with
  |none=>rw [z] at hi;cases hi
  |some d'=>rw [z] at hi;cases hi;rfl
 obtain ⟨v,hv,yp⟩:=dv.get qB;refine ⟨v,?_,by rw [OI i (by omega)];exact ⟨yp,rfl⟩⟩
 unfold start;rw [jj (by simpa [dv.length] using BS),dq,hv];rfl
theorem bZ{x qual:Str}{st:Stmt}{f:Addr}{fd:FuncData}{N ps:List Str}{k:Nat}{sd:eF}(F:vO K x qual st f fd)(S:aI N ps (ao st))(md:List Nat)(OI:∀i,i<ps.length→md.getD i 0=0)(len:∀ds P,sd ds P→ds.length=ps.length)
  (oh:∀(bp:Value)(A:Around)(outer:List Env)(s:Shared)(H:Hp)(E:XK)(ds:List D)(R:D→Prop),bO k (A.deeper (envOfC qual (ao st) s.heap.objs.size f bp))→sd ds R→
   ∃t,qp Z (oV bQ P w K mg base N qual (ao st) f bp A outer s H E).iV md 0 (eH st) t∧t {nx:=λ_=>0=0∧R .aM,rt:=R} (tq N ds)):FnOk P w K mg base bQ (k+1) f fd ps (aZ Z sd):=
 (wO 0 F S md OI len λbp A outer s H E ds R hr h=>let ⟨t,a,b⟩:=oh bp A outer s H E ds R hr h;⟨t,a,b⟩).imp F4
end
section
variable {Z:DC} {X:Cx} {a b c e o:Expr} {ta tb te:aT} {t:hJ} {es:List Expr} {pos apos:Pos}
theorem lA{G:Hp}:∀{vs:List V}{ns:List Int},aq Z G vs (ns.map D.int)→vs=ns.map V.int
 |vs,[],h=>by cases h;rfl
 |vs,b::bs,h=>by
  cases h with
  |cons a as=>cases a;rw [lA as];rfl
def pairD(k:Nat×Nat):D:= .tup [.int (k.1:Nat), .int (k.2:Nat)]
def JJ:eF:=λds P=>∃ns:List (Nat×Nat),ds= [.lst (ns.map pairD)]∧ns.length≤1000∧∀ms:List (Nat×Nat),ms.Perm ns→ms.Pairwise Wb.lexLe→P (.lst (ms.map pairD))
theorem wH{G:Hp}:∀{vs:List V}{ns:List (Nat×Nat)},aq Z G vs (ns.map pairD)→∃L:List (Addr×(Nat×Nat)),vs=L.map (λe=>V.ref e.1)∧L.map (·.2)=ns∧nZ G L
 |vs,[],h=>by cases h;exact ⟨[],rfl,rfl,λp hp=>by cases hp⟩
 |vs,n::ns,h=>by
  cases h with
  |cons a as=>
   obtain ⟨L,h1,h2,h3⟩:=wH as;unfold pairD at a;cases a with
   | @tup p xs ds hp e=>
    refine ⟨(p,n)::L,by rw [h1];rfl,by rw [←h2];rfl,λq hq=>?_⟩
    rcases ck.mp hq with rfl|hq
    ·have:xs=fS n:=by
      cases e with
      |cons a1 a2=>
       cases a2 with
       |cons b1 b2=>cases a1;cases b1;cases b2;rfl
     rw [←this];exact hp
    ·exact h3 q hq
theorem nZ.dv{G:Hp}:∀{L:List (Addr×(Nat×Nat))},nZ G L→aq Z G (L.map λe=>V.ref e.1) ((L.map (·.2)).map pairD)
 | [],_=> .nil
 |x::L,h=> .cons (.tup (h x (bY ..)) (.cons (.int _) (.cons (.int _) .nil))) (nZ.dv λp hp=>h p (cu _ hp))
theorem wz:cN X (.builtin "sorted") (kc Z JJ):=by
 refine vR.imp ?_;rintro xs H Q ⟨G,ds,P,s,dv,⟨ns,rfl,hl,hp⟩,q⟩;cases dv with
 |cons a as=>
  cases as;cases a with
  | @lst p sO ds h e=>
   obtain ⟨L,rfl,h2,h3⟩:=wH e;have hL:L.length=ns.length:=by rw [←h2];simp
   refine ⟨_,L,rfl,aC.of (s _ _ h),λp hp=>s _ _ (h3 p hp),by omega,λp M hn m1 m2=>?_⟩
   have pm:(M.map (·.2)).Perm ns:=by rw [←h2];exact m1.map _
   have hM:nZ (upd G p (.lst (M.map λe=>V.ref e.1))) M:=λx hx=>av (s.free hn) _ _ _ (h3 x (m1.mem_iff.mp hx));exact q _ (hp _ pm m2) _ _ _ (.new s hn) (.lst ab hM.dv)
def JR(ta tb:aT):aT:=λρ P=>ta ρ λd=>∃l,d= .lst l∧tb ρ λy=>gS y=true∧l.all gS=true∧∃(j:Nat)(z:D),l[j]? =some z∧i9 z y=true∧(∀(m:Nat) z,m<j→l[m]? =some z→i9 z y=false)∧P (.int (j:Nat))
theorem EK{aN:Pos}(ho:DE Z X o ta)(he:DE Z X e tb)
  (dF:attributeBase o "index" X.env (eval o X.env)=eval o X.env:=by rfl)
  (iG:((backTo aN (starEach [e] X.env)).all (λx=>!x.1)&&(backToKw aN (keywordEach [] X.env)).all (λx=>x.1.isSome)&&decide (([e]:List Expr).length+([]:List Keyword).length+(if ([]:List Keyword).isEmpty then 0 else 1)<30))=true:=by rfl)
  (cA:(apos.endLine==aN.line)=true:=by rfl) (hs:starEach [e] X.env=(false,eval e X.env)::starEach [] X.env:=by rfl) (dG:(backTo aN (starEach [] X.env)).any (·.1)=false:=by rfl):
  DE Z X (.Call (.Attribute o "index" apos) [e] [] aN) (JR ta tb):=by
 refine (fh PySem.F.plainAttrs_list PySem.F.slot_list_index PySem.F.type_list_index mY ho (aa he ar hs) dF iG cA hs dG).imp ?_;rintro σ H Q ⟨G,ρ,P,s,en,h,q⟩;refine ⟨G,ρ,_,s,en,h,?_⟩;rintro _ ⟨l,rfl,hd⟩ v G1 H1 x1 dv;cases dv with
 | @lst p xs ds hp e=>
  refine ⟨ty_list (x1.sub _ _ hp),G1,ρ,_,x1.sub,en.mono x1.gg,hd,λy hy u G2 H2 x2 du=>?_⟩;obtain ⟨h1,h2,j,z,h3,h4,h5,h6⟩:=hy;have e2:=e.mono x2.gg;obtain ⟨w,hw,dw⟩:=e2.get h3;refine ⟨p,xs,u,j,w,rfl,rfl,x2.hh _ _ (x1.sub _ _ hp),by rw [ph du];exact h1,by rw [ja e2];exact h2,hw,by rw [yr dw du];exact h4,λm z' hm hz=>?_,q _ h6 _ G2 H2 (x1.trans x2) (.int _)⟩
  obtain ⟨d',qB,yp⟩:=e2.DV hz;rw [yr yp du];exact h5 m d' hm qB
end
structure Dr (Z:DC):Prop where
 cl:tw Z.K Z.C
 nR:jY Z.K Z.C "rows"
section
variable {Z:DC} {X:Cx} {a b c e o:Expr} {ta tb te:aT} {t:hJ} {es:List Expr} {pos apos:Pos}
def NR(ta:aT):aT:=λρ P=>ta ρ λd=>∃w,d= .gO w∧P (bG w)
theorem t5(T:Dr Z)(ha:DE Z X o ta)(eK:X.K=Z.K:=by rfl)(hb:attributeBase o "rows" X.env (eval o X.env)=eval o X.env:=by rfl):DE Z X (.Attribute o "rows" apos) (NR ta):=by
 refine (K4 ha hb).imp ?_;rintro σ H Q ⟨G,ρ,P,s,en,h,q⟩;refine ⟨G,ρ,_,s,en,h,?_⟩;rintro _ ⟨w,rfl,hd⟩ v G1 H1 x1 dv;cases dv with
 | @gO p dx R w hp hr g h1 h2=>exact ⟨p,Z.C,dx,_, .ref R,rfl,x1.sub _ _ hp,by rw [eK];exact T.cl,by rw [eK];exact T.nR,rfl,q _ hd _ G1 H1 x1 hr⟩
def By(sd:eF)(ta:aT)(t:hJ):aT:=λρ P=>ta ρ λd=>∃w,d= .gO w∧t ρ λds=>sd (.gO w::ds) P
theorem xl{m:Str}{sd:eF}(hm:([("rows",V.ref 0)]:List (Str×V)).lookup m=none):∀σ H Q,df Z (By sd ta t) σ H Q→C4 Z.C m (aZ Z sd) [] E0 (df Z ta) (Cd Z t) σ H Q:=by
 rintro σ H Q ⟨G,ρ,P,s,en,h,q⟩;refine ⟨G,ρ,_,s,en,h,?_⟩;rintro _ ⟨w,rfl,hd⟩ v G1 H1 x1 dv;have XQ:=dv;cases dv with
 | @gO p dx R w hp hr g h1 h2=>
  refine ⟨p,dx,_,rfl,x1.sub _ _ hp,?_,G1,ρ,_,x1.sub,en.mono x1.gg,hd,λds vW vs G2 H2 x2 bg=>?_⟩
  ·have hz:(m==("rows":Str))=false:=by
    cases z:(m==("rows":Str)) with
    |false=>rfl
    |true=>simp [List.lookup,z] at hm
   simp [List.lookup,hz]
  ·show aZ Z sd (V.ref p::(vs++ [])) H2 Q E0
   rw [jV];exact ⟨G2,_,P,x2.sub, .cons (XQ.mono x2.gg) bg,vW,λd hd v G3 H3 x3 NX=>q d hd v G3 H3 ((x1.trans x2).trans x3) NX⟩
variable {sd:eF} {k:Nat} {f:Addr} {fd:FuncData} {ps:List Str} {m:Str}
theorem zP{pl:Sem Bool}(T:Dr Z)(ho:DE Z X o ta)(hm:Meth Z.K Z.C m f)(F:FnOk X.prog X.w X.K X.mg X.base bQ k f fd ps (aZ Z sd))(hr:bO k X.A)(hb:Binds X.K fd ps [])(ha:DA Z X (e::es) t)(eK:X.K=Z.K:=by rfl)
  (BW:([("rows",V.ref 0)]:List (Str×V)).lookup m=none:=by decide) (jH:starEach (e::es) X.env=(false,eval e X.env)::starEach es X.env:=by rfl) (cW:(backTo pos (starEach es X.env)).any (·.1)=false:=by rfl)
  (ht:eval (.Call (.Attribute o m apos) (e::es) [] pos) X.env=(do
   let ov ←eval o X.env
   standAt apos.atName
   let (f,first) ←holding [ov] (getMethod ov m pl)
   callWith pos f first (backTo pos (starEach (e::es) X.env)) (backToKw pos (keywordEach [] X.env))):=by rfl):DE Z X (.Call (.Attribute o m apos) (e::es) [] pos) (By sd ta t):=
 (IM (pl:=pl) ho (by rw [eK];exact T.cl) (by rw [eK];exact hm) F hr hb .nil bA ha jH cW ht).imp (xl BW)
theorem jD{pl:Sem Bool}(T:Dr Z)(ho:DE Z X o ta)(hm:Meth Z.K Z.C m f)(F:FnOk X.prog X.w X.K X.mg X.base bQ k f fd ps (aZ Z sd))(hr:bO k X.A)(hb:Binds X.K fd ps [])(eK:X.K=Z.K:=by rfl)
  (BW:([("rows",V.ref 0)]:List (Str×V)).lookup m=none:=by decide)
  (ht:eval (.Call (.Attribute o m apos) [] [] pos) X.env=(do
   let ov ←eval o X.env
   standAt apos.atName
   let (f,first) ←holding [ov] (getMethod ov m pl)
   callWith pos f first (backTo pos (starEach [] X.env)) (backToKw pos (keywordEach [] X.env))):=by rfl):DE Z X (.Call (.Attribute o m apos) [] [] pos) (By sd ta rp):=
 (FL (pl:=pl) ho (by rw [eK];exact T.cl) (by rw [eK];exact hm) F hr hb .nil bA ht).imp λσ H Q h=>by
  obtain ⟨G,ρ,P,s,en,h,q⟩:=xl BW σ H Q h;refine ⟨G,ρ,P,s,en,h,λd hd v G1 H1 x1 dv=>?_⟩;obtain ⟨p,dx,fs,h1,h2,h3,G',aF,P',s',en',h',q'⟩:=q d hd v G1 H1 x1 dv;exact ⟨p,dx,fs,h1,h2,h3,q' _ h' _ G' _ (.refl s') .nil⟩
def A1(Z:DC):Sp:=λvs H Q _=>∃(p dx:Addr)(v:V)(G:Hp)(w:List (List Nat)),vs= [.ref p,v]∧H p=some (.ins Z.C dx [])∧az G H∧G p=none∧Dv Z G v (bG w)∧Wb.Good w∧1≤w.length∧w.length≤14∧
 ∀(R:Addr)(G' H':Hp),az G G'→az G' H'→(∀b o,H b=some o→b≠p→H' b=some o)→(∀b,H b≠none→G b=none→G' b=none)→H' p=some (.ins Z.C dx [("rows", .ref R)])→Dv Z G' (.ref R) (bG w)→Q .aM H'
def NN(t:hJ):aT:=λρ P=>t ρ λds=>∃w,ds= [bG w]∧Wb.Good w∧1≤w.length∧w.length≤14∧P (.gO w)
theorem t4{x:Str}{p:Pos}(M:Mk Z.K Z.C f)(F:FnOk X.prog X.w X.K X.mg X.base bQ k f fd ps (A1 Z))(hr:bO (k+1) X.A)(hg:Gl X x)(hm:X.mg x=some (.ref Z.C))(hb:Binds X.K fd ps [])
  (ha:DA Z X (e::es) t) (eK:X.K=Z.K:=by rfl) (gW:(x==("__debug__":Str))=false:=by decide) (he:starEach (e::es) X.env=(false,eval e X.env)::starEach es X.env:=by rfl) (cW:(backTo pos (starEach es X.env)).any (·.1)=false:=by rfl):
  DE Z X (.Call (.Name x p) (e::es) [] pos) (NN t):=by
 refine (IL (by rw [eK];exact M) F hr hg hm hb .nil bA ha gW he cW).imp ?_
 rintro σ H Q ⟨G,ρ,P,s,en,h,q⟩;refine ⟨G,ρ,_,s,en,h,?_⟩;rintro _ ⟨w,rfl,g,h1,cF,hp⟩ vs G1 H1 x1 bg p dx hx YF ne;cases bg with
 | @cons v _ _ _ dv bg=>
  cases bg;have Ak:upd H1 dx (.own p) p=none:=by rw [ae (Ne.symm ne)];exact hx
  have sJ:=(av YF (.own p)).trans (av Ak (.ins Z.C dx []));refine ⟨p,dx,v,G1,w,rfl,ab,x1.sub.trans sJ,x1.sub.free hx,dv,g,h1,cF,λR G2 H2 g1 g2 kp off Kh BE=>⟨rfl,?_⟩⟩;have gp:G2 p=none:=off p (by rw [ab];exact λz=>nomatch z) (x1.sub.free hx)
  refine q _ hp _ (upd G2 p (.ins Z.C dx [("rows", .ref R)])) H2 ⟨(x1.gg.trans g1).trans (av gp _),λb o e=>?_,λb o e=>?_,λb hb hg=>?_⟩ (.gO ab (BE.mono (av gp _)) g h1 cF)
  ·by_cases z:b=p
   ·subst z;rw [ab] at e;cases e;exact Kh
   ·rw [ae z] at e;exact g2 _ _ e
  ·have e1:=x1.hh _ _ e
   exact kp b o (sJ _ _ e1) (ah e1 hx)
  ·have J9:=gL x1.hh hb
   have nb:b≠p:=λz=>J9 (by rw [z];exact hx)
   rw [ae nb];exact off b (gL sJ J9) (x1.off b hb hg)
end
section
variable {Z:DC} {X:Cx} {pos:Pos}
theorem dN.snoc{R:V→D→List Addr→Prop}:∀{vs:List V}{ds:List D}{fs:List Addr}{v:V}{d:D}{f:List Addr},dN R vs ds fs→R v d f→dN R (vs++ [v]) (ds++ [d]) (fs++f)
 |_,_,_,v,d,f, .nil,r=>by simpa using dN.cons r .nil
 |_,_,_,v,d,f, .cons a as,r=>by rw [vH];exact .cons a (as.snoc r)
variable {tg iter elt:Expr} {scope:Scope} {NC:List Str} {src:List (Option Nat)} {wi:jr} {g:eC} {tf:nk} {md:List Nat} {rn:Nat}
end
abbrev ik:=inClass
structure Bn (Z:DC) (m qual:Str) (st:Stmt) (ps:List Str) where
 f:Addr
 fd:FuncData
 F:vO Z.K m qual st f fd
 b:Binds Z.K fd ps []
 m:Meth Z.K Z.C m f
def qb(K:PySem.W.Frag):Sp:=λvs H Q _=>∃(a:Addr)(ns:List Int),vs= [.ref a]∧aC K H a (ns.map V.int)∧ns.length≤63∧∀H',Q (.bl true) H'
def Ej:eF:=λds P=>∃ns:List Int,ds= [.jA ns]∧ns.length≤63∧P (.bl true)
theorem Ky{Z:DC}:∀vs H Q E,qb Z.K vs H Q E→aZ Z Ej vs H Q E:=by
 rintro vs H Q E ⟨a,ns,rfl,hS,hl,q⟩;exact ⟨H,[.jA ns],λd=>d= .bl true, .refl _, .cons (.jA hS hl) .nil,⟨ns,rfl,hl,rfl⟩,λd hd v G' H' x dv=>by subst hd;cases dv;exact q H'⟩
theorem PZ(k:Nat){l:PySem.W.OpenLaw}{q:Program}{loose:List Str}{XP:(Str→Option Value)→Heap→Prop}{YP:World→Heap→Prop}{d:DefRec}{K:Params→PySem.W.Frag}(sE:3*k<150)(hn:l.most=some 63)(BQ:d.params.defaults= [])
  (hY:∀(w:World)(h:Heap),YP w h→(K w.params).In h)
  (F:∀(w:World)(mg:Str→Option Value)(fa:Addr)(h:Heap),(K w.params).In h→h.Ns mainGlobals mg→mg d.name=some (.ref fa)→
   ∃fd:FuncData,(∀(s:Shared)(u:Value),BindsTo s fd ⟨[u],[]⟩ [("_law_script",u)])∧∀base:Heap,(K w.params).In base→base.Ns mainGlobals mg→FnOk l.prog w (K w.params) mg base bQ k fa fd ["_law_script"] (qb (K w.params))):
  PySem.W.WalkO q loose XP YP l.row.toRowW d [] (λf vs=>PySem.call f vs):=
 L2.JA (n:=63) (k:=50) (x:="_law_script") (CX:=λ_=>bQ) (sp:=λw=>qb (K w.params)) hn (by decide) BQ ⟨rfl,by decide,by decide⟩ hY (λw mg fa h a b c=>by
  obtain ⟨fd,h1,h2⟩:=F w mg fa h a b c;exact ⟨fd,h1,λbase x y=>(h2 base x y).mono (by omega)⟩) (λ_ _ a ns hl _ hS=>⟨a,ns,rfl,hS,hl,λ_=>rfl⟩) λ_ _ _ _ _ z=>z
theorem pD{c:Bool}{A B:Prop}(h1:c=true→A)(h2:c=false→B):if c=true then A else B:=by
 cases c with
 |true=>exact fP (h1 rfl)
 |false=>exact fC (h2 rfl)
theorem uw{i:Nat}{tt:dM}{te:aT}{ρ:DN}{α:Type}(enc:α→D)(p:α→Bool)(f:α→D):∀(ys:List α)(aF:DN)(acc:List D)(N:DN→List D→Prop),(∀y∈ys,∀(Y:D→Prop)(Nn:Prop),(p y=true→Y (f y))→(p y=false→Nn)→tt (ρ.set i (some (enc y))) λb=>if b=true then te (ρ.set i (some (enc y))) Y else Nn)→
  (∃o,aF=ρ.set i o)→acc.length+ys.length≤sizeLine→(∀aF,N aF (acc++(ys.filter p).map f))→lcW (mN i) tt te (ys.map enc) aF acc N
 | [],aF,acc,N,_,_,_,h=>by
  show N aF acc;simpa using h aF
 |y::ys,aF,acc,N,hs,⟨o,ho⟩,hz,h=>by
  show tt (aF.set i (some (enc y))) _;rw [ho,List.set_set];rw [cL] at hz;refine hs y (bY ..) _ _ (λhp=>⟨by omega,?_⟩) (λhp=>?_)
  ·refine uw enc p f ys _ (acc++ [f y]) N (λz hz=>hs z (cu _ hz)) ⟨_,rfl⟩ (by simp;omega) λvM=>?_
   have:=h vM
   rw [List.filter_cons,hp] at this;simpa using this
  ·refine uw enc p f ys _ acc N (λz hz=>hs z (cu _ hz)) ⟨_,rfl⟩ (by omega) λvM=>?_
   have:=h vM
   rw [List.filter_cons,hp] at this;simpa using this
theorem jb{i:Nat}{te:aT}{ρ:DN}{α:Type}(enc:α→D)(f:α→D)(ys:List α)(N:DN→List D→Prop)(hs:∀y∈ys,∀(Y:D→Prop),Y (f y)→te (ρ.set i (some (enc y))) Y)(h0:ρ[i]? =some none)(hz:ys.length≤sizeLine)(h:∀aF,N aF (ys.map f)):lcW (mN i) oW te (ys.map enc) ρ [] N:=by
 refine uw (ρ:=ρ) enc (λ_=>true) f ys ρ [] N (λy hy Y Nn h1 _=>?_) ⟨none,?_⟩ (by simpa using hz) λaF=>by rw [List.filter_eq_self.mpr (λ_ _=>rfl),vA];exact h aF
 ·unfold oW
  dsimp only;rw [if_pos rfl];exact hs y hy Y (h1 rfl)
 ·obtain ⟨hi,e⟩:=b9.mp h0
  rw [←e,List.set_getElem_self]
theorem wQ{g:eC}{tb:dD}{E:gP}(I:Nat→DN→Prop):∀(ds:List D)(k:Nat)(ρ:DN),I k ρ→(∀(j:Nat)(d:D)(ρ:DN),ds[j]? =some d→I (k+j) ρ→∀A:DN→Prop,(∀ρ,I (k+j+1) ρ→A ρ)→g d ρ λbo=>tb {nx:=A,ct:=A,bk:=E.nx,rt:=E.rt} bo)→
  (∀ρ,I (k+ds.length) ρ→E.nx ρ)→nH g tb E ds ρ
 | [],k,ρ,h0,hs,he=>he ρ h0
 |d::ds,k,ρ,h0,hs,he=>by
  refine hs 0 d ρ rfl h0 _ λaF h'=>?_
  exact wQ I ds (k+1) aF h' (λj d' eE hj h2 A hA=>by
   refine hs (j+1) d' eE (by simpa using hj) (by rw [show k+(j+1)=k+1+j by omega];exact h2) A λρ3 h3=>hA ρ3 ?_
   rw [show k+1+j+1=k+(j+1)+1 by omega];exact h3) (λeE h2=>he eE (by rw [cL,show k+(ds.length+1)=k+1+ds.length by omega];exact h2))
theorem dO{g:eC}{tb:dD}{E:gP}{ds:List D}{ρ:DN}(I:Nat→DN→Prop)(h0:I 0 ρ)(hs:∀(j:Nat)(d:D)(ρ:DN),ds[j]? =some d→I j ρ→∀A:DN→Prop,(∀ρ,I (j+1) ρ→A ρ)→g d ρ λbo=>tb {nx:=A,ct:=A,bk:=E.nx,rt:=E.rt} bo)
  (he:∀ρ,I ds.length ρ→E.nx ρ):nH g tb E ds ρ:=wQ I ds 0 ρ h0 (λj d ρ hj h A hA=>hs j d ρ hj (by simpa using h) A λaF h'=>hA aF (by simpa using h')) (λρ h=>he ρ (by simpa using h))
theorem GZ{g:eC}{tb:dD}{E:gP}{lo:Int}{n:Nat}{ρ:DN}(I:Nat→DN→Prop)(h0:I 0 ρ)(hs:∀(j:Nat)(ρ:DN),j<n→I j ρ→∀A:DN→Prop,(∀ρ,I (j+1) ρ→A ρ)→g (.int (lo+j)) ρ λbo=>tb {nx:=A,ct:=A,bk:=E.nx,rt:=E.rt} bo)
  (he:∀ρ,I n ρ→E.nx ρ):nH g tb E (fo lo n) ρ:=by
 have l:(fo lo n).length=n:=by unfold fo;simp
 refine dO I h0 (λj d ρ hj h A hA=>?_) (λρ h=>he ρ (by rw [l] at h;exact h))
 have br:j<n:=by
  have:=(b9.mp hj).1
  rw [l] at this;exact this
 rw [rL br] at hj;cases hj;exact hs j ρ br h A hA
theorem vn{c:dM}{tb:dD}{E:gP}{ρ:DN}(I:Nat→DN→Prop)(m0:Nat)(h0:I m0 ρ)(hs:∀m ρ,I m ρ→c ρ λb=>if b=true then tb {nx:=λaF=>∃m',m'<m∧I m' aF,ct:=λaF=>∃m',m'<m∧I m' aF,bk:=E.nx,rt:=E.rt} ρ else E.nx ρ):Dy c tb E ρ:=⟨I,⟨m0,h0⟩,hs⟩
theorem ye:bootBuiltins "reversed"=some (.type "reversed"):=by decide+kernel
section
variable {Z:DC} {X:Cx} {a b c e:Expr} {ta tb te:aT} {t:hJ} {pos:Pos}
variable {md:List Nat} {rn:Nat} {k:Expr} {tk:aT}
variable {apos aN:Pos}
variable {es:List Expr}
def GX(sd:eF)(t:hJ):nk:=λρ P=>t ρ λas=>sd as λd=>∃ds,d= .lst ds∧P ds
theorem GL{n:Nat}{sd:eF}{k:Nat}{f:Addr}{fd:FuncData}{ps:List Str}{x:Str}{p:Pos}(F:FnOk X.prog X.w X.K X.mg X.base bQ k f fd ps (iI Z n sd))(hr:bO k X.A)(hg:Gl X x)(hm:X.mg x=some (.ref f))(hk:PySem.W.keepIn X.K (.ref f)=true)(hb:Binds X.K fd ps [])
  (ha:DA Z X (e::es) t) (gW:(x==("__debug__":Str))=false:=by decide) (he:starEach (e::es) X.env=(false,eval e X.env)::starEach es X.env:=by rfl) (cW:(backTo pos (starEach es X.env)).any (·.1)=false:=by rfl):
  DF Z X n (.Call (.Name x p) (e::es) [] pos) (GX sd t):=by
 refine (aP F hr hg hm hk hb .nil bA ha gW he cW).imp ?_;rintro σ H Q ⟨G,ρ,P,s,en,h,q⟩;refine ⟨G,ρ,_,s,en,h,λds hd vs G1 H1 x1 bg=>?_⟩;show iI Z n sd (vs++ []) H1 Q E0;rw [jV];refine ⟨G1,ds,_,x1.sub,bg,hd,?_⟩;rintro _ ⟨t9,rfl,hp⟩ v f G2 H2 x2 o nd nw;exact q _ hp v f G2 H2 (x1.trans x2) o nd λb hb=>⟨x1.hh.free (nw b hb).1,(nw b hb).2⟩
end
section
variable {X:Cx} {elt t0 i0 t1 i1:Expr} {f0 f1:List Expr} {scope:Scope} {pos:Pos} {wi fZ:TI} {g g1:TG} {tt dj:TT} {te:TE} {src:List (Option Nat)} {NC:List Str}
end
section
variable {Z:DC} {X:Cx} {md:List Nat} {rn:Nat} {elt t0 i0 t1 i1:Expr} {f0 f1:List Expr} {scope:Scope} {pos:Pos} {wi fZ:jr} {g g1:eC} {tt dj:dM} {te:aT} {src:List (Option Nat)} {NC:List Str}
end
section
variable {Z:DC} {X:Cx} {md:List Nat} {rn:Nat} {e:Expr} {pos:Pos}
end
theorem n5{l:List D}{j:Nat}{d:D}(h:(gn l)[j]? =some d):∃x,l[j]? =some x∧d= .tup [.int (j:Int),x]:=by
 unfold gn at h;rw [List.getElem?_mapIdx] at h;cases e:l[j]? with
 |none=>rw [e] at h;cases h
 |some x=>rw [e] at h;cases h;exact ⟨x,rfl,rfl⟩
theorem ua(l:List D):(gn l).length=l.length:=by unfold gn;simp
theorem eQ{α β:Type}{f:α→β}{l:List α}{j:Nat}{y:β}(h:(l.map f)[j]? =some y):∃x,l[j]? =some x∧y=f x:=by
 rw [dq] at h;cases e:l[j]? with
 |none=>rw [e] at h;cases h
 |some x=>rw [e] at h;cases h;exact ⟨x,rfl,rfl⟩
theorem jF(r:List Nat):(r.map ay).all gS=true:=by simp [ay,gS]
theorem uo{r:List Nat}{p:Nat}:inD (ay p) (r.map ay)=decide (p∈r):=by
 unfold inD;rw [List.any_map]
 have:((λy=>i9 y (ay p))∘ay)=λq:Nat=>decide (q=p):=by
  funext q
  simp [ay,i9,Function.comp]
  by_cases z:q=p
  ·simp [z]
  ·have:¬(q:Int)=(p:Int):=by omega
   simp [z,this]
 rw [this]
 by_cases h:p∈r
 ·rw [decide_eq_true h,List.any_eq_true];exact ⟨p,h,by simp⟩
 ·rw [decide_eq_false h]
  apply qj.mpr;intro z;rw [List.any_eq_true] at z;obtain ⟨q,hq,e⟩:=z
  exact h (by have:q=p:=by simpa using e
              rw [←this];exact hq)
theorem jC{l:List D}{p:Nat}{d:D}(h:l[p]? =some d):gf l (p:Int)=some d:=bS h
theorem vm{w:List (List Nat)}{p:Nat}(h:p<w.length):(w.map aD)[p]? =some (aD (Wb.row w p)):=by
 rw [dq,Wb.AR h];rfl
section
variable {Z:DC} {X:Cx} {md:List Nat} {rn:Nat} {e:Expr} {te:aT} {pos:Pos}
end
theorem Na{ρ:DN}{A B:Prop}(h:A):oW ρ (λb=>if b=true then A else B):=by
 unfold oW;dsimp only;rw [if_pos rfl];exact h
theorem Ap{c:Bool}{A B:Prop}(e:c=false)(h:B):if c=true then A else B:=by rw [if_neg (by rw [e];exact cK)];exact h
theorem pH{g:eC}{tt:dM}{te:aT}{α:Type}(I:DN→Prop)(enc:α→D)(p:α→Bool)(f:α→D):∀(ys:List α)(aF:DN)(acc:List D)(N:DN→List D→Prop),(∀y∈ys,∀aF,I aF→∀(Y:DN→D→Prop)(Nn:DN→Prop),(∀bo,I bo→p y=true→Y bo (f y))→(∀bo,I bo→p y=false→Nn bo)→g (enc y) aF λbo=>tt bo λb=>if b=true then te bo (Y bo) else Nn bo)→
  I aF→acc.length+ys.length≤sizeLine→(∀aF,I aF→N aF (acc++(ys.filter p).map f))→lcW g tt te (ys.map enc) aF acc N
 | [],aF,acc,N,_,hI,_,h=>by
  show N aF acc;simpa using h aF hI
 |y::ys,aF,acc,N,hs,hI,hz,h=>by
  rw [cL] at hz;refine hs y (bY ..) aF hI (λbo d=>acc.length<sizeLine∧lcW g tt te (ys.map enc) bo (acc++ [d]) N) (λbo=>lcW g tt te (ys.map enc) bo acc N) (λbo h1 hp=>⟨by omega,?_⟩) (λbo h1 hp=>?_)
  ·refine pH I enc p f ys _ (acc++ [f y]) N (λz hz=>hs z (cu _ hz)) h1 (by simp;omega) λvM h2=>?_
   have:=h vM h2
   rw [List.filter_cons,hp] at this;simpa using this
  ·refine pH I enc p f ys _ acc N (λz hz=>hs z (cu _ hz)) h1 (by omega) λvM h2=>?_
   have:=h vM h2
   rw [List.filter_cons,hp] at this;simpa using this
theorem g7{α:Type}{us:List α}(h:us.length=1):∃a0,us= [a0]:=by
 cases us with
 |nil=>cases h
 |cons a l=>
  cases l with
  |nil=>exact ⟨a,rfl⟩
  |cons _ _=>cases h
theorem lK{α:Type}{us:List α}(h:us.length=2):∃a0 a1,us= [a0,a1]:=by
 cases us with
 |nil=>cases h
 |cons a l=>
  obtain ⟨a1,rfl⟩:=g7 (Nat.succ.inj h);exact ⟨a,a1,rfl⟩
theorem Au{α:Type}{us:List α}(h:us.length=3):∃a0 a1 a2,us= [a0,a1,a2]:=by
 cases us with
 |nil=>cases h
 |cons a l=>
  obtain ⟨a1,a2,rfl⟩:=lK (Nat.succ.inj h);exact ⟨a,a1,a2,rfl⟩
section
variable {Z:DC} {X:Cx}
end
theorem bb.nest{X:Cx}{scope qX:Scope}{NC:List Str}{ex:List Addr}{s:Shared}{H:Hp}(k:qX.kind= .function)(a:∀x∈qX.names,x.2= .local→qX.names.lookup x.1=some .local)(b:∀x∈qX.names,x.2≠ .cell)
  (d:∀x∈qX.names,x.2= .free→scope.names.lookup x.1=some .free):bb (cV X scope NC ex s H) qX where
 kind:=k
 names:=a
 nocell:=b
 free:=λx hx e=>by
  have h:(cV X scope NC ex s H).env.kindOf x.1=(scope.names.lookup x.1).map λk=>if (k==NameKind.free&&X.env.scope.kind== .function&&X.env.kindOf x.1==some .cell) then NameKind.cell else k:=fq scope.names x.1;rw [h,d x hx e,Option.map_some]
  split
  ·exact .inl rfl
  ·exact .inr rfl
section
variable {Z:DC} {X:Cx} {e:Expr} {es:List Expr} {t:hJ} {pos:Pos}
theorem aK{sd:eF}{k j:Nat}{x:Str}{st:Stmt}{ps:List Str}{p:Pos}(d:bM X.K X.mg x st ps)(F:FnOk X.prog X.w X.K X.mg X.base bQ k d.f d.fd ps (aZ Z sd))(hr:bO j X.A)(ha:DA Z X (e::es) t)(hg:Gl X x:=by rfl)(hk:k≤j:=by first|decide|omega)
  (gW:(x==("__debug__":Str))=false:=by decide) (he:starEach (e::es) X.env=(false,eval e X.env)::starEach es X.env:=by rfl) (cW:(backTo pos (starEach es X.env)).any (·.1)=false:=by rfl):
  DE Z X (.Call (.Name x p) (e::es) [] pos) (tW sd t):=GF F (hr.mono hk) hg d.m d.F.kp d.b ha gW he cW
theorem EN{n:Nat}{sd:eF}{k j:Nat}{x:Str}{st:Stmt}{ps:List Str}{p:Pos}(d:bM X.K X.mg x st ps)(F:FnOk X.prog X.w X.K X.mg X.base bQ k d.f d.fd ps (iI Z n sd))(hr:bO j X.A)(ha:DA Z X (e::es) t)(hg:Gl X x:=by rfl)(hk:k≤j:=by first|decide|omega)
  (gW:(x==("__debug__":Str))=false:=by decide) (he:starEach (e::es) X.env=(false,eval e X.env)::starEach es X.env:=by rfl) (cW:(backTo pos (starEach es X.env)).any (·.1)=false:=by rfl):
  DF Z X n (.Call (.Name x p) (e::es) [] pos) (GX sd t):=GL F (hr.mono hk) hg d.m d.F.kp d.b ha gW he cW
theorem vS{scope:Scope}(sc:Scope)(e:X.env.scope=sc:=by rfl)(k:scope.kind= .function:=by rfl)(a:∀x∈scope.names,x.2= .local→scope.names.lookup x.1=some .local:=by decide+kernel)(b:∀x∈scope.names,x.2≠ .cell:=by decide+kernel)
  (c:∀x∈scope.names,x.2= .free→sc.names.lookup x.1=some .cell∨sc.names.lookup x.1=some .free:=by decide+kernel):bb X scope:=bb.of sc e k a b c
theorem QG{scope qX:Scope}{NC:List Str}{ex:List Addr}{s:Shared}{H:Hp}(k:qX.kind= .function:=by rfl)(a:∀x∈qX.names,x.2= .local→qX.names.lookup x.1=some .local:=by decide+kernel)(b:∀x∈qX.names,x.2≠ .cell:=by decide+kernel)
  (d:∀x∈qX.names,x.2= .free→scope.names.lookup x.1=some .free:=by decide+kernel):bb (cV X scope NC ex s H) qX:=bb.nest k a b d
end
section
variable {K:PySem.W.Frag} {h:Heap} {mg:Str→Option Value}
abbrev gQ(K:PySem.W.Frag)(x:Str)(d:Addr):Prop:=PySem.W.nsIn K mainGlobals x=some (some (.ref d))
abbrev fi(K:PySem.W.Frag)(x qual:Str)(st:Stmt)(d:Addr)(od an:Option Addr)(sl:Array (Option Value))(oc kV dc pm cd ct:Value):Prop:=K.lookup d=some ⟨oc,od, .func (PySem.W.fnOf x qual (iE st) (eH st) (ao st) .none kV dc pm an cd ct),sl⟩
def bM.of{x:Str}{st:Stmt}{ps:List Str}{d:Addr}{od an:Option Addr}{sl:Array (Option Value)}{oc kV dc pm cd ct:Value}(X:K.In h)(G:h.Ns mainGlobals mg)(a:gQ K x d)(l:fi K x x st d od an sl oc kV dc pm cd ct)(c:PySem.W.codeIn K cd x=true)(k:PySem.W.keepIn K (.ref d)=true)
  (b:∀(kV doc pm:Value)(an:Option Addr)(bp ct:Value)(us:List Value),us.length=ps.length→bindArgs (PySem.W.fnOf x x (iE st) (eH st) (ao st) .none kV doc pm an bp ct) ⟨us,[]⟩=pure (ps.zip us)):bM K mg x st ps:=
 ⟨d,_,pk l c k,(pk l c k).binds b,PySem.W.mg_of X G a⟩
def Bn.of{Z:DC}{m qual:Str}{st:Stmt}{ps:List Str}{d:Addr}{od an:Option Addr}{sl:Array (Option Value)}{oc kV dc pm cd ct:Value}(a:PySem.W.findIn Z.K (.ref Z.C) m=some (some (.ref d)))(f:PySem.W.isFn Z.K (.ref d)=true)(l:fi Z.K m qual st d od an sl oc kV dc pm cd ct)(c:PySem.W.codeIn Z.K cd qual=true)(k:PySem.W.keepIn Z.K (.ref d)=true)
  (b:∀(kV doc pm:Value)(an:Option Addr)(bp ct:Value)(us:List Value),us.length=ps.length→bindArgs (PySem.W.fnOf m qual (iE st) (eH st) (ao st) .none kV doc pm an bp ct) ⟨us,[]⟩=pure (ps.zip us)):Bn Z m qual st ps:=
 ⟨d,_,pk l c k,(pk l c k).binds b,⟨a,f,k⟩⟩
end
end L2
namespace Wb
def gk(w:W):Nat:=(w.map List.length).sum
theorem oY{r:List Nat}:∀{w:W}{p:Nat},p<w.length→gk (w.set p r)+(row w p).length=gk w+r.length
 | [],_,h=>by simp at h
 |a::w,0,_=>by simp [gk,row];omega
 |a::w,p+1,h=>by
  have ih:=oY (r:=r) (w:=w) (p:=p) (by simpa using h)
  have e:row (a::w) (p+1)=row w p:=by simp [row]
  rw [e];simp only [gk,List.set_cons_succ,fY,List.sum_cons] at ih ⊢;omega
theorem EM(w:W)(r:List Nat):gk (w++ [r])=gk w+r.length:=by simp [gk]
theorem EL{w:W}{p i:Nat}(h:p<w.length):gk (leaf w p i)=gk w+2:=by
 unfold leaf
 have:=oY (r:=ins (row w p) i w.length) h
 rw [uq] at this;rw [EM];simp;omega
theorem GK{w:W}{p i u j:Nat}(hp:p<w.length)(hu:u<w.length)(ne:u≠p):gk (ze w p i u j)=gk w+2:=by
 unfold ze;have h1:=oY (r:=ins (row w p) i u) hp;have h2:=oY (w:=w.set p (ins (row w p) i u)) (r:=ins (row w u) j p) (p:=u) (by simpa using hu)
 rw [gK hp,if_neg (Ne.symm ne)] at h2;rw [uq] at h1 h2;omega
theorem FO{l l':List Nat}(h:l.Perm l'):l.sum=l'.sum:=by
 induction h with
 |nil=>rfl
 |cons x _ ih=>simp [ih]
 |swap x y l=>simp;omega
 |trans _ _ Zx Zy=>exact Zx.trans Zy
theorem qw(w:W):gk w=((List.range w.length).map λp=>(row w p).length).sum:=by
 unfold gk
 congr 1
 refine List.ext_getElem (by simp) λi h1 h2=>?_
 rw [List.getElem_map,List.getElem_map,List.getElem_range];have hi:i<w.length:=by simpa using h1
 have:=AR hi
 rw [cC hi] at this;rw [Option.some.inj this]
theorem GJ{w w':W}{ord:List Nat}(hl:w'.length=w.length)(pm:ord.Perm (List.range w.length))(gI:∀p,p<w.length→(row w' (ord.getD p 0)).Perm ((row w p).map λx=>ord.getD x 0)):gk w'=gk w:=by
 rw [qw w',hl,qw w,←FO (pm.map λp=>(row w' p).length)]
 congr 1
 have ll:ord.length=w.length:=by rw [pm.length_eq,mJ]
 refine List.ext_getElem (by simp [ll]) λi h1 h2=>?_
 rw [List.getElem_map,List.getElem_map,List.getElem_range];have hi:i<w.length:=by simpa using h2
 have e:ord.getD i 0=ord[i]'(by rw [ll];exact hi):=by rw [dJ,cC (by rw [ll];exact hi)];rfl
 have:=(gI i hi).length_eq
 rw [aJ,e] at this;exact this
theorem tY(w:W):(aG w).length=gk w:=by
 rw [qw];unfold aG;rw [List.length_flatMap]
 congr 1
 apply List.map_congr_left;intro p _;rw [aJ]
theorem eY{w:W}(g:Good w):(aG w).Nodup:=by
 unfold aG List.Nodup;refine lV (λp _=>?_) ?_
 ·rw [jm]
  exact (g.nod p).imp λne e=>ne (congrArg Prod.snd e)
 ·refine List.Pairwise.imp ?_ List.pairwise_lt_range
  intro a b lt x hx y hy e;obtain ⟨_,_,rfl⟩:=bN.mp hx;obtain ⟨_,_,rfl⟩:=bN.mp hy
  have:=congrArg Prod.fst e
  simp at this;omega
theorem mE(w:W):ic (row w) w.length=(aG w).filter λd=>decide (d.1<d.2):=by
 unfold ic aG;rw [List.filter_flatMap]
 congr 1
 funext p
 rw [List.filter_map];rfl
theorem C7{w:W}(g:Good w):2*(ic (row w) w.length).length≤gk w:=by
 rw [mE,←tY];have h1:=List.length_eq_countP_add_countP (λd:Nat×Nat=>decide (d.1<d.2)) (l:=aG w)
 have h2:((aG w).filter λd=>decide (d.1<d.2)).length≤((aG w).filter λd=>decide (d.2<d.1)).length:=by
  have:=aS (l:=((aG w).filter λd=>decide (d.1<d.2)).map λd=>(d.2,d.1)) (m:=(aG w).filter λd=>decide (d.2<d.1)) ?_ ?_
  ·rwa [aJ] at this
  ·unfold List.Nodup
   rw [jm];refine List.Pairwise.imp ?_ ((eY g).filter _);intro a b ne e;have e1:=congrArg Prod.fst e;have e2:=congrArg Prod.snd e;exact ne (Prod.ext e2 e1)
  ·intro x hx
   obtain ⟨d,hd,rfl⟩:=bN.mp hx;obtain ⟨Yz,hd2⟩:=vB.mp hd;refine vB.mpr ⟨aX.mpr (g.sym _ _ (aX.mp Yz)),?_⟩;simpa using hd2
 have h3:((aG w).filter λd=>decide (d.2<d.1)).length≤(aG w).countP λd=>!decide (d.1<d.2):=by
  rw [←List.countP_eq_length_filter];apply List.countP_mono_left;intro d _ h;simp at h ⊢;omega
 rw [List.countP_eq_length_filter] at h1
 have h4:(aG w).countP (λd=>!decide (d.1<d.2))=List.countP (λa=>decide ¬(decide (a.1<a.2)=true)) (aG w):=by
  congr 1
  funext d
  by_cases h:d.1<d.2<;>simp [h]
 omega
structure RI (w:W) (bs:List Bool) (ws ex:List Nat) (c:Nat):Prop where
 len:bs.length=w.length
 z:bs[0]? =some true
 wt:∀x∈ws,bs[x]? =some true
 cl:∀x,bs[x]? =some true→x∈ws∨x∈ex∨∀q∈row w x,bs[q]? =some true
 cnt:bs.count false+ws.length≤c
theorem RI.pop{w:W}{bs:List Bool}{ws:List Nat}{p c:Nat}(h:RI w bs (ws++ [p]) [] (c+1)):RI w bs ws [p] c:=
 ⟨h.len,h.z,λx hx=>h.wt x (r8 _ hx),λx hx=>by
  rcases h.cl x hx with q|q|q
  ·rcases cE.mp q with q|q
   ·exact .inl q
   ·exact .inr (.inl q)
  ·cases q
  ·exact .inr (.inr q),by have:=h.cnt;rw [bV] at this;simp at this;omega⟩
theorem RI.push{w:W}{bs:List Bool}{ws ex:List Nat}{q c:Nat}(h:RI w bs ws ex c)(hq:bs[q]? =some false):RI w (bs.set q true) (ws++ [q]) ex c:=by
 obtain ⟨hl,he⟩:=b9.mp hq
 have up:∀x,bs[x]? =some true→(bs.set q true)[x]? =some true:=λx hx=>by
  rw [nX]
  by_cases e:q=x
  ·rw [if_pos e,if_pos hl]
  ·rw [if_neg e];exact hx
 refine ⟨by rw [gb];exact h.len,up _ h.z,λx hx=>?_,λx hx=>?_,?_⟩
 ·rcases cE.mp hx with z|z
  ·exact up _ (h.wt x z)
  ·have:x=q:=by simpa using z
   rw [this,nX,if_pos rfl,if_pos hl]
 ·by_cases e:q=x
  ·exact .inl (by rw [e];simp)
  ·rw [nX,if_neg e] at hx
   rcases h.cl x hx with z|z|z
   ·exact .inl (r8 _ z)
   ·exact .inr (.inl z)
   ·exact .inr (.inr λy hy=>up _ (z y hy))
 ·have hc:=h.cnt
  have:0<bs.count false:=List.count_pos_iff.mpr (by rw [←he];exact kQ hl)
  rw [List.count_set hl,he,bV];simp;omega
theorem RI.close{w:W}{bs:List Bool}{ws:List Nat}{p c:Nat}(h:RI w bs ws [p] c)(hp:∀q∈row w p,bs[q]? =some true):RI w bs ws [] c:=
 ⟨h.len,h.z,h.wt,λx hx=>by
  rcases h.cl x hx with q|q|q
  ·exact .inl q
  ·have:x=p:=by simpa using q
   rw [this];exact .inr (.inr hp)
  ·exact .inr (.inr q),h.cnt⟩
theorem RI.all{w:W}{bs:List Bool}{c:Nat}(g:Good w)(h:RI w bs [] [] c):bs=List.replicate w.length true:=by
 have:=zK g (S:=λx=>bs[x]? =some true) h.z λp q hp hq=>by
  rcases h.cl p hp with z|z|z
  ·cases z
  ·cases z
  ·exact z q hq
 refine qi λi=>?_
 by_cases hi:i<w.length
 ·rw [this i hi,Bg,if_pos hi]
 ·rw [fG (by rw [h.len];omega),fG (by simp;omega)]
end Wb
namespace Bm
open PySem L2 Wb
def top(i:Nat):Stmt:=PySem.Challenge.pw_mapdye_k15_whole_renamed_and_mirrored.main.body.getD i (.Pass ⟨0,0,0,0⟩)
abbrev jy:Stmt:=top 9
abbrev mm:Stmt:=top 10
abbrev uZ:Stmt:=top 11
abbrev mj:Stmt:=top 12
abbrev mh:Stmt:=top 15
abbrev iM:Stmt:=top 16
abbrev jz:Stmt:=top 17
abbrev iP:Stmt:=top 18
abbrev jx:Stmt:=top 19
abbrev cB:Stmt:=top 20
abbrev iN:Stmt:=top 21
abbrev iO:Stmt:=top 22
abbrev pW:Stmt:=top 25
abbrev nN:Stmt:=top 26
abbrev lZ:Stmt:=top 27
abbrev pY:Stmt:=top 28
abbrev pZ:Stmt:=top 29
abbrev pX:Stmt:=top 30
abbrev nO:Stmt:=top 31
abbrev rO:Stmt:=top 32
abbrev kH:Stmt:=top 33
abbrev rP:Stmt:=top 34
abbrev gG:Stmt:=top 35
abbrev oK:Stmt:=top 36
abbrev dS:Stmt:=L2.ik (top 23) 0
abbrev lY:Stmt:=L2.ik (top 23) 1
abbrev pV:Stmt:=L2.ik (top 23) 2
abbrev jf:Stmt:=L2.ik (top 23) 3
abbrev rN:Stmt:=L2.ik (top 23) 4
abbrev jw:Stmt:=L2.ik (top 23) 5
theorem mv:aI ["web","side","sides","p","q"] ["web","side"] (ao jy):=⟨rfl,rfl,rfl,by decide+kernel,rfl,by decide+kernel,by decide+kernel⟩
theorem xG:aI ["web","walked","told","side","sides","step"] ["web"] (ao mm):=⟨rfl,rfl,rfl,by decide+kernel,rfl,by decide+kernel,by decide+kernel⟩
theorem xF:aI ["web"] ["web"] (ao uZ):=⟨rfl,rfl,rfl,by decide+kernel,rfl,by decide+kernel,by decide+kernel⟩
theorem p7:aI ["web","points","ties","rounds"] ["web"] (ao mj):=⟨rfl,rfl,rfl,by decide+kernel,rfl,by decide+kernel,by decide+kernel⟩
theorem p6:aI ["thing","many"] ["thing","many"] (ao mh):=⟨rfl,rfl,rfl,by decide+kernel,rfl,by decide+kernel,by decide+kernel⟩
theorem kI:aI ["rows","p","row","q"] ["rows"] (ao iM):=⟨rfl,rfl,rfl,by decide+kernel,rfl,by decide+kernel,by decide+kernel⟩
theorem mw:aI ["rows","p","row"] ["rows"] (ao jz):=⟨rfl,rfl,rfl,by decide+kernel,rfl,by decide+kernel,by decide+kernel⟩
theorem kL:aI ["rows","p","row","place","q"] ["rows"] (ao iP):=⟨rfl,rfl,rfl,by decide+kernel,rfl,by decide+kernel,by decide+kernel⟩
theorem mr:aI ["rows","p","row","q"] ["rows"] (ao jx):=⟨rfl,rfl,rfl,by decide+kernel,rfl,by decide+kernel,by decide+kernel⟩
theorem fW:aI ["rows","reached","waiting","p","q"] ["rows"] (ao cB):=⟨rfl,rfl,rfl,by decide+kernel,rfl,by decide+kernel,by decide+kernel⟩
theorem kJ:aI ["rows","q","reached"] ["rows"] (ao iN):=⟨rfl,rfl,rfl,by decide+kernel,rfl,by decide+kernel,by decide+kernel⟩
theorem kK:aI ["rows","fault"] ["rows"] (ao iO):=⟨rfl,rfl,rfl,by decide+kernel,rfl,by decide+kernel,by decide+kernel⟩
theorem mq:aI ["_law_land","_law_many","_law_sides","_law_at"] ["_law_land"] (ao gG):=⟨rfl,rfl,rfl,by decide+kernel,rfl,by decide+kernel,by decide+kernel⟩
theorem Ei:aI ["_law_script","_law_turns","_law_left","_law_order","_law_k","_law_web_here","_law_named","_law_mirrored","_law_first","_law_due"] ["_law_script"] (ao oK):=⟨rfl,rfl,rfl,by decide+kernel,rfl,by decide+kernel,by decide+kernel⟩
theorem jS:aI ["self","turns","rows","fault"] ["self","turns"] (ao dS):=⟨rfl,rfl,rfl,by decide+kernel,rfl,by decide+kernel,by decide+kernel⟩
theorem p4:aI ["self"] ["self"] (ao lY):=⟨rfl,rfl,rfl,by decide+kernel,rfl,by decide+kernel,by decide+kernel⟩
theorem p5:aI ["self"] ["self"] (ao jf):=⟨rfl,rfl,rfl,by decide+kernel,rfl,by decide+kernel,by decide+kernel⟩
theorem mn:aI ["self","p","q","row"] ["self","p","q"] (ao jw):=⟨rfl,rfl,rfl,by decide+kernel,rfl,by decide+kernel,by decide+kernel⟩
structure Txt (Z:DC) (mg:Str→Option Value) where
 B:P5 mg
 x_set:mg "set"=none
 d_round_from:bM Z.K mg "round_from" jy ["web","side"]
 d_lands:bM Z.K mg "lands" mm ["web"]
 d_count:bM Z.K mg "count" uZ ["web"]
 d_is_plane:bM Z.K mg "is_plane" mj ["web"]
 d_is_among:bM Z.K mg "is_among" mh ["thing","many"]
 d_alien_fault:bM Z.K mg "alien_fault" iM ["rows"]
 d_self_fault:bM Z.K mg "self_fault" jz ["rows"]
 d_twice_fault:bM Z.K mg "twice_fault" iP ["rows"]
 d_lone_fault:bM Z.K mg "lone_fault" jx ["rows"]
 d_reached_from_first:bM Z.K mg "reached_from_first" cB ["rows"]
 d_apart_fault:bM Z.K mg "apart_fault" iN ["rows"]
 d_first_fault:bM Z.K mg "first_fault" iO ["rows"]
 d__law_cell:bM Z.K mg "_law_cell" pW ["_law_script","_law_k"]
 d__law_mixed:bM Z.K mg "_law_mixed" nN ["_law_script","_law_turn"]
 d__law_digits:bM Z.K mg "_law_digits" lZ ["_law_script","_law_at"]
 d__law_take:bM Z.K mg "_law_take" pY ["_law_left","_law_many"]
 d__law_tree:bM Z.K mg "_law_tree" pZ ["_law_many","_law_left"]
 d__law_next:bM Z.K mg "_law_next" pX ["_law_turns","_law_side"]
 d__law_round:bM Z.K mg "_law_round" nO ["_law_turns","_law_side"]
 d__law_tie:bM Z.K mg "_law_tie" rO ["_law_turns","_law_left","_law_plane"]
 d__law_renamed:bM Z.K mg "_law_renamed" kH ["_law_turns","_law_order","_law_left"]
 d__law_web:bM Z.K mg "_law_web" rP ["_law_script","_law_most","_law_plane"]
 d__law_begun:bM Z.K mg "_law_begun" gG ["_law_land"]
 d_law:bM Z.K mg "law" oK ["_law_script"]
 W:Dr Z
 mC:mg "Web"=some (.ref Z.C)
 i_f:Addr
 i_fd:FuncData
 i_F:vO Z.K "__init__" "Web.__init__" dS i_f i_fd
 mkW:Mk Z.K Z.C i_f
 m___init__b:Binds Z.K i_fd ["self","turns"] []
 m_many:Bn Z "many" "Web.many" lY ["self"]
 m_turns:Bn Z "turns" "Web.turns" pV ["self"]
 m_ties:Bn Z "ties" "Web.ties" jf ["self"]
 m_tied:Bn Z "tied" "Web.tied" rN ["self","a","b"]
 m_behind:Bn Z "behind" "Web.behind" jw ["self","p","q"]
 c_MOST_POINTS:∃tk,mg "MOST_POINTS"=some (.int 14 tk)
variable {P:Program} {w:World} {mg:Str→Option Value} {base:Heap} {Z:DC} (T:Txt Z mg)
def Jm:eF:=λds P=>∃(i n:Int),ds= [.int i, .int n]∧P (.bl (decide (0≤i∧i<n)))
theorem yW:FnOk P w Z.K mg base bQ 1 T.d_is_among.f T.d_is_among.fd ["thing","many"] (aZ Z Jm):=by
 have nd:=p6.nd;refine bZ T.d_is_among.F p6 [0,0] (by decide) (λds R h=>by obtain ⟨_,_,rfl,_⟩:=h;rfl) (λbp A outer s H E ds R hr h=>?_)
 have hu:=hr.units;refine ⟨_,(aA (bE (yl (Dz "int" (U 0) rfl T.B.isinstance rfl T.B.int JK) (yl (JV (Dz "bool" (U 0) rfl T.B.isinstance rfl T.B.bool Gq)) (DB (EI Cs Iu cG (U 0) (U 1))))))),?_⟩;obtain ⟨i,n,rfl,q⟩:=h;refine ⟨_,rfl,rfl,true,rfl,fP ⟨_,rfl,rfl,false,rfl,true,rfl,fP ⟨_,rfl,?_⟩⟩⟩;refine ⟨_,rfl,pD (λh0=>⟨_,rfl,?_⟩) (λh0=>?_)⟩
 ·have h0:0≤i:=of_decide_eq_true h0
  show R (.bl (decide (i<n)));rw [show decide (i<n)=decide (0≤i∧i<n) by simp [h0]]
  exact q
 ·have h0:¬0≤i:=of_decide_eq_false h0
  rw [show decide (0≤i∧i<n)=false by simp [h0]] at q
  exact q
def ni:eF:=λds P=>∃(w:W),ds= [bG w]∧Good w∧1≤w.length∧w.length≤14∧P .aM
theorem Ba{w:W}{j:Nat}{d:D}(h:(gn (w.map aD))[j]? =some d):j<w.length∧d= .tup [.int (j:Int),aD (row w j)]:=by
 obtain ⟨x,hx,rfl⟩:=n5 h;obtain ⟨r,hr,rfl⟩:=eQ hx;have hj:j<w.length:=(b9.mp hr).1;refine ⟨hj,?_⟩;rw [Lp hr]
theorem sH:FnOk P w Z.K mg base bQ 2 T.d_alien_fault.f T.d_alien_fault.fd ["rows"] (aZ Z ni):=by
 have nd:=kI.nd;refine bZ T.d_alien_fault.F kI [0,0,0,0] (by decide) (λds R h=>by obtain ⟨_,rfl,_⟩:=h;rfl) (λbp A outer s H E ds R hr h=>?_)
 have hu:=hr.units
 refine ⟨_,(ax (fL rfl PassesOwn.never (iF rfl T.B.enumerate (af (U 0) au)) (i8 2 rfl (bC (ba 1 nd) (bC (ba 2 nd) fA))) (aA (fL rfl PassesOwn.never (cz (U 2)) (ba 3 nd) (aA (eJ (sS (sT (aK T.d_is_among (yW T) hr (af (U 3) (af (cm i6 rfl T.B.len iY (af (U 0) au)) au))))) (aA (bE (fK (af oX (af (U 1) (af (U 3) au)))))) bT)))))
   (aA (bE gE))),?_⟩
 obtain ⟨w',rfl,g,h1,cF,q⟩:=h;refine ⟨_,rfl,dO (λ_ ρ=>∃o1 o2 o3,ρ= [some (bG w'),o1,o2,o3]) ⟨_,_,_,rfl⟩ ?_ ?_⟩
 ·rintro j d _ hd ⟨o1,o2,o3,rfl⟩ A hA
  obtain ⟨hj,rfl⟩:=Ba hd;refine ⟨rfl,rfl,?_⟩;refine ⟨_,rfl,dO (λ_ ρ=>∃o3,ρ= [some (bG w'),some (.int (j:Int)),some (aD (row w' j)),o3]) ⟨_,rfl⟩ ?_ ?_⟩
  ·rintro k d' _ hk ⟨o4,rfl⟩ A' Hh
   obtain ⟨x,hx,rfl⟩:=eQ hk;refine ⟨_,rfl,_,rfl,_,_,rfl,⟨rfl,?_⟩⟩;have br:x<w'.length:=g.rng _ _ (cS hx);rw [show decide ((0:Int)≤(x:Int)∧(x:Int)<((w'.map aD).length:Int))=true by simp;omega]
   exact fC (Hh _ ⟨_,rfl⟩)
  ·rintro _ ⟨o4,rfl⟩
   exact hA _ ⟨_,_,_,rfl⟩
 ·rintro _ ⟨o1,o2,o3,rfl⟩
  exact q
theorem uN:FnOk P w Z.K mg base bQ 1 T.d_self_fault.f T.d_self_fault.fd ["rows"] (aZ Z ni):=by
 have nd:=mw.nd;refine bZ T.d_self_fault.F mw [0,0,0] (by decide) (λds R h=>by obtain ⟨_,rfl,_⟩:=h;rfl) (λbp A outer s H E ds R hr h=>?_)
 have hu:=hr.units
 refine ⟨_,(ax (fL rfl PassesOwn.never (iF rfl T.B.enumerate (af (U 0) au)) (i8 2 rfl (bC (ba 1 nd) (bC (ba 2 nd) fA))) (aA (eJ (cH Ir (U 1) (U 2) (by with_unfolding_all rfl)) (aA (bE (fK (af oX (af (U 1) (af (U 1) au)))))) bT)))
   (aA (bE gE))),?_⟩
 obtain ⟨w',rfl,g,h1,cF,q⟩:=h;refine ⟨_,rfl,dO (λ_ ρ=>∃o1 o2,ρ= [some (bG w'),o1,o2]) ⟨_,_,rfl⟩ ?_ ?_⟩
 ·rintro j d _ hd ⟨o1,o2,rfl⟩ A hA
  obtain ⟨hj,rfl⟩:=Ba hd;refine ⟨rfl,rfl,?_⟩;refine ⟨_,rfl,_,rfl,rfl,jF _,_,rfl,?_⟩
  have e:inD (.int (j:Int)) ((row w' j).map ay)=false:=by
   have:=uo (r:=row w' j) (p:=j)
   rw [decide_eq_false (g.irr j)] at this;exact this
  rw [if_neg cK,e];exact fC (hA _ ⟨_,_,rfl⟩)
 ·rintro _ ⟨o1,o2,rfl⟩
  exact q
theorem tV{α:Type}(l:List α)(k:Nat)(h:k≤l.length):cutD l none (some (k:Int))=l.take k:=by
 unfold cutD;have e1:HT.bx l.length 0 none=0:=rfl
 have e2:HT.bx l.length l.length (some (k:Int))=k:=by
  simp only [HT.bx]
  split<;>omega
 rw [e1,e2];simp
theorem sL:FnOk P w Z.K mg base bQ 1 T.d_twice_fault.f T.d_twice_fault.fd ["rows"] (aZ Z ni):=by
 have nd:=kL.nd;refine bZ T.d_twice_fault.F kL [0,0,0,0,0] (by decide) (λds R h=>by obtain ⟨_,rfl,_⟩:=h;rfl) (λbp A outer s H E ds R hr h=>?_)
 have hu:=hr.units
 refine ⟨_,(ax (fL rfl PassesOwn.never (iF rfl T.B.enumerate (af (U 0) au)) (i8 2 rfl (bC (ba 1 nd) (bC (ba 2 nd) fA))) (aA (fL rfl PassesOwn.never (iF rfl T.B.enumerate (af (U 2) au)) (i8 2 rfl (bC (ba 3 nd) (bC (ba 4 nd) fA))) (aA (eJ (cH Ir (U 4) (qv (U 2) t7 (t8 (U 3))) (by with_unfolding_all rfl)) (aA (bE (fK (af oX (af (U 1) (af (U 4) au)))))) bT)))))
   (aA (bE gE))),?_⟩
 obtain ⟨w',rfl,g,h1,cF,q⟩:=h;refine ⟨_,rfl,dO (λ_ ρ=>∃o1 o2 o3 o4,ρ= [some (bG w'),o1,o2,o3,o4]) ⟨_,_,_,_,rfl⟩ ?_ ?_⟩
 ·rintro j d _ hd ⟨o1,o2,o3,o4,rfl⟩ A hA
  obtain ⟨hj,rfl⟩:=Ba hd;refine ⟨rfl,rfl,?_⟩;refine ⟨_,rfl,dO (λ_ ρ=>∃o3 o4,ρ= [some (bG w'),some (.int (j:Int)),some (aD (row w' j)),o3,o4]) ⟨_,_,rfl⟩ ?_ ?_⟩
  ·rintro k d' _ hk ⟨o5,o6,rfl⟩ A' Hh
   obtain ⟨y,hy,rfl⟩:=n5 hk;obtain ⟨x,hx,rfl⟩:=eQ hy;have fe:k<(row w' j).length:=(b9.mp hx).1;refine ⟨rfl,rfl,?_⟩;refine ⟨_,rfl,_,rfl,_,rfl,?_⟩;have ec:cutD ((row w' j).map ay) none (some (k:Int))=((row w' j).take k).map ay:=by rw [tV _ _ (by simp;omega),si]
   refine (?_:JQ false (ay x) (.lst (cutD ((row w' j).map ay) none (some (k:Int)))) _);rw [ec];refine ⟨rfl,jF _,_,rfl,?_⟩
   have e:inD (ay x) (((row w' j).take k).map ay)=false:=by
    rw [uo,decide_eq_false];intro z;obtain ⟨m,hm⟩:=f7 z
    have Fl:m<k:=by
     have:=(b9.mp hm).1
     rw [jn] at this;omega
    rw [Et Fl] at hm;exact absurd ((List.getElem?_inj (by omega) (g.nod j)).mp (hm.trans hx.symm)) (by omega)
   rw [if_neg cK,e];exact fC (Hh _ ⟨_,_,rfl⟩)
  ·rintro _ ⟨o5,o6,rfl⟩
   exact hA _ ⟨_,_,_,_,rfl⟩
 ·rintro _ ⟨o1,o2,o3,o4,rfl⟩
  exact q
theorem uL:FnOk P w Z.K mg base bQ 1 T.d_lone_fault.f T.d_lone_fault.fd ["rows"] (aZ Z ni):=by
 have nd:=mr.nd;refine bZ T.d_lone_fault.F mr [0,0,0,0] (by decide) (λds R h=>by obtain ⟨_,rfl,_⟩:=h;rfl) (λbp A outer s H E ds R hr h=>?_)
 have hu:=hr.units
 refine ⟨_,(ax (fL rfl PassesOwn.never (iF rfl T.B.enumerate (af (U 0) au)) (i8 2 rfl (bC (ba 1 nd) (bC (ba 2 nd) fA))) (aA (fL rfl PassesOwn.never (cz (U 2)) (ba 3 nd) (aA (eJ (cH FG (U 1) (lq (U 0) (U 3)) (by with_unfolding_all rfl)) (aA (bE (fK (af oX (af (U 1) (af (U 3) au)))))) bT)))))
   (aA (bE gE))),?_⟩
 obtain ⟨w',rfl,g,h1,cF,q⟩:=h;refine ⟨_,rfl,dO (λ_ ρ=>∃o1 o2 o3,ρ= [some (bG w'),o1,o2,o3]) ⟨_,_,_,rfl⟩ ?_ ?_⟩
 ·rintro j d _ hd ⟨o1,o2,o3,rfl⟩ A hA
  obtain ⟨hj,rfl⟩:=Ba hd;refine ⟨rfl,rfl,?_⟩;refine ⟨_,rfl,dO (λ_ ρ=>∃o3,ρ= [some (bG w'),some (.int (j:Int)),some (aD (row w' j)),o3]) ⟨_,rfl⟩ ?_ ?_⟩
  ·rintro k d' _ hk ⟨o4,rfl⟩ A' Hh
   obtain ⟨x,hx,rfl⟩:=eQ hk;have Te:=cS hx;have br:x<w'.length:=g.rng _ _ Te;refine ⟨_,rfl,_,rfl,_,rfl,_,jC (vm br),rfl,jF _,_,rfl,?_⟩
   have e:inD (.int (j:Int)) ((row w' x).map ay)=true:=by
    have:=uo (r:=row w' x) (p:=j)
    rw [decide_eq_true (g.sym _ _ Te)] at this;exact this
   rw [if_pos rfl,e];exact fC (Hh _ ⟨_,rfl⟩)
  ·rintro _ ⟨o4,rfl⟩
   exact hA _ ⟨_,_,_,rfl⟩
 ·rintro _ ⟨o1,o2,o3,rfl⟩
  exact q
def tO(bs:List Bool):List D:=bs.map D.bl
theorem Gu{bs:List Bool}{i:Nat}{b:Bool}(h:bs[i]? =some b):(tO bs)[i]? =some (.bl b):=by unfold tO;rw [dq,h];rfl
theorem zG(bs:List Bool)(i:Nat)(b:Bool):(tO bs).set i (.bl b)=tO (bs.set i b):=by unfold tO;rw [List.map_set]
theorem zF(bs:List Bool):(tO bs).length=bs.length:=aJ _
theorem xa{n k:Nat}(h:k<n):nA n (k:Int)=some k:=by unfold nA;rw [if_pos (by omega),if_pos (by omega)];simp
def CU:eF:=λds P=>∃(w:W),ds= [bG w]∧Good w∧1≤w.length∧w.length≤14∧P (.lst (tO (List.replicate w.length true)))
theorem ko:FnOk P w Z.K mg base bQ 1 T.d_reached_from_first.f T.d_reached_from_first.fd ["rows"] (aZ Z CU):=by
 have nd:=fW.nd;refine bZ T.d_reached_from_first.F fW [0,1,1,0,0] (by decide) (λds R h=>by obtain ⟨_,rfl,_⟩:=h;rfl) (λbp A outer s H E ds R hr h=>?_)
 have hu:=hr.units
 refine ⟨_,(ax (ER 1 (NC:= ["row"]) (src:= [none]) rfl nd (vS (ao cB)) trivial (cz (U 0)) (λ_ _ _=>(cy 0 (show (["row"]:List Str).Nodup from by decide+kernel))) (λ_ _ _=>eL) (λ_ _ _=>qu))
   (ax (wF false 1 cG qu)
   (ax (o9 2 nd (sR (af cG au)))
   (ax (wG PassesOwn.never (sT (U 2)) (ax (J0 3 2 nd)
   (aA (fL rfl PassesOwn.never (cz (lq (U 0) (U 3))) (ba 4 nd) (aA (eJ (sS (sT (lq (U 1) (U 4)))) (ax (wF false 1 (U 4) qu)
   (aA (DK false 2 (U 4)))) bT))))))
   (aA (bE (U 1))))))),?_⟩
 obtain ⟨w',rfl,g,h1,cF,q⟩:=h;refine ⟨_,rfl,jb (ρ:= [none]) aD (λ_=> .bl false) w' _ (λy hy Y h=>h) rfl (small (by omega)) λaF=>?_⟩
 have e0:w'.map (λ_=>D.bl false)=tO (List.replicate w'.length false):=by unfold tO;rw [List.map_replicate,List.map_const']
 rw [e0];refine ⟨trivial,_,rfl,0,0,rfl,by rw [zF,r6];exact xa (k:=0) (by omega),?_⟩
 rw [zG];refine ⟨by show 1≤sizeLine;decide,?_⟩
 refine vn (λm ρ=>∃(bs:List Bool)(ws:List Nat)(o3 o4:Option D),ρ= [some (bG w'),some (.lst (tO bs)),some (.lst (ws.map ay)),o3,o4]∧RI w' bs ws [] m∧m≤14∧bs.count false+ws.length=m) w'.length ?_ ?_
 ·refine ⟨_,[0],none,none,rfl,⟨by simp,?_,?_,λx hx=>?_,?_⟩,cF,?_⟩
  ·rw [nX,if_pos rfl,if_pos (by rw [r6];omega)]
  ·intro x hx
   have:x=0:=by simpa using hx
   rw [this,nX,if_pos rfl,if_pos (by rw [r6];omega)]
  ·by_cases e:0=x
   ·exact .inl (by rw [←e];simp)
   ·rw [nX,if_neg e,Bg] at hx
    split at hx<;>cases hx
  ·rw [List.count_set (by rw [r6];omega),List.count_replicate_self,List.getElem_replicate]
   simp;omega
  ·rw [List.count_set (by rw [r6];omega),List.count_replicate_self,List.getElem_replicate]
   simp;omega
 ·rintro m _ ⟨bs,ws,o3,o4,rfl,ri,hc,Se⟩
  refine ⟨_,rfl,rfl,?_⟩
  rcases List.eq_nil_or_concat ws with rfl| ⟨P0,p,e⟩
  ·refine fC ?_
   have e:=ri.all g;rw [←e] at q;exact ⟨_,rfl,q⟩
  ·rw [List.concat_eq_append] at e
   subst e;rw [show Ep (.lst ((P0++ [p]).map ay))=true by simp [Ep]]
   refine fP ?_;rw [bV] at Se;simp only [List.length_singleton] at Se;obtain ⟨c',rfl⟩:∃c',m=c'+1:=⟨m-1,by omega⟩
   have ri2:=ri.pop;have hp:bs[p]? =some true:=ri.wt p (by simp)
   have BZ:p<w'.length:=by rw [←ri.len];exact (b9.mp hp).1
   refine ⟨P0.map ay,ay p,by rw [dB];rfl,?_⟩
   refine ⟨_,rfl,_,rfl,_,jC (vm BZ),dO (λj ρ=>∃(oU:List Bool)(wu:List Nat)(o4:Option D),ρ= [some (bG w'),some (.lst (tO oU)),some (.lst (wu.map ay)),some (ay p),o4]∧RI w' oU wu [p] c'∧(∀k y,k<j→(row w' p)[k]? =some y→oU[y]? =some true)∧oU.count false+wu.length=c') ?_ ?_ ?_⟩
   ·exact ⟨bs,P0,_,rfl,ri2,(λk n hk=>by omega),by omega⟩
   ·rintro j x _ hx ⟨oU,wu,o5,rfl,Jb,DH,Np⟩ A hA
    obtain ⟨n,hn,rfl⟩:=eQ hx;have OJ:=g.rng _ _ (cS hn);have Kf:n<oU.length:=by rw [Jb.len];exact OJ
    have Hq:oU[n]? =some (oU[n]):=cC Kf;refine ⟨_,rfl,_,rfl,_,jC (Gu Hq),rfl,?_⟩;generalize oU[n]=bn at Hq;cases bn with
    |true=>
     refine fC (hA _ ⟨oU,wu,_,rfl,Jb,λk y hk hy=>?_,Np⟩)
     by_cases e:k=j
     ·rw [e,hn] at hy;cases hy;exact Hq
     ·exact DH k y (by omega) hy
    |false=>
     refine fP ?_;refine ⟨trivial,_,rfl,_,rfl,_,n,rfl,by rw [zF];exact xa Kf,?_⟩
     rw [zG];have Lm:=Jb.push Hq;have aac:=Lm.cnt;refine ⟨_,rfl,_,rfl,trivial,bB (by rw [aJ];omega),?_⟩
     have er:wu.map ay++ [ay n]=(wu++ [n]).map ay:=by rw [dB];rfl
     rw [er];refine hA _ ⟨oU.set n true,wu++ [n],_,rfl,Lm,λk y hk hy=>?_,?_⟩
     ·rw [nX]
      by_cases e:n=y
      ·rw [if_pos e,if_pos Kf]
      ·rw [if_neg e]
       refine DH k y ?_ hy;apply Classical.byContradiction;intro z
       have:k=j:=by omega
       rw [this,hn] at hy;cases hy;exact e rfl
     ·obtain ⟨hl,he⟩:=b9.mp Hq
      have:0<oU.count false:=List.count_pos_iff.mpr (by rw [←he];exact kQ hl)
      rw [List.count_set hl,he,bV];simp;omega
   ·rintro _ ⟨oU,wu,o5,rfl,Jb,DH,Np⟩
    have Lm:=Jb.close λy hy=>by
     obtain ⟨k,hk⟩:=f7 hy;exact DH k y (by rw [aJ];exact (b9.mp hk).1) hk
    exact ⟨c',by omega,oU,wu,_,_,rfl,Lm,by omega,Np⟩
theorem sI:FnOk P w Z.K mg base bQ 2 T.d_apart_fault.f T.d_apart_fault.fd ["rows"] (aZ Z ni):=by
 have nd:=kJ.nd;refine bZ T.d_apart_fault.F kJ [0,0,0] (by decide) (λds R h=>by obtain ⟨_,rfl,_⟩:=h;rfl) (λbp A outer s H E ds R hr h=>?_)
 have hu:=hr.units
 refine ⟨_,(ax (fL rfl PassesOwn.never (iF rfl T.B.enumerate (af (aK T.d_reached_from_first (ko T) hr (af (U 0) au)) au)) (i8 2 rfl (bC (ba 1 nd) (bC (ba 2 nd) fA))) (aA (eJ (sS (sT (U 2))) (aA (bE (fK (af oX (af cG (af (U 1) au)))))) bT)))
   (aA (bE gE))),?_⟩
 obtain ⟨w',rfl,g,h1,cF,q⟩:=h;refine ⟨_,rfl,w',rfl,g,h1,cF,dO (λ_ ρ=>∃o1 o2,ρ= [some (bG w'),o1,o2]) ⟨_,_,rfl⟩ ?_ ?_⟩
 ·rintro j d _ hd ⟨o1,o2,rfl⟩ A hA
  obtain ⟨y,hy,rfl⟩:=n5 hd
  have ey:y= .bl true:=by
   obtain ⟨b,hb,rfl⟩:=eQ hy
   have:=cS hb
   rw [List.mem_replicate] at this;rw [this.2]
  subst ey;refine ⟨rfl,rfl,?_⟩;exact ⟨_,rfl,rfl,fC (hA _ ⟨_,_,rfl⟩)⟩
 ·rintro _ ⟨o1,o2,rfl⟩
  exact q
theorem kG:FnOk P w Z.K mg base bQ 3 T.d_first_fault.f T.d_first_fault.fd ["rows"] (aZ Z ni):=by
 have nd:=kK.nd;refine bZ T.d_first_fault.F kK [0,0] (by decide) (λds R h=>by obtain ⟨_,rfl,_⟩:=h;rfl) (λbp A outer s H E ds R hr h=>?_)
 have hu:=hr.units
 refine ⟨_,(ax (dE false 1 nd (aK T.d_alien_fault (sH T) hr (af (U 0) au)))
   (ax (eJ (cH yT (U 1) gE (bF _)) (aA (dE false 1 nd (aK T.d_self_fault (uN T) hr (af (U 0) au)))) bT)
   (ax (eJ (cH yT (U 1) gE (bF _)) (aA (dE false 1 nd (aK T.d_twice_fault (sL T) hr (af (U 0) au)))) bT)
   (ax (eJ (cH yT (U 1) gE (bF _)) (aA (dE false 1 nd (aK T.d_lone_fault (uL T) hr (af (U 0) au)))) bT)
   (ax (eJ (cH yT (U 1) gE (bF _)) (aA (dE false 1 nd (aK T.d_apart_fault (sI T) hr (af (U 0) au)))) bT)
   (aA (bE (U 1)))))))),?_⟩
 obtain ⟨w',rfl,g,h1,cF,q⟩:=h;have no:∀(u:dD)(E:gP)(ρ:DN)(te:aT),ρ[1]? =some (some .aM)→E.nx ρ→Mh (yk (Bz (Gz false) (Dx 1) (dC .aM))) u GA E ρ→True:=λ_ _ _ _ _ _ _=>trivial;refine ⟨_,rfl,w',rfl,g,h1,cF,trivial,?_⟩;refine ⟨_,rfl,_,rfl,fP ⟨_,rfl,w',rfl,g,h1,cF,trivial,?_⟩⟩;refine ⟨_,rfl,_,rfl,fP ⟨_,rfl,w',rfl,g,h1,cF,trivial,?_⟩⟩;refine ⟨_,rfl,_,rfl,fP ⟨_,rfl,w',rfl,g,h1,cF,trivial,?_⟩⟩;refine ⟨_,rfl,_,rfl,fP ⟨_,rfl,w',rfl,g,h1,cF,trivial,?_⟩⟩;exact ⟨_,rfl,q⟩
theorem gx{P:Program}{w:World}{mg:Str→Option Value}{base:Heap}{Z:DC}(T:Txt Z mg):FnOk P w Z.K mg base bQ 4 T.i_f T.i_fd ["self","turns"] (A1 Z):=by
 have He:=kG (P:=P) (w:=w) (base:=base) T;have nd:=jS.nd;refine T.i_F.ok jS (λvs H Q E h=>?_) (λbp A outer s H vs Q E hr h=>?_)
 ·obtain ⟨p,dx,v,G,w',rfl,_⟩:=h;rfl
 obtain ⟨p,dx,v,G,w',rfl,hp,sG,gp,dv,g,h1,cF,q⟩:=h;have hu:=hr.units
 refine ⟨_,aB (t:=ot Z [0,0,0,0] 0 _)
   (eJ (sS (ET Cs Cs cG (cm i6 rfl T.B.len iY (af (U 1) au)) (EJ rfl T.c_MOST_POINTS))) (aA wD) bT)
  (aB (t:=ot Z [0,0,0,0] 0 _)
   (mO 2 (NC:= ["row"]) (src:= [none]) rfl nd (vS (ao dS)) trivial (cz (U 1)) (λ_ _ _=>(cy 0 (show (["row"]:List Str).Nodup from by decide+kernel))) (λ_ _ _=>eL) (λ_ _ _=>(tZ zI rfl T.B.list tJ (af (U 0) au))))
  (aB (t:=ot Z [0,0,0,0] 0 _)
   (dE false 3 nd (aK T.d_first_fault (kG T) hr (af (U 2) au)))
  (aB (t:=ot Z [0,0,0,0] 0 _)
   (eJ (cH FF (U 3) gE (bF _)) (aA wD) bT)
  (aY (Ld (pv 0) (pv 2) rfl))))),?_⟩
 have lw:(w'.map aD).length=w'.length:=aJ _;refine ⟨⟨G,H,G⟩,[some (.obj p),some (bG w'),none,none],{nx:=λρ=>ρ= [some (.obj p),some (bG w'),none,none],rt:=λ_=>False},⟨G,λ_=> [],?_⟩,?_,⟨?_,λ_ z=>z.elim,λ_ z=>z.elim,λ_ z=>z.elim⟩⟩
 ·refine ⟨.refl sG, .refl _,rfl,λi d hi=>?_,λ_=>jW,(λ_ _ _ _ z=>by cases z),(λ_ _ z=>by cases z)⟩
  match i,hi with
  |0,hi=>cases hi;exact ⟨_,rfl, .obj p,rfl⟩
  |1,hi=>cases hi;exact ⟨_,rfl,dv,rfl⟩
  |2,hi=>cases hi
  |3,hi=>cases hi
  |i+4,hi=>cases hi
 ·have e1:D.bl (decide ((1:Int)≤((w'.map aD).length:Int)))= .bl true:=congrArg D.bl (decide_eq_true (by rw [lw];omega))
  have e2:D.bl (decide (((w'.map aD).length:Int)≤14))= .bl true:=congrArg D.bl (decide_eq_true (by rw [lw];omega))
  exact ⟨_,rfl,true,e1,fP ⟨true,e2,fC rfl⟩⟩
 rintro _ rfl Dm H1 S1;refine ⟨⟨G,H,G⟩,_,{nx:=λρ=>ρ= [some (.obj p),some (bG w'),some (bG w'),none],rt:=λ_=>False},S1,?_,⟨?_,λ_ z=>z.elim,λ_ z=>z.elim,λ_ z=>z.elim⟩⟩
 ·exact ⟨_,rfl,jb (ρ:= [none]) aD aD w' _ (λy hy Y h=>⟨_,rfl,h⟩) rfl (small (by omega)) λaF=>⟨trivial,rfl⟩⟩
 rintro _ rfl cD H2 S2;refine ⟨⟨G,H,G⟩,_,{nx:=λρ=>ρ= [some (.obj p),some (bG w'),some (bG w'),some .aM],rt:=λ_=>False},S2,?_,⟨?_,λ_ z=>z.elim,λ_ z=>z.elim,λ_ z=>z.elim⟩⟩
 ·exact ⟨_,rfl,w',rfl,g,h1,cF,trivial,rfl⟩
 rintro _ rfl sP H3 S3;refine ⟨⟨G,H,G⟩,_,{nx:=λρ=>ρ= [some (.obj p),some (bG w'),some (bG w'),some .aM],rt:=λ_=>False},S3,?_,⟨?_,λ_ z=>z.elim,λ_ z=>z.elim,λ_ z=>z.elim⟩⟩
 ·exact ⟨_,rfl,_,rfl,fC rfl⟩
 rintro _ rfl cT H4 ⟨G4,fp,S4⟩;obtain ⟨v0,v8,o0⟩:=S4.at_ 0 _ rfl;obtain ⟨v2,Aj,o2⟩:=S4.at_ 2 _ rfl;obtain ⟨d0,_⟩:=o0;obtain ⟨d2,_⟩:=o2;cases d0;have Xr:=d2;cases d2 with
 | @lst R xs ds hR e=>
  have Za:=S4.ex.hh _ _ hp;refine ⟨_,Aj,_,v8,p,Z.C,dx,[],rfl,Za,T.W.cl,T.W.nR,by decide,?_⟩
  have g4:G4 p=none:=S4.ex.off p (by show H p≠none;rw [hp];exact λz=>nomatch z) gp
  refine q R G4 _ S4.ex.gg (λb o eb=>?_) (λb o eb nb=>?_) S4.ex.off ab Xr
  ·rw [ae (ah eb g4)];exact S4.ex.sub _ _ eb
  ·rw [ae nb];exact S4.ex.hh _ _ eb
def Ly:eF:=λds P=>∃(w:W),ds= [.gO w]∧P (.int (w.length:Int))
theorem pP:FnOk P w Z.K mg base bQ 1 T.m_many.f T.m_many.fd ["self"] (aZ Z Ly):=by
 have nd:=p4.nd;refine bZ T.m_many.F p4 [0] (by decide) (λds R h=>by obtain ⟨_,rfl,_⟩:=h;rfl) (λbp A outer s H E ds R hr h=>?_)
 have hu:=hr.units;refine ⟨_,(aA (bE (cm i6 rfl T.B.len iY (af (t5 T.W (U 0)) au)))),?_⟩;obtain ⟨w',rfl,q⟩:=h;refine ⟨_,rfl,w',rfl,?_⟩;refine (?_:R (.int ((w'.map aD).length:Int)));rw [aJ];exact q
end Bm
namespace L2
open PySem PySem.Spec PyProof.Rows
section
variable {X:Cx} {Z:DC} {pins:List (Addr×Obj)} {σ:St} {H:Hp} {s:Shared}
open Classical in
noncomputable def BG(h:Heap)(d:PyData)(u:Value):Bool:=decide (∃e as,Reads h u e as∧e.canLay0=true∧PyData.eqv e d=true)
open Classical in
theorem DS{h:Heap}{d e:PyData}{u:Value}{as:List Addr}(r:Reads h u e as)(c:e.canLay0=true):BG h d u=PyData.eqv e d:=by
 unfold BG
 by_cases z:PyData.eqv e d=true
 ·rw [z];exact decide_eq_true ⟨e,as,r,c,z⟩
 ·rw [qj.mpr z]
  refine decide_eq_false ?_;rintro ⟨e',WZ,r',c',z'⟩;rw [(r.unique e' WZ r').1] at z;exact z z'
theorem w9(I:Inv X pins σ H s){d:PyData}{v:Value}{bs:List Addr}(rv:Reads s.heap v d bs)(cv:d.canLay0=true)(hz:d.depth≤60)(hu:X.A.units+64<cLine):∀{vs:List V}{ds:List PyData}{us:List Value},cw X.K H vs ds→Vals vs us→
  us.any (BG s.heap d)=ds.any (λe=>PyData.eqv e d)∧∀u∈us,SeqAt.EqAt X.A.in1 s u v (BG s.heap d u)
 |_,_,_, .nil, .nil=>⟨rfl,λu h=>by cases h⟩
 |_,_,_, .cons (d:=e) a as, .cons r rs=>by
  obtain ⟨h1,h2⟩:=w9 I rv cv hz hu as rs;obtain ⟨⟨cs,re⟩,ce⟩:=a.reads I r;have e1:=DS (d:=d) re ce;refine ⟨by rw [rg,rg,h1,e1],λu hm=>?_⟩
  rcases ck.mp hm with rfl|hm
  ·rw [e1]
   exact SeqAt.eqAt_reads e d X.A.in1 s _ _ cs bs re rv ce cv (by have:=Nat.min_le_right e.depth d.depth;simp only [Around.in1_units];omega)
  ·exact h2 u hm
end
section
variable {X:Cx} {Z:DC}
end
end L2
namespace PySem
namespace F
theorem Cr:typeLookup (.type "list_reverseiterator") "__len__"=pure none:=by rw [typeLookup_type,builtinLookup_eq_fast];kernel_rfl
theorem Fi:typeLookup (.type "list_reverseiterator") "__length_hint__"=pure (some (.builtin "list_reverseiterator.__length_hint__")):=by rw [typeLookup_type,builtinLookup_eq_fast];kernel_rfl
end F
section
variable {prog:Program} {w:World} {A:Around} {s:Shared} {R:Result→Shared→Prop}
variable {I:Addr} {fp wr:List Addr} {G:Array GenState→Array GenState→Prop} {n:Nat} {P:Nat→Value→Prop} {St:Nat→Shared→Prop}
theorem z0(W:WalksS prog w A.in1 I fp wr G n P St)(hT:∀i s,St i s→s.TypeIs (.ref I) "list_reverseiterator")(S:Addr)(res:Value)(c₀:Nat)(jH:St 0 s)(BN:S∉fp)(hI:I∈fp)
  (hS:s.heap.get? S=some {cls:= .type "list",data:= .seq #[] c₀})
  (hR:∀s' dz c',Moved (S::wr) G s s'→s'.heap.get? S=some {cls:= .type "list",dict:=none,data:= .seq dz c',slots:= #[]}→ItemsOf P dz n→R (.ok (.ret res)) s') (hn:n≤sizeLine):
  wpAny (model prog w) A.in1 (Builtin.List.listExtendWith (.ref S) (.ref I) res)
   (λfin s'=>match fin with| .done f=>R (.ok f) s'| .again c'=>c'.quiet=true∧codeAny (model prog w) A c' R s') (λe s'=>R (.error e) s') s:=by
 have Yn:S≠I:=λe=>BN (e▸hI);unfold Builtin.List.listExtendWith;refine wpAny_bind (wpAny_typeOf (hT 0 _ jH) ?_);have h1:Builtin.List.listSameRef (.ref S) (.ref I)=false:=by simp [Builtin.List.listSameRef,Yn]
 have h2:(Value.type "list_reverseiterator"==Value.type "list")=false:=by decide
 have h3:(Value.type "list_reverseiterator"==Value.type "tuple")=false:=by decide
 simp only [h1,h2,h3,Bool.or_false,eB,if_false];refine wpAny_bind (W.self 0 _ _ _ jH ?_);refine wpAny_bind (wpAny_holding ?_);unfold Builtin.List.listLengthHint;refine wpAny_bind (wpAny_specialOf (hT 0 _ jH) F.Cr ?_);show wpAny _ A.in1 (specialOf (Value.ref I) (Str.ofString "__length_hint__")>>=_) _ _ _;refine wpAny_bind (wpAny_specialOf (hT 0 _ jH) F.Fi ?_);generalize Ss:("list_reverseiterator.__length_hint__":String)=Zw
 wp_delta
 rw [show splitId Zw=some ("list_reverseiterator","__length_hint__") from by subst Ss;decide+kernel]
 subst Ss;refine wpAny_bind (wpAny_isInstance (b:=true) (hT 0 _ jH) (by rw [isSubtype_type];kernel_rfl) ?_)
 refine wpAny_pure ?_;rw [if_neg (by decide)]
 exact wpAny_pure ⟨plainId_quiet F.plain_extend_loop _,codeAny_extend_loopS W hn _ BN _ n 0 _ _ _ rfl (cM _) jH hS (ItemsOf.nil P) hR⟩
theorem uC(W:WalksS prog w A.in1 I fp wr G n P St)(hT:∀i s,St i s→s.TypeIs (.ref I) "list_reverseiterator")(S:Addr)(jH:St 0 s)(BN:S∉fp)(hI:I∈fp)
  (hS:s.heap.get? S=some {cls:= .type "list",data:= .seq #[]})
  (hR:∀s' dz c',Moved (S::wr) G s s'→s'.heap.get? S=some {cls:= .type "list",dict:=none,data:= .seq dz c',slots:= #[]}→ItemsOf P dz n→R (.ok (.ret .none)) s') (hn:n≤sizeLine):
  wpAny (model prog w) A.in1 (Builtin.«list.__init__» ⟨[.ref S, .ref I],[]⟩)
   (λfin s'=>match fin with| .done f=>R (.ok f) s'| .again c'=>c'.quiet=true∧codeAny (model prog w) A c' R s') (λe s'=>R (.error e) s') s:=by
 show wpAny _ A.in1 (do let old ←Builtin.List.listItems (.ref S);Builtin.List.listUpdate (.ref S) (λ_=> #[]);letGo old.toList.reverse;Builtin.List.listExtendWith (.ref S) (.ref I) .none) _ _ s
 refine wpAny_bind ?_;unfold Builtin.List.listItems;refine wpAny_bind (wpAny_seqItems hS rfl (wpAny_pure ?_));show wpAny _ A.in1 (updateSeq S (λ_=> #[])>>=λ_=>letGo (#[]:Array Value).toList.reverse>>=λ_=>Builtin.List.listExtendWith (.ref S) (.ref I) .none) _ _ s;refine wpAny_bind (wpAny_updateSeq hS rfl ?_);have Oj:=Heap.get?_update_self (Obj.mapSeq (λ_=>(#[]:Array Value))) hS rfl
 have U2:∀b o,b≠S→s.heap.get? b=some o→(s.heap.update S (Obj.mapSeq (λ_=>(#[]:Array Value)))).get? b=some o:=
  λb o hb e=>(Heap.get?_update_other _ _ (Ne.symm hb)).trans e
 refine wpAny_bind (wpAny_letGo ?_);refine z0 W hT S .none _ (W.frame 0 s _ s.toks jH (aU _) λb hb o e=>U2 b o (λh=>BN (h▸hb)) e) BN hI Oj (λs' dz c' hm E8 wW=>?_) hn;exact hR s' dz c' (Moved.trans W.gtrans ((Moved.refl W.grefl).then_heap (aU _) λb o hb e=>U2 b o (λh=>hb (h▸bY)) e) hm) E8 wW
theorem tQ{E:Value→Shared→Prop}{Q:Value→Shared→Prop}(W:WalksS prog w A.in1.in1 I fp wr G n P St)(hT:∀i s,St i s→s.TypeIs (.ref I) "list_reverseiterator")(jH:St 0 s)(Kc:∀b∈fp,b<s.heap.objs.size)(hI:I∈fp)
  (hQ:∀s' dz c',Moved (s.heap.objs.size::wr) G {s with heap:=s.heap.push {cls:= .type "list",data:= .seq #[]}} s'→
   s'.heap.get? s.heap.objs.size=some {cls:= .type "list",dict:=none,data:= .seq dz c',slots:= #[]}→ItemsOf P dz n→Q (.ref s.heap.objs.size) s') (hn:n≤sizeLine):
  wpAny (model prog w) A (call (.type "list") [.ref I]) Q E s:=by
 have BN:s.heap.objs.size∉fp:=λhm=>kS _ (Kc _ hm)
 refine callType_codes (Q₁:=λobj s₁=>obj= .ref s.heap.objs.size∧s₁={s with heap:=s.heap.push {cls:= .type "list",data:= .seq #[]}}) F.called_list (F.typeCall_list_1 _) F.entry_list_init
  (code_list_new _ ⟨rfl,rfl⟩) λobj s₁ Tn=>?_
 obtain ⟨rfl,rfl⟩:=Tn;have hS:(s.heap.push {cls:= .type "list",data:= .seq #[]}).get? s.heap.objs.size=some {cls:= .type "list",data:= .seq #[]}:=Heap.get?_push_size _ rfl;refine ⟨⟨_,hS,rfl⟩,F.args_list_init_2 _ _,uC W hT _ (W.frame 0 s _ s.toks jH (aU _) λb _ o e=>Heap.get?_push_of_some _ e) BN hI hS (λs' dz c' hm E8 wW=>?_) hn⟩;exact ⟨rfl,hQ s' dz c' hm E8 wW⟩
end
end PySem
namespace L2
open PySem PySem.Spec PyProof.Rows
section
variable {X:Cx} {Z:DC} {a b c e:Expr} {ta te:aT} {t:hJ} {pos:Pos}
def F5(K:PySem.W.Frag)(ta:TA):TE:=λσ H Q=>ta σ H λvs H1=>∃l xs,vs= [.ref l]∧aC K H1 l xs∧∀q,H1 q=none→Q (.ref q) (upd H1 q (.lst xs.reverse))
theorem AJ{ta:TA}{p p2 fE:Pos}(hc:X.calm=true)(Oz:Gl X "list")(BV:X.mg "list"=none)(OA:Gl X "reversed")(BW:X.mg "reversed"=none)(ha:PA X [a] ta)
  (hs:starEach [.Call (.Name "reversed" p2) [a] [] fE] X.env=(false,eval (.Call (.Name "reversed" p2) [a] [] fE) X.env)::starEach [] X.env:=by rfl) (cW:(backTo pos (starEach [] X.env)).any (·.1)=false:=by rfl)
  (j5:starEach [a] X.env=(false,eval a X.env)::starEach [] X.env:=by rfl) (HF:(backTo fE (starEach [] X.env)).any (·.1)=false:=by rfl):
  PE X (.Call (.Name "list" p) [.Call (.Name "reversed" p2) [a] [] fE] [] pos) (F5 X.K ta):=by
 intro pins s σ H Q I h;refine wpAny_Call_Name_kw (hZ I Oz BV tJ ?_);refine PyProof.Rows.callWith_type1 ?_ hs cW;rw [hs];show wpAny _ _ (spliced ((false,eval _ X.env)::backTo pos (starEach [] X.env))) _ _ s;refine Calls.spliced_cons ?_;refine wpAny_Call_Name_kw (hZ I OA BW ye ?_);refine PyProof.Rows.callWith_type1 (thn (ha fE pins s σ H _ I h) λus s1 ⟨vs,H1,I1,r1,q1⟩=>?_) j5 HF;obtain ⟨l,xs,e,hl,q⟩:=q1;subst e;obtain ⟨u,rfl,ru⟩:=r1.one;cases ru;obtain ⟨its,rv,p,hz⟩:=I1.list hl;have hlen:=rv.length;refine call_reversed_list p.isList ?_;refine Calls.spliced_nil ?_;have br:l<s1.heap.objs.size:=by obtain ⟨o,ho,_⟩:=p.isList;exact Heap.lt_size ho
 have fg:l≠s1.heap.objs.size:=bW br;have W:=(Walks.listRev (prog:=X.prog) (w:=X.w) (A:=X.A.in1.in1) (I.ok.hd hc) s1.heap.objs.size l fg its.toArray).toS;have hit:(s1.heap.push (revObj l ((its.toArray.size:Int)-1))).IsRevIter s1.heap.objs.size l ((its.toArray.size:Int)-1-((0:Nat):Int)):=⟨_,Heap.get?_push_size _ rfl,rfl,by simp [revObj]⟩
 have YQ:(s1.heap.push (revObj l ((its.toArray.size:Int)-1))).IsList l its.toArray:=p.isList.at λo e=>Heap.get?_push_of_some _ e;have eD:(s1.heap.push (revObj l ((its.toArray.size:Int)-1))).objs.size=s1.heap.objs.size+1:=by simp [Heap.push]
 refine tQ W (λi s st=>st.2.1.typeIs) ⟨cM _,hit,YQ⟩ (λb hb=>?_) (by simp) (λs' dz c' hm E8 wW=>?_) (by simpa [←hlen] using hz)
 ·rw [show ({s1 with heap:=s1.heap.push (revObj l ((its.toArray.size:Int)-1))}:Shared).heap.objs.size=s1.heap.objs.size+1 from eD]
  have hb:b=s1.heap.objs.size∨b=l:=by simpa using hb
  rcases hb with rfl|rfl
  ·exact Nat.lt_succ_self _
  ·exact xX br
 ·rw [Moved.eq_with hm]
  have kk:∀b o,s1.heap.get? b=some o→s'.heap.get? b=some o:=λb o e=>by
   have hb:=Heap.lt_size e;refine hm.heap b o (λwX=>?_) (Heap.get?_push_of_some _ (Heap.get?_push_of_some _ e));have wX:b=(s1.heap.push (revObj l ((its.toArray.size:Int)-1))).objs.size∨b=s1.heap.objs.size:=by simpa using wX
   rw [eD] at wX
   rcases wX with rfl|rfl
   ·exact absurd hb (Nat.not_lt.mpr (jq _))
   ·exact absurd hb (kS _)
  rw [show ({s1 with heap:=s1.heap.push (revObj l ((its.toArray.size:Int)-1))}:Shared).heap.objs.size=s1.heap.objs.size+1 from eD] at E8 ⊢
  refine ⟨.ref (s1.heap.objs.size+1),_,I1.laid kk (jq _) (o:= .lst xs.reverse) ⟨by rw [List.length_reverse];exact hz,dz.toList,c',?_,by simpa using E8⟩,rfl,q _ (I1.hok.fresh (jq _))⟩
  refine Vals.of_get (by simp [wW.1,hlen]) λk x w hx hw=>?_
  have hk:k<xs.length:=by
   have:=(b9.mp hx).1
   simpa using this
  rw [List.getElem?_reverse hk] at hx;obtain ⟨u,hu,ru⟩:=rv.get hx
  have:its.toArray[its.toArray.size-1-k]? =some w:=wW.2 k w (by rw [←eu];exact hw)
  have e2:its.toArray.size-1-k=xs.length-1-k:=by simp [hlen]
  rw [e2] at this
  have:u=w:=by
   have h1:its[xs.length-1-k]? =some w:=by simpa using this
   rw [hu] at h1;exact Option.some.inj h1
  rw [←this];exact ru
def EG(t:hJ):aT:=λρ P=>t ρ λds=>match ds with
 | [.lst l]=>P (.lst l.reverse)
 |_=>False
theorem rq{p p2 fE:Pos}(hc:X.calm=true)(Oz:Gl X "list")(BV:X.mg "list"=none)(OA:Gl X "reversed")(BW:X.mg "reversed"=none)(ha:DA Z X [a] t)
  (hs:starEach [.Call (.Name "reversed" p2) [a] [] fE] X.env=(false,eval (.Call (.Name "reversed" p2) [a] [] fE) X.env)::starEach [] X.env:=by rfl) (cW:(backTo pos (starEach [] X.env)).any (·.1)=false:=by rfl)
  (j5:starEach [a] X.env=(false,eval a X.env)::starEach [] X.env:=by rfl) (HF:(backTo fE (starEach [] X.env)).any (·.1)=false:=by rfl):
  DE Z X (.Call (.Name "list" p) [.Call (.Name "reversed" p2) [a] [] fE] [] pos) (EG t):=by
 refine (AJ hc Oz BV OA BW ha hs cW j5 HF).imp ?_;rintro σ H Q ⟨G,ρ,P,s,en,h,q⟩;refine ⟨G,ρ,_,s,en,h,λds hd vs G1 H1 x1 dv=>?_⟩;cases dv with
 |nil=>exact hd.elim
 |cons a as=>
  cases as with
  |cons _ _=>cases a<;>exact hd.elim
  |nil=>
   cases a<;>first|exact hd.elim|skip
   rename_i p xs ds ha e
   exact ⟨_,xs,rfl,aC.of (x1.sub _ _ ha),λp hn=>q _ hd _ _ _ (x1.trans (.new x1.sub hn)) (.lst ab (e.rev.mono (av (x1.sub.free hn) _)))⟩
end
section
variable {Z:DC} {X:Cx} {md:List Nat} {rn:Nat} {a b e k:Expr} {pos:Pos} {ta tb te tk:aT} {t:nk}
variable {tg iter elt:Expr} {ifs:List Expr} {scope:Scope} {NC:List Str} {src:List (Option Nat)} {wi:jr} {g:eC} {tt:dM}
theorem NS(hc:X.calm=true)(c:bb X scope)(fB:cZ scope X.N src NC)(hi:DI Z X tg iter wi)
  (hg:∀ex s H,DG Z (cV X scope NC ex s H) tg g) (ht:∀ex s H,zt Z (cV X scope NC ex s H) ifs tt) (he:∀ex s H,DE Z (cV X scope NC ex s H) elt te)
  (hs:∀x,foldedSetIterable iter X.env x=pure x:=by intro _;rfl):DF Z X 1 (.ListComp elt [⟨tg,iter,ifs,0⟩] scope pos) (N3 wi g tt te src):=(CB hc c fB hi hg ht he hs).imp Aw
variable {B:Bs} {ρ:DN} {σ:St} {H G:Hp} {fp:Nat→List Addr}
end
section
variable {Z:DC} {X:Cx} {md:List Nat} {rn:Nat} {e:Expr} {pos p2:Pos} {te:aT} {t:nk} {lo hi:Option Expr} {tl th:Bl}
def NQ(t:nk):dD:=λE ρ=>t ρ λds=>E.rt (.lst ds)
theorem GU(he:DF Z X rn e t):DSt Z X md rn (.Return (some e) pos) (NQ t):=(e7 he).imp λD σ H ⟨B,ρ,E,⟨G,fp,S⟩,h,M⟩=>by
 let F:Addr→Prop:=λb=>∃i,b∈fp i
 have s:=S.ex.sub
 have x0:Ext B.G₀ B.H₀ (plus G H F) H:=⟨S.ex.gg.trans (dX s),iu s,S.ex.hh,λb hb hg=>by
  rw [cq (λ⟨i,hi⟩=>hb (S.nw i b hi).1)];exact S.ex.off b hb hg⟩
 refine ⟨plus G H F,ρ,_,iu s,⟨S.len,λi d h=>?_⟩,h,λds hd v f G' H' x o nd nw=>M.rt _ hd v f G' H' (x0.trans x) o nd λb hb=>⟨S.ex.hh.free (nw b hb).1,(nw b hb).2⟩⟩;obtain ⟨v,hv,o⟩:=S.at_ i d h;exact ⟨v,hv,o.dv (dX s) λb hb u e=>by rw [dR ⟨i,hb⟩];exact e⟩
end
theorem eG.ok{P:Program}{w:World}{H:Hp}{h:Heap}{a:Addr}{b:Bool}{es:List (Int×Addr)}(x:eG b a es h):cO P w H h a (.ext (eG b a es)):=by
 refine ⟨x,let ⟨o,_,_,_,ho,_⟩:=x;⟨o,ho⟩,λh1 h2 p k=>?_⟩;obtain ⟨o,eA,ep,t,ho,r⟩:=p;exact ⟨o,eA,ep,t,k o ho,r⟩
theorem iz.mem{H:Hp}:∀{es:List (Int×Addr)}{ps:List (Int×Int)},iz H es ps→∀e∈es,∃p∈ps,e.1=fD p∧H e.2=some (.tup [.int p.1, .int p.2])
 |_,_, .nil,e,he=>nomatch he
 |_,_, .cons (p:=p) h t,e,he=>by
  rcases ck.mp he with rfl|he
  ·exact ⟨p,bY ..,rfl,h⟩
  ·obtain ⟨q,h1,h2⟩:=t.mem e he
   exact ⟨q,cu _ h1,h2⟩
theorem iz.MG{H:Hp}:∀{es:List (Int×Addr)}{ps:List (Int×Int)},iz H es ps→∀p∈ps,∃a,(fD p,a)∈es∧H a=some (.tup [.int p.1, .int p.2])
 |_,_, .nil,p,hp=>nomatch hp
 |_,_, .cons (a:=a) h t,p,hp=>by
  rcases ck.mp hp with rfl|hp
  ·exact ⟨a,bY ..,h⟩
  ·obtain ⟨a',h1,h2⟩:=t.MG p hp
   exact ⟨a',cu _ h1,h2⟩
theorem iz.len{H:Hp}:∀{es:List (Int×Addr)}{ps:List (Int×Int)},iz H es ps→es.length=ps.length
 |_,_, .nil=>rfl
 |_,_, .cons _ t=>congrArg (·+1) t.len
theorem iz.snoc{H:Hp}{a:Addr}{p:Int×Int}(h:H a=some (.tup [.int p.1, .int p.2])):∀{es:List (Int×Addr)}{ps:List (Int×Int)},iz H es ps→iz H (es++ [(fD p,a)]) (ps++ [p])
 |_,_, .nil=> .cons h .nil
 |_,_, .cons h' t=> .cons h' (iz.snoc h t)
section
variable {X:Cx} {pins:List (Addr×Obj)} {σ:St} {H:Hp} {s:Shared}
theorem Inv.AM{a:Addr}{p:Int×Int}(I:Inv X pins σ H s)(h:H a=some (.tup [.int p.1, .int p.2])):IsTupleKey (intKind X.prog X.w) s.heap [p.1,p.2] a:=by
 obtain ⟨its,r,⟨o,ho,hc,n,hd⟩,_⟩:=I.tuple (dr.of h);obtain ⟨u1,u2,rfl,⟨t,rfl⟩,⟨u,rfl⟩⟩:=Vals.two r;exact ⟨o,_,n,ho,hc,hd, .cons (by simp [intKind,Value.isInt]) (.cons (by simp [intKind,Value.isInt]) .nil)⟩
theorem Inv.nP{a:Addr}{b:Bool}{es:List (Int×Addr)}(I:Inv X pins σ H s)(h:H a=some (.ext (eG b a es))):eG b a es s.heap:=(I.hok a _ h).1
theorem pR(P:Program)(w:World)(p:Int×Int):tupleKeyHash (intKind P w) [p.1,p.2]=fD p:=rfl
theorem Inv.U4{es:List (Int×Addr)}{ps:List (Int×Int)}{eA:Array (Int×Value)}(I:Inv X pins σ H s)(pe:iz H es ps)(pm:eA.toList.Perm (es.map λe=>(e.1,Value.ref e.2))):Gh X.prog X.w s.heap eA:=λi e he=>by
 have hm:e∈eA.toList:=by rw [←eu] at he;exact cS he
 obtain ⟨e',yu,rfl⟩:=bN.mp (pm.mem_iff.mp hm);obtain ⟨p,_,h1,h2⟩:=pe.mem e' yu;exact ⟨[p.1,p.2],e'.2,by rw [pR,h1],I.AM h2⟩
theorem Inv.lG{es:List (Int×Addr)}{ps:List (Int×Int)}{eA:Array (Int×Value)}(I:Inv X pins σ H s)(pe:iz H es ps)(pm:eA.toList.Perm (es.map λe=>(e.1,Value.ref e.2)))(p:Int×Int):
  (∃(i:Nat)(c:Addr),eA[i]? =some (tupleKeyHash (intKind X.prog X.w) [p.1,p.2], .ref c)∧IsTupleKey (intKind X.prog X.w) s.heap [p.1,p.2] c)↔p∈ps:=by
 constructor
 ·rintro ⟨i,c,h1,h2⟩
  have hm:(tupleKeyHash (intKind X.prog X.w) [p.1,p.2],Value.ref c)∈eA.toList:=by rw [←eu] at h1;exact cS h1
  obtain ⟨e',yu,e1⟩:=bN.mp (pm.mem_iff.mp hm);obtain ⟨q,hq,h3,h4⟩:=pe.mem e' yu
  have:e'.2=c:=by have:=(Prod.mk.inj e1).2;injection this
  rw [this] at h4
  have:=(I.AM h4).inj h2
  simp at this
  have:q=p:=Prod.ext this.1 this.2
  rw [←this];exact hq
 ·intro hp
  obtain ⟨a,h1,h2⟩:=pe.MG p hp;have hm:(fD p,Value.ref a)∈eA.toList:=pm.mem_iff.mpr (bN.mpr ⟨_,h1,rfl⟩);obtain ⟨i,hi⟩:=List.mem_iff_getElem?.mp hm;rw [eu] at hi;exact ⟨i,a,by rw [pR];exact hi,I.AM h2⟩
theorem FN{p pos:Pos}(hg:Gl X "set")(hm:X.mg "set"=none):PE X (.Call (.Name "set" p) [] [] pos) (λσ H Q=>∀q,H q=none→Q (.ref q) (upd H q (.ext (eG (fu X.w) q [])))):=by
 intro pins s σ H Q I h;refine wpAny_Call_Name_kw (hZ I hg hm (u:= .type "set") (by decide+kernel) ?_ (by decide) (by decide))
 refine PyProof.Rows.callWith_type rfl (PyProof.Rows.evalArgs_nil3 (yg ?_));have hn:=I.hok.fresh (aU _);exact ⟨.ref s.heap.objs.size,_,I.laid (t':=s.toks) (λb o e=>Heap.get?_push_of_some _ e) (aU _) (o:= .ext (eG (fu X.w) s.heap.objs.size [])) (eG.ok ⟨_,_,_,_,Heap.get?_push_size _ rfl,kC.new X.w, .refl _⟩),rfl,h _ hn⟩
theorem To{a c:Addr}{es:List (Int×Addr)}{ps:List (Int×Int)}{p:Int×Int}{Q:Bool→Shared→Prop}{E:Value→Shared→Prop}(hu:X.A.units+64<cLine)(I:Inv X pins σ H s)(hc:H c=some (.tup [.int p.1, .int p.2]))(ha:H a=some (.ext (eG (fu X.w) a es)))(pe:iz H es ps)
  (h:∀tk,Q (decide (p∈ps)) {s with toks:=tk}):wpAny (model X.prog X.w) X.A (contains (.ref a) (.ref c)) Q E s:=by
 obtain ⟨o,eA,ep,t,ho,S,pm⟩:=I.nP ha;refine qe hu ho S (I.U4 pe pm) (I.AM hc) λtk=>?_
 have:PySem.lG X.prog X.w s.heap eA [p.1,p.2]=decide (p∈ps):=by
  classical
  unfold PySem.lG;exact decide_eq_decide.mpr (I.lG pe pm p)
 rw [this];exact h tk
theorem Cz(hu:X.A.units+64<cLine):OpR X (compareOp .NotIn) (λx y H Q=>∃c a es ps p,x= .ref c∧y= .ref a∧H c=some (.tup [.int p.1, .int p.2])∧H a=some (.ext (eG (fu X.w) a es))∧iz H es ps∧Q (.bl (!decide (p∈ps))) H):=by
 intro pins s σ H x y v u Q I rx ry h;obtain ⟨c,a,es,ps,p,rfl,rfl,hc,ha,pe,q⟩:=h;cases rx;cases ry;show wpAny _ _ (do return Value.bool (!(←contains (.ref a) (.ref c))):Sem Value) _ _ s
 exact wpAny_bind (To hu I hc ha pe λtk=>wpAny_pure ⟨.bl _,H,I.tok _,rfl,q⟩)
theorem Ii(hu:X.A.units+64<cLine):Ge X "set.add" (λx vs H Q=>∃l c es ps p,x= .ref l∧vs= [.ref c]∧H c=some (.tup [.int p.1, .int p.2])∧H l=some (.ext (eG (fu X.w) l es))∧iz H es ps∧ps.length≤300∧
  (p∈ps→Q .aM H)∧(p∉ps→Q .aM (upd H l (.ext (eG (fu X.w) l (es++ [(fD p,c)])))))):=by
 intro pins s σ H x vs v us Q I rx rv h;obtain ⟨l,c,es,ps,p,rfl,rfl,hc,hl,pe,hz,q1,q2⟩:=h;cases rx;obtain ⟨u,rfl,ru⟩:=rv.one;cases ru;obtain ⟨o,eA,ep,t,ho,S,pm⟩:=I.nP hl;have hT:s.TypeIs (.ref l) "set":=⟨o,ho,S.ex.1⟩;refine wpAny_call_entry F.slot_set_add hT F.entry_set_add ?_ (F.args_set_add_2 _ _);unfold Builtin.«set.add» Builtin.Frozenset.oneOther;simp only [List.isEmpty_nil,bind_assoc];unfold Builtin.Frozenset.addrOf setAdd;refine wpAny_bind (wpAny_pure ?_)
 try dsimp only
 refine wpAny_bind (wpAny_pure ?_)
 try dsimp only
 refine wpAny_bind ?_;refine wpAny_holding ?_;have hk:=I.AM hc;refine wpAny_bind (wpAny_pyHash_tuple ?_ hk ?_)
 ·show X.A.units+1<cLine;omega
 have sz:eA.size=ps.length:=by
  have:=pm.length_eq
  rw [bX,aJ,pe.len] at this;exact this
 refine zf (s:={s with toks:=s.toks+([p.1,p.2].length+1)}) (by show X.A.units+1<cLine;omega) ho S (I.U4 pe pm) hk (by omega) (λhy=>?_) λhn h' o' lD BF t' sb kY S' pm'=>?_
 ·show wpAny _ _ (ret Value.none) _ _ _
  exact wpAny_pure ⟨_,rfl, .aM,H,I.tok _,rfl,q1 ((I.lG pe pm p).mp hy)⟩
 ·show wpAny _ _ (ret Value.none) _ _ _
  have wX:p∉ps:=λz=>by
   obtain ⟨i,c',h1,h2⟩:=(I.lG pe pm p).mpr z;exact hn i _ h1 c' rfl h2
  have I':=I.write (h':=h') (t':=s.toks+([p.1,p.2].length+1)) (x:=l) (e:=l) (o:= .ext (eG (fu X.w) l (es++ [(fD p,c)]))) (by rw [hl];trivial) (.inl rfl) (λb u hb e=>sb.extBut b u hb e) ⟨o',kY⟩ (eG.ok ⟨o',lD,BF,t',kY,S',by
   rw [dB];exact pm'.trans (pm.append_right _)⟩)
  exact wpAny_pure ⟨_,rfl, .aM,_,I',rfl,q2 wX⟩
def V6(b:Bool)(r:V→List V→Hp→VK→Prop)(to:TE)(t:TA):TE:=λσ H Q=>to σ H λx H1=>(∃p es,x= .ref p∧H1 p=some (.ext (eG b p es)))∧t σ H1 λxs H2=>r x xs H2 Q
variable {o e:Expr} {es:List Expr} {to:TE} {t:TA} {name:Str} {apos aN:Pos} {id:String} {r:V→List V→Hp→VK→Prop}
theorem K3{b:Bool}(pa:PlainAttrs "set")(slot:Slot "set" name id)(HJ:typeOf (.builtin id)=pure (.type "method_descriptor"))(hm:Ge X id r)(ho:PE X o to)(ha:PA X (e::es) t)
  (dF:attributeBase o name X.env (eval o X.env)=eval o X.env:=by rfl)
  (iG:((backTo aN (starEach (e::es) X.env)).all (λx=>!x.1)&&(backToKw aN (keywordEach [] X.env)).all (λx=>x.1.isSome)
   &&decide ((e::es).length+([]:List Keyword).length+(if ([]:List Keyword).isEmpty then 0 else 1)<30))=true:=by rfl)
  (cA:(apos.endLine==aN.line)=true:=by rfl) (hs:starEach (e::es) X.env=(false,eval e X.env)::starEach es X.env:=by rfl) (dG:(backTo aN (starEach es X.env)).any (·.1)=false:=by rfl):
  PE X (.Call (.Attribute o name apos) (e::es) [] aN) (V6 b r to t):=by
 intro pins s σ H Q I h;refine wpAny_Call_method_late dF iG cA rfl (thn (ho pins s σ H _ I h) λv s1 ⟨x,H1,I1,r1,ty,q1⟩=>?_);obtain ⟨p,lD,rfl,hp⟩:=ty;cases r1;obtain ⟨oo,_,_,_,SV,S,_⟩:=I1.nP hp;refine ⟨"set",id,pa,slot,HJ,⟨oo,SV,S.ex.1⟩,λa ea=>?_,?_⟩
 ·cases ea;exact ⟨oo,SV,S.ex.2.1⟩
 have hA:=ha aN pins s1 σ H1 _ I1 q1;rw [hs] at hA ⊢;refine Calls.callWith_builtin (by show (false|| (backTo aN (starEach es X.env)).any (·.1))=false;rw [dG]<;>rfl) (Calls.evalArgs_plain ?_)
 exact thn hA λus s2 ⟨vs,H2,I2,r2,q2⟩=>hm pins s2 σ H2 (.ref p) vs (.ref p) us Q I2 rfl r2 q2
end
def Al(ps:List (Int×Int))(p:Int×Int):List (Int×Int):=if p∈ps then ps else ps++ [p]
section
variable {Z:DC} {X:Cx} {B:Bs} {md:List Nat} {rn:Nat} {ρ:DN} {σ:St} {H G:Hp} {fp:Nat→List Addr} {a e k o:Expr} {ta te tk tp:aT} {pos apos aN p2:Pos}
def Pu(p:Int×Int):D:= .tup [.int p.1, .int p.2]
theorem Dv.MS{v:V}{p:Int×Int}(h:Dv Z G v (Pu p)):∃c,v= .ref c∧G c=some (.tup [.int p.1, .int p.2]):=by
 obtain ⟨c,xs,rfl,h1,h2⟩:=Dv.oF h;obtain ⟨v1,v2,rfl,d1,d2⟩:=h2.uJ;rw [d1.ofInt,d2.ofInt] at h1;exact ⟨c,rfl,h1⟩
def QX(w:World)(neg:Bool):iy:=λa b P=>∃p ps,a=Pu p∧b= .x (.pT (fu w) ps)∧P (.bl (if neg=true then !decide (p∈ps) else decide (p∈ps)))
theorem Ct(hu:X.A.units+64<cLine):OpR X (compareOp .NotIn) (cf Z (QX X.w true)):=by
 refine (Cz hu).imp ?_;rintro x y H Q ⟨G,a,b,P,s,da,db,⟨p,ps,rfl,rfl,h⟩,q⟩;obtain ⟨c,rfl,hc⟩:=da.MS;cases db with
 |x hp ok=>
  obtain ⟨_,es,rfl,pe⟩:=ok;exact ⟨c,_,es,ps,p,rfl,rfl,s _ _ hc,s _ _ hp,pe.mono s,q _ h _ G H (.refl s) (.bl _)⟩
def JT(w:World)(i:Nat):dD:=λE ρ=>E.nx (ρ.set i (some (.x (.pT (fu w) []))))
theorem ES(i:Nat){x:Str}{pos' p:Pos}(hN:X.N.Nodup)(hg:Gl X "set")(qD:X.mg "set"=none)(hm:md.getD i 0=98:=by rfl)(hi:X.N[i]? =some x:=by rfl)(hx:Loc X.env.scope x:=by first|exact Or.inl rfl|exact Or.inr rfl)(hs:swapsWith (.Call (.Name "set" p) [] [] p2) (some (.Name x pos')) pos.line X.env=pure false:=by rfl)
  (hf:X.fn x=true∨X.env.scope.names.lookup x=some .local:=by first|exact .inl rfl|exact .inr rfl|assumption):DSt Z X md rn (.Assign [.Name x pos'] (.Call (.Name "set" p) [] [] p2) pos) (JT X.w i):=by
 refine (bJ hN hi hx (FN hg qD) hs hf).imp ?_;rintro D σ H ⟨B,ρ,E,⟨G,fp,S⟩,h,M⟩;intro c hc;have gc:G c=none:=S.ex.sub.free hc;have x:Ext G H G (upd H c (.ext (eG (fu X.w) c []))):=⟨.refl _,S.ex.sub.trans (av hc _),av hc _,λ_ _ z=>z⟩;refine M.nx _ h _ _ ⟨G,_,(S.grow x).M3 hm (f:= [c]) (.inr (.inr ⟨c,_,rfl,ab,rfl, .inr ⟨rfl,_,rfl,jW,[],rfl, .nil⟩⟩)) (by simp) (λb hb=>?_) λb hb j _ hj=>?_⟩
 ·rw [iS] at hb;subst hb
  exact ⟨S.ex.hh.free hc,(by rw [ab];exact λz=>nomatch z),gc⟩
 ·rw [iS] at hb;subst hb
  exact (S.nw j _ hj).2.1 hc
def NI(w:World)(md:List Nat)(m:Bool)(i:Nat)(te:aT):dD:=λE ρ=>∃ps,ρ[i]? =some (some (.x (.pT (fu w) ps)))∧te (A9 md m ρ) λd=>∃p,d=Pu p∧ps.length≤300∧E.nx (ρ.set i (some (.x (.pT (fu w) (Al ps p)))))
theorem GQ(m:Bool)(i:Nat){x:Str}{px:Pos}(hu:X.A.units+64<cLine)(he:DE Z X e te)(hm:md.getD i 0=98:=by rfl)(hi:X.N[i]? =some x:=by rfl)(hv:sq X.env.scope x:=by first|exact Or.inl rfl|exact Or.inr (Or.inl rfl) |exact Or.inr (Or.inr rfl))(hd:(x==("__debug__":Str))=false:=by decide)(gq:(x==("__classdict__":Str))=false:=by decide)
  (dF:attributeBase (.Name x px) "add" X.env (eval (.Name x px) X.env)=eval (.Name x px) X.env:=by rfl)
  (iG:((backTo aN (starEach [e] X.env)).all (λx=>!x.1)&&(backToKw aN (keywordEach [] X.env)).all (λx=>x.1.isSome)&&decide (([e]:List Expr).length+([]:List Keyword).length+(if ([]:List Keyword).isEmpty then 0 else 1)<30))=true:=by rfl)
  (cA:(apos.endLine==aN.line)=true:=by rfl) (hs:starEach [e] X.env=(false,eval e X.env)::starEach [] X.env:=by rfl) (dG:(backTo aN (starEach [] X.env)).any (·.1)=false:=by rfl)
  (qE:swapsWith (.Call (.Attribute (.Name x px) "add" apos) [e] [] aN) none pos.line X.env=pure false:=by rfl):
  DSt Z X md rn (.Expr (.Call (.Attribute (.Name x px) "add" apos) [e] [] aN) pos) (NI X.w md m i te):=by
 refine (dh (K3 (b:=fu X.w) PySem.F.plainAttrs_set PySem.F.slot_set_add PySem.F.type_set_add (Ii hu) (pv i hi hv hd gq) (aa he ar hs) dF iG cA hs dG) qE).imp ?_;rintro D σ H ⟨B,ρ,E,⟨G,fp,S⟩,⟨ps,h1,h⟩,M⟩;obtain ⟨v0,v8,o0⟩:=S.at_ i _ h1;rw [hm] at o0;obtain ⟨l,φ,rfl,hl,_,nd,es,rfl,pe⟩:=o0.xA;refine ⟨_,v8,⟨l,_,rfl,hl⟩,S.ev m h λd hd=>?_⟩;obtain ⟨p,rfl,hz,hn⟩:=hd;refine ⟨by cases m<;>trivial,λv G' H' S' x dv=>?_⟩
 obtain ⟨c,rfl,hc⟩:=dv.MS;obtain ⟨v1,Ta,o1⟩:=S'.at_ i _ h1;rw [v8] at Ta;cases Ta;rw [hm] at o1;obtain ⟨l',φ',e',Hv,Kc,kh,lD,rfl,U3⟩:=o1.xA;cases e';refine ⟨l,c,lD,ps,p,rfl,rfl,x.sub _ _ hc,Hv,U3.mono x.sub,hz,λhp=>?_,λhp=>?_⟩
 ·rw [Al,if_pos hp] at hn
  refine M.nx _ hn _ _ ⟨G',fp,?_⟩
  have e:ρ.set i (some (.x (.pT (fu X.w) ps)))=ρ:=by
   refine qi λj=>?_
   by_cases z:i=j
   ·subst z
    have br:=(b9.mp h1).1;rw [kN br,h1]
   ·rw [kO z]
  rw [e];exact S'
 ·rw [Al,if_neg hp] at hn
  refine M.nx _ hn _ _ ⟨G',fp,S'.mut v8 (b:=l) (by rw [Kc];simp) ?_⟩
  rw [hm,Kc];refine .inr (.inr ⟨l,_,rfl,ab,rfl, .inr ⟨rfl,_,rfl,?_,_,rfl,U3.snoc hc⟩⟩);rw [mK];refine ⟨kh,by simp,λa ha b hb z=>hp ?_⟩
  rw [iS] at hb;rw [←hb,←z];exact ha
end
section
variable {Z:DC} {X:Cx}
def Gp:eF:=λds P=>∃L:List (List Nat),ds= [.lst (L.map aD)]∧L.length≤1000∧∀M:List (List Nat),M.Perm L→M.Pairwise fQ→P (.lst (M.map aD))
theorem DP{G:Hp}{v:V}{r:List Nat}(h:Dv Z G v (aD r)):∃a,v= .ref a∧G a=some (.lst ((fX r).map V.int)):=by
 obtain ⟨a,xs,rfl,h1,h2⟩:=Dv.km h
 have:xs=(fX r).map V.int:=by
  have e:r.map ay=(fX r).map D.int:=by unfold fX;rw [bL];rfl
  rw [e] at h2;exact lA h2
 rw [this] at h1;exact ⟨a,rfl,h1⟩
theorem Ln{G:Hp}{a:Addr}{r:List Nat}(h:G a=some (.lst ((fX r).map V.int))):Dv Z G (.ref a) (aD r):=by
 have e:aD r= .lst ((fX r).map D.int):=by unfold aD fX;rw [bL];rfl
 rw [e];exact .lst h (.ints _)
theorem qz{G:Hp}:∀{vs:List V}{L:List (List Nat)},aq Z G vs (L.map aD)→∃A:List (Addr×List Nat),vs=A.map (λe=>V.ref e.1)∧A.map (·.2)=L∧yb G A
 |vs,[],h=>by cases h;exact ⟨[],rfl,rfl,λp hp=>by cases hp⟩
 |vs,r::L,h=>by
  cases h with
  |cons a as=>
   obtain ⟨A,h1,h2,h3⟩:=qz as;obtain ⟨p,rfl,hp⟩:=DP a;refine ⟨(p,r)::A,by rw [h1];rfl,by rw [←h2];rfl,λq hq=>?_⟩
   rcases ck.mp hq with rfl|hq
   ·exact hp
   ·exact h3 q hq
theorem yb.dv{G:Hp}:∀{L:List (Addr×List Nat)},yb G L→aq Z G (L.map λe=>V.ref e.1) ((L.map (·.2)).map aD)
 | [],_=> .nil
 |x::L,h=> .cons (Ln (h x (bY ..))) (yb.dv λp hp=>h p (cu _ hp))
theorem tR(hu:X.A.units+64<cLine):cN X (.builtin "sorted") (kc Z Gp):=by
 refine (lh hu).imp ?_;rintro xs H Q ⟨G,ds,P,s,dv,⟨ns,rfl,hl,hp⟩,q⟩;cases dv with
 |cons a as=>
  cases as;cases a with
  | @lst p sO ds h e=>
   obtain ⟨L,rfl,h2,h3⟩:=qz e;have hL:L.length=ns.length:=by rw [←h2];simp
   refine ⟨_,L,rfl,aC.of (s _ _ h),λp hp=>s _ _ (h3 p hp),by omega,λp M hn m1 m2=>?_⟩
   have pm:(M.map (·.2)).Perm ns:=by rw [←h2];exact m1.map _
   have hM:yb (upd G p (.lst (M.map λe=>V.ref e.1))) M:=λx hx=>av (s.free hn) _ _ _ (h3 x (m1.mem_iff.mp hx));exact q _ (hp _ pm m2) _ _ _ (.new s hn) (.lst ab hM.dv)
end
section
variable {Z:DC} {X:Cx} {md:List Nat} {rn:Nat} {a b:Expr} {pos:Pos} {ta:hJ}
def Q1(md:List Nat)(i j:Nat)(ta:hJ):dD:=λE ρ=>ta (di md ρ) λds=>∃a b,ds= [a,b]∧E.nx ((ρ.set i (some a)).set j (some b))
theorem DM(i j:Nat){x y:Str}{px py pt:Pos}{kt k2 CH}(hc:X.calm=true)(hN:X.N.Nodup)(ha:DA Z X [a,b] ta)(hi:X.N[i]? =some x:=by rfl)(hj:X.N[j]? =some y:=by rfl)(cQ:i≠j:=by decide)(hm:md.getD i 0=0:=by rfl)(Fm:md.getD j 0=0:=by rfl)
  (hx:X.env.scope.names.lookup x=some .local:=by rfl) (hy:X.env.scope.names.lookup y=some .local:=by rfl)
  (hw:swappedStores [.Tuple [.Name x px, .Name y py] kt pt] (.Tuple [a,b] k2 CH) X.env=pure (some [x,y]):=by rfl)
  (hs:swapsWithSole [.Tuple [.Name x px, .Name y py] kt pt] (.Tuple [a,b] k2 CH) pos.line X.env=pure false:=by rfl):
  DSt Z X md rn (.Assign [.Tuple [.Name x px, .Name y py] kt pt] (.Tuple [a,b] k2 CH) pos) (Q1 md i j ta):=by
 refine (Le hc hN hi hj cQ hx hy ha hw hs).imp ?_;rintro D σ H ⟨B,ρ,E,⟨G,fp,S⟩,h,M⟩;refine ⟨G,di md ρ,_,S.ex.sub,S.zY,h,?_⟩;rintro _ ⟨a,b,rfl,hn⟩ vs G' H' x bg;obtain ⟨v,u,rfl,d1,d2⟩:=bg.uJ;exact ⟨v,u,rfl,M.nx _ hn _ _ ⟨G',_,((S.grow x).nP hm d1).nP Fm d2⟩⟩
end
section
variable {Z:DC} {X:Cx} {e:Expr} {te:aT} {pos p:Pos}
variable {o:Expr} {ta:aT} {m:Str} {f:Addr} {fd:FuncData} {ps:List Str} {sd:eF} {k n:Nat} {apos:Pos}
end
section
variable {Z:DC} {X:Cx} {pins:List (Addr×Obj)} {σ:St} {H:Hp} {s:Shared} {o e:Expr} {ta tb:aT} {apos:Pos}
theorem w6(I:Inv X pins σ H s){d:PyData}:∀{vs:List V}{ds:List PyData}{us:List Value},cw X.K H vs ds→Vals vs us→∀(i:Nat)(e:PyData)(u:Value),ds[i]? =some e→us[i]? =some u→BG s.heap d u=PyData.eqv e d
 |_,_,_, .nil, .nil,i,e,u,h,_=>by simp at h
 |_,_,_, .cons (d:=e') a as, .cons r rs,0,e,u,h,h'=>by
  simp at h h';subst h;subst h';obtain ⟨⟨cs,re⟩,ce⟩:=a.reads I r;exact DS (d:=d) re ce
 |_,_,_, .cons a as, .cons r rs,i+1,e,u,h,h'=>w6 I as rs i e u (by simpa using h) (by simpa using h')
theorem cw.len{K:PySem.W.Frag}{H:Hp}:∀{vs:List V}{ds:List PyData},cw K H vs ds→vs.length=ds.length
 |_,_, .nil=>rfl
 |_,_, .cons _ t=>congrArg (·+1) t.len
theorem Cp(hu:X.A.units+64<cLine):Ge X "list.index" (λx vs H Q=>∃l xs y d ds j,x= .ref l∧vs= [y]∧H l=some (.lst xs)∧Dp X.K H y d∧cw X.K H xs ds∧d.depth≤60∧(∃e,ds[j]? =some e∧PyData.eqv e d=true)∧(∀(m:Nat) e,m<j→ds[m]? =some e→PyData.eqv e d=false)∧Q (.int (j:Nat)) H):=by
 intro pins s σ H x vs v us Q I rx rv h;obtain ⟨l,xs,y,d,ds,j,rfl,rfl,hH,hd,vW,hz,⟨ej,Sk,XX⟩,vZ,q⟩:=h;cases rx;obtain ⟨u,rfl,ru⟩:=rv.one;obtain ⟨⟨bs,rv⟩,cv⟩:=hd.reads I ru;obtain ⟨eD,its,n,r,hl,e⟩:=I.lO hH;obtain ⟨_,h2⟩:=w9 I rv cv hz hu vW r;have ll:=r.length;have ld:=vW.len;have vX:j<ds.length:=(b9.mp Sk).1;have hj:j<its.toArray.size:=by rw [dU];omega
 have at_:∀m,(hm:m<its.toArray.size)→∃e',ds[m]? =some e'∧BG s.heap d its.toArray[m]=PyData.eqv e' d:=λm hm=>by
  have OH:m<its.length:=by simpa using hm
  refine ⟨ds[m]'(by omega),cC (by omega),w6 I vW r m _ _ (cC (by omega)) ?_⟩
  rw [cC OH];simp
 have br:=jd;refine call_meets F.slot_list_index ⟨_,e,rfl⟩ F.entry_list_index (F.args_list_index_2 _ _) (SeqAt.list_indexAt l its.toArray n none #[] u (BG s.heap d) j hj (by omega) ?_ ?_) ⟨e,λw hw=>h2 w (by simpa using hw),?_⟩
 ·obtain ⟨e',h1,h3⟩:=at_ j hj
  rw [Sk] at h1;cases h1;rw [h3];exact XX
 ·intro m hm Ae
  obtain ⟨e',h1,h3⟩:=at_ m hm;rw [h3];exact vZ m e' Ae h1
 ·exact ⟨.int j,H,I.tok _,⟨_,rfl⟩,q⟩
def Gy(ta tb:aT):aT:=λρ P=>ta ρ λd=>∃l,d= .lst l∧tb ρ λy=>∃(as:List PyData)(a:PyData)(j:Nat),eU l=some as∧y.py=some a∧a.depth≤60∧(∃e,as[j]? =some e∧PyData.eqv e a=true)∧(∀(m:Nat) e,m<j→as[m]? =some e→PyData.eqv e a=false)∧P (.int (j:Nat))
theorem BA{aN:Pos}(hu:X.A.units+64<cLine)(ho:DE Z X o ta)(he:DE Z X e tb)
  (dF:attributeBase o "index" X.env (eval o X.env)=eval o X.env:=by rfl)
  (iG:((backTo aN (starEach [e] X.env)).all (λx=>!x.1)&&(backToKw aN (keywordEach [] X.env)).all (λx=>x.1.isSome)&&decide (([e]:List Expr).length+([]:List Keyword).length+(if ([]:List Keyword).isEmpty then 0 else 1)<30))=true:=by rfl)
  (cA:(apos.endLine==aN.line)=true:=by rfl) (hs:starEach [e] X.env=(false,eval e X.env)::starEach [] X.env:=by rfl) (dG:(backTo aN (starEach [] X.env)).any (·.1)=false:=by rfl):
  DE Z X (.Call (.Attribute o "index" apos) [e] [] aN) (Gy ta tb):=by
 refine (fh PySem.F.plainAttrs_list PySem.F.slot_list_index PySem.F.type_list_index (Cp hu) ho (aa he ar hs) dF iG cA hs dG).imp ?_;rintro σ H Q ⟨G,ρ,P,s,en,h,q⟩;refine ⟨G,ρ,_,s,en,h,?_⟩;rintro _ ⟨l,rfl,hd⟩ v G1 H1 x1 dv;cases dv with
 | @lst p xs ds hp e=>
  refine ⟨ty_list (x1.sub _ _ hp),G1,ρ,_,x1.sub,en.mono x1.gg,hd,λy hy u G2 H2 x2 du=>?_⟩;obtain ⟨as,a,j,h1,h2,h3,h4,h5,h6⟩:=hy;exact ⟨p,xs,u,a,as,j,rfl,rfl,x2.hh _ _ (x1.sub _ _ hp),(du.dp h2).mono x2.sub,((e.mono x2.gg).dp h1).mono x2.sub,h3,h4,h5,q _ h6 _ G2 H2 (x1.trans x2) (.int _)⟩
end
section
variable {pr:Program} {wd:World} {A:Around} {R:Result→Shared→Prop} {zu:Addr} {eZ qY:List Addr} {n:Nat} {Pv:Nat→Value→Prop} {Sv:Nat→Heap→Prop}
def Bk(pr:Program)(wd:World)(A:Around)(T:Heap→Prop)(Pv:Nat→Value→Prop)(bt:Nat→Nat→Bool):Prop:=
 ∀i j u v (s:Shared) (Q:Value→Shared→Prop) (E:Value→Shared→Prop),T s.heap→Pv i u→Pv j v→Q (.bool (bt i j)) s→wpAny (model pr wd) A (richCompare .Lt u v) Q E s
theorem Cn(wk:Walks pr wd A.in1 zu eZ qY n Pv Sv)(bt:Nat→Nat→Bool)(T:Heap→Prop)(cmp:Bk pr wd A.in1 T Pv bt)(L:Addr)(nL:L∉eZ)
  (kT:∀h h':Heap,T h→(∀b o,b∉qY→b≠L→h.get? b=some o→h'.get? b=some o)→T h'):
  ∀(d j:Nat)(s:Shared)(best:Value)(c:Nat),n-(j+1)=d→j+1≤n→Sv (j+1) s.heap→T s.heap→Pv (argBest bt j) best→
  s.heap.get? L=some {cls:= .type "list",dict:=none,data:= .seq #[best,best] c,slots:= #[]}→
  (∀v h' t,Pv (argBest bt (n-1)) v→(∀b o,b∉qY→b≠L→s.heap.get? b=some o→h'.get? b=some o)→R (.ok (.ret v)) {s with heap:=h',toks:=t})→
  codeAny (model pr wd) A (.builtin "min.loop" ⟨[.ref zu, .none, .ref L],[]⟩) R s:=by
 have nW:L∉qY:=λh=>nL (wk.sub _ h);have nm:(toString "min"++toString ".loop":String)="min.loop":=by decide
 intro d
 induction d with
 |zero=>
  intro j s best c hd hj q0 t0 pb hL fin;have en:j+1=n:=by omega
  refine codeAny_builtin PySem.F.entry_min_loop ?_;rw [Around.under_plainId PySem.F.plain_min_loop _];refine wpAny_bind (wpAny_seqItems hL rfl ?_);refine wpAny_bind (wpAny_tryCatch (wk.done s _ _ (en▸q0) λh1 t1 k1=>?_));show wpAny _ A.in1 ((updateSeq L (λ_=> #[]))>>=_) _ _ _;refine wpAny_bind ?_;refine wpAny_updateSeq (k1 L _ nW hL) rfl (wpAny_bind (wpAny_letGo (wpAny_pure ?_)));exact fin best _ t1 (by rw [←en];exact pb) λb o nb nl e=>(Heap.get?_update_other _ _ (Ne.symm nl)).trans (k1 b o nb e)
 |succ d ih=>
  intro j s best c hd hj q0 t0 pb hL fin;have lt:j+1<n:=by omega
  refine codeAny_builtin PySem.F.entry_min_loop ?_;rw [Around.under_plainId PySem.F.plain_min_loop _];refine wpAny_bind (wpAny_seqItems hL rfl ?_);refine wpAny_bind (wpAny_tryCatch (wk.item (j+1) s _ _ lt q0 λv h1 t1 pv q1 k1=>?_));have E5:=k1 L _ nW hL;have dj:T h1:=kT _ _ t0 λb o nb _ e=>k1 b o nb e;show wpAny _ A.in1 ((tryCatch (holding [v,v] (richCompare .Lt v best>>=_)) _)>>=_) _ _ _;refine wpAny_bind (wpAny_tryCatch (wpAny_holding (wpAny_bind (cmp (j+1) (argBest bt j) v best _ _ _ dj pv pb ?_))));refine wpAny_bind (wpAny_holding (wpAny_truthy_bool ?_));refine wpAny_bind (wpAny_letGo (wpAny_pure ?_));cases eb:bt (j+1) (argBest bt j) with
  |true=>
   simp only [if_true];refine wpAny_bind ?_;refine wpAny_updateSeq E5 rfl (wpAny_bind (wpAny_letGo ?_));rw [nm];refine wpAny_pure ⟨plainId_quiet PySem.F.plain_min_loop _,ih (j+1) _ v _ (by omega) lt (wk.frame _ _ _ q1 λb hb o e=>?_) (kT _ _ dj λb o _ nl e=>?_) ?_ (Heap.get?_update_self _ E5 rfl) λv2 h2 t2 p2 k2=>?_⟩
   ·exact (Heap.get?_update_other _ _ (λz:L=b=>nL (z▸hb))).trans e
   ·exact (Heap.get?_update_other _ _ (Ne.symm nl)).trans e
   ·simp only [argBest,eb,if_true];exact pv
   ·exact fin v2 h2 t2 p2 λb o nb nl e=>k2 b o nb nl ((Heap.get?_update_other _ _ (Ne.symm nl)).trans (k1 b o nb e))
  |false=>
   simp only [eB,if_false];refine wpAny_bind (wpAny_letGo ?_);rw [nm];refine wpAny_pure ⟨plainId_quiet PySem.F.plain_min_loop _,ih (j+1) _ best c (by omega) lt q1 dj ?_ E5 λv2 h2 t2 p2 k2=>?_⟩
   ·simp only [argBest,eb,eB,if_false];exact pb
   ·exact fin v2 h2 t2 p2 λb o nb nl e=>k2 b o nb nl (k1 b o nb e)
theorem Cm(wk:Walks pr wd A.in1 zu eZ qY n Pv Sv)(bt:Nat→Nat→Bool)(T:Heap→Prop)(cmp:Bk pr wd A.in1 T Pv bt)(L:Addr)(nL:L∉eZ)
  (kT:∀h h':Heap,T h→(∀b o,b∉qY→b≠L→h.get? b=some o→h'.get? b=some o)→T h') (hn:0<n) {s:Shared} {c:Nat} (q0:Sv 0 s.heap) (t0:T s.heap)
  (hL:s.heap.get? L=some {cls:= .type "list",dict:=none,data:= .seq #[] c,slots:= #[]})
  (fin:∀v h' t,Pv (argBest bt (n-1)) v→(∀b o,b∉qY→b≠L→s.heap.get? b=some o→h'.get? b=some o)→R (.ok (.ret v)) {s with heap:=h',toks:=t}):
  codeAny (model pr wd) A (.builtin "min.loop" ⟨[.ref zu, .none, .ref L],[]⟩) R s:=by
 have nW:L∉qY:=λh=>nL (wk.sub _ h);have nm:(toString "min"++toString ".loop":String)="min.loop":=by decide
 refine codeAny_builtin PySem.F.entry_min_loop ?_;rw [Around.under_plainId PySem.F.plain_min_loop _];refine wpAny_bind (wpAny_seqItems hL rfl ?_);refine wpAny_bind (wpAny_tryCatch (wk.item 0 s _ _ hn q0 λv h1 t1 pv q1 k1=>?_));have E5:=k1 L _ nW hL;have dj:T h1:=kT _ _ t0 λb o nb _ e=>k1 b o nb e;show wpAny _ A.in1 (updateSeq L (λ_=> #[v,v])>>=_) _ _ _;refine wpAny_bind ?_;refine wpAny_updateSeq E5 rfl ?_;rw [nm];refine wpAny_pure ⟨plainId_quiet PySem.F.plain_min_loop _,Cn wk bt T cmp L nL kT _ 0 _ v _ rfl hn (wk.frame _ _ _ q1 λb hb o e=>?_) (kT _ _ dj λb o _ nl e=>?_) pv (Heap.get?_update_self _ E5 rfl) λv2 h2 t2 p2 k2=>?_⟩
 ·exact (Heap.get?_update_other _ _ (λz:L=b=>nL (z▸hb))).trans e
 ·exact (Heap.get?_update_other _ _ (Ne.symm nl)).trans e
 ·exact fin v2 h2 t2 p2 λb o nb nl e=>k2 b o nb nl ((Heap.get?_update_other _ _ (Ne.symm nl)).trans (k1 b o nb e))
end
section
variable {pr:Program} {wd:World} {A:Around} {E:Value→Shared→Prop} {s:Shared}
theorem Fy{x:Value}{Q:Value→Shared→Prop}(T:Heap→Prop)
  (h:wpAny (model pr wd) A.in1 (pyIter x) (λit s2=>∃zu eZ qY n Pv Sv bt,it= .ref zu∧Walks pr wd A.in1 zu eZ qY n Pv Sv∧Sv 0 s2.heap∧(∀b∈eZ,b<s2.heap.objs.size)∧0<n∧Bk pr wd A.in1 T Pv bt∧T s2.heap∧
   (∀h h':Heap,T h→(∀b o,b∉qY→b≠s2.heap.objs.size→h.get? b=some o→h'.get? b=some o)→T h')∧
   ∀v h' tk,Pv (argBest bt (n-1)) v→(∀b o,b∉qY→s2.heap.get? b=some o→h'.get? b=some o)→Q v {s2 with heap:=h',toks:=tk}) E s):
  wpAny (model pr wd) A (call (.builtin "min") [x]) Q E s:=by
 have nm:(toString "min"++toString ".loop":String)="min.loop":=by decide
 refine call_function_tree PySem.F.kind_min PySem.F.plain_min PySem.F.entry_min (PySem.F.args_min1 _) ?_;show wpAny _ A.in1 (Builtin.Builtins.bindParams "min" ["key","default"] 0 ⟨[],[]⟩>>=_) _ _ s;refine wpAny_bind (wpAny_of_eq (rfl:Builtin.Builtins.bindParams "min" ["key","default"] 0 ⟨[],[]⟩=pure [none,none]) ?_);refine wpAny_bind (wpAny_pure ?_);refine wpAny_bind (wpAny_mono h (λit s2 h2=>?_) λ_ _ e=>e);obtain ⟨zu,eZ,qY,n,Pv,Sv,bt,rfl,wk,q0,hf,hn,cmp,t0,kT,hQ⟩:=h2;refine wpAny_bind (wpAny_newObj_type ?_);have nL:s2.heap.objs.size∉eZ:=λhm=>kS _ (hf _ hm);rw [nm];refine wpAny_pure ⟨plainId_quiet PySem.F.plain_min_loop _,Cm wk bt T cmp s2.heap.objs.size nL kT hn (wk.frame _ _ _ q0 λb _ o e=>Heap.get?_push_of_some _ e) (kT _ _ t0 λb o _ _ e=>Heap.get?_push_of_some _ e) (Heap.get?_push_size _ rfl) λv h' tk hP hk=>?_⟩;exact hQ v h' tk hP λb o Yv e=>hk b o Yv (bW (Heap.lt_size e)) (Heap.get?_push_of_some _ e)
end
theorem rh(bt:Nat→Nat→Bool):∀k,argBest bt k≤k
 |0=>aU _
 |k+1=>by
  unfold argBest
  split
  ·exact aU _
  ·exact Nat.le_succ_of_le (rh bt k)
theorem oT{f:Nat→List Int}:∀k i,i≤k→HT.lexLt (f i) (f (argBest (λi j=>HT.lexLt (f i) (f j)) k))=false
 |0,i,h=>by
  obtain rfl:i=0:=by omega
  exact lN _
 |k+1,i,h=>by
  have ih:=oT (f:=f) k;unfold argBest
  by_cases c:HT.lexLt (f (k+1)) (f (argBest (λi j=>HT.lexLt (f i) (f j)) k))=true
  ·rw [if_pos c]
   by_cases z:i=k+1
   ·subst z;exact lN _
   ·have:=ih i (by omega)
    cases e:HT.lexLt (f i) (f (k+1)) with
    |false=>rfl
    |true=>rw [sX _ _ _ e c] at this;cases this
  ·rw [if_neg c]
   by_cases z:i=k+1
   ·subst z;exact qj.mpr c
   ·exact ih i (by omega)
section
variable {X:Cx} {Z:DC}
theorem Bu(hc:X.calm=true)(hu:X.A.units+64<cLine):cN X (.builtin "min") (λxs H Q=>∃(p:Addr)(L:List (Addr×List Int)),xs= [.ref p]∧H p=some (.lst (L.map λe=>V.ref e.1))∧(∀e∈L,H e.1=some (.tup (e.2.map V.int)))∧L≠ []∧
  ∀e∈L,(∀f∈L,HT.lexLt f.2 e.2=false)→Q (.ref e.1) H):=by
 intro pins s σ H xs us Q I rv h;obtain ⟨p,L,rfl,hp,hL,SJ,q⟩:=h;obtain ⟨u,rfl,ru⟩:=rv.one;cases ru;obtain ⟨its,r,pl,hz⟩:=I.list (aC.of hp);have hl:=r.length;rw [aJ] at hl;have MA:0<L.length:=xR.mpr SJ
 have v9:∀i:Nat,(hi:i<L.length)→its[i]? =some (.ref L[i].1):=λi hi=>by
  obtain ⟨w,hw,uU⟩:=r.get (i:=i) (x:= .ref L[i].1) (by rw [dq,cC hi];rfl)
  cases uU;exact hw
 refine Fy (λh=>∀b o,s.heap.get? b=some o→h.get? b=some o) (wpAny_pyIter_list pl.isList ?_)
 have fg:p≠s.heap.objs.size:=by
  obtain ⟨o,ho,_⟩:=pl.isList;exact bW (Heap.lt_size ho)
 let f:Nat→List Int:=λi=>(L.getD i (0,[])).2
 refine ⟨_,_,_,its.toArray.size,_,_,λi j=>HT.lexLt (f i) (f j),rfl,Walks.list (show X.A.in1.handled=none from I.ok.hd hc) s.heap.objs.size p fg its.toArray,⟨⟨_,Heap.get?_push_size _ rfl,rfl,rfl⟩,pl.isList.push _⟩,?_,?_,?_,λb o e=>Heap.get?_push_of_some _ e,?_,?_⟩
 ·intro b hb
  have:b=s.heap.objs.size∨b=p:=by simpa using hb
  obtain ⟨o,ho,_⟩:=pl.isList;have lt:=Heap.lt_size ho;have e:(s.heap.push {cls:= .type "list_iterator",data:= .fields #[.ref p, .int 0 0]}).objs.size=s.heap.objs.size+1:=by simp [Heap.push]
  rcases this with rfl|rfl
  ·exact Nat.lt_of_lt_of_eq (Nat.lt_succ_self _) e.symm
  ·exact Nat.lt_of_lt_of_eq (xX lt) e.symm
 ·rw [dU];omega
 ·intro i j u v s' Q' E' hT HK HL hq
  have OU:its[i]? =some u:=by simpa using HK
  have Aj:its[j]? =some v:=by simpa using HL
  have hi:i<L.length:=by have:=(b9.mp OU).1;omega
  have hj:j<L.length:=by have:=(b9.mp Aj).1;omega
  rw [v9 i hi] at OU;rw [v9 j hj] at Aj;cases OU;cases Aj;obtain ⟨t1,r1,p1,_⟩:=I.tuple (dr.of (hL L[i] (kQ hi)));obtain ⟨t2,r2,p2,_⟩:=I.tuple (dr.of (hL L[j] (kQ hj)));obtain ⟨o1,g1,c1⟩:=p1;obtain ⟨o2,g2,c2⟩:=p2;have i1:IntsAre t1.toArray.toList L[i].2:=intsAre_of r1;have i2:IntsAre t2.toArray.toList L[j].2:=intsAre_of r2
  have ef:∀k,(hk:k<L.length)→f k=L[k].2:=λk hk=>by
   show (L.getD k (0,[])).2=_;rw [dJ,cC hk];rfl
  have B0:Q' (.bool (HT.lexLt L[i].2 L[j].2)) s':=by rw [←ef i hi,←ef j hj];exact hq
  exact HT.Az (A:=X.A.in1) ⟨o1,hT _ _ g1,c1⟩ ⟨o2,hT _ _ g2,c2⟩ i1 i2 (by simp only [Around.in1_units];omega) B0
 ·intro h h' hT hk b o e
  have lt:=Heap.lt_size e;refine hk b o ?_ ?_ (hT b o e)
  ·intro hm
   have:b=s.heap.objs.size:=by simpa using hm
   exact bW lt this
  ·simp only [Heap.push,Array.size_push]
   exact bW (xX lt)
 ·intro v h' tk hP kk
  have kept:∀b o,s.heap.get? b=some o→h'.get? b=some o:=λb o e=>kk b o (by simp;exact bW (Heap.lt_size e)) (Heap.get?_push_of_some _ e)
  have hk:=rh (λi j=>HT.lexLt (f i) (f j)) (its.toArray.size-1);generalize hb:argBest (λi j=>HT.lexLt (f i) (f j)) (its.toArray.size-1)=k at hP hk;rw [dU] at hk;have OC:k<L.length:=by omega
  have Aj:its[k]? =some v:=by simpa using hP
  rw [v9 k OC] at Aj;cases Aj;refine ⟨.ref L[k].1,H,I.kept kept,rfl,q L[k] (kQ OC) λe he=>?_⟩;obtain ⟨i,hi,rfl⟩:=List.mem_iff_getElem.mp he
  have:=oT (f:=f) (its.toArray.size-1) i (by rw [dU];omega)
  rw [hb] at this
  have ef:∀k,(hk:k<L.length)→f k=L[k].2:=λk hk=>by
   show (L.getD k (0,[])).2=_;rw [dJ,cC hk];rfl
  rw [ef i hi,ef k OC] at this;exact this
def tupI(l:List Int):D:= .tup (l.map D.int)
def Nk:eF:=λds P=>∃ls:List (List Int),ds= [.lst (ls.map tupI)]∧ls≠ []∧∀m∈ls,(∀n∈ls,HT.lexLt n m=false)→P (tupI m)
theorem wI{G:Hp}:∀{vs:List V}{ns:List (List Int)},aq Z G vs (ns.map tupI)→∃L:List (Addr×List Int),vs=L.map (λe=>V.ref e.1)∧L.map (·.2)=ns∧∀e∈L,G e.1=some (.tup (e.2.map V.int))
 |vs,[],h=>by rw [h.Iv];exact ⟨[],rfl,rfl,λp hp=>by cases hp⟩
 |vs,n::ns,h=>by
  obtain ⟨v,us,rfl,a,as⟩:=h.sY;obtain ⟨L,rfl,h2,h3⟩:=wI as;obtain ⟨p,xs,rfl,hp,e⟩:=a.oF;rw [lA e] at hp;refine ⟨(p,n)::L,rfl,by rw [←h2];rfl,λq hq=>?_⟩
  rcases ck.mp hq with rfl|hq
  ·exact hp
  ·exact h3 q hq
theorem Gw(hc:X.calm=true)(hu:X.A.units+64<cLine):cN X (.builtin "min") (kc Z Nk):=by
 refine (Bu hc hu).imp ?_;rintro xs H Q ⟨G,ds,P,s,dv,⟨ls,rfl,fg,hp⟩,q⟩;obtain ⟨v,rfl,a⟩:=dv.ofOne;obtain ⟨p,vs,rfl,h,e⟩:=a.km;obtain ⟨L,rfl,rfl,h3⟩:=wI e;refine ⟨p,L,rfl,s _ _ h,λx hx=>s _ _ (h3 x hx),λz=>fg (by rw [z];rfl),λx hx hm=>?_⟩
 exact q _ (hp x.2 (List.mem_map_of_mem hx) λn hn=>by
  obtain ⟨y,hy,rfl⟩:=bN.mp hn;exact hm y hy) _ G H (.refl s) (.tup (h3 x hx) (.ints _))
end
section
variable {Z:DC} {X:Cx} {B:Bs} {md:List Nat} {rn:Nat} {ρ:DN} {σ:St} {H G:Hp} {fp:Nat→List Addr} {e k:Expr} {pos p2 apos aN:Pos} {tp te:aT} {t:nk}
def RH(t:nk):nk:=λρ P=>t ρ λa=>P [.lst a]
theorem JY(ha:DF Z X 1 e t)(hs:starEach [e] X.env=(false,eval e X.env)::starEach [] X.env:=by rfl):DF Z X 2 (.List [e] pos) (RH t):=by
 refine (dH (aa ha ar hs)).imp ?_;rintro σ H Q ⟨G,ρ,P,s,en,h,q⟩;refine ⟨G,ρ,_,s,en,h,λl1 h1 v1 f1 G1 H1 x1 o1 Pf KP=>⟨by show 1≤sizeLine;decide,λp hp=>?_⟩⟩
 have n1:∀b∈f1,b≠p:=λb hb z=>(KP b hb).2.1 (by rw [z];exact hp)
 refine q _ h1 (.ref p) (p::(f1++ [])) G1 _ (x1.side hp) (.inl ⟨p,[v1],_,_,rfl,rfl,ab,rfl, .cons (o1.keep (.refl _) λb hb=>ae (n1 b hb)) .nil⟩) ?_ ?_
 ·rw [jV,kR]
  exact ⟨λz=>n1 p z rfl,Pf⟩
 ·intro b hb
  rw [jV] at hb
  rcases ck.mp hb with rfl|hb
  ·exact ⟨x1.hh.free hp,(by rw [ab];exact λz=>nomatch z),x1.sub.free hp⟩
  ·exact ⟨(KP b hb).1,(by rw [ae (n1 b hb)];exact (KP b hb).2.1),(KP b hb).2.2⟩
theorem GN(n:Nat):DF Z X (n+1) (.List [] pos) (Ms rp):=by
 refine (dH ar).imp ?_;rintro σ H Q ⟨G,ρ,P,s,en,⟨_,hp⟩,q⟩;refine ⟨by show 0≤sizeLine;decide,λp hn=>?_⟩
 refine q _ hp (.ref p) [p] G _ ((Ext.refl s).side hn) (.inl ⟨p,[],[],[],rfl,rfl,ab,rfl, .nil⟩) (by simp) λb hb=>?_
 have:b=p:=by simpa using hb
 subst this;exact ⟨hn,(by rw [ab];exact λz=>nomatch z),s.free hn⟩
theorem SIx.T8{i:Nat}{v:V}{d':D}{b:Addr}{c:HO}{f':List Addr}(S:SIx Z B md ρ σ H G fp)(hi:σ[i]? =some (some v))(hb:b∈fp i)(o:Own Z G (upd H b c) (md.getD i 0) v d' f')(nd:f'.Nodup)(nw:∀x∈f',B.H₀ x=none∧H x≠none∧G x=none)(ap:∀x∈f',∀j,j≠i→x∉fp j):
  SIx Z B md (ρ.set i (some d')) σ (upd H b c) G (λj=>if j=i then f' else fp j) where
 ex:=by
  obtain ⟨h1,h2,h3⟩:=S.nw i b hb;exact ⟨S.ex.gg,λx u e=>by rw [ae (ah e h3)];exact S.ex.sub _ _ e,λx u e=>by rw [ae (ah e h1)];exact S.ex.hh _ _ e,S.ex.off⟩
 fl:=S.fl
 len:=by rw [gb];exact S.len
 at_:=λj w h=>by
  by_cases z:i=j
  ·subst z
   by_cases hl:i<ρ.length
   ·rw [kN hl] at h
    cases h;exact ⟨v,hi,by rw [if_pos rfl];exact o⟩
   ·rw [xQ (jo hl),fG (jo hl)] at h;cases h
  ·rw [kO z] at h
   obtain ⟨u,hu,ow⟩:=S.at_ j w h;exact ⟨u,hu,by rw [if_neg (Ne.symm z)];exact ow.keep (.refl _) λx hx=>ae λq=>S.ap i j b z hb (by rw [←q];exact hx)⟩
 nd:=λj=>by split;exact nd;exact S.nd j
 ap:=λj k b ne hj hk=>by
  split at hj
  ·next z=>
   rw [if_neg (λw=>ne (z.trans w.symm))] at hk;exact ap b hj k (λw=>ne (z.trans w.symm)) hk
  ·next z=>
   split at hk
   ·exact ap b hk j z hj
   ·exact S.ap j k b ne hj hk
 nw:=λj x hx=>by
  have go:B.H₀ x=none∧H x≠none∧G x=none:=by
   split at hx
   ·exact nw x hx
   ·exact S.nw j x hx
  refine ⟨go.1,?_,go.2.2⟩
  by_cases z:x=b
  ·rw [z,ab];exact λq=>nomatch q
  ·rw [ae z];exact go.2.1
def JO(md:List Nat)(i:Nat)(t:nk):dD:=λE ρ=>∃J2,ρ[i]? =some (some (.lst J2))∧t (di md ρ) λl=>J2.length<sizeLine∧E.nx (ρ.set i (some (.lst (J2++ [.lst l]))))
theorem EO(i:Nat){x:Str}{px:Pos}(he:DF Z X 1 e t)(hm:md.getD i 0=2:=by rfl)(hi:X.N[i]? =some x:=by rfl)(hv:sq X.env.scope x:=by first|exact Or.inl rfl|exact Or.inr (Or.inl rfl) |exact Or.inr (Or.inr rfl))(hd:(x==("__debug__":Str))=false:=by decide)(gq:(x==("__classdict__":Str))=false:=by decide)
  (dF:attributeBase (.Name x px) "append" X.env (eval (.Name x px) X.env)=eval (.Name x px) X.env:=by rfl)
  (iG:((backTo aN (starEach [e] X.env)).all (λx=>!x.1)&&(backToKw aN (keywordEach [] X.env)).all (λx=>x.1.isSome)&&decide (([e]:List Expr).length+([]:List Keyword).length+(if ([]:List Keyword).isEmpty then 0 else 1)<30))=true:=by rfl)
  (cA:(apos.endLine==aN.line)=true:=by rfl) (hs:starEach [e] X.env=(false,eval e X.env)::starEach [] X.env:=by rfl) (dG:(backTo aN (starEach [] X.env)).any (·.1)=false:=by rfl)
  (qE:swapsWith (.Call (.Attribute (.Name x px) "append" apos) [e] [] aN) none pos.line X.env=pure false:=by rfl):
  DSt Z X md rn (.Expr (.Call (.Attribute (.Name x px) "append" apos) [e] [] aN) pos) (JO md i t):=by
 refine (dh (fh PySem.F.plainAttrs_list PySem.F.slot_list_append PySem.F.type_list_append gw (pv i hi hv hd gq) (aa he ar hs) dF iG cA hs dG) qE).imp ?_;rintro Dn σ H ⟨B,ρ,E,⟨G,fp,S⟩,⟨J2,h1,h⟩,M⟩;obtain ⟨v0,v8,o⟩:=S.at_ i _ h1;rw [hm] at o;obtain ⟨T,ys,XM,eZ,rfl,e0,hT,hf,ol⟩:=o.lst;cases e0;refine ⟨_,v8,ty_list hT,G,_,_,S.ex.sub,S.zY,h,?_⟩;rintro l ⟨hz,hn⟩ v f G' H' x ow nd nw;have S':=S.grow x;have Hl:=x.hh _ _ hT
 have O5:∀b∈eZ,H' b=H b:=λb hb=>by
  cases z:H b with
  |none=>exact absurd z (S.nw i b (by rw [hf];exact cu _ hb)).2.1
  |some o=>exact x.hh _ _ z
 have Il:=S.nd i;rw [hf] at Il;obtain ⟨nT,ndf⟩:=kR.mp Il
 have fT:T∉f:=λz=>by
  have:=(nw T z).1
  rw [hT] at this;cases this
 have ff:∀b∈eZ,b∉f:=λb hb z=>(S.nw i b (by rw [hf];exact cu _ hb)).2.1 (nw b z).1
 have Wi:∀b,b≠T→upd H' T (.lst (ys++ [v])) b=H' b:=λb hb=>ae hb;refine ⟨T,ys,v,rfl,rfl,Hl,by rw [ol.length];exact hz,M.nx _ hn _ _ ⟨G',_,S'.T8 (b:=T) (f':=T::(eZ++f)) v8 (by rw [hf];exact bY ..) ?_ ?_ ?_ ?_⟩⟩
 ·rw [hm]
  refine .inl ⟨T,ys++ [v],_,eZ++f,rfl,rfl,ab,rfl,dN.snoc (ol.imp λv d g hb r=>r.keep x.gg λb q=>?_) (ow.keep (.refl _) λb hb=>Wi b λz=>fT (by rw [←z];exact hb))⟩
  rw [Wi b λz=>nT (by rw [←z];exact hb b q)]
  exact O5 b (hb b q)
 ·rw [kR,mK]
  exact ⟨λz=>(cE.mp z).elim nT fT,ndf,nd,λa ha b hb z=>ff a ha (by rw [z];exact hb)⟩
 ·intro b hb
  rcases ck.mp hb with rfl|hb
  ·exact S'.nw i b (by rw [hf];exact bY ..)
  ·rcases cE.mp hb with hb|hb
   ·exact S'.nw i b (by rw [hf];exact cu _ hb)
   ·exact ⟨S.ex.hh.free (nw b hb).1,(nw b hb).2⟩
 ·intro b hb j hj z
  have go:b∈fp i∨b∈f:=by
   rw [hf]
   rcases ck.mp hb with rfl|hb
   ·exact .inl (bY ..)
   ·exact (cE.mp hb).imp (cu _) id
  rcases go with go|go
  ·exact S.ap j i b hj z go
  ·exact (S.nw j b z).2.1 (nw b go).1
theorem xt{H:Hp}:∀{ys:List V}{L:List (List Nat)}{eZ:List Addr},dN (Own Z G H 1) ys (L.map aD) eZ→∃A:List (Addr×List Nat),ys=A.map (λe=>V.ref e.1)∧A.map (·.2)=L∧yb H A∧eZ=A.map (·.1)
 |_,[],_, .nil=>⟨[],rfl,rfl,(λp hp=>by cases hp),rfl⟩
 |_,r::L,_, .cons a as=>by
  obtain ⟨A,h1,h2,h3,h4⟩:=xt as;obtain ⟨p,xs,ds,eZ,rfl,e,ha,hf,ol⟩:=a.one;obtain ⟨dv,rfl⟩:=ol.flat;have e:(r.map ay)=ds:=by cases e;rfl
  subst e
  have hx:xs=(fX r).map V.int:=by
   have e:r.map ay=(fX r).map D.int:=by unfold fX;rw [bL];rfl
   rw [e] at dv;exact lA dv
  rw [hx] at ha;refine ⟨(p,r)::A,by rw [h1];rfl,by rw [←h2];rfl,λq hq=>?_,by rw [hf,h4];rfl⟩
  rcases ck.mp hq with rfl|hq
  ·exact ha
  ·exact h3 q hq
theorem xD{H:Hp}:∀{A:List (Addr×List Nat)},yb H A→dN (Own Z G H 1) (A.map λe=>V.ref e.1) ((A.map (·.2)).map aD) (A.map (·.1))
 | [],_=> .nil
 |x::A,h=>by
  have e:(x.2.map ay)=(fX x.2).map D.int:=by unfold fX;rw [bL];rfl
  refine dN.cons (f:= [x.1]) (.inl ⟨x.1,_,_,[],rfl,rfl,h x (bY ..),rfl,?_⟩) (xD λp hp=>h p (cu _ hp));rw [e];exact (aq.ints _).own
def GC(i:Nat):dD:=λE ρ=>∃L:List (List Nat),ρ[i]? =some (some (.lst (L.map aD)))∧L.length≤1000∧∀M:List (List Nat),M.Perm L→M.Pairwise fQ→E.rt (.lst (M.map aD))
theorem BD(i:Nat){x:Str}{px p:Pos}(hu:X.A.units+64<cLine)(hg:Gl X "sorted")(qD:X.mg "sorted"=none)(hm:md.getD i 0=2:=by rfl)(hi:X.N[i]? =some x:=by rfl)(hv:sq X.env.scope x:=by first|exact Or.inl rfl|exact Or.inr (Or.inl rfl) |exact Or.inr (Or.inr rfl))(hd:(x==("__debug__":Str))=false:=by decide)(gq:(x==("__classdict__":Str))=false:=by decide)
  (hs:starEach [.Name x px] X.env=(false,eval (.Name x px) X.env)::starEach [] X.env:=by rfl) (cW:(backTo aN (starEach [] X.env)).any (·.1)=false:=by rfl):DSt Z X md 2 (.Return (some (.Call (.Name "sorted" p) [.Name x px] [] aN)) pos) (GC i):=by
 refine (e7 (cp (lh hu) hg qD iA (aa (pv i hi hv hd gq) ar hs) (by decide) (by decide) hs cW)).imp ?_
 rintro Dn σ H ⟨B,ρ,E,⟨G,fp,S⟩,⟨L,h1,hz,h⟩,M⟩;obtain ⟨v0,v8,o⟩:=S.at_ i _ h1;rw [hm] at o;obtain ⟨T,ys,XM,eZ,rfl,e0,hT,hf,ol⟩:=o.lst;cases e0;obtain ⟨A,rfl,Hi,Hj,RP⟩:=xt ol;have Il:=S.nd i;rw [hf] at Il;have hl:A.length=L.length:=by rw [←Hi];simp
 refine ⟨_,v8,T,A,rfl,aC.of hT,Hj,by omega,λq N hn pm u6=>?_⟩
 have Pl:=S.nw i;rw [hf] at Pl;have mem:∀b,b∈N.map (·.1)→b∈eZ:=λb hb=>by rw [RP];exact (pm.map _).mem_iff.mp hb
 have ne:∀b,b∈N.map (·.1)→b≠q:=λb hb z=>(Pl b (cu _ (mem b hb))).2.1 (by rw [z];exact hn)
 refine M.rt _ (h (N.map (·.2)) (by rw [←Hi];exact pm.map _) u6) (.ref q) (q::N.map (·.1)) G _ (S.ex.side hn) (.inl ⟨q,_,_,_,rfl,rfl,ab,rfl,xD λp hp=>?_⟩) ?_ ?_
 ·rw [ae (ne p.1 (bN.mpr ⟨p,hp,rfl⟩))]
  exact Hj p (pm.mem_iff.mp hp)
 ·rw [kR]
  refine ⟨λz=>ne q z rfl,((pm.map _).nodup_iff).mpr ?_⟩;rw [←RP];exact (kR.mp Il).2
 ·intro b hb
  rcases ck.mp hb with rfl|hb
  ·exact ⟨S.ex.hh.free hn,(by rw [ab];exact λz=>nomatch z),S.ex.sub.free hn⟩
  ·obtain ⟨k1,k2,k3⟩:=Pl b (cu _ (mem b hb))
   exact ⟨k1,(by rw [ae (ne b hb)];exact k2),k3⟩
end
end L2
namespace Wb
def ft(w:W)(d:Nat×Nat)(r:List (Nat×Nat)):Prop:=∃k,0<k∧aV w k d=d∧(∀j,0<j→j<k→aV w j d≠d)∧r=walk w d k
theorem jK{w:W}{d e:Nat×Nat}{k:Nat}:e∈walk w d k↔∃i,i<k∧e=aV w i d:=by
 unfold walk;rw [bN]
 constructor
 ·rintro ⟨i,hi,rfl⟩;exact ⟨i,gd.mp hi,rfl⟩
 ·rintro ⟨i,hi,rfl⟩;exact ⟨i,gd.mpr hi,rfl⟩
theorem ft.first{w:W}{d:Nat×Nat}{r:List (Nat×Nat)}(h:ft w d r):d∈r:=by
 obtain ⟨k,h0,_,_,rfl⟩:=h;exact jK.mpr ⟨0,h0,rfl⟩
theorem ft.next{w:W}{d e:Nat×Nat}{r:List (Nat×Nat)}(h:ft w d r)(he:e∈r):jN w e∈r:=by
 obtain ⟨k,h0,h1,_,rfl⟩:=h;obtain ⟨i,hi,rfl⟩:=jK.mp he
 by_cases c:i+1<k
 ·exact jK.mpr ⟨i+1,c,rfl⟩
 ·have:i+1=k:=by omega
  refine jK.mpr ⟨0,h0,?_⟩;show aV w (i+1) d=d;rw [this];exact h1
theorem ft.iter{w:W}{d e:Nat×Nat}{r:List (Nat×Nat)}(h:ft w d r)(he:e∈r):∀n,aV w n e∈r
 |0=>he
 |n+1=>h.next (h.iter he n)
theorem ft.back{w:W}{d e:Nat×Nat}{r:List (Nat×Nat)}(h:ft w d r)(he:e∈r):∃n,aV w n e=d:=by
 obtain ⟨k,h0,h1,_,rfl⟩:=h;obtain ⟨i,hi,rfl⟩:=jK.mp he;refine ⟨k-i,?_⟩;rw [←eM i (k-i),show k-i+i=k by omega]
 exact h1
theorem ft.nodup{w:W}(g:Good w){d:Nat×Nat}{r:List (Nat×Nat)}(h:ft w d r)(hd:aH w d):r.Nodup:=by
 obtain ⟨k,h0,h1,h2,rfl⟩:=h;exact rW g hd h2
theorem ft.aG{w:W}(g:Good w){d:Nat×Nat}{r:List (Nat×Nat)}(h:ft w d r)(hd:aH w d):∀e∈r,aH w e:=by
 obtain ⟨k,h0,h1,h2,rfl⟩:=h;exact oR g hd
structure Wk (w:W) (ds:List (Nat×Nat)) (i:Nat) (rs:List (List (Nat×Nat))):Prop where
 rnd:∀r∈rs,∃d,ft w d r∧aH w d∧∀e∈r,lexLe d e
 nod:rs.flatten.Nodup
 met:∀j e,j<i→ds[j]? =some e→e∈rs.flatten
theorem Wk.zero(w:W)(ds:List (Nat×Nat)):Wk w ds 0 []:=⟨(λr h=>by cases h),jW,(λj e h=>by omega)⟩
theorem Wk.skip{w:W}{ds:List (Nat×Nat)}{i:Nat}{rs:List (List (Nat×Nat))}{d:Nat×Nat}(h:Wk w ds i rs)(hd:ds[i]? =some d)(hm:d∈rs.flatten):Wk w ds (i+1) rs:=
 ⟨h.rnd,h.nod,λj e hj he=>by
  by_cases c:j=i
  ·subst c;rw [hd] at he;cases he;exact hm
  ·exact h.met j e (by omega) he⟩
theorem Wk.take{w:W}(g:Good w){ds:List (Nat×Nat)}(all:∀e,aH w e→e∈ds)(dart:∀e∈ds,aH w e)(u6:ds.Pairwise lexLe){i:Nat}{rs:List (List (Nat×Nat))}{d:Nat×Nat}{r:List (Nat×Nat)}(h:Wk w ds i rs)(hd:ds[i]? =some d)(hm:d∉rs.flatten)(hr:ft w d r):Wk w ds (i+1) (rs++ [r]):=by
 have dd:aH w d:=dart d (cS hd)
 have off:∀e∈r,e∉rs.flatten:=λe he hf=>by
  obtain ⟨r',fN,yu⟩:=xZ.mp hf;obtain ⟨d',R',_,_⟩:=h.rnd r' fN;obtain ⟨n,hn⟩:=hr.back he;exact hm (xZ.mpr ⟨r',fN,by rw [←hn];exact R'.iter yu n⟩)
 refine ⟨λr' h'=>?_,?_,λj e hj he=>?_⟩
 ·rcases cE.mp h' with z|z
  ·exact h.rnd r' z
  ·rw [iS.mp z]
   refine ⟨d,hr,dd,λe he=>?_⟩;obtain ⟨j,hj⟩:=f7 (all e (hr.aG g dd e he))
   by_cases c:j<i
   ·exact absurd (h.met j e c hj) (off e he)
   ·by_cases c2:j=i
    ·subst c2;rw [hd] at hj;cases hj
     exact .inr ⟨rfl,aU _⟩
    ·obtain ⟨h1,e1⟩:=b9.mp hd
     obtain ⟨h2,e2⟩:=b9.mp hj;rw [←e1,←e2];exact vE.mp u6 i j h1 h2 (by omega)
 ·rw [zp,mK]
  refine ⟨h.nod,by simpa using hr.nodup g dd,λa ha b hb e=>?_⟩
  subst e;exact off a (by simpa using hb) ha
 ·rw [zp,cE]
  by_cases c:j=i
  ·subst c;rw [hd] at he;cases he
   exact .inr (by simpa using hr.first)
  ·exact .inl (h.met j e (by omega) he)
theorem Wk.fin{w:W}(g:Good w){ds:List (Nat×Nat)}(all:∀e,aH w e→e∈ds){rs:List (List (Nat×Nat))}(h:Wk w ds ds.length rs):rs.flatten.Perm (aG w):=by
 have sub:∀e,e∈rs.flatten↔e∈aG w:=λe=>by
  rw [aX]
  constructor
  ·intro he
   obtain ⟨r,hr,YH⟩:=xZ.mp he;obtain ⟨d,R,dd,_⟩:=h.rnd r hr;exact R.aG g dd e YH
  ·intro he
   obtain ⟨j,hj⟩:=f7 (all e he);exact h.met j e (b9.mp hj).1 hj
 exact (xO h.nod (eY g)).mpr sub
structure bw (w:W) (rs:List (List (Nat×Nat))):Prop where
 rnd:∀r∈rs,∃d,ft w d r∧aH w d∧∀e∈r,lexLe d e
 perm:rs.flatten.Perm (aG w)
theorem bw.pO{w:W}{rs cX:List (List (Nat×Nat))}(R:bw w rs)(p:cX.Perm rs):bw w cX:=
 ⟨λr hr=>R.rnd r (p.mem_iff.mp hr),(p.flatten).trans R.perm⟩
theorem zO{w:W}{d:Nat×Nat}(g:Good w)(h:aH w d):d.1≠d.2:=λe=>g.irr d.1 (by have:d.2∈row w d.1:=h;rw [←e] at this;exact this)
theorem tP{w:W}(g:Good w){ts:List (Nat×Nat)}(pm:ts.Perm (ic (row w) w.length)):(ts++ts.map λt=>(t.2,t.1)).Perm (aG w):=by
 have e:=mE w;have nd:=eY g
 have m:∀t,t∈ts↔aH w t∧t.1<t.2:=λt=>by
  rw [pm.mem_iff,e,vB,aX,decide_eq_true_eq]
 have nt:ts.Nodup:=pm.nodup_iff.mpr (by rw [e];exact nd.filter _)
 refine (xO ?_ nd).mpr λd=>?_
 ·rw [mK]
  refine ⟨nt,?_,λa ha b hb z=>?_⟩
  ·rw [xN,jm]
   rw [xN] at nt;exact nt.imp λ {a b} h z=>h (Prod.ext (Prod.mk.inj z).2 (Prod.mk.inj z).1)
  ·obtain ⟨c,hc,rfl⟩:=bN.mp hb
   have h1:=((m a).mp ha).2;have h2:=((m c).mp hc).2;rw [z] at h1;have h1:c.2<c.1:=h1;omega
 ·rw [cE,bN,aX]
  constructor
  ·rintro (h| ⟨c,hc,rfl⟩)
   ·exact ((m d).mp h).1
   ·exact g.sym _ _ ((m c).mp hc).1
  ·intro h
   rcases Nat.lt_or_gt_of_ne (zO g h) with c|c
   ·exact .inl ((m d).mpr ⟨h,c⟩)
   ·exact .inr ⟨(d.2,d.1),(m _).mpr ⟨g.sym _ _ h,c⟩,rfl⟩
theorem ft.uniq{w:W}{d:Nat×Nat}{r r':List (Nat×Nat)}(h:ft w d r)(h':ft w d r'):r=r':=by
 obtain ⟨k,a1,a2,a3,rfl⟩:=h;obtain ⟨m,b1,b2,b3,rfl⟩:=h'
 rcases Nat.lt_trichotomy k m with c|c|c
 ·exact absurd a2 (b3 k a1 c)
 ·rw [c]
 ·exact absurd b2 (a3 m b1 c)
theorem bw.sub{w:W}{rs cX:List (List (Nat×Nat))}(R:bw w rs)(R':bw w cX):∀r∈rs,r∈cX:=λr hr=>by
 obtain ⟨d,h1,h2,h3⟩:=R.rnd r hr;have hd:d∈cX.flatten:=R'.perm.mem_iff.mpr (aX.mpr h2);obtain ⟨r',fN,Si⟩:=xZ.mp hd;obtain ⟨d',k1,k2,k3⟩:=R'.rnd r' fN;obtain ⟨n,hn⟩:=k1.back Si;have l1:lexLe d d':=by rw [←hn];exact h3 _ (h1.iter h1.first n)
 have e:=mV l1 (k3 d Si);subst e;rw [h1.uniq k1];exact fN
theorem bw.ne{w:W}{rs:List (List (Nat×Nat))}(R:bw w rs):∀r∈rs,r≠ []:=λr hr z=>by
 obtain ⟨d,h1,_⟩:=R.rnd r hr
 have:=h1.first
 rw [z] at this;cases this
theorem rA{α:Type}:∀{l:List (List α)},l.flatten.Nodup→(∀r∈l,r≠ [])→l.Nodup
 | [],_,_=>jW
 |a::l,h,hn=>by
  rw [sg,mK] at h;refine kR.mpr ⟨λha=>?_,rA h.2.1 λr hr=>hn r (cu _ hr)⟩;cases a with
  |nil=>exact hn [] (bY ..) rfl
  |cons x a=>exact h.2.2 x (bY ..) x (xZ.mpr ⟨_,ha,bY ..⟩) rfl
theorem bw.nodup{w:W}{rs:List (List (Nat×Nat))}(g:Good w)(R:bw w rs):rs.Nodup:=rA (R.perm.nodup_iff.mpr (eY g)) R.ne
abbrev bH(rs:List (List (Nat×Nat))):List (List Nat):=rs.map λr=>r.map (·.1)
theorem Ci{a b:List Nat}(h:L2.fQ a b)(h':L2.fQ b a):a=b:=by
 have:=L2.pJ (L2.fX a) (L2.fX b) h' h
 exact L2.A5 (by rw [this])
theorem bw.uniq{w:W}(g:Good w){rs cX:List (List (Nat×Nat))}(R:bw w rs)(R':bw w cX)(s:(bH rs).Pairwise L2.fQ)(s':(bH cX).Pairwise L2.fQ):bH rs=bH cX:=by
 have pm:rs.Perm cX:=(xO (R.nodup g) (R'.nodup g)).mpr λr=>⟨R.sub R' r,R'.sub R r⟩;exact List.Perm.eq_of_pairwise (λ_ _ _ _=>Ci) s s' (pm.map _)
open Classical in
noncomputable def ju(w:W):List (List Nat):=if h:∃rs,bw w rs∧(bH rs).Pairwise L2.fQ then bH h.choose else []
theorem Fs{w:W}(g:Good w){rs:List (List (Nat×Nat))}(R:bw w rs)(s:(bH rs).Pairwise L2.fQ):ju w=bH rs:=by
 have h:∃rs,bw w rs∧(bH rs).Pairwise L2.fQ:=⟨rs,R,s⟩;unfold ju;rw [dif_pos h];exact h.choose_spec.1.uniq g R h.choose_spec.2 s
theorem Jc{w:W}{d:Nat×Nat}{r:List (Nat×Nat)}(h:ft w d r){i:Nat}(hi:i<r.length):r.getD ((i+1)%r.length) (0,0)=jN w (r.getD i (0,0)):=by
 obtain ⟨k,k0,k1,k2,rfl⟩:=h;rw [dY] at hi ⊢
 have at_:∀j,j<k→(walk w d k).getD j (0,0)=aV w j d:=λj hj=>by
  unfold walk;rw [dJ,dq,se hj];rfl
 rw [at_ i hi]
 by_cases c:i+1<k
 ·rw [sh c,at_ _ c];rfl
 ·have e:i+1=k:=by omega
  rw [e,Nat.mod_self,at_ 0 k0];show d=aV w (i+1) d;rw [e,k1]
theorem wV(r:List (Nat×Nat))(i:Nat):(r.map (·.1)).getD i 0=(r.getD i (0,0)).1:=by
 rw [dJ,dJ,dq];cases r[i]? <;>rfl
theorem gB{a b:List Nat}{x y:Nat}(nd:(a++x::y::b).Nodup):bq (a++x::y::b) x=y:=by
 have hx:x∉a:=λh=>by
  have:=(mK.mp nd).2.2 x h x (bY ..)
  exact this rfl
 have e:(a++x::y::b).idxOf x=a.length:=by
  rw [List.idxOf_append,if_neg hx,List.idxOf_cons_self];simp
 unfold bq;rw [e,sh (by simp),dJ,ji (by omega)]
 simp
theorem mB{b:List Nat}{x y:Nat}(nd:(y::(b++ [x])).Nodup):bq (y::(b++ [x])) x=y:=by
 have hx:x∉y::b:=λh=>by
  have h2:(y::b++ [x]).Nodup:=nd;exact (mK.mp h2).2.2 x h x (by simp) rfl
 have e:(y::(b++ [x])).idxOf x=b.length+1:=by
  show (y::b++ [x]).idxOf x=_;rw [List.idxOf_append,if_neg hx];simp
 unfold bq;rw [e]
 have:(b.length+1+1)%(y::(b++ [x])).length=0:=by simp
 rw [this];rfl
theorem C2{a b:List Nat}{x:Nat}(nd:(a++b).Nodup)(h:x∈a++b):bq (b++a) x=bq (a++b) x:=by
 have kh:(b++a).Nodup:=(Bj.nodup_iff).mp nd;obtain ⟨u,v,e⟩:=List.append_of_mem h;cases v with
 |cons y v=>
  rw [e,gB (e▸nd)]
  rcases List.append_eq_append_iff.mp e with ⟨c,h1,h2⟩ | ⟨c,h1,h2⟩
  ·
   rw [h2,show c++x::y::v++a=c++x::y::(v++a) by simp]
   refine gB ?_;rw [h2] at kh;simpa using kh
  ·
   cases c with
   |nil=>
    have hb:b=x::y::v:=by simpa using h2.symm
    rw [hb,show x::y::v++a= []++x::y::(v++a) by simp]
    refine gB ?_;rw [hb] at kh;simpa using kh
   |cons z c=>
    have hz:x=z∧y::v=c++b:=by simpa using h2
    obtain ⟨rfl,h3⟩:=hz;cases c with
    |nil=>
     have hb:b=y::v:=by simpa using h3.symm
     rw [h1,hb,show y::v++(u++ [x])=y::((v++u)++ [x]) by simp]
     refine mB ?_;rw [h1,hb] at kh;simpa using kh
    |cons z c=>
     have hz:y=z∧v=c++b:=by simpa using h3
     obtain ⟨rfl,rfl⟩:=hz;rw [h1,show b++(u++x::y::c)=(b++u)++x::y::c by simp]
     refine gB ?_;rw [h1] at kh;simpa using kh
 |nil=>
  cases b with
  |nil=>simp
  |cons y b=>
   rcases List.eq_nil_or_concat b with rfl| ⟨b',z,rfl⟩
   ·
    have:a=u∧y=x:=by
     have:=List.append_inj' e rfl
     exact ⟨this.1,by simpa using this.2⟩
    obtain ⟨rfl,rfl⟩:=this;cases a with
    |nil=>rfl
    |cons t a=>
     have e1:bq (t::a++ [y]) y=t:=mB (b:=a) nd;rw [e1];show bq ([]++y::t::a) y=t;exact gB (by simpa using kh)
   ·have hx:z=x:=by
     rw [List.concat_eq_append] at e;have e:(a++y::b')++ [z]=u++ [x]:=by simpa using e
     exact by simpa using (List.append_inj' e rfl).2
    subst hx;rw [List.concat_eq_append] at nd kh ⊢;cases a with
    |nil=>simp
    |cons t a=>
     have e1:bq (t::a++y::(b'++ [z])) z=t:=by
      have:=mB (y:=t) (b:=a++y::b') (x:=z) (by simpa using nd)
      simpa using this
     have e2:bq (y::(b'++ [z])++t::a) z=t:=by
      have:=gB (a:=y::b') (x:=z) (y:=t) (b:=a) (by simpa using kh)
      simpa using this
     rw [e1,e2]
theorem xJ{l:List Nat}{i:Nat}(nd:l.Nodup)(h:i+1<l.length):bq l (l.getD i 0)=l.getD (i+1) 0:=by
 have e:l.getD i 0=l[i]:=by rw [dJ,cC (by omega)];rfl
 unfold bq;rw [e,nd.idxOf_getElem i (by omega),sh h]
theorem ve{l:List Nat}{i:Nat}(nd:l.Nodup)(h:i+1=l.length):bq l (l.getD i 0)=l.getD 0 0:=by
 have e:l.getD i 0=l[i]:=by rw [dJ,cC (by omega)];rfl
 unfold bq;rw [e,nd.idxOf_getElem i (by omega),h,Nat.mod_self]
section
variable {w:W} {R:List Nat} {A:Nat×Nat→Prop} {v m:Nat} {y:Nat→Nat}
end
theorem um{f:Nat→Nat}{x:Nat}:∀{l:List Nat},(∀y∈l,f y=f x→y=x)→(l.map f).idxOf (f x)=l.idxOf x
 | [],_=>rfl
 |a::l,h=>by
  rw [fY,List.idxOf_cons,List.idxOf_cons,um λy hy=>h y (cu _ hy)]
  by_cases c:a=x
  ·subst c;simp
  ·have:f a≠f x:=λz=>c (h a (bY ..) z)
   have e1:(f a==f x)=false:=by simpa using this
   have e2:(a==x)=false:=by simpa using c
   rw [e1,e2]
theorem CZ{f:Nat→Nat}{l:List Nat}{x:Nat}(h:∀y∈l,f y=f x→y=x)(hx:x∈l):bq (l.map f) (f x)=f (bq l x):=by
 have e:=iQ hx;show (l.map f).getD (((l.map f).idxOf (f x)+1)%(l.map f).length) 0=_;rw [um h,aJ,dJ,dq,e];rfl
section
variable {w w':W} {f:Nat→Nat}
open Classical in
end
def eS(w:W):W:=w.map List.reverse
theorem jL(w:W):(eS w).length=w.length:=aJ _
theorem jM(w:W)(p:Nat):row (eS w) p=(row w p).reverse:=by
 unfold eS row;rw [dJ,dq,dJ];cases w[p]? <;>rfl
theorem uF{w:W}(g:Good w):Good (eS w):=by
 have m:∀p q,q∈row (eS w) p↔q∈row w p:=λp q=>by rw [jM,jU]
 refine ⟨λp q h=>?_,λp h=>g.irr p ((m p p).mp h),λp=>?_,λp q h=>(m q p).mpr (g.sym p q ((m p q).mp h)),λp hp=>?_⟩
 ·rw [jL];exact g.rng p q ((m p q).mp h)
 ·rw [jM];exact (vI _).nodup_iff.mpr (g.nod p)
 ·rw [jL] at hp
  have:∀{a b},Reach w a b→Reach (eS w) a b:=λ {a b} h=>by
   induction h with
   |refl=>exact .refl _
   |step _ hr ih=>exact .step ih ((m _ _).mpr hr)
  exact this (g.con p hp)
theorem C1{R:List Nat}(nd:R.Nodup){p:Nat}(h:p∈R):bq R (bq R.reverse p)=p:=by
 obtain ⟨i,hi,rfl⟩:=List.mem_iff_getElem.mp (jU.mpr h);have kh:R.reverse.Nodup:=(vI _).nodup_iff.mpr nd;have li:i<R.length:=by simpa using hi
 have ei:R.reverse[i]=R.reverse.getD i 0:=by rw [dJ,cC hi];rfl
 have gr:∀k,k<R.length→R.reverse.getD k 0=R.getD (R.length-1-k) 0:=λk hk=>by
  rw [dJ,List.getElem?_reverse hk,←dJ]
 rw [ei]
 by_cases c:i+1<R.length
 ·rw [xJ kh (by simpa using c),gr _ c,gr _ li,xJ nd (by omega),show R.length-1-(i+1)+1=R.length-1-i by omega]
 ·rw [ve kh (by simp;omega),gr _ (by omega),gr _ li,ve nd (by omega),show R.length-1-i=0 by omega]
theorem iR{w:W}{d:Nat×Nat}{k i:Nat}(h:i<k):(walk w d k)[i]? =some (aV w i d):=by
 unfold walk;rw [dq,se h];rfl
theorem vj{w:W}{d:Nat×Nat}{k i:Nat}(h:¬i<k):(walk w d k)[i]? =none:=fG (by rw [dY];omega)
theorem ft.Vv{w:W}(g:Good w){d:Nat×Nat}{r:List (Nat×Nat)}(h:ft w d r)(hd:aH w d){m:Nat}(hm:m<r.length):ft w (r.getD m (0,0)) (r.drop m++r.take m):=by
 obtain ⟨k,k0,k1,k2,rfl⟩:=h;rw [dY] at hm;have e:(walk w d k).getD m (0,0)=aV w m d:=by rw [dJ,iR hm];rfl
 rw [e];have per:aV w k (aV w m d)=aV w m d:=by rw [←eM,Nat.add_comm,eM,k1]
 refine ⟨k,k0,per,λj j0 jk z=>?_,?_⟩
 ·have:aV w m (aV w j d)=aV w m d:=by rw [←eM,Nat.add_comm,eM,z]
  exact k2 j j0 jk (pF g (bK g hd j) hd m this)
 ·refine qi λi=>?_
  have ll:((walk w d k).drop m).length=k-m:=by rw [qk,dY]
  by_cases h1:i<k-m
  ·rw [jj (by rw [ll];exact h1),xT,iR (by omega),iR (by omega),←eM,Nat.add_comm]
  ·rw [ji (by rw [ll];omega),ll]
   by_cases h2:i<k
   ·rw [zq,if_pos (by omega),iR (by omega),iR h2,←eM,show i+m=(i-(k-m))+k by omega,eM,k1]
   ·rw [zq,if_neg (by omega),vj (by omega)]
structure tx (w v:W) (f:Nat×Nat→Nat×Nat):Prop where
 dart:∀d,aH w d→aH v (f d)
 inj:∀d e,aH w d→aH w e→f d=f e→d=e
 nx:∀d,aH w d→jN v (f d)=f (jN w d)
theorem tx.aV{w v:W}{f:Nat×Nat→Nat×Nat}(M:tx w v f)(g:Good w){d:Nat×Nat}(hd:aH w d):∀n,Wb.aV v n (f d)=f (Wb.aV w n d)
 |0=>rfl
 |n+1=>by
  show jN v (Wb.aV v n (f d))=f (jN w (Wb.aV w n d));rw [M.aV g hd n,M.nx _ (bK g hd n)]
theorem tx.rnd{w v:W}{f:Nat×Nat→Nat×Nat}(M:tx w v f)(g:Good w){d:Nat×Nat}{r:List (Nat×Nat)}(h:ft w d r)(hd:aH w d):ft v (f d) (r.map f):=by
 obtain ⟨k,k0,k1,k2,rfl⟩:=h;refine ⟨k,k0,by rw [M.aV g hd,k1],λj j0 jk z=>?_,?_⟩
 ·rw [M.aV g hd] at z
  exact k2 j j0 jk (M.inj _ _ (bK g hd j) hd z)
 ·unfold walk
  rw [bL];exact List.map_congr_left λi _=>(M.aV g hd i).symm
structure zr (w v:W) (f:Nat×Nat→Nat×Nat):Prop where
 dart:∀d,aH w d→aH v (f d)
 inj:∀d e,aH w d→aH w e→f d=f e→d=e
 nx:∀d,aH w d→jN v (f (jN w d))=f d
theorem zr.aV{w v:W}{f:Nat×Nat→Nat×Nat}(M:zr w v f)(g:Good w){d:Nat×Nat}(hd:aH w d)(k:Nat):∀i,i≤k→Wb.aV v i (f (Wb.aV w k d))=f (Wb.aV w (k-i) d)
 |0,_=>rfl
 |i+1,h=>by
  show jN v (Wb.aV v i (f (Wb.aV w k d)))=_;rw [M.aV g hd k i (by omega),show k-i=(k-(i+1))+1 by omega]
  exact M.nx _ (bK g hd _)
theorem zr.rnd{w v:W}{f:Nat×Nat→Nat×Nat}(M:zr w v f)(g:Good w){d:Nat×Nat}{r:List (Nat×Nat)}(h:ft w d r)(hd:aH w d):∃e,ft v e (r.map f).reverse∧aH v e:=by
 obtain ⟨k,k0,k1,k2,rfl⟩:=h;refine ⟨f (Wb.aV w (k-1) d),⟨k,k0,?_,λj j0 jk z=>?_,?_⟩,M.dart _ (bK g hd _)⟩
 ·obtain ⟨m,rfl⟩:∃m,k=m+1:=⟨k-1,by omega⟩
  show jN v (Wb.aV v m (f (Wb.aV w m d)))=f (Wb.aV w m d);rw [M.aV g hd m m (aU _),mL];show jN v (f d)=_
  have:f d=f (jN w (Wb.aV w m d)):=congrArg f k1.symm
  rw [this];exact M.nx _ (bK g hd m)
 ·rw [M.aV g hd (k-1) j (by omega)] at z
  have:=M.inj _ _ (bK g hd _) (bK g hd _) z
  rw [show k-1=(k-1-j)+j by omega,eM,show (k-1-j)+j-j=k-1-j by omega] at this
  exact k2 j j0 jk (pF g (bK g hd j) hd _ this.symm)
 ·refine qi λi=>?_
  have ll:((walk w d k).map f).length=k:=by rw [aJ,dY]
  by_cases h1:i<k
  ·rw [List.getElem?_reverse (by rw [ll];exact h1),ll,dq,iR (by omega),iR h1,M.aV g hd (k-1) i (by omega)];rfl
  ·rw [fG (by rw [List.length_reverse,ll];omega),vj h1]
theorem j9(a b:Nat×Nat):lexLe a b∨lexLe b a:=by unfold lexLe;omega
theorem yK{a b c:Nat×Nat}(h:lexLe a b)(h':lexLe b c):lexLe a c:=by unfold lexLe at*;omega
theorem xh:∀c:List (Nat×Nat),c≠ []→∃e∈c,∀x∈c,lexLe e x
 | [],h=>absurd rfl h
 | [a],_=>⟨a,by simp,λx hx=>by rw [iS] at hx;subst hx;exact (j9 x x).elim id id⟩
 |a::b::c,_=>by
  obtain ⟨e,he,hm⟩:=xh (b::c) (by simp)
  rcases j9 a e with h|h
  ·refine ⟨a,by simp,λx hx=>?_⟩
   rcases ck.mp hx with rfl|hx
   ·exact (j9 x x).elim id id
   ·exact yK h (hm x hx)
  ·refine ⟨e,cu _ he,λx hx=>?_⟩
   rcases ck.mp hx with rfl|hx
   ·exact h
   ·exact hm x hx
open Classical in
noncomputable def gX(c:List (Nat×Nat)):Nat:=if h:∃e,e∈c∧∀x∈c,lexLe e x then c.idxOf h.choose else 0
theorem mT{c:List (Nat×Nat)}(h:c≠ []):gX c<c.length∧c.getD (gX c) (0,0)∈c∧(∀x∈c,lexLe (c.getD (gX c) (0,0)) x)∧gX c=c.idxOf (c.getD (gX c) (0,0)):=by
 have hz:∃e,e∈c∧∀x∈c,lexLe e x:=let ⟨e,a,b⟩:=xh c h;⟨e,a,b⟩;have e1:gX c=c.idxOf hz.choose:=by unfold gX;rw [dif_pos hz]
 have s:=hz.choose_spec;have l:=rZ.mpr s.1
 have ge:c.getD (gX c) (0,0)=hz.choose:=by
  rw [e1,dJ,cC l];exact xS l
 rw [ge,e1];exact ⟨l,s.1,s.2,rfl⟩
theorem As{c:List (Nat×Nat)}{e:Nat×Nat}(h:c≠ [])(he:e∈c)(hm:∀x∈c,lexLe e x):c.getD (gX c) (0,0)=e:=by
 obtain ⟨_,s2,s3,_⟩:=mT h;exact mV (s3 e he) (hm _ s2)
noncomputable def fc(c:List (Nat×Nat)):List (Nat×Nat):=c.drop (gX c)++c.take (gX c)
theorem n4(c:List (Nat×Nat)):(fc c).Perm c:=by
 unfold fc
 have:=Bj (l₁:=c.drop (gX c)) (l₂:=c.take (gX c))
 rwa [jl] at this
theorem wy{w:W}(g:Good w){d:Nat×Nat}{r:List (Nat×Nat)}(h:ft w d r)(hd:aH w d):∃e,ft w e (fc r)∧aH w e∧∀x∈fc r,lexLe e x:=by
 have ne:r≠ []:=λz=>by have:=h.first;rw [z] at this;cases this
 obtain ⟨s1,s2,s3,_⟩:=mT ne;exact ⟨_,h.Vv g hd s1,h.aG g hd _ s2,λx hx=>s3 x ((n4 r).mem_iff.mp hx)⟩
theorem nG{α:Type}{f:List α→List α}(h:∀r,(f r).Perm r):∀rs:List (List α),(rs.map f).flatten.Perm rs.flatten
 | []=> .nil
 |r::rs=>by
  rw [fY,sg,sg];exact (h r).append (nG h rs)
theorem i7{w v:W}(g:Good w)(gv:Good v){f:Nat×Nat→Nat×Nat}(dart:∀d,aH w d→aH v (f d))(inj:∀d e,aH w d→aH w e→f d=f e→d=e)(sur:∀e,aH v e→∃d,aH w d∧f d=e):((aG w).map f).Perm (aG v):=by
 refine (xO ?_ (eY gv)).mpr λe=>?_
 ·rw [xN,jm]
  have:=eY g
  rw [xN] at this;exact List.Pairwise.imp_of_mem (λha hb n z=>n (inj _ _ (aX.mp ha) (aX.mp hb) z)) this
 ·rw [bN,aX]
  exact ⟨λ⟨d,hd,z⟩=>by rw [←z];exact dart d (aX.mp hd),λh=>let ⟨d,hd,z⟩:=sur e h;⟨d,aX.mpr hd,z⟩⟩
theorem tx.rounds{w v:W}{f:Nat×Nat→Nat×Nat}(M:tx w v f)(g:Good w)(gv:Good v)(sur:∀e,aH v e→∃d,aH w d∧f d=e){rs:List (List (Nat×Nat))}(R:bw w rs):bw v (rs.map λr=>fc (r.map f)):=by
 refine ⟨λr' fN=>?_,?_⟩
 ·obtain ⟨r,hr,rfl⟩:=bN.mp fN
  obtain ⟨d,h1,h2,_⟩:=R.rnd r hr;exact wy gv (M.rnd g h1 h2) (M.dart _ h2) |>.imp λe h=>⟨h.1,h.2.1,h.2.2⟩
 ·have e1:rs.map (λr=>fc (r.map f))=(rs.map λr=>r.map f).map fc:=by rw [bL];rfl
  rw [e1];refine (nG n4 _).trans ?_;rw [←List.map_flatten];exact (R.perm.map f).trans (i7 g gv M.dart M.inj sur)
structure zw (w v:W) (φ:Nat→Nat):Prop where
 len:v.length=w.length
 lt:∀p,p<w.length→φ p<w.length
 inj:∀p q,p<w.length→q<w.length→φ p=φ q→p=q
 sur:∀y,y<w.length→∃p,p<w.length∧φ p=y
 row:∀p,p<w.length→∃b,Wb.row v (φ p)=((Wb.row w p).map φ).drop b++((Wb.row w p).map φ).take b
theorem zw.mem{w v:W}{φ:Nat→Nat}(N:zw w v φ){p y:Nat}(hp:p<w.length):y∈Wb.row v (φ p)↔y∈(Wb.row w p).map φ:=by
 obtain ⟨b,e⟩:=N.row p hp;rw [e,cE]
 conv=>rhs;rw [←jl b ((Wb.row w p).map φ),cE]
 exact or_comm
theorem zw.dmap{w v:W}{φ:Nat→Nat}(N:zw w v φ)(g:Good w):tx w v (λd=>(φ d.1,φ d.2)):=by
 have mlt:∀d,aH w d→d.1<w.length∧d.2<w.length:=λd h=>⟨fV h,g.rng _ _ h⟩;refine ⟨λd h=>?_,λd e hd he z=>?_,λd h=>?_⟩
 ·exact (N.mem (mlt d h).1).mpr (bN.mpr ⟨d.2,h,rfl⟩)
 ·have z1:=(Prod.mk.inj z).1
  have z2:=(Prod.mk.inj z).2;exact Prod.ext (N.inj _ _ (mlt d hd).1 (mlt e he).1 z1) (N.inj _ _ (mlt d hd).2 (mlt e he).2 z2)
 ·obtain ⟨b,e⟩:=N.row d.2 (mlt d h).2
  have hs:d.1∈Wb.row w d.2:=g.sym _ _ h;have Tp:∀y∈Wb.row w d.2,φ y=φ d.1→y=d.1:=λy hy z=>N.inj _ _ (g.rng _ _ hy) (mlt d h).1 z
  have nd:((Wb.row w d.2).map φ).Nodup:=by
   have:=g.nod d.2
   rw [xN] at this ⊢;rw [jm];exact List.Pairwise.imp_of_mem (λha hb n z=>n (N.inj _ _ (g.rng _ _ ha) (g.rng _ _ hb) z)) this
  have hm:φ d.1∈(Wb.row w d.2).map φ:=bN.mpr ⟨_,hs,rfl⟩;show (φ d.2,bq (Wb.row v (φ d.2)) (φ d.1))=(φ d.2,φ (bq (Wb.row w d.2) d.1));rw [e];have h1:=C2 (a:=((Wb.row w d.2).map φ).take b) (b:=((Wb.row w d.2).map φ).drop b) (x:=φ d.1) (by rw [jl];exact nd) (by rw [jl];exact hm)
  rw [h1,jl,CZ Tp hs]
theorem zw.M5{w v:W}{φ:Nat→Nat}(N:zw w v φ):∀e,aH v e→∃d,aH w d∧(φ d.1,φ d.2)=e:=λe h=>by
 have l1:=fV h;rw [N.len] at l1;obtain ⟨p,hp,e1⟩:=N.sur e.1 l1;have h:e.2∈Wb.row v e.1:=h;rw [←e1] at h;obtain ⟨q,hq,e2⟩:=bN.mp ((N.mem hp).mp h);exact ⟨(p,q),hq,Prod.ext e1 e2⟩
theorem qM{w:W}(g:Good w):zr w (eS w) (λd=>(d.2,d.1)):=by
 refine ⟨λd h=>?_,λd e _ _ z=>Prod.ext (Prod.mk.inj z).2 (Prod.mk.inj z).1,λd h=>?_⟩
 ·show d.1∈row (eS w) d.2
  rw [jM,jU];exact g.sym _ _ h
 ·show (d.2,bq (row (eS w) d.2) (bq (row w d.2) d.1))=(d.2,d.1)
  rw [jM]
  have:=C1 (R:=(row w d.2).reverse) ((vI _).nodup_iff.mpr (g.nod d.2)) (p:=d.1) (by rw [jU];exact g.sym _ _ h)
  rw [Eu] at this;rw [this]
theorem xo{w:W}(g:Good w):∀e,aH (eS w) e→∃d,aH w d∧(d.2,d.1)=e:=λe h=>by
 have h:e.2∈row (eS w) e.1:=h;rw [jM,jU] at h;exact ⟨(e.2,e.1),g.sym _ _ h,rfl⟩
end Wb
namespace Bm
open PySem L2 Wb
variable {P:Program} {w:World} {mg:Str→Option Value} {base:Heap} {Z:DC} (T:Txt Z mg)
theorem RF{i j:Int}{P:D→Prop}{ρ:DN}(h:P (.bl (decide (i=j)))):dC (.int j) ρ (λb=>JP (.int i) b P):=zM h
theorem Bx{α:Type}(l:List α)(k:Nat)(h:k≤l.length):cutD l (some (k:Int)) none=l.drop k:=by
 unfold cutD
 have e1:HT.bx l.length 0 (some (k:Int))=k:=by
  simp only [HT.bx]
  split<;>omega
 have e2:HT.bx l.length l.length none=l.length:=rfl;rw [e1,e2];exact nV (by simp)
theorem Jd{w:W}{p:Nat}(h:p<w.length):gf (w.map aD) (p:Int)=some (aD (row w p)):=jC (vm h)
theorem pN{ns:List Nat}{p:Nat}(h:p<ns.length):gf (ns.map ay) (p:Int)=some (ay (ns.getD p 0)):=jC (by rw [dq,dJ,cC h];rfl)
theorem EX{g:eC}{tb:dD}{E:gP}{n:Nat}{ρ:DN}(I:Nat→DN→Prop)(h0:I 0 ρ)(hs:∀(j:Nat)(ρ:DN),j<n→I j ρ→∀A:DN→Prop,(∀ρ,I (j+1) ρ→A ρ)→g (ay j) ρ λbo=>tb {nx:=A,ct:=A,bk:=E.nx,rt:=E.rt} bo)
  (he:∀ρ,I n ρ→E.nx ρ):nH g tb E (fo 0 n) ρ:=GZ I h0 (λj ρ hj h A hA=>by
 have:=hs j ρ hj h A hA
 unfold ay at this;rw [Int.zero_add];exact this) he
theorem Fq(r:List Nat)(i x:Nat):ins (r.map ay) i (ay x)=(ins r i x).map ay:=by
 unfold ins;simp [si,vK]
theorem yP{x:Nat}:∀(ns:List Nat)(m:Nat),m<ns.idxOf x→ns[m]? ≠some x
 | [],m,h=>by simp at h
 |a::ns,m,h=>by
  rw [List.idxOf_cons] at h
  by_cases e:(a==x)=true
  ·rw [e] at h;simp at h
  ·rw [qj.mpr e] at h
   cases m with
   |zero=>intro z;simp at z;exact e (by simp [z])
   |succ m=>rw [qg];exact yP ns m (by simpa using h)
theorem B6{ns:List Nat}{x:Nat}{P:D→Prop}(h:x∈ns)(q:P (ay (ns.idxOf x))):gS (ay x)=true∧(ns.map ay).all gS=true∧∃(j:Nat)(z:D),(ns.map ay)[j]? =some z∧i9 z (ay x)=true∧(∀(m:Nat) z,m<j→(ns.map ay)[m]? =some z→i9 z (ay x)=false)∧P (.int (j:Nat)):=by
 have hl:=rZ.mpr h;have e:ns[ns.idxOf x]? =some x:=by rw [cC hl];exact congrArg some (xS hl)
 refine ⟨rfl,jF _,ns.idxOf x,ay x,by rw [dq,e];rfl,by simp [i9,ay],λm z hm hz=>?_,q⟩
 obtain ⟨y,hy,rfl⟩:=eQ hz
 have:y≠x:=by
  rintro rfl;exact yP _ _ hm hy
 have:¬((y:Int)=(x:Int)):=by omega
 simpa [i9,ay] using this
theorem j6{ns:List Nat}{x:Nat}(h:x∈ns):(ns.map ay)[ns.idxOf x]? =some (ay x)∧i9 (ay x) (ay x)=true∧∀(m:Nat) z,m<ns.idxOf x→(ns.map ay)[m]? =some z→i9 z (ay x)=false:=by
 have:=B6 (P:=λd=>d=ay (ns.idxOf x)) h rfl
 obtain ⟨_,_,j,z,h1,h2,h3,h4⟩:=this;have hl:=rZ.mpr h;have e:ns[ns.idxOf x]? =some x:=by rw [cC hl];exact congrArg some (xS hl)
 refine ⟨by rw [dq,e];rfl,by simp [i9,ay],λm z hm hz=>?_⟩
 obtain ⟨y,hy,rfl⟩:=eQ hz
 have:y≠x:=by
  rintro rfl;exact yP _ _ hm hy
 have:¬((y:Int)=(x:Int)):=by omega
 simpa [i9,ay] using this
theorem CK(n:Nat):fo 0 n=(List.range n).map λ(x:Nat)=>ay x:=by unfold fo ay;simp
theorem kr{α:Type}{f:α→D}{g:α→PyData}(h:∀a,(f a).py=some (g a)):∀l:List α,eU (l.map f)=some (l.map g)
 | []=>rfl
 |a::l=>by
  have:=kr h l
  rw [fY,eU,h a,this];rfl
theorem Lh(r:List Nat):(aD r).py=some (nM r):=by
 unfold aD nM;rw [D.py,kr (g:=nD) (λn=>rfl)];rfl
theorem D9(w:W):(bG w).py=some (qd w):=by
 unfold bG qd;rw [D.py,kr (g:=nM) Lh];rfl
variable {P:Program} {w:World} {mg:Str→Option Value} {base:Heap} {Z:DC} (T:Txt Z mg)
def gy(k:Nat×Nat):PyData:= .tuple [nD k.1,nD k.2]
theorem y1(k:Nat×Nat):(pairD k).py=some (gy k):=by
 unfold pairD;rw [D.py,eU,eU,eU];rfl
theorem mQ(a b:Nat×Nat):PyData.eqv (gy a) (gy b)=true↔a=b:=by
 unfold gy nD;simp [PyData.eqv,PyData.eqvAll]
 constructor
 ·rintro ⟨h1,h2⟩;exact Prod.ext (by omega) (by omega)
 ·rintro rfl;exact ⟨rfl,rfl⟩
def zz(d:Nat×Nat):Int×Int:=(d.1,d.2)
theorem LQ{a b:Nat×Nat}(h:zz a=zz b):a=b:=Prod.ext (by have:=(Prod.mk.inj h).1;omega) (by have:=(Prod.mk.inj h).2;omega)
theorem Ew{d:Nat×Nat}{l:List (Nat×Nat)}:zz d∈l.map zz↔d∈l:=by
 rw [bN];exact ⟨λ⟨a,ha,e⟩=>by rw [←LQ e];exact ha,λh=>⟨d,h,rfl⟩⟩
def LA:eF:=λds P=>∃(w:W),ds= [.gO w]∧Good w∧w.length≤14∧∀ts:List (Nat×Nat),ts.Perm (ic (row w) w.length)→ts.Pairwise lexLe→P (.lst (ts.map pairD))
theorem MC{g:eC}{fZ:jr}{g1:eC}{dj:dM}{te:aT}{α β γ:Type}(I:DN→Prop)(J:α→DN→Prop)(enc:α→D)(f:α→List β)(DR:β→D)(p:α→β→Bool)(k:α→β→γ)(lB:γ→D)(JI:∀y ρ,J y ρ→I ρ):∀(ys:List α)(aF:DN)(acc:List γ)(P:List D→Prop),
  (∀y∈ys,∀aF,I aF→∀(Y:DN→List D→Prop),(∀bo,J y bo→Y bo ((f y).map DR))→g (enc y) aF λbo=>fZ bo (Y bo))→
  (∀y∈ys,∀b∈f y,∀aF,J y aF→∀(Y:DN→D→Prop)(Nn:DN→Prop),(∀bo,J y bo→p y b=true→Y bo (lB (k y b)))→(∀bo,J y bo→p y b=false→Nn bo)→g1 (DR b) aF λbo=>dj bo λc=>if c=true then te bo (Y bo) else Nn bo)→
  I aF→acc.length+(ys.flatMap λy=>((f y).filter (p y)).map (k y)).length≤sizeLine→(∀y∈ys,acc.length+(ys.flatMap λy=>((f y).filter (p y)).map (k y)).length+(f y).length≤sizeLine)→P ((acc++ys.flatMap λy=>((f y).filter (p y)).map (k y)).map lB)→nJ g oW fZ g1 dj te (ys.map enc) aF (acc.map lB) P
 | [],aF,acc,P,_,_,hI,_,_,h=>by
  show P (acc.map lB);simpa using h
 |y::ys,aF,acc,P,h1,h2,hI,hz,hy,h=>by
  have Zp:=hy y (bY ..);rw [xV,bV] at hz Zp;refine h1 y (bY ..) aF hI (λbo es=>lcW g1 dj te es bo (acc.map lB) λeE tH=>nJ g oW fZ g1 dj te (ys.map enc) eE tH P) λbo Yj=>?_;refine pH (J y) DR (p y) (λb=>lB (k y b)) (f y) bo (acc.map lB) _ (λb hb eE Oc Y Nn hY hN=>?_) Yj (by rw [aJ];omega) λeE Oc=>?_
  ·exact h2 y (bY ..) b hb eE Oc Y Nn hY hN
  ·have e:acc.map lB++((f y).filter (p y)).map (λb=>lB (k y b))=(acc++((f y).filter (p y)).map (k y)).map lB:=by rw [dB,bL];rfl
   rw [e];refine MC I J enc f DR p k lB JI ys eE (acc++((f y).filter (p y)).map (k y)) P (λz hz=>h1 z (cu _ hz)) (λz hz=>h2 z (cu _ hz)) (JI y eE Oc) (by rw [bV];omega) (λz hz=>?_) ?_
   ·have:=hy z (cu _ hz)
    rw [xV,bV] at this;rw [bV];omega
   ·rw [xV] at h
    rw [vH];exact h
theorem kn:FnOk P w Z.K mg base bQ 1 T.m_ties.f T.m_ties.fd ["self"] (aZ Z LA):=by
 have nd:=p5.nd;refine bZ T.m_ties.F p5 [0] (by decide) (λds R h=>by obtain ⟨_,rfl,_⟩:=h;rfl) (λbp A outer s H E ds R hr h=>?_)
 have hu:=hr.units;refine ⟨_,(aA (bE (cm wz rfl T.B.sorted iA (af (JU (NC:= ["p","row","q"]) (src:= [none,none,none]) rfl (vS (ao jf)) trivial (iF rfl T.B.enumerate (af (t5 T.W (U 0)) au)) (λ_ _ _=>(yo 2 rfl (ie (cy 0 (show (["p","row","q"]:List Str).Nodup from by decide+kernel)) (ie (cy 1 (show (["p","row","q"]:List Str).Nodup from by decide+kernel)) t6)))) (λ_ _ _=>eL) (λ_ _ _=>(cz (U 1))) (λ_ _ _=>(cy 2 (show (["p","row","q"]:List Str).Nodup from by decide+kernel))) (λ_ _ _=>(GV (cH Iu (U 0) (U 2) (bF _)))) (λ_ _ _=>(fK (af (U 0) (af (U 2) au))))) au)))),?_⟩
 obtain ⟨w',rfl,g,cF,q⟩:=h
 have ee:gn (w'.map aD)=(List.range w'.length).map λ(j:Nat)=>D.tup [.int (j:Int),aD (row w' j)]:=by
  refine qi λj=>?_;rw [dq]
  by_cases lt:j<w'.length
  ·rw [se lt]
   cases e:(gn (w'.map aD))[j]? with
   |none=>
    have:=List.getElem?_eq_none_iff.mp e
    rw [ua,aJ] at this;omega
   |some d=>rw [(Ba e).2];rfl
  ·rw [fG (by rw [ua,aJ];omega),fG (by rw [mJ];omega)];rfl
 have tb:((List.range w'.length).flatMap λp=>((row w' p).filter λq=>decide (p<q)).map λq=>(p,q))=ic (row w') w'.length:=rfl
 have fl:∀n,n≤w'.length→(ic (row w') n).length≤n*14:=λn=>by
  induction n with
  |zero=>intro _;exact aU _
  |succ n ih=>
   intro h
   have:=ih (by omega)
   have h2:=fm g n;have h3:=List.length_filter_le (λq=>decide (n<q)) (row w' n);unfold ic at this ⊢;rw [List.range_succ,List.flatMap_append,bV];simp only [xV,List.flatMap_nil,jV,aJ];omega
 have fl0:=fl w'.length (aU _);refine ⟨_,rfl,w',rfl,?_⟩;refine (?_:nJ _ _ _ _ _ _ (gn (w'.map aD)) _ _ _);rw [ee];refine MC (λρ=>∃o0 o1 o2,ρ= [o0,o1,o2]) (λp ρ=>∃o2,ρ= [some (ay p),some (aD (row w' p)),o2]) _ (λp=>row w' p) ay (λp q=>decide (p<q)) (λp q=>(p,q)) pairD (λy ρ ⟨o2,e⟩=>⟨_,_,_,e⟩) (List.range w'.length) _ [] _ (λp hp aF hI Y hY=>?_) (λp hp b hb aF hI Y Nn hY hN=>?_) ⟨none,none,none,rfl⟩ ?_ (λp hp=>?_) ?_
 ·obtain ⟨o0,o1,o2,rfl⟩:=hI
  exact ⟨rfl,rfl,_,rfl,hY _ ⟨_,rfl⟩⟩
 ·obtain ⟨o2,rfl⟩:=hI
  refine ⟨_,rfl,_,rfl,_,rfl,?_⟩;refine (?_:if decide ((p:Int)<(b:Int))=true then _ else _);rw [show decide ((p:Int)<(b:Int))=decide (p<b) from decide_eq_decide.mpr (by omega)]
  exact pD (λe=>⟨_,rfl,_,rfl,by show 2≤sizeLine;decide,hY _ ⟨_,rfl⟩ e⟩) (λe=>hN _ ⟨_,rfl⟩ e)
 ·rw [tb,vJ,vL];exact small (by omega)
 ·have:=fm g p
  rw [tb,vJ,vL];exact small (by omega)
 ·rw [tb,vA]
  exact ⟨_,rfl,by omega,q⟩
def F3:eF:=λds P=>∃(w:W)(p q:Nat),ds= [.gO w,ay p,ay q]∧Good w∧q∈row w p∧P (ay (bq (row w p) q))
theorem lS:FnOk P w Z.K mg base bQ 1 T.m_behind.f T.m_behind.fd ["self","p","q"] (aZ Z F3):=by
 have nd:=mn.nd;refine bZ T.m_behind.F mn [0,0,0,0] (by decide) (λds R h=>by obtain ⟨_,_,_,rfl,_⟩:=h;rfl) (λbp A outer s H E ds R hr h=>?_)
 have hu:=hr.units
 refine ⟨_,(ax (dE false 3 nd (lq (t5 T.W (U 0)) (U 1)))
   (aA (bE (lq (U 3) (js yU (js kj (EK (U 3) (U 2)) cG) (cm i6 rfl T.B.len iY (af (U 3) au))))))),?_⟩
 obtain ⟨w',p,q',rfl,g,hq,q⟩:=h;have hp:=fV hq;have rl:=fm g p;have lr:((row w' p).map ay).length=(row w' p).length:=aJ _;have pos:0<(row w' p).length:=vF hq;have e0:(0:Int)<(((row w' p).map ay).length:Int):=by rw [lr];omega
 refine ⟨_,rfl,w',rfl,_,rfl,_,Jd hp,trivial,?_⟩;refine ⟨_,rfl,_,rfl,_,rfl,_,rfl,rfl,jF _,_,_,(j6 hq).1,(j6 hq).2.1,(j6 hq).2.2,?_⟩;refine ⟨_,rfl,e0,?_⟩;have em:(((row w' p).idxOf q':Nat):Int)+1=(((row w' p).idxOf q'+1:Nat):Int):=by omega
 have et:((((row w' p).idxOf q':Nat):Int)+1)%(((row w' p).map ay).length:Int)=((((row w' p).idxOf q'+1)%(row w' p).length:Nat):Int):=by rw [lr,em,Int.natCast_emod]
 refine ⟨ay (bq (row w' p) q'),?_,q⟩;show gf ((row w' p).map ay) ((λi j=>i%j) _ _)=_;dsimp only;rw [et];exact pN (Nat.mod_lt _ pos)
theorem EH{a b:Nat×Nat}{P:D→Prop}(h:P (.bl (!decide (a=b)))):zN (pairD a) (pairD b) P:=by
 refine ⟨_,_,y1 a,y1 b,by unfold gy nD;simp [PyData.depth,PyData.depthAll],?_⟩
 have:PyData.eqv (gy a) (gy b)=decide (a=b):=by
  by_cases e:a=b
  ·rw [decide_eq_true e];exact (mQ a b).mpr e
  ·rw [decide_eq_false e]
   apply qj.mpr;exact λz=>e ((mQ a b).mp z)
 rw [if_pos rfl,this];exact h
def u5:eF:=λds P=>∃(w:W)(d:Nat×Nat),ds= [.gO w,pairD d]∧Good w∧w.length≤14∧aH w d∧∀r,ft w d r→P (.lst (r.map pairD))
theorem uM:FnOk P w Z.K mg base bQ 2 T.d_round_from.f T.d_round_from.fd ["web","side"] (aZ Z u5):=by
 have nd:=mv.nd;refine bZ T.d_round_from.F mv [0,0,1,0,0] (by decide) (λds R h=>by obtain ⟨_,_,rfl,_⟩:=h;rfl) (λbp A outer s H E ds R hr h=>?_)
 have hu:=hr.units
 refine ⟨_,(ax (o9 2 nd (sR (af (U 1) au)))
   (ax (DL (U 1) (i8 2 rfl (bC (ba 3 nd) (bC (ba 4 nd) fA))))
   (ax (DM 3 4 rfl nd (af (U 4) (af (zP T.W (U 0) T.m_behind.m (lS T) (hr.mono (by decide)) T.m_behind.b (af (U 4) (af (U 3) au))) au)))
   (ax (wG PassesOwn.never (cH (qN hu) (fK (af (U 3) (af (U 4) au))) (U 1) (bF _)) (ax (DK false 2 (fK (af (U 3) (af (U 4) au))))
   (aA (DM 3 4 rfl nd (af (U 4) (af (zP T.W (U 0) T.m_behind.m (lS T) (hr.mono (by decide)) T.m_behind.b (af (U 4) (af (U 3) au))) au))))))
   (aA (bE (U 2))))))),?_⟩
 obtain ⟨w',d,rfl,g,cF,hd,q⟩:=h;have c1:=iD g;have c2:w'.length*w'.length≤14*14:=vD cF cF;refine ⟨_,rfl,by show 1≤sizeLine;decide,?_⟩
 refine ⟨_,rfl,rfl,rfl,?_⟩;refine ⟨_,rfl,_,rfl,w',rfl,_,rfl,_,rfl,w',d.2,d.1,rfl,g,g.sym _ _ hd,_,_,rfl,?_⟩;refine vn (λm ρ=>∃k,0<k∧m+k=(aG w').length+1∧(∀j,0<j→j<k→aV w' j d≠d)∧ρ= [some (.gO w'),some (pairD d),some (.lst ((walk w' d k).map pairD)),some (ay (aV w' k d).1),some (ay (aV w' k d).2)]) (aG w').length ⟨1,by omega,rfl,λj h1 h2=>by omega,rfl⟩ ?_
 rintro m _ ⟨k,k0,hm,hk,rfl⟩;have YC:=bK g hd k;refine ⟨_,rfl,_,rfl,by show 2≤sizeLine;decide,_,rfl,?_⟩
 refine (?_:zN (pairD (aV w' k d)) (pairD d) _);refine EH ⟨_,rfl,pD (λe=>?_) (λe=>?_)⟩
 ·have ne:aV w' k d≠d:=by simpa using e
  have lt:k<(aG w').length:=by
   have:=vi g hd (k:=k+1) λj h1 h2=>by
    by_cases c:j=k
    ·subst c;exact ne
    ·exact hk j h1 (by omega)
   omega
  refine ⟨_,rfl,_,rfl,_,rfl,by show 2≤sizeLine;decide,trivial,bB (by rw [aJ,dY];omega),?_⟩
  refine ⟨_,rfl,_,rfl,w',rfl,_,rfl,_,rfl,w',(aV w' k d).2,(aV w' k d).1,rfl,g,g.sym _ _ YC,_,_,rfl,?_⟩;refine ⟨m-1,by omega,k+1,by omega,by omega,λj h1 h2=>?_,?_⟩
  ·by_cases c:j=k
   ·subst c;exact ne
   ·exact hk j h1 (by omega)
  ·rw [vk,dB];rfl
 ·have e:aV w' k d=d:=by simpa using e
  exact ⟨_,rfl,q _ ⟨k,k0,e,hk,rfl⟩⟩
def sW(rs:List (List (Nat×Nat))):D:= .lst ((rs.map λr=>r.map (·.1)).map aD)
def A2:eF:=λds P=>∃(w:W),ds= [.gO w]∧Good w∧1≤w.length∧w.length≤14∧(w.length=1→P (.lst [aD [0]]))∧(2≤w.length→∀rs,bw w rs→ju w=bH rs→P (.lst ((ju w).map aD)))
theorem Fp{l:List (Nat×Nat)}{d:Nat×Nat}(h:d∉l):Al (l.map zz) (zz d)=(l++ [d]).map zz:=by
 unfold Al;rw [if_neg (λz=>h (Ew.mp z)),dB];rfl
theorem iK:FnOk P w Z.K mg base bQ 3 T.d_lands.f T.d_lands.fd ["web"] (iI Z 2 A2):=by
 have nd:=xG.nd;refine wO 2 T.d_lands.F xG [0,98,2,0,0,0] (by decide) (λds R h=>by obtain ⟨_,rfl,_⟩:=h;rfl) (λbp A outer s H E ds R hr h=>?_)
 have hu:=hr.units
 refine ⟨_,(ax (eJ (cH (uI hu) (jD T.W (U 0) T.m_many.m (pP T) (hr.mono (by decide)) T.m_many.b) cG (bF _)) (aA (GU (JY (sR (af cG au))))) bT)
   (ax (ES 1 nd rfl T.x_set)
   (ax (o9 2 nd (GN 1))
   (ax (fL rfl PassesOwn.never (cz (cm wz rfl T.B.sorted iA (af (js kj (jD T.W (U 0) T.m_ties.m (kn T) (hr.mono (by decide)) T.m_ties.b) (ym (NC:= ["a","b"]) (src:= [none,none]) rfl (vS (ao mm)) trivial (cz (jD T.W (U 0) T.m_ties.m (kn T) (hr.mono (by decide)) T.m_ties.b)) (λ_ _ _=>(yo 2 rfl (ie (cy 0 (show (["a","b"]:List Str).Nodup from by decide+kernel)) (ie (cy 1 (show (["a","b"]:List Str).Nodup from by decide+kernel)) t6)))) (λ_ _ _=>eL) (λ_ _ _=>(fK (af (U 1) (af (U 0) au)))))) au))) (ba 3 nd) (aA (eJ (cH (Ct hu) (U 3) (U 1) (by with_unfolding_all rfl)) (ax (dE false 4 nd (aK T.d_round_from (uM T) hr (af (U 0) (af (U 3) au))))
   (ax (fL rfl PassesOwn.never (cz (U 4)) (ba 5 nd) (aA (GQ false 1 hu (U 5))))
   (aA (EO 2 (NS (NC:= ["p","q"]) (src:= [none,none]) rfl (vS (ao mm)) trivial (cz (U 4)) (λ_ _ _=>(yo 2 rfl (ie (cy 0 (show (["p","q"]:List Str).Nodup from by decide+kernel)) (ie (cy 1 (show (["p","q"]:List Str).Nodup from by decide+kernel)) t6)))) (λ_ _ _=>eL) (λ_ _ _=>(U 0))))))) bT)))
   (aA (BD 2 hu rfl T.B.sorted)))))),?_⟩
 obtain ⟨w',rfl,g,h1,cF,q1,q2⟩:=h;have c1:=iD g;have c2:w'.length*w'.length≤14*14:=vD cF cF;have lw:(w'.map aD).length=w'.length:=aJ _;refine ⟨_,rfl,w',rfl,w',rfl,?_⟩;refine RF ⟨_,rfl,pD (λe=>?_) (λe=>?_)⟩
 ·have e:w'.length=1:=by have:=of_decide_eq_true e;omega
  exact ⟨by show 1≤sizeLine;decide,q1 e⟩
 have n2:2≤w'.length:=by have:=of_decide_eq_false e;omega
 refine ⟨by show 0≤sizeLine;decide,?_⟩
 refine ⟨_,rfl,w',rfl,w',rfl,g,cF,λts pm u6=>?_⟩;have tl:=C7 g;rw [←tY] at tl;have tl2:=pm.length_eq;refine ⟨_,rfl,w',rfl,w',rfl,g,cF,λA6 La M4=>?_⟩;have e2:A6=ts:=List.Perm.eq_of_pairwise (λ_ _ _ _=>mV) M4 u6 (La.trans pm.symm);subst e2;refine pH (λρ=>∃o0 o1,ρ= [o0,o1]) pairD (λ_=>true) (λt=>pairD (t.2,t.1)) A6 _ [] _ (λt ht aF hI Y Nn hY hN=>?_) ⟨none,none,rfl⟩ (by rw [vJ,vL];exact small (by omega)) λaF hI=>?_
 ·obtain ⟨o0,o1,rfl⟩:=hI
  exact ⟨rfl,rfl,Na ⟨_,rfl,_,rfl,by show 2≤sizeLine;decide,hY _ ⟨_,_,rfl⟩ rfl⟩⟩
 have pd:=tP g pm;have pl:=pd.length_eq;rw [bV,aJ] at pl;have ef:A6.filter (λ_=>true)=A6:=by simp
 rw [vA,ef];refine ⟨by rw [aJ,aJ];exact small (by omega),?_⟩
 have ej:(.lst (A6.map pairD++A6.map λt=>pairD (t.2,t.1)):D)= .lst ((A6++A6.map λt=>(t.2,t.1)).map pairD):=by rw [dB,bL];rfl
 dsimp only [rp];rw [ej];refine ⟨_,rfl,by rw [bV,aJ];omega,λds Lc VZ=>?_⟩
 have Lc:=Lc.trans pd;have all:∀e,aH w' e→e∈ds:=λe h=>Lc.mem_iff.mpr (aX.mpr h);have dart:∀e∈ds,aH w' e:=λe h=>aX.mp (Lc.mem_iff.mp h);clear pm La u6 M4 ej pd ef;refine dO (λi ρ=>∃(rs:List (List (Nat×Nat)))(o3 o4 o5:Option D),ρ= [some (.gO w'),some (.x (.pT (fu w) (rs.flatten.map zz))),some (sW rs),o3,o4,o5]∧Wk w' ds i rs) ⟨[],none,none,none,rfl,Wk.zero w' ds⟩ ?_ ?_
 ·rintro i d _ hd ⟨rs,o3,o4,o5,rfl,hw⟩ A hA
  obtain ⟨e,he,rfl⟩:=eQ hd;have de:=dart e (cS he);refine ⟨_,rfl,_,rfl,zz e,rs.flatten.map zz,rfl,rfl,_,rfl,?_⟩;refine (?_:if (if true=true then !decide (zz e∈rs.flatten.map zz) else _)=true then _ else _);rw [if_pos rfl,show decide (zz e∈rs.flatten.map zz)=decide (e∈rs.flatten) from decide_eq_decide.mpr Ew]
  have sub:∀x∈rs.flatten,x∈aG w':=λx hx=>by
   obtain ⟨r,hr,Zo⟩:=xZ.mp hx;obtain ⟨d,R,dd,_⟩:=hw.rnd r hr;exact aX.mpr (R.aG g dd x Zo)
  have fl:=aS hw.nod sub;refine pD (λc=>?_) (λc=>?_)
  ·have c:e∉rs.flatten:=by simpa using c
   refine ⟨_,rfl,_,rfl,w',e,rfl,g,cF,de,λr R=>⟨trivial,?_⟩⟩;have Tc:=hw.take g all dart VZ he c R;have rd:∀x∈r,x∈aG w':=λx hx=>aX.mpr (R.aG g de x hx);have rl:=aS (R.nodup g de) rd;have Pb:(rs.flatten++r).Nodup:=by have:=Tc.nod;rw [zp] at this;simpa using this
   have X1:(rs.flatten++r).length≤(aG w').length:=aS Pb λx hx=>(cE.mp hx).elim (sub x) (rd x);rw [bV] at X1;refine ⟨_,rfl,?_⟩;refine dO (λk ρ=>∃o5,ρ= [some (.gO w'),some (.x (.pT (fu w) ((rs.flatten++r.take k).map zz))),some (sW rs),some (pairD e),some (.lst (r.map pairD)),o5]) ⟨o5,by rw [vC,jV];rfl⟩ ?_ ?_
   ·rintro k d _ hd ⟨o5,rfl⟩ A hA
    obtain ⟨x,hx,rfl⟩:=eQ hd;have hk:=(b9.mp hx).1;have tk:r.take (k+1)=r.take k++ [x]:=by rw [List.take_succ,hx];rfl
    have nx:x∉rs.flatten++r.take k:=λz=>by
     have sp:rs.flatten++r=(rs.flatten++r.take k)++(x::r.drop (k+1)):=by
      rw [vH,←b9.mp hx|>.2,List.getElem_cons_drop,jl]
     rw [sp] at Pb;exact (mK.mp Pb).2.2 x z x (bY ..) rfl
    refine ⟨_,rfl,_,rfl,zz x,rfl,by rw [aJ,bV,jn];omega,?_⟩
    rw [Fp nx,vH,←tk];exact hA _ ⟨_,rfl⟩
   ·rintro _ ⟨o5,rfl⟩
    rw [aJ,List.take_length]
    have dl:rs.length≤300:=by
     have h:∀cX:List (List (Nat×Nat)),(∀r∈cX,r≠ [])→cX.length≤cX.flatten.length:=λcX=>by
      induction cX with
      |nil=>intro _;exact aU _
      |cons a l ih=>
       intro h;have h1:=xR.mpr (h a (bY ..));have h2:=ih λr hr=>h r (cu _ hr);rw [sg,bV,cL];omega
     have:=h rs λr hr z=>by
      obtain ⟨d,R,_,_⟩:=hw.rnd r hr
      have:=R.first
      rw [z] at this;cases this
     omega
    refine ⟨_,rfl,_,rfl,?_⟩;refine pH (λρ=>∃o0 o1,ρ= [o0,o1]) pairD (λ_=>true) (λt=>ay t.1) r _ [] _ (λt ht aF hI Y Nn hY hN=>?_) ⟨none,none,rfl⟩ (by rw [vJ,vL];exact small (by omega)) λaF hI=>?_
    ·obtain ⟨o0,o1,rfl⟩:=hI
     exact ⟨rfl,rfl,Na ⟨_,rfl,hY _ ⟨_,_,rfl⟩ rfl⟩⟩
    rw [vA,show r.filter (λ_=>true)=r by simp]
    refine ⟨bB (by rw [aJ,aJ];omega),?_⟩
    refine hA _ ⟨rs++ [r],some (pairD e),some (.lst (r.map pairD)),o5,?_,Tc⟩
    have e1:sW (rs++ [r])= .lst ((rs.map λr=>r.map (·.1)).map aD++ [.lst (r.map λt=>ay t.1)]):=by
     unfold sW aD;rw [dB,dB];simp only [fY,List.map_nil,bL];rfl
    rw [e1,zp,show [r].flatten=r by simp];rfl
  ·have c:e∈rs.flatten:=by simpa using c
   exact hA _ ⟨rs,_,_,_,rfl,hw.skip he c⟩
 ·rintro _ ⟨rs,o3,o4,o5,rfl,hw⟩
  have hw:Wk w' ds ds.length rs:=by rw [aJ] at hw;exact hw
  have fin:=hw.fin g all;have R:bw w' rs:=⟨hw.rnd,fin⟩
  have dl:rs.length≤300:=by
   have h:∀cX:List (List (Nat×Nat)),(∀r∈cX,r≠ [])→cX.length≤cX.flatten.length:=λcX=>by
    induction cX with
    |nil=>intro _;exact aU _
    |cons a l ih=>
     intro h;have h1:=xR.mpr (h a (bY ..));have h2:=ih λr hr=>h r (cu _ hr);rw [sg,bV,cL];omega
   have:=h rs λr hr z=>by
    obtain ⟨d,R,_,_⟩:=hw.rnd r hr
    have:=R.first
    rw [z] at this;cases this
   have:=fin.length_eq
   omega
  refine ⟨rs.map (λr=>r.map (·.1)),rfl,by rw [aJ];omega,λM pm u6=>?_⟩
  obtain ⟨cX,p',rfl⟩:=L2.fU (λr:List (Nat×Nat)=>r.map (·.1)) M rs pm;have R':=R.pO p';have e:=Fs g R' u6
  have:=q2 n2 cX R' e
  rw [e] at this;exact this
end Bm
namespace jX
open PySem L2
def top(i:Nat):Stmt:=PySem.Challenge.pw_mapdye_k15_whole_renamed_and_mirrored.main.body.getD i (.Pass ⟨0,0,0,0⟩)
abbrev uV:Stmt:=top 25
abbrev td:Stmt:=top 26
abbrev uW:Stmt:=top 27
abbrev qW:Stmt:=top 28
def Lv(K:PySem.W.Frag):Sp:=λvs H Q _=>∃(a:Addr)(ns:List Int)(k:Int),vs= [.ref a, .int k]∧aC K H a (ns.map V.int)∧ns.length≤63∧0≤k∧k≤100∧∀(v:Int)(H':Hp),az H H'→Q (.int v) H'
section
variable {P:Program} {w:World} {K:PySem.W.Frag} {mg:Str→Option Value} {base:Heap}
theorem Lr:aI ["_law_script","_law_k"] ["_law_script","_law_k"] (ao uV):=⟨rfl,rfl,rfl,by decide+kernel,rfl,by decide+kernel,by decide+kernel⟩
theorem uK(D:bM K mg "_law_cell" uV ["_law_script","_law_k"]):FnOk P w K mg base bQ 1 D.f D.fd ["_law_script","_law_k"] (Lv K):=by
 refine D.F.ok Lr (λvs H Q E h=>?_) (λbp A outer s H vs Q E hr h=>?_)
 ·obtain ⟨a,ns,k,rfl,_⟩:=h
  rfl
 obtain ⟨a,ns,k,rfl,hS,j4,h0,h1,q⟩:=h;refine ⟨_,aY (e7 (cg bu (bU yX (m7 p9 (pv 0) (lW (pv 1)) (lW (bU fR (pv 1) aL))) (dH (aa aL ar))) aL (λ_ _=>rfl))),?_⟩;refine ⟨_,rfl,_,rfl,k,rfl,_,rfl,_,_,rfl,rfl,_,rfl,a,_,rfl,hS,λp hp=>?_⟩;refine ⟨by show 1≤sizeLine;decide,λp2 Kh=>?_⟩
 have ne:p≠p2:=ah (ab (H:=H) (a:=p)) Kh;have hlen:=j1 (ns.map V.int) (some k) (some (k+1));rw [aJ] at hlen;refine ⟨p,p2,_,_,rfl,rfl,by rw [ae ne];exact ab,ab,small (by show _+1≤1000;omega),λp3 Y9=>?_⟩
 have sm:az H (upd (upd (upd H p (.lst (f6 (ns.map V.int) (some k) (some (k+1))))) p2 (.lst [.int 0])) p3 (.lst (f6 (ns.map V.int) (some k) (some (k+1))++ [.int 0]))):=
  (av hp _).trans ((av Kh _).trans (av Y9 _))
 have hint:∃v:Int,gf (f6 (ns.map V.int) (some k) (some (k+1))++ [V.int 0]) 0=some (.int v):=by
  have:∀x∈f6 (ns.map V.int) (some k) (some (k+1))++ [V.int 0],∃v,x=V.int v:=λx hx=>by
   rcases cE.mp hx with z|z
   ·unfold f6 at z
    obtain ⟨v,_,rfl⟩:=bN.mp (List.mem_of_mem_drop (List.mem_of_mem_take z));exact ⟨v,rfl⟩
   ·exact ⟨0,by simpa using z⟩
  cases e:f6 (ns.map V.int) (some k) (some (k+1))++ [V.int 0] with
  |nil=>simp at e
  |cons x r=>
   obtain ⟨v,rfl⟩:=this x (by rw [e];exact bY)
   exact ⟨v,bS (j:=0) rfl⟩
 obtain ⟨v,hv⟩:=hint;exact ⟨p3,_,0, .int v,rfl,rfl,aC.of ab,hv,q v _ sm⟩
end
theorem boot_max:bootBuiltins "max"=some (.builtin "max"):=by decide+kernel
theorem boot_min:bootBuiltins "min"=some (.builtin "min"):=by decide+kernel
def Jq(K:PySem.W.Frag):Sp:=λvs H Q _=>∃(a:Addr)(ns:List Int)(k:Int),vs= [.ref a, .int k]∧aC K H a (ns.map V.int)∧ns.length≤63∧∀(v:Int)(H':Hp),az H H'→Q (.int v) H'
structure vN (mg:Str→Option Value):Prop where
 len:mg "len"=none
 range:mg "range"=none
 max:mg "max"=none
 min:mg "min"=none
 enumerate:mg "enumerate"=none
 zip:mg "zip"=none
 sorted:mg "sorted"=none
 all:mg "all"=none
 isinstance:mg "isinstance"=none
 int:mg "int"=none
 bool:mg "bool"=none
 list:mg "list"=none
 tuple:mg "tuple"=none
section
variable {P:Program} {w:World} {K:PySem.W.Frag} {mg:Str→Option Value} {base:Heap}
theorem AW:aI ["_law_script","_law_turn","_law_number","_law_k","_law_part"] ["_law_script","_law_turn"] (ao td):=⟨rfl,rfl,rfl,by decide+kernel,rfl,by decide+kernel,by decide+kernel⟩
theorem FH(B:vN mg)(C:bM K mg "_law_cell" uV ["_law_script","_law_k"])(D:bM K mg "_law_mixed" td ["_law_script","_law_turn"]):FnOk P w K mg base bQ 2 D.f D.fd ["_law_script","_law_turn"] (Jq K):=by
 refine D.F.ok AW (λvs H Q E h=>?_) (λbp A outer s H vs Q E hr h=>?_)
 ·obtain ⟨a,ns,k,rfl,_⟩:=h
  rfl
 obtain ⟨a,ns,k,rfl,hS,j4,q⟩:=h;have nd:=AW.nd
 refine ⟨_,aB (bJ (i:=2) nd rfl (Or.inl rfl) aL)
  (aB (h8 PassesOwn.never rfl (iL rfl B.range (aa (cp (Bt rfl) rfl B.max boot_max (aa aL (aa (cp (Bv rfl) rfl B.min boot_min (aa aL (aa (cp bP rfl B.len PySem.boot_len (aa (pv 0) ar)) ar))) ar))) ar)) (bI (i:=3) nd rfl (Or.inl rfl))
   (aB (bJ (i:=4) nd rfl (Or.inl rfl) (bU mZ (bU m6 (bU fR (bU fR (bU fR (bU mZ (aP (uK C) hr rfl C.m C.F.kp C.b .nil bA (aa (pv 0) (aa (pv 3) ar))) aL) (bU m6 aL (pv 3))) (bU m6 aL (pv 1))) aL) aL) aL))
    (aY (bJ (i:=2) nd rfl (Or.inl rfl) (bU fR (bU m6 (pv 2) aL) (bU mZ (bU m6 (pv 4) (pv 4)) aL))))))
  (aY (e7 (pv 2)))),?_⟩
 refine ⟨_,rfl,a,_,rfl, .inl hS,_,_,rfl,_,_,rfl,_,rfl,?_⟩;have hl:(ns.map V.int).length=ns.length:=aJ _;rw [hl]
 have hb:(if (if (ns.length:Int)<63 then (ns.length:Int) else 63)>12 then (if (ns.length:Int)<63 then (ns.length:Int) else 63) else 12)≤63∧0≤(if (if (ns.length:Int)<63 then (ns.length:Int) else 63)>12 then (if (ns.length:Int)<63 then (ns.length:Int) else 63) else (12:Int)):=by
  repeat' split
  all_goals omega
 generalize (if (if (ns.length:Int)<63 then (ns.length:Int) else 63)>12 then (if (ns.length:Int)<63 then (ns.length:Int) else 63) else (12:Int))=n at hb;refine ⟨by omega,by omega,j3 (λi σ H'=>∃num o3 o4,σ= [some (.ref a),some (.int k),some (.int num),o3,o4]∧az H H') ⟨_,_,_,rfl,az.refl _⟩ (λi σ H' hi hP=>?_) (λσ H' hP=>?_)⟩
 ·obtain ⟨num,o3,o4,rfl,sm⟩:=hP
  have hz:(0:Int)+(i:Int)=(i:Int):=by omega
  refine ⟨_,rfl,_,rfl,a,ns,_,rfl,sm.seq hS,j4,by omega,by omega,λv H2 Lu=>?_⟩
  refine ⟨_,_,rfl,rfl,(by show (0:Int)<2147483647;decide),?_⟩
  refine ⟨_,rfl,_,_,rfl,rfl, .inl ⟨by decide,by decide⟩,_,_,rfl,rfl,?_⟩
  refine ⟨_,rfl,_,_,rfl,rfl, .inl ⟨by decide,by decide⟩,_,_,rfl,rfl,_,_,rfl,rfl,?_⟩
  refine ⟨_,_,rfl,rfl, .inr ⟨by decide,by decide⟩,_,_,rfl,rfl,(by show (0:Int)<2147483647;decide),?_⟩
  generalize HE:((v%2147483647+40692*(0+(i:Int))+7*k+1)*48271)%2147483647=part;have p0:0≤part:=by rw [←HE];exact Int.emod_nonneg _ (by decide)
  have p1:part<2147483647:=by rw [←HE];exact Int.emod_lt_of_pos _ (by decide)
  refine ⟨_,rfl,_,_,rfl,rfl, .inr ⟨by decide,by decide⟩,?_⟩
  refine ⟨_,rfl,_,rfl,_,_,rfl,rfl, .inl ⟨by omega,by omega⟩,_,_,rfl,rfl,(by show (0:Int)<2147483629;decide),_,_,rfl,rfl,?_⟩
  exact ⟨_,_,_,rfl,sm.trans Lu⟩
 ·obtain ⟨num,o3,o4,rfl,sm⟩:=hP
  exact ⟨_,rfl,q _ _ sm⟩
def xH(K:PySem.W.Frag):Sp:=λvs H Q _=>∃(a:Addr)(ns:List Int)(k:Int),vs= [.ref a, .int k]∧aC K H a (ns.map V.int)∧ns.length≤63∧0≤k∧k≤100∧
 ∀(r:Addr)(ds:List Int)(H':Hp),az H H'→H r=none→H' r=some (.lst (ds.map V.int))→ds≠ []→ds.length≤2→Q (.ref r) H'
theorem F0:aI ["_law_script","_law_at"] ["_law_script","_law_at"] (ao uW):=⟨rfl,rfl,rfl,by decide+kernel,rfl,by decide+kernel,by decide+kernel⟩
theorem oG(B:vN mg)(C:bM K mg "_law_cell" uV ["_law_script","_law_k"])(M:bM K mg "_law_mixed" td ["_law_script","_law_turn"])(D:bM K mg "_law_digits" uW ["_law_script","_law_at"]):FnOk P w K mg base bQ 3 D.f D.fd ["_law_script","_law_at"] (xH K):=by
 refine D.F.ok F0 (λvs H Q E h=>?_) (λbp A outer s H vs Q E hr h=>?_)
 ·obtain ⟨a,ns,k,rfl,_⟩:=h
  rfl
 obtain ⟨a,ns,k,rfl,hS,j4,h0,h1,q⟩:=h;have gC:=(uK (P:=P) (w:=w) (base:=base) C).mono (show 1≤2 by decide)
 have gM:=FH (P:=P) (w:=w) (base:=base) B C M
 refine ⟨_,aB (uR (gJ Cw (aP gC hr rfl C.m C.F.kp C.b .nil bA (aa (pv 0) (aa (pv 1) ar))) (bU K0 aL aL) (bF _))
   (aY (e7 (dH (aa (aP gM hr rfl M.m M.F.kp M.b .nil bA (aa (pv 0) (aa (pv 1) ar))) ar)))) lX)
  (aY (e7 (dH (aa (aP gC hr rfl C.m C.F.kp C.b .nil bA (aa (pv 0) (aa (pv 1) ar))) (aa (aP gM hr rfl M.m M.F.kp M.b .nil bA (aa (pv 0) (aa (pv 1) ar))) ar))))),?_⟩
 refine ⟨_,rfl,_,rfl,a,ns,k,rfl,hS,j4,h0,h1,λv H1 s1=>?_⟩;refine ⟨_,_,rfl,rfl,⟨by decide,by decide,by decide⟩,_,_,rfl,rfl,_,rfl,?_⟩
 refine rJ (λ_=>?_) (λ_=>?_)
 ·refine ⟨_,rfl,_,rfl,a,ns,k,rfl,s1.seq hS,j4,λv2 H2 s2=>?_⟩
  refine ⟨by show 1≤sizeLine;decide,λr fN=>?_⟩
  have VB:=s1.trans s2;exact q r [v2] _ (VB.trans (av fN _)) (VB.free fN) ab (by simp) (by simp)
 ·refine ⟨_,rfl,_,rfl,a,ns,k,rfl,s1.seq hS,j4,h0,h1,λv2 H2 s2=>?_⟩
  refine ⟨_,rfl,_,rfl,a,ns,k,rfl,(s1.trans s2).seq hS,j4,λv3 H3 s3=>?_⟩;refine ⟨by show 2≤sizeLine;decide,λr fN=>?_⟩
  have VC:=(s1.trans s2).trans s3;exact q r [v2,v3] _ (VC.trans (av fN _)) (VC.free fN) ab (by simp) (by simp)
def Ek:Sp:=λvs H Q _=>∃(l:Addr)(ns:List Int)(m:Int),vs= [.ref l, .int m]∧H l=some (.lst (ns.map V.int))∧ns≠ []∧ns.length≤1000∧0<m∧m<1073741824∧
 ∀(d:Int)(ds:List Int),0≤d→d<m→ds≠ []→ds.length≤ns.length→Q (.int d) (upd H l (.lst (ds.map V.int)))
theorem Ef:aI ["_law_left","_law_many","_law_digit"] ["_law_left","_law_many"] (ao qW):=⟨rfl,rfl,rfl,by decide+kernel,rfl,by decide+kernel,by decide+kernel⟩
theorem lU(B:vN mg)(D:bM K mg "_law_take" qW ["_law_left","_law_many"]):FnOk P w K mg base bQ 1 D.f D.fd ["_law_left","_law_many"] Ek:=by
 refine D.F.ok Ef (λvs H Q E h=>?_) (λbp A outer s H vs Q E hr h=>?_)
 ·obtain ⟨a,ns,k,rfl,_⟩:=h
  rfl
 obtain ⟨l,ns,m,rfl,hl,fg,hz,h0,h1,q⟩:=h;have nd:=Ef.nd
 refine ⟨_,aB (uR (PW.pt (D8 (gJ Cw (cg bu (pv 0) aL (λ_ _=>rfl)) aL (bF _)) (AQ (gJ IG (cp bP rfl B.len PySem.boot_len (aa (pv 0) ar)) aL (bF _)))))
   (aY (dh (fh PySem.F.plainAttrs_list PySem.F.slot_list_pop PySem.F.type_list_pop FC (pv 0) (aa aL ar)))) lX)
  (aB (bJ (i:=2) nd rfl (Or.inl rfl) (bU mZ (cg bu (pv 0) aL (λ_ _=>rfl)) (pv 1)))
  (aB (m9 (bU IF (cg bu (pv 0) aL (λ_ _=>rfl)) (pv 1)) (yZ (pv 0) aL set_list))
  (aY (e7 (pv 2))))),?_⟩
 have fin:∀(ms:List Int),ms≠ []→ms.length≤ns.length→∀H1,H1=H∨H1=upd H l (.lst (ms.map V.int))→H1 l=some (.lst (ms.map V.int))→
   (Jy (En (zd (rI (λ_ j=>0<j) λi j=>V.int (i%j)) (zd (Ea K) (rV 0) (tC (.int 0))) (rV 1)) (ud 2)) (Jy (En (zd (rI LS λi j=>V.int (i / j)) (zd (Ea K) (rV 0) (tC (.int 0))) (rV 1)) (Mt (rV 0) (tC (.int 0)) I0)) (M8 (rV 2))))
    {nx:=λ_ H'=>Q .aM H',rt:=Q} (start ["_law_left","_law_many","_law_digit"] [.ref l, .int m]) H1:=by
  intro ms Y2 BV H1 Yi e1
  obtain ⟨x,r,rfl⟩:∃x r,ms=x::r:=by
   cases ms with
   |nil=>exact absurd rfl Y2
   |cons x r=>exact ⟨x,r,rfl⟩
  refine ⟨_,rfl,l,_,0, .int x,rfl,rfl,aC.of e1,bS (j:=0) rfl,_,rfl,_,_,rfl,rfl,h0,?_⟩;refine ⟨_,rfl,l,_,0, .int x,rfl,rfl,aC.of e1,bS (j:=0) rfl,_,rfl,_,_,rfl,rfl,⟨h0,h1⟩,?_⟩;refine ⟨_,rfl,l,_,0,0,rfl,rfl,e1,?_,?_⟩
  ·show nA (r.length+1|>λn=>((x::r).map V.int).length) 0=some 0
   unfold nA;rw [if_pos (by decide),if_pos (by simp)]
   rfl
  ·refine ⟨_,rfl,?_⟩
   have e2:upd H1 l (.lst (((x::r).map V.int).set 0 (.int (x / m))))=upd H l (.lst (((x / m)::r).map V.int)):=by
    rcases Yi with z|z
    ·rw [z];rfl
    ·rw [z,qc];rfl
   rw [e2];exact q (x%m) ((x / m)::r) (Int.emod_nonneg _ (by omega)) (Int.emod_lt_of_pos _ h0) (by simp) (by simpa using BV)
 obtain ⟨x,r,rfl⟩:∃x r,ns=x::r:=by
  cases ns with
  |nil=>exact absurd rfl fg
  |cons x r=>exact ⟨x,r,rfl⟩
 refine ⟨_,rfl,l,_,0, .int x,rfl,rfl,aC.of hl,bS (j:=0) rfl,_,_,rfl,rfl,_,rfl,?_⟩;refine rJ (λ_=>?_) (λ_=>?_)
 ·refine ⟨_,rfl,l,_,rfl, .inl (aC.of hl),_,_,rfl,rfl,_,rfl,?_⟩
  refine rJ (λc=>?_) (λ_=>?_)
  ·have c':=of_decide_eq_true c
   have OM:r≠ []:=by
    intro z;subst z;simp at c'
   refine ⟨_,rfl, .inl ⟨rfl,_,aC.of hl⟩,l,_,0,0, .int x,rfl,rfl,hl,by decide,by decide,?_,rfl,?_⟩
   ·simp [seqIndex?]
   ·exact fin r OM (by simp) _ (.inr rfl) ab
  ·exact fin (x::r) (by simp) (aU _) _ (.inl rfl) hl
 ·exact fC (fin (x::r) (by simp) (aU _) _ (.inl rfl) hl)
end
open Wb
abbrev CP:Stmt:=top 29
def aO(r:List Nat):List V:=r.map λ(n:Nat)=>V.int (n:Int)
def Off(S:List Addr)(H H':Hp):Prop:=∀b o,b∉S→H b=some o→H' b=some o
theorem Off.trans{S:List Addr}{H H1 H2:Hp}(a:Off S H H1)(b:Off S H1 H2):Off S H H2:=λc o hc h=>b c o hc (a c o hc h)
theorem Off.of_same{S:List Addr}{H H':Hp}(h:az H H'):Off S H H':=λb o _ e=>h b o e
theorem Off.put{S:List Addr}{H:Hp}{a:Addr}{o:HO}(h:a∈S∨H a=none):Off S H (upd H a o):=λb u hb e=>by
 rw [ae (λz=>?_)]
 ·exact e
 ·rcases h with h|h
  ·rw [z] at hb;exact hb h
  ·rw [z,h] at e;cases e
structure aE (H:Hp) (T:Addr) (as:List Addr) (w:W):Prop where
 top:H T=some (.lst (as.map V.ref))
 nod:as.Nodup
 nT:T∉as
 len:as.length=w.length
 row:∀(i:Nat) a,as[i]? =some a→H a=some (.lst (aO (Wb.row w i)))
theorem aE.keep{H H':Hp}{T:Addr}{as:List Addr}{w:W}(R:aE H T as w)(h:∀b,b=T∨b∈as→H' b=H b):aE H' T as w:=
 ⟨by rw [h T (.inl rfl)];exact R.top,R.nod,R.nT,R.len,λi a e=>by rw [h a (.inr (cS e))];exact R.row i a e⟩
theorem aE.off{S:List Addr}{H H':Hp}{T:Addr}{as:List Addr}{w:W}(R:aE H T as w)(h:Off S H H')(hT:T∉S)(ha:∀a∈as,a∉S):aE H' T as w:=
 ⟨h _ _ hT R.top,R.nod,R.nT,R.len,λi a e=>h _ _ (ha a (cS e)) (R.row i a e)⟩
theorem aE.at{H:Hp}{T:Addr}{as:List Addr}{w:W}(R:aE H T as w){p:Nat}(hp:p<w.length):∃a,as[p]? =some a∧H a=some (.lst (aO (Wb.row w p))):=by
 have:p<as.length:=by rw [R.len];exact hp
 exact ⟨_,cC this,R.row p _ (cC this)⟩
theorem get_inj{α:Type}{l:List α}(h:l.Nodup){i j:Nat}{a:α}(h1:l[i]? =some a)(h2:l[j]? =some a):i=j:=by
 obtain ⟨a1,b1⟩:=b9.mp h1;obtain ⟨a2,b2⟩:=b9.mp h2;exact (List.getElem_inj h).mp (b1.trans b2.symm)
theorem aE.put{H H':Hp}{T:Addr}{as:List Addr}{w:W}(R:aE H T as w){p:Nat}{a:Addr}{r:List Nat}(ha:as[p]? =some a)(h:∀b,b=T∨b∈as→b≠a→H' b=H b)(e:H' a=some (.lst (aO r))):aE H' T as (w.set p r):=by
 have hp:p<w.length:=by rw [←R.len];exact (b9.mp ha).1
 have am:=cS ha;refine ⟨by rw [h T (.inl rfl) (λz=>R.nT (by rw [z];exact am))];exact R.top,R.nod,R.nT,by rw [R.len,gb],λi b hb=>?_⟩
 rw [gK hp]
 by_cases hi:p=i
 ·subst hi
  rw [ha] at hb;cases hb;rw [if_pos rfl];exact e
 ·rw [if_neg hi,h b (.inr (cS hb)) (λz=>hi (get_inj R.nod ha (by rw [←z];exact hb)))]
  exact R.row i b hb
theorem aE.snoc{H H':Hp}{T:Addr}{as:List Addr}{w:W}(R:aE H T as w){a:Addr}{r:List Nat}(na:a∉as)(nT:a≠T)(h:∀b,b∈as→H' b=H b)(eT:H' T=some (.lst ((as++ [a]).map V.ref)))(e:H' a=some (.lst (aO r))):aE H' T (as++ [a]) (w++ [r]):=by
 refine ⟨eT,?_,λz=>?_,by simp [R.len],λi b hb=>?_⟩
 ·rw [mK]
  exact ⟨R.nod,by simp,λx hx y hy z=>by
   have:y=a:=by simpa using hy
   rw [this] at z;rw [z] at hx;exact na hx⟩
 ·rcases cE.mp z with z|z
  ·exact R.nT z
  ·have z':T=a:=by simpa using z
   exact nT z'.symm
 ·rw [xC]
  by_cases hi:i<as.length
  ·rw [jj hi] at hb
   rw [if_neg (by rw [←R.len];omega),h b (cS hb)]
   exact R.row i b hb
  ·have fj:i=as.length:=by
    have:=(b9.mp hb).1
    simp at this;omega
   subst fj;rw [ji (aU _)] at hb;simp at hb;rw [if_pos R.len,←hb];exact e
theorem bD(r:List Nat):(aO r).length=r.length:=aJ _
theorem ng(r:List Nat)(i n:Nat):aO (ins r i n)=ins (aO r) i (.int (n:Int)):=ins_map _ _ _ _
def LB:Sp:=λvs H Q _=>∃(l:Addr)(ns:List Int)(m:Nat),vs= [.int (m:Int), .ref l]∧H l=some (.lst (ns.map V.int))∧ns≠ []∧ns.length≤2∧1≤m∧m≤14∧
 ∀(T:Addr)(as:List Addr)(w:W)(ds:List Int)(H':Hp),Off [l] H H'→H T=none→(∀a∈as,H a=none)→aE H' T as w→Good w→w.length=m→H' l=some (.lst (ds.map V.int))→ds≠ []→ds.length≤2→gk w+2=2*m→Q (.ref T) H'
section
variable {P:Program} {w:World} {K:PySem.W.Frag} {mg:Str→Option Value} {base:Heap}
theorem Eg:aI ["_law_many","_law_left","_law_turns","_law_new","_law_p"] ["_law_many","_law_left"] (ao CP):=⟨rfl,rfl,rfl,by decide+kernel,rfl,by decide+kernel,by decide+kernel⟩
theorem IB(B:vN mg)(Tk:bM K mg "_law_take" qW ["_law_left","_law_many"])(D:bM K mg "_law_tree" CP ["_law_many","_law_left"]):FnOk P w K mg base bQ 2 D.f D.fd ["_law_many","_law_left"] LB:=by
 refine D.F.ok Eg (λvs H Q E h=>?_) (λbp A outer s H vs Q E hr h=>?_)
 ·obtain ⟨a,ns,k,rfl,_⟩:=h
  rfl
 obtain ⟨l,ns,m,rfl,hl,fg,hz,h1,cF,q⟩:=h;have nd:=Eg.nd;have gT:=lU (P:=P) (w:=w) (base:=base) B Tk
 refine ⟨_,aB (bJ (i:=2) nd rfl (Or.inl rfl) (dH (aa (dH ar) ar)))
  (aB (h8 PassesOwn.never rfl (CC rfl B.range (aa aL (aa (pv 0) ar))) (bI (i:=3) nd rfl (Or.inl rfl))
   (aB (bJ (i:=4) nd rfl (Or.inl rfl) (aP gT hr rfl Tk.m Tk.F.kp Tk.b .nil bA (aa (pv 1) (aa (pv 3) ar))))
   (aB (dh (fh PySem.F.plainAttrs_list PySem.F.slot_list_insert PySem.F.type_list_insert iJ (cg bu (pv 2) (pv 4) (λ_ _=>rfl))
     (aa (aP gT hr rfl Tk.m Tk.F.kp Tk.b .nil bA (aa (pv 1) (aa (bU fR (cp bP rfl B.len PySem.boot_len (aa (cg bu (pv 2) (pv 4) (λ_ _=>rfl)) ar)) aL) ar))) (aa (pv 3) ar))))
   (aY (dh (fh PySem.F.plainAttrs_list PySem.F.slot_list_append PySem.F.type_list_append gw (pv 2) (aa (dH (aa (pv 4) ar)) ar)))))))
  (aY (e7 (pv 2)))),?_⟩
 refine ⟨by show 0≤sizeLine;decide,λr0 OL=>⟨by show 1≤sizeLine;decide,λT hT=>?_⟩⟩
 have Pd:T≠r0:=λz=>by rw [z,ab] at hT;cases hT
 have Hl:H T=none:=by rw [ae Pd] at hT;exact hT
 have sF:l≠T:=ah hl Hl;have nl0:l≠r0:=ah hl OL;refine ⟨_,rfl,1,(m:Int),rfl,⟨by decide,by decide,by omega,by omega⟩,?_⟩
 refine j3 (λi σ H'=>∃as w ds o3 o4,σ= [some (.int (m:Int)),some (.ref l),some (.ref T),o3,o4]∧Off [l] H H'∧(∀a∈as,H a=none)∧aE H' T as w∧Good w∧w.length=i+1∧H' l=some (.lst (ds.map V.int))∧ds≠ []∧ds.length≤2∧gk w=2*i) ?_ (λi σ H' hi hP=>?_) (λσ H' hP=>?_)
 ·refine ⟨[r0],[[]],ns,_,_,rfl,(Off.put (.inr OL)).trans (Off.put (.inr hT)),λa ha=>?_,⟨ab,by simp,by simpa using Pd,rfl,λi a e=>?_⟩,EZ,rfl,?_,fg,hz,rfl⟩
  ·have:a=r0:=by simpa using ha
   rw [this];exact OL
  ·cases i with
   |zero=>
    have:a=r0:=by simpa using e.symm
    rw [this,ae (Ne.symm Pd),ab];rfl
   |succ i=>simp at e
  ·rw [ae sF,ae nl0];exact hl
 ·obtain ⟨as,w',ds,o3,o4,rfl,off,fr,R,g,hlen,Hv,Hy,Km,YD⟩:=hP
  have jG:l∉as:=λz=>by have:=fr l z;rw [hl] at this;cases this
  refine ⟨_,rfl,_,rfl,l,ds,_,rfl,Hv,Hy,by omega,by omega,by omega,λd nr d0 d1 nI HM=>?_⟩
  have R1:aE (upd H' l (.lst (nr.map V.int))) T as w':=R.keep λb hb=>by
   refine ae λz=>?_
   rcases hb with hb|hb
   ·exact sF (z.symm.trans hb)
   ·rw [z] at hb;exact jG hb
  obtain ⟨p,rfl⟩:=qh d0;have hp:p<w'.length:=by omega
  obtain ⟨a,ha,gI⟩:=R1.at hp;have KN:l≠a:=λz=>jG (by rw [z];exact cS ha)
  have qs:gf (as.map V.ref) ((p:Nat):Int)=some (.ref a):=bS (by rw [dq,ha];rfl)
  refine ⟨_,rfl,_,rfl,T,_,_,_,rfl,rfl,aC.of R1.top,qs, .inl ⟨rfl,_,aC.of gI⟩,?_⟩;refine ⟨_,rfl,_,rfl,_,rfl,T,_,_,_,rfl,rfl,aC.of R1.top,qs,a,_,rfl, .inl (aC.of gI),_,_,rfl,rfl,?_⟩;have rl:=fm g p;rw [bD];refine ⟨l,nr,_,rfl,ab,nI,by omega,by omega,by omega,λd2 j2 e0 e1 rF Kn=>?_⟩
  rw [qc]
  have R2:aE (upd H' l (.lst (j2.map V.int))) T as w':=R.keep λb hb=>by
   refine ae λz=>?_
   rcases hb with hb|hb
   ·exact sF (z.symm.trans hb)
   ·rw [z] at hb;exact jG hb
  have B2:=R2.row p a ha;refine ⟨_,rfl,a,_,d2,_,rfl,rfl,B2,e0,by rw [bD];omega,mI (by rw [bD];exact rl) (bB (by omega)),?_⟩
  obtain ⟨j,rfl⟩:=qh e0;have ew:(1:Int)+(i:Int)=((w'.length:Nat):Int):=by omega
  rw [ew,kP,←ng];have R3:aE (upd (upd H' l (.lst (j2.map V.int))) a (.lst (aO (ins (row w' p) j w'.length)))) T as (w'.set p (ins (row w' p) j w'.length)):=R2.put ha (λb _ hb=>ae hb) ab;refine ⟨_,rfl, .inl ⟨rfl,_,aC.of R3.top⟩,_,rfl,by show 1≤sizeLine;decide,λr fN=>?_⟩
  have Pj:r≠T:=Ne.symm (ah R3.top fN)
  have Io:r∉as:=λz=>by
   obtain ⟨k,hk⟩:=f7 z
   have:=R3.row k r hk
   rw [fN] at this;cases this
  have Pk:r≠l:=λz=>by
   rw [z,ae KN,ab] at fN;cases fN
  refine ⟨T,_, .ref r,rfl,rfl,by rw [ae (Ne.symm Pj)];exact R3.top,mI (by rw [aJ,R3.len,gb];exact aU _) (bB (by omega)),?_⟩
  have SW:H r=none:=by
   cases e:H r with
   |none=>rfl
   |some o=>
    have:=off r o (by simpa using Pk) e
    rw [ae (λz=>Io (by rw [z];exact cS ha)),ae Pk] at fN
    rw [fN] at this;cases this
  have Yp:H a=none:=fr a (cS ha);refine ⟨as++ [r],leaf w' p j,j2,_,_,rfl,?_,λb hb=>?_,?_,BK g hp,by rw [qG];omega,?_,rF,by omega,by rw [EL hp];omega⟩
  ·intro b o hb e
   have Yu:b≠l:=by simpa using hb
   rw [ae (λz=>by rw [z,Hl] at e;cases e),ae (λz=>by rw [z,SW] at e;cases e),ae (λz=>by rw [z,Yp] at e;cases e),ae Yu]
   exact off b o hb e
  ·rcases cE.mp hb with z|z
   ·exact fr b z
   ·have:b=r:=by simpa using z
    rw [this];exact SW
  ·refine R3.snoc (r:= [p]) Io Pj (λb hb=>?_) ?_ ?_
   ·rw [ae (λz=>R3.nT (by rw [←z];exact hb)),ae (λz=>Io (by rw [←z];exact hb))]
   ·rw [ab,dB];rfl
   ·rw [ae Pj,ab];rfl
  ·rw [ae sF,ae (Ne.symm Pk),ae KN,ab]
 ·obtain ⟨as,w',ds,o3,o4,rfl,off,fr,R,g,hlen,Hv,Hy,Km,YD⟩:=hP
  exact ⟨_,rfl,q T as w' ds H' off Hl fr R g (by omega) Hv Hy Km (by omega)⟩
end
abbrev uX:Stmt:=top 30
abbrev tj:Stmt:=top 31
theorem gz{r:List Nat}{i n:Nat}(h:r[i]? =some n):(aO r)[i]? =some (.int (n:Int)):=by unfold aO;rw [dq,h];rfl
theorem ku(r:List Nat):(aO r).all fM=true:=by
 rw [List.all_eq_true];intro x hx;obtain ⟨n,_,rfl⟩:=bN.mp hx;rfl
theorem qU{r:List Nat}{i:Nat}{z:V}(h:(aO r)[i]? =some z):∃n,r[i]? =some n∧z= .int (n:Int):=by
 unfold aO at h;rw [dq] at h;cases e:r[i]? with
 |none=>rw [e] at h;cases h
 |some n=>rw [e] at h;cases h;exact ⟨n,rfl,rfl⟩
theorem pB{r:List Nat}{p:Nat}(h:p∈r):r[r.idxOf p]? =some p:=by
 have lt:=rZ.mpr h;rw [cC lt,xS lt]
theorem Ko{r:List Nat}(nd:r.Nodup){p m n:Nat}(h:p∈r)(hm:m<r.idxOf p)(e:r[m]? =some n):n≠p:=λz=>by
 rw [z] at e
 have:=get_inj nd e (pB h)
 omega
theorem mP(p:Nat):n6 (.int (p:Int)) (.int (p:Int))=true:=by simp [n6]
theorem oz{r:List Nat}(nd:r.Nodup){p:Nat}(h:p∈r)(m:Nat)(z:V)(hm:m<r.idxOf p)(hz:(aO r)[m]? =some z):n6 z (.int (p:Int))=false:=by
 obtain ⟨n,hn,rfl⟩:=qU hz
 have:=Ko nd h hm hn
 simp [n6];omega
def Lz:Sp:=λvs H Q _=>∃(T sd:Addr)(as:List Addr)(w:W)(d:Nat×Nat),vs= [.ref T, .ref sd]∧aE H T as w∧Good w∧w.length≤14∧H sd=some (.tup (fS d))∧aH w d∧
 ∀t,H t=none→Q (.ref t) (upd H t (.tup (fS (jN w d))))
section
variable {P:Program} {w:World} {K:PySem.W.Frag} {mg:Str→Option Value} {base:Heap}
theorem Ee:aI ["_law_turns","_law_side","_law_p","_law_q"] ["_law_turns","_law_side"] (ao uX):=⟨rfl,rfl,rfl,by decide+kernel,rfl,by decide+kernel,by decide+kernel⟩
theorem IA(B:vN mg)(D:bM K mg "_law_next" uX ["_law_turns","_law_side"]):FnOk P w K mg base bQ 1 D.f D.fd ["_law_turns","_law_side"] Lz:=by
 refine D.F.ok Ee (λvs H Q E h=>?_) (λbp A outer s H vs Q E hr h=>?_)
 ·obtain ⟨T,sd,as,w,d,rfl,_⟩:=h
  rfl
 obtain ⟨T,sd,as,w',⟨p,q'⟩,rfl,R,g,cF,Ah,hd,q⟩:=h;have nd:=Ee.nd
 refine ⟨_,aB (m9 (pv 1) (m8 rfl (dW (bI (i:=2) nd rfl (Or.inl rfl)) (dW (bI (i:=3) nd rfl (Or.inl rfl)) jP))))
  (aY (e7 (sZ (aa (pv 3) (aa (cg bu (cg bu (pv 0) (pv 3) (λ_ _=>rfl))
   (bU mZ (bU fR (fh PySem.F.plainAttrs_list PySem.F.slot_list_index PySem.F.type_list_index mY (cg bu (pv 0) (pv 3) (λ_ _=>rfl)) (aa (pv 2) ar)) aL)
    (cp bP rfl B.len PySem.boot_len (aa (cg bu (pv 0) (pv 3) (λ_ _=>rfl)) ar))) (λ_ _=>rfl)) ar))))),?_⟩
 have Ki:p∈row w' q':=g.sym _ _ hd;have hq:q'<w'.length:=g.rng _ _ hd;obtain ⟨a,ha,gI⟩:=R.at hq;have qs:gf (as.map V.ref) ((q':Nat):Int)=some (.ref a):=bS (by rw [dq,ha];rfl)
 have hlen:0<(row w' q').length:=vF Ki;refine ⟨_,rfl,sd,_,rfl,dr.of Ah,rfl,_,_,rfl,_,_,rfl,rfl,?_⟩;refine ⟨_,rfl,_,rfl,_,rfl,T,_,_,_,rfl,rfl,aC.of R.top,qs,?_⟩;refine ⟨_,rfl,_,rfl,T,_,_,_,rfl,rfl,aC.of R.top,qs, .inl ⟨rfl,_,aC.of gI⟩,_,rfl,?_⟩;refine ⟨a,_,_,(row w' q').idxOf p,_,rfl,rfl,gI,rfl,ku _,gz (pB Ki),mP p,oz (g.nod _) Ki,?_⟩;refine ⟨_,_,rfl,rfl,_,rfl,_,rfl,T,_,_,_,rfl,rfl,aC.of R.top,qs,a,_,rfl, .inl (aC.of gI),_,_,rfl,rfl,?_⟩;rw [bD];refine ⟨by omega,?_⟩
 have em:((((row w' q').idxOf p:Nat):Int)+1)%((row w' q').length:Int)=((((row w' q').idxOf p+1)%(row w' q').length:Nat):Int):=by rw [Int.natCast_emod,Int.natCast_add];rfl
 have Yr:gf (aO (row w' q')) (((((row w' q').idxOf p:Nat):Int)+1)%((row w' q').length:Int))=some (.int (bq (row w' q') p:Nat)):=by
  rw [em];exact bS (gz (iQ Ki))
 refine ⟨a,_,_,_,rfl,rfl,aC.of gI,Yr,by show 2≤sizeLine;decide,λt ht=>?_⟩
 exact q t ht
def u5:Sp:=λvs H Q _=>∃(T sd:Addr)(as:List Addr)(w:W)(d:Nat×Nat),vs= [.ref T, .ref sd]∧aE H T as w∧Good w∧w.length≤14∧H sd=some (.tup (fS d))∧aH w d∧
 ∀(F:Addr)(L:List (Addr×(Nat×Nat)))(k:Nat)(H':Hp),az H H'→H F=none→H' F=some (.lst (L.map λe=>V.ref e.1))→nZ H' L→L.map (·.2)=walk w d k→0<k→aV w k d=d→(∀j,0<j→j<k→aV w j d≠d)→Q (.ref F) H'
theorem AX:aI ["_law_turns","_law_side","_law_found","_law_here"] ["_law_turns","_law_side"] (ao tj):=⟨rfl,rfl,rfl,by decide+kernel,rfl,by decide+kernel,by decide+kernel⟩
theorem zS{K:PySem.W.Frag}{H:Hp}{a:Addr}{d:Nat×Nat}(h:H a=some (.tup (fS d))):Dp K H (.ref a) (kM d):= .tup (dr.of h) (.cons (.int _) (.cons (.int _) .nil))
theorem FI(B:vN mg)(Nx:bM K mg "_law_next" uX ["_law_turns","_law_side"])(D:bM K mg "_law_round" tj ["_law_turns","_law_side"]):FnOk P w K mg base bQ 2 D.f D.fd ["_law_turns","_law_side"] u5:=by
 refine D.F.ok AX (λvs H Q E h=>?_) (λbp A outer s H vs Q E hr h=>?_)
 ·obtain ⟨T,sd,as,w,d,rfl,_⟩:=h
  rfl
 obtain ⟨T,sd,as,w',d,rfl,R,g,cF,Ah,hd,q⟩:=h;have nd:=AX.nd;have gN:=IA (P:=P) (w:=w) (base:=base) B Nx
 refine ⟨_,aB (bJ (i:=2) nd rfl (Or.inl rfl) (dH (aa (pv 1) ar)))
  (aB (bJ (i:=3) nd rfl (Or.inl rfl) (aP gN hr rfl Nx.m Nx.F.kp Nx.b .nil bA (aa (pv 0) (aa (pv 1) ar))))
  (aB (xv PassesOwn.never (gJ (yY hr.units) (pv 3) (pv 1) (bF _))
   (aB (dh (fh PySem.F.plainAttrs_list PySem.F.slot_list_append PySem.F.type_list_append gw (pv 2) (aa (pv 3) ar)))
    (aY (bJ (i:=3) nd rfl (Or.inl rfl) (aP gN hr rfl Nx.m Nx.F.kp Nx.b .nil bA (aa (pv 0) (aa (pv 3) ar)))))))
  (aY (e7 (pv 2))))),?_⟩
 refine ⟨_,rfl,by show 1≤sizeLine;decide,λF hF=>?_⟩
 have s1:az H (upd H F (.lst [.ref sd])):=av hF _;have R1:aE (upd H F (.lst [.ref sd])) T as w':=R.off (S:= []) (Off.of_same s1) (by simp) (by simp)
 refine ⟨_,rfl,_,rfl,T,sd,as,w',d,rfl,R1,g,cF,s1 _ _ Ah,hd,λt ht=>?_⟩;have dl:=iD g;have hw:w'.length*w'.length≤196:=vD cF cF
 refine F6 (λσ H'=>∃(k:Nat)(L:List (Addr×(Nat×Nat)))(t:Addr),σ= [some (.ref T),some (.ref sd),some (.ref F),some (.ref t)]∧0<k∧L.map (·.2)=walk w' d k∧(∀j,0<j→j<k→aV w' j d≠d)∧az H H'∧H' F=some (.lst (L.map λe=>V.ref e.1))∧nZ H' L∧H' t=some (.tup (fS (aV w' k d))))
  (λσ H'=>(aG w').length+1-(match H' F with|some (.lst xs)=>xs.length|_=>0)) ?_ (λσ H' hP=>?_) (λσ H Q Q' hq h=>?_)
 ·have nFt:F≠t:=λz=>by rw [←z,ab] at ht;cases ht
  have nsF:sd≠F:=ah Ah hF;refine ⟨1,[(sd,d)],t,rfl,by omega,rfl,λj h1 h2=>by omega,s1.trans (av ht _),by rw [ae nFt];exact ab,λe he=>?_,ab⟩
  have yu:e=(sd,d):=by simpa using he
  rw [yu];exact (s1.trans (av ht _)) _ _ Ah
 ·obtain ⟨k,L,t,rfl,hk,hL,vZ,sm,E3,DZ,v7⟩:=hP
  refine ⟨_,rfl,_,rfl,_,_,zS v7,zS (sm _ _ Ah),by have:=rz (aV w' k d);omega,_,rfl,?_⟩
  refine rJ (λc=>?_) (λc=>?_)
  ·have fg:aV w' k d≠d:=λz=>by
    rw [(wK _ _).mpr z] at c;cases c
   have Mz:∀j,0<j→j<k+1→aV w' j d≠d:=λj h1 h2=>by
    by_cases hj:j=k
    ·rw [hj];exact fg
    ·exact vZ j h1 (by omega)
   have hkd:=vi g hd Mz;have lL:L.length=k:=by have:=congrArg List.length hL;rw [aJ,dY] at this;exact this
   refine ⟨_,rfl, .inl ⟨rfl,_,aC.of E3⟩,_,rfl,F,_, .ref t,rfl,rfl,E3,mI (by rw [aJ,lL];exact aU _) (bB (by omega)),?_⟩
   have nFH:H F=none:=hF;have Lu:az H (upd H' F (.lst ((L.map λe=>V.ref e.1)++ [.ref t]))):=λb o e=>by rw [ae (ah e hF)];exact sm b o e
   have R2:aE (upd H' F (.lst ((L.map λe=>V.ref e.1)++ [.ref t]))) T as w':=R.off (S:= []) (Off.of_same Lu) (by simp) (by simp)
   have Us:t≠F:=λz=>by rw [z,E3] at v7;cases v7
   refine ⟨_,rfl,_,rfl,T,t,as,w',aV w' k d,rfl,R2,g,cF,by rw [ae Us];exact v7,bK g hd k,λt2 HI=>?_⟩
   have Ip:t2≠F:=λz=>by rw [z,ab] at HI;cases HI
   have Ur:H' t2=none:=by rw [ae Ip] at HI;exact HI
   refine ⟨⟨k+1,L++ [(t,aV w' k d)],t2,rfl,by omega,?_,Mz,Lu.trans (av HI _),?_,λe he=>?_,ab⟩,?_⟩
   ·rw [dB,hL,vk];rfl
   ·rw [ae (Ne.symm Ip),ab,dB];rfl
   ·rcases cE.mp he with z|z
    ·have yv:=DZ e z
     rw [ae (ah yv Ur),ae (λy=>by rw [y,E3] at yv;cases yv)]
     exact yv
    ·have z':e=(t,aV w' k d):=by simpa using z
     rw [z'];show upd _ t2 _ t=_;rw [ae (ah v7 Ur),ae Us];exact v7
   ·show (aG w').length+1-_<(aG w').length+1-_
    rw [ae (Ne.symm Ip),ab,E3];simp only [bV,aJ,List.length_singleton];omega
  ·have heq:aV w' k d=d:=by
    apply Classical.byContradiction;intro z;apply c
    have:PyData.eqv (kM (aV w' k d)) (kM d)=false:=by
     cases y:PyData.eqv (kM (aV w' k d)) (kM d) with
     |false=>rfl
     |true=>exact absurd ((wK _ _).mp y) z
    rw [this];rfl
   exact ⟨_,rfl,q F L k H' sm hF E3 DZ hL hk heq vZ⟩
 ·obtain ⟨v1,e1,v2,e2,d',e',a,b,c,k,ek,q⟩:=h
  exact ⟨v1,e1,v2,e2,d',e',a,b,c,k,ek,hq _ _ q⟩
end
end jX
namespace L2
open PySem
theorem DJ{K:PySem.W.Frag}{H:Hp}:∀{M:List (Addr×(Nat×Nat))},nZ H M→cw K H (M.map λe=>V.ref e.1) (M.map λe=>kM e.2)
 | [],_=> .nil
 |e::M,h=> .cons (.tup (dr.of (h e bY)) (.cons (.int _) (.cons (.int _) .nil))) (DJ λx hx=>h x (cu _ hx))
end L2
namespace jX
open PySem L2 Wb
theorem Hd{i:Nat}{x:V}{σ:St}{H:Hp}{P R:St→Hp→Prop}(h:P (σ.set i (some x)) H):ud i x σ H (λcT H4=>M9 cT H4 (λb H5=>if b=true then P cT H5 else R cT H5)):=by
 show (if true=true then P (σ.set i (some x)) H else R (σ.set i (some x)) H);rw [if_pos rfl];exact h
abbrev uY:Stmt:=top 32
theorem Lo{w:W}(g:Good w)(h2:2≤w.length){p:Nat}(hp:p<w.length):row w p≠ []:=by
 intro z
 have hq:∃q,q<w.length∧q≠p:=by
  by_cases h:p=0
  ·exact ⟨1,by omega,by omega⟩
  ·exact ⟨0,by omega,λy=>h y.symm⟩
 obtain ⟨q,hq,ne⟩:=hq;have r:=((g.con p hp).symm g.sym).trans (g.con q hq)
 have:∀{a b},Reach w a b→a=p→b=p:=λ {a b} h=>by
  induction h with
  |refl=>exact id
  |step _ hr ih=>
   intro e
   have:=ih e
   rw [this,z] at hr;cases hr
 exact ne (this r rfl)
structure Nj (H:Hp) (w:W) (S:Addr) (L:List (Addr×(Nat×Nat))):Prop where
 at':H S=some (.lst (L.map λe=>V.ref e.1))
 prs:nZ H L
 dart:∀e∈L,aH w e.2
 few:L.length≤196
def PH:Sp:=λvs H Q _=>∃(T l:Addr)(b:Bool)(as:List Addr)(w:W)(ns:List Int),vs= [.ref T, .ref l, .bl b]∧aE H T as w∧Good w∧2≤w.length∧w.length≤14∧H l=some (.lst (ns.map V.int))∧ns≠ []∧ns.length≤2∧l≠T∧l∉as∧
 ∀(w':W)(ds:List Int)(H':Hp),Off (l::as) H H'→aE H' T as w'→Good w'→w'.length=w.length→H' l=some (.lst (ds.map V.int))→ds≠ []→ds.length≤2→gk w'≤gk w+2→Q .aM H'
section
variable {P:Program} {w:World} {K:PySem.W.Frag} {mg:Str→Option Value} {base:Heap}
theorem Ji:aI ["_law_turns","_law_left","_law_plane","_law_p","_law_r","_law_sides","_law_q","_law_turn","_law_u","_law_v"] ["_law_turns","_law_left","_law_plane"] (ao uY):=⟨rfl,rfl,rfl,by decide+kernel,rfl,by decide+kernel,by decide+kernel⟩
theorem KU(B:vN mg)(Tk:bM K mg "_law_take" qW ["_law_left","_law_many"])(Nx:bM K mg "_law_next" uX ["_law_turns","_law_side"])(Rd:bM K mg "_law_round" tj ["_law_turns","_law_side"])
  (D:bM K mg "_law_tie" uY ["_law_turns","_law_left","_law_plane"]):FnOk P w K mg base bQ 3 D.f D.fd ["_law_turns","_law_left","_law_plane"] PH:=by
 refine D.F.ok Ji (λvs H Q E h=>?_) (λbp A outer s H vs Q E hr h=>?_)
 ·obtain ⟨T,l,b,as,w,ns,rfl,_⟩:=h
  rfl
 obtain ⟨T,l,b,as,w',ns,rfl,R,g,h2,cF,hl,fg,hz,sF,jG,q⟩:=h;have nd:=Ji.nd;have gT:=(lU (P:=P) (w:=w) (base:=base) B Tk).mono (show 1≤2 by decide)
 have gR:=FI (P:=P) (w:=w) (base:=base) B Nx Rd;have Zk:w'.length*w'.length≤196:=vD cF cF;have Ik:(["_law_side","_law_p","_law_turns"]:List Str).Nodup:=by decide+kernel
 obtain ⟨tE,pE,rE⟩:∃t,jZ (oV bQ P w K mg base ["_law_turns","_law_left","_law_plane","_law_p","_law_r","_law_sides","_law_q","_law_turn","_law_u","_law_v"] "_law_tie" (ao uY) D.f bp A outer s H E).iV ((eH uY).drop 4) t∧
   ∀(p r:Nat)(S:Addr)(L:List (Addr×(Nat×Nat)))(ds:List Int)(o6 o7:Option V)(H1:Hp),Off (l::as) H H1→aE H1 T as w'→p<w'.length→r∈row w' p→Nj H1 w' S L→H1 l=some (.lst (ds.map V.int))→ds≠ []→ds.length≤2→S≠l→S≠T→S∉as→
    t {nx:=λ_ H'=>Q .aM H',rt:=Q} [some (.ref T),some (.ref l),some (.bl b),some (.int (p:Int)),some (.int (r:Int)),some (.ref S),o6,o7,none,none] H1:=by
  refine ⟨_,aB (jR (i:=5) (NC:= ["_law_side","_law_p","_law_turns"]) (src:= [none,some 3,some 0]) rfl nd rfl (Or.inl rfl) (bb.of (ao uY) rfl rfl (by decide+kernel) (by decide+kernel) (by decide+kernel)) ⟨rfl,rfl,rfl,rfl,trivial⟩ (jQ (pv 5))
    (λ_ _ _=>bI (i:=0) Ik rfl (Or.inl rfl)) (λ_ _ _=>AL (PW.pt (D8 (gJ Pp (cg (Ar (K:=K)) (pv 0) aL (λ_ _=>rfl)) (pv 1) (bF _)) (AQ (gJ (Cy (K:=K)) (cg (Ar (K:=K)) (pv 0) aL (λ_ _=>rfl)) (cg (xb (K:=K)) (pv 2) (pv 1) (λ_ _=>rfl)) rfl))))) (λ_ _ _=>pv 0) rfl)
   (aY (uR (gJ (yY hr.units) (pv 5) (dH ar) (bF _))
    (aB (m9 (cg bu (pv 5) (aP gT hr rfl Tk.m Tk.F.kp Tk.b .nil bA (aa (pv 1) (aa (cp bP rfl B.len PySem.boot_len (aa (pv 5) ar)) ar))) (λ_ _=>rfl)) (m8 rfl (dW (bI (i:=8) nd rfl (Or.inl rfl)) (dW (bI (i:=9) nd rfl (Or.inl rfl)) jP))))
    (aB (dh (fh PySem.F.plainAttrs_list PySem.F.slot_list_insert PySem.F.type_list_insert iJ (cg bu (pv 0) (pv 3) (λ_ _=>rfl)) (aa (fh PySem.F.plainAttrs_list PySem.F.slot_list_index PySem.F.type_list_index mY (cg bu (pv 0) (pv 3) (λ_ _=>rfl)) (aa (pv 4) ar)) (aa (pv 8) ar))))
    (aY (dh (fh PySem.F.plainAttrs_list PySem.F.slot_list_insert PySem.F.type_list_insert iJ (cg bu (pv 0) (pv 8) (λ_ _=>rfl)) (aa (fh PySem.F.plainAttrs_list PySem.F.slot_list_index PySem.F.type_list_index mY (cg bu (pv 0) (pv 8) (λ_ _=>rfl)) (aa (pv 9) ar)) (aa (pv 3) ar))))))) lX)),?_⟩
  intro p r S L ds o6 o7 H1 off R1 hp yE sd z9 nI HM Ui Uh MM;obtain ⟨a,ha,gI⟩:=R1.at hp;have qs:gf (as.map V.ref) ((p:Nat):Int)=some (.ref a):=bS (by rw [dq,ha];rfl)
  refine ⟨_,rfl,S,rfl,⟨_,aC.of sd.at'⟩,λDd hD=>?_⟩;have KJ:S≠Dd:=ah sd.at' hD;refine yJ (L.map λe=>V.ref e.1).length (λi iT Hc=>∃(M:List (Addr×(Nat×Nat)))(o:Option V),iT= [o,some (.int (p:Int)),some (.ref T)]∧Hc=upd H1 Dd (.lst (M.map λe=>V.ref e.1))∧(∀e∈M,e∈L∧e.2.1≠p∧e.2.1∉row w' p)∧M.length≤i) ?_ ?_ ?_ ?_ ?_
  ·exact ⟨[],none,rfl,rfl,(λe he=>by cases he),aU _⟩
  ·rintro i iT Hc hi ⟨M,o,rfl,rfl,_,_⟩
   exact ⟨_,_,aC.of (by rw [ae KJ];exact sd.at'),cC hi⟩
  ·rintro i iT Hc hi ⟨M,o,rfl,rfl,_,_⟩
   exact ⟨_,aC.of (by rw [ae KJ];exact sd.at'),hi⟩
  ·rintro i x iT Hc H3 hi ⟨M,o,rfl,rfl,hM,Of⟩ ⟨rfl,hx⟩
   have Ak:=hx _ (aC.of (by rw [ae KJ];exact sd.at'))
   have fj:i<L.length:=by simpa using hi
   rw [dq,cC fj] at Ak;have ex:x= .ref (L[i]).1:=(Option.some.inj Ak).symm;subst ex;have hm:L[i]∈L:=kQ fj
   have wY:upd H1 Dd (.lst (M.map λe=>V.ref e.1)) (L[i]).1=some (.tup (fS (L[i]).2)):=by
    have:=sd.prs _ hm
    rw [ae (ah this hD)];exact this
   have Ud:T≠Dd:=ah R1.top hD;have nDa:a≠Dd:=ah gI hD;refine ⟨_,rfl,(L[i]).1,_,0,_,rfl,rfl,dr.of wY,bS (j:=0) rfl,_,rfl,rfl,_,rfl,?_⟩;refine rJ (λc=>?_) (λc=>?_)
   ·refine ⟨_,rfl,(L[i]).1,_,0,_,rfl,rfl,dr.of wY,bS (j:=0) rfl,?_⟩
    refine ⟨_,rfl,_,rfl,T,_,_,_,rfl,rfl,aC.of (by rw [ae Ud];exact R1.top),qs,a,_,rfl, .inl (aC.of (by rw [ae nDa];exact gI)),rfl,ku _,_,rfl,?_⟩
    refine rJ (λc2=>?_) (λc2=>?_)
    ·refine ⟨_,rfl,_,ab,mI (by rw [aJ];exact Of) (bB (by have:=sd.few;omega)),M++ [L[i]],_,rfl,?_,λe he=>?_,by simp;omega⟩
     ·rw [qc,dB];rfl
     ·rcases cE.mp he with z|z
      ·exact hM e z
      ·have z':e=L[i]:=by simpa using z
       rw [z'];refine ⟨hm,λy=>?_,λy=>?_⟩
       ·rw [show V.int ((L[i]).2.1:Int)=V.int (p:Int) by rw [y]] at c
        simp at c
       ·have:B4 (V.int ((L[i]).2.1:Int)) (aO (row w' p))=true:=by
         unfold B4;rw [List.any_eq_true];exact ⟨_,bN.mpr ⟨_,y,rfl⟩,mP _⟩
        have c3:(!B4 (V.int ((L[i]).2.1:Int)) (aO (row w' p)))=true:=c2;rw [this] at c3;cases c3
    ·exact ⟨M,_,rfl,rfl,hM,by omega⟩
   ·exact fC ⟨M,_,rfl,rfl,hM,by omega⟩
  ·rintro iT Hc ⟨M,o,rfl,rfl,hM,Of⟩
   have nDl:l≠Dd:=ah z9 hD;have Ud:T≠Dd:=ah R1.top hD;have few:=sd.few;rw [aJ] at Of
   have Vj:nZ (upd H1 Dd (.lst (M.map λe=>V.ref e.1))) M:=λe he=>by
    have:=sd.prs e (hM e he).1
    rw [ae (ah this hD)];exact this
   refine ⟨_,rfl,by show 0≤sizeLine;decide,λe1 yv=>?_⟩
   have n1D:e1≠Dd:=λz=>by rw [z,ab] at yv;cases yv
   have CT:az (upd H1 Dd (.lst (M.map λe=>V.ref e.1))) (upd (upd H1 Dd (.lst (M.map λe=>V.ref e.1))) e1 (.lst [])):=av yv _;have MZ:nZ (upd (upd H1 Dd (.lst (M.map λe=>V.ref e.1))) e1 (.lst [])) M:=λe he=>CT _ _ (Vj e he);have Ob:upd (upd H1 Dd (.lst (M.map λe=>V.ref e.1))) e1 (.lst []) Dd=some (.lst (M.map λe=>V.ref e.1)):=CT _ _ ab;have MU:Off (l::as) H (upd (upd H1 Dd (.lst (M.map λe=>V.ref e.1))) e1 (.lst [])):=off.trans ((Off.put (.inr hD)).trans (Off.put (.inr yv)));have HH:az H1 (upd (upd H1 Dd (.lst (M.map λe=>V.ref e.1))) e1 (.lst [])):=(av hD _).trans CT;have R3:aE (upd (upd H1 Dd (.lst (M.map λe=>V.ref e.1))) e1 (.lst [])) T as w':=R1.off (S:= []) (Off.of_same HH) (by simp) (by simp)
   have Fj:=HH _ _ z9;refine ⟨_,_, .lst (aC.of Ob) (DJ MZ), .lst (aC.of ab) .nil,?_,_,rfl,?_⟩
   ·rw [PyData.depth]
    have:=gF (f:=λe:Addr×(Nat×Nat)=>kM e.2) (k:=2) (λe=>rz e.2) M
    omega
   generalize RT:upd (upd H1 Dd (.lst (M.map λe=>V.ref e.1))) e1 (.lst [])=H3 at*;refine rJ (λc=>?_) (λc=>?_)
   ·have hM0:0<M.length:=by
     cases M with
     |nil=>simp [PyData.eqv,PyData.eqvAll] at c
     |cons _ _=>simp
    refine ⟨_,rfl,_,rfl,_,rfl,Dd,_,rfl, .inl (aC.of Ob),?_⟩;rw [aJ];refine ⟨l,ds,_,rfl,Fj,nI,by omega,by omega,by omega,λdI j2 d0 d1 rF Kn=>?_⟩
    obtain ⟨d,rfl⟩:=qh d0;have hd:d<M.length:=by omega
    have nlD:Dd≠l:=λz=>nDl z.symm;have RS:upd H3 l (.lst (j2.map V.int)) Dd=some (.lst (M.map λe=>V.ref e.1)):=by rw [ae nlD];exact Ob
    obtain ⟨Y0,OV,Zh⟩:=hM _ (kQ hd);have oi:=sd.dart _ Y0;have wY:=MZ _ (kQ hd);have ntl:(M[d]).1≠l:=λz=>by rw [z,Fj] at wY;cases wY
    refine ⟨Dd,_,_, .ref (M[d]).1,rfl,rfl,aC.of RS,bS (by rw [dq,cC hd];rfl),?_⟩
    refine ⟨(M[d]).1,_,rfl,dr.of (by rw [ae ntl];exact wY),rfl,_,_,rfl,_,_,rfl,rfl,?_⟩
    generalize M[d]=me at*;obtain ⟨at0,u,v⟩:=me;dsimp only at*;have hu:u<w'.length:=fV oi
    have R4:aE (upd H3 l (.lst (j2.map V.int))) T as w':=R3.keep λb hb=>by
     refine ae λz=>?_
     rcases hb with hb|hb
     ·exact sF (z.symm.trans hb)
     ·rw [z] at hb;exact jG hb
    have yC:=R4.row p a ha;have rlp:=fm g p;have rlu:=fm g u;have O3:=rZ.mpr yE;have jlt:(row w' u).idxOf v<(row w' u).length:=rZ.mpr oi;refine ⟨_,rfl,_,rfl,T,_,_,_,rfl,rfl,aC.of R4.top,qs, .inl ⟨rfl,_,aC.of yC⟩,?_⟩;refine ⟨_,rfl,_,rfl,T,_,_,_,rfl,rfl,aC.of R4.top,qs, .inl ⟨rfl,_,aC.of yC⟩,_,rfl,?_⟩;refine ⟨a,_,_,(row w' p).idxOf r,_,rfl,rfl,yC,rfl,ku _,gz (pB yE),mP r,oz (g.nod _) yE,?_⟩;refine ⟨_,rfl,a,_,_,_,rfl,rfl,yC,by omega,by rw [bD];omega,mI (by rw [bD];exact rlp) (bB (by omega)),?_⟩
    rw [kP,←ng];have R5:aE (upd (upd H3 l (.lst (j2.map V.int))) a (.lst (aO (ins (row w' p) ((row w' p).idxOf r) u)))) T as (w'.set p (ins (row w' p) ((row w' p).idxOf r) u)):=R4.put ha (λb _ hb=>ae hb) ab;obtain ⟨a2,Hn,_⟩:=R4.at hu;have lJ:=R5.row u a2 Hn;rw [gK hp,if_neg (Ne.symm OV)] at lJ;have at2:gf (as.map V.ref) ((u:Nat):Int)=some (.ref a2):=bS (by rw [dq,Hn];rfl)
    refine ⟨_,rfl,_,rfl,T,_,_,_,rfl,rfl,aC.of R5.top,at2, .inl ⟨rfl,_,aC.of lJ⟩,?_⟩;refine ⟨_,rfl,_,rfl,T,_,_,_,rfl,rfl,aC.of R5.top,at2, .inl ⟨rfl,_,aC.of lJ⟩,_,rfl,?_⟩;refine ⟨a2,_,_,(row w' u).idxOf v,_,rfl,rfl,lJ,rfl,ku _,gz (pB oi),mP v,oz (g.nod _) oi,?_⟩;refine ⟨_,rfl,a2,_,_,_,rfl,rfl,lJ,by omega,by rw [bD];omega,mI (by rw [bD];exact rlu) (bB (by omega)),?_⟩
    rw [kP,←ng];have R6:aE (upd (upd (upd H3 l (.lst (j2.map V.int))) a (.lst (aO (ins (row w' p) ((row w' p).idxOf r) u)))) a2 (.lst (aO (ins (row w' u) ((row w' u).idxOf v) p)))) T as (ze w' p ((row w' p).idxOf r) u ((row w' u).idxOf v)):=R5.put Hn (λb _ hb=>ae hb) ab;have KN:l≠a:=λz=>jG (by rw [z];exact cS ha)
    have Uo:l≠a2:=λz=>jG (by rw [z];exact cS Hn)
    refine q _ j2 _ ?_ R6 (E2 g hp hu OV Zh) (vf _ _ _ _ _) ?_ rF (by omega) (by rw [GK hp hu OV];exact aU _)
    ·exact MU.trans ((Off.put (.inl bY)).trans ((Off.put (.inl (cu _ (cS ha)))).trans (Off.put (.inl (cu _ (cS Hn))))))
    ·rw [ae Uo,ae KN,ab]
   ·exact q w' ds _ MU R3 g rfl Fj nI HM (by omega)
 have nd3:(["_law_s","_law_q"]:List Str).Nodup:=by decide+kernel
 refine ⟨_,aB (bJ (i:=3) nd rfl (Or.inr rfl) (aP gT hr rfl Tk.m Tk.F.kp Tk.b .nil bA (aa (pv 1) (aa (cp bP rfl B.len PySem.boot_len (aa (pv 0) ar)) ar))))
  (aB (bJ (i:=4) nd rfl (Or.inl rfl) (cg bu (cg bu (pv 0) (pv 3) (λ_ _=>rfl)) (aP gT hr rfl Tk.m Tk.F.kp Tk.b .nil bA (aa (pv 1) (aa (cp bP rfl B.len PySem.boot_len (aa (cg bu (pv 0) (pv 3) (λ_ _=>rfl)) ar)) ar))) (λ_ _=>rfl)))
  (aB (bJ (i:=5) nd rfl (Or.inl rfl) (aP gR hr rfl Rd.m Rd.F.kp Rd.b .nil bA (aa (pv 0) (aa (sZ (aa (pv 3) (aa (pv 4) ar))) ar))))
  (aB (uR (D6 (Lf (pv 2)))
   (aB (bJ (i:=5) nd rfl (Or.inl rfl) (dH ar))
   (aY (h8 PassesOwn.never rfl (uP rfl B.enumerate (aa (pv 0) ar)) (m8 rfl (dW (bI (i:=6) nd rfl (Or.inr rfl)) (dW (bI (i:=7) nd rfl (Or.inl rfl)) jP)))
    (aY (dh (fh PySem.F.plainAttrs_list PySem.F.slot_list_extend PySem.F.type_list_extend Co (pv 5) (aa (CB (NC:= ["_law_s","_law_q"]) (src:= [none,some 6]) rfl (bb.of (ao uY) rfl rfl (by decide+kernel) (by decide+kernel) (by decide+kernel)) ⟨rfl,rfl,trivial⟩ (jQ (pv 7))
     (λ_ _ _=>bI (i:=0) nd3 rfl (Or.inl rfl)) (λ_ _ _=>pU) (λ_ _ _=>sZ (aa (pv 1) (aa (pv 0) ar)))) ar))))))) lX) pE))),?_⟩
 have Hm:H T=_:=R.top;have lmap:(as.map V.ref).length=w'.length:=by rw [aJ,R.len]
 refine ⟨_,rfl,_,rfl,T,_,rfl, .inl (aC.of R.top),l,ns,_,rfl,hl,fg,by omega,by omega,by omega,λdI nr d0 d1 nI HM=>?_⟩
 obtain ⟨p,rfl⟩:=qh d0;have hp:p<w'.length:=by omega
 have keep:∀(o:HO),aE (upd H l o) T as w':=λo=>R.keep λb hb=>by
  refine ae λz=>?_
  rcases hb with hb|hb
  ·exact sF (z.symm.trans hb)
  ·rw [z] at hb;exact jG hb
 have R1:=keep (.lst (nr.map V.int));obtain ⟨a,ha,gI⟩:=R1.at hp;have qs:gf (as.map V.ref) ((p:Nat):Int)=some (.ref a):=bS (by rw [dq,ha];rfl)
 have rne:=Lo g h2 hp;have aan:0<(row w' p).length:=xR.mpr rne;have rl:=fm g p;have Vz:=bD (row w' p);refine ⟨_,rfl,_,rfl,T,_,_,_,rfl,rfl,aC.of R1.top,qs,?_⟩;refine ⟨_,rfl,_,rfl,_,rfl,T,_,_,_,rfl,rfl,aC.of R1.top,qs,a,_,rfl, .inl (aC.of gI),l,nr,_,rfl,ab,nI,by omega,by omega,by omega,λdI2 j2 e0 e1 rF Kn=>?_⟩
 rw [qc];obtain ⟨j,rfl⟩:=qh e0;have hj:j<(row w' p).length:=by omega
 have R2:=keep (.lst (j2.map V.int));have B2:=R2.row p a ha;refine ⟨a,_,_,_,rfl,rfl,aC.of B2,bS (gz (cC hj)),?_⟩;have yE:(row w' p)[j]∈row w' p:=kQ hj;generalize (row w' p)[j]=r at yE;have MT:Off (l::as) H (upd H l (.lst (j2.map V.int))):=Off.put (.inl bY);have Aa:upd H l (.lst (j2.map V.int)) l=some (.lst (j2.map V.int)):=ab;generalize upd H l (.lst (j2.map V.int))=H2 at R2 MT Aa;refine ⟨_,rfl,_,rfl,_,rfl,by show 2≤sizeLine;decide,λsd Ah=>?_⟩
 have ss:=av Ah (.tup [V.int (p:Int),V.int (r:Int)]);have R3:aE (upd H2 sd (.tup [V.int (p:Int),V.int (r:Int)])) T as w':=R2.off (S:= []) (Off.of_same ss) (by simp) (by simp)
 refine ⟨T,sd,as,w',(p,r),rfl,R3,g,cF,ab,yE,λF L k H4 sm4 E4 hF DZ hL hk hit vZ=>?_⟩;have Jk:az H2 H4:=ss.trans sm4;have R4:aE H4 T as w':=R2.off (S:= []) (Off.of_same Jk) (by simp) (by simp)
 have OD:=Jk _ _ Aa;have MV:Off (l::as) H H4:=MT.trans (Off.of_same Jk);have oi:aH w' (p,r):=yE;have kd:=vi g oi vZ;have dl:=iD g;have Nf:∀e∈L,aH w' e.2:=λe he=>oR g oi (k:=k) e.2 (by rw [←hL];exact bN.mpr ⟨e,he,rfl⟩)
 have aaa:L.length=k:=by have:=congrArg List.length hL;rw [aJ,dY] at this;exact this
 have nFl:F≠l:=λz=>by rw [z,ss _ _ Aa] at E4;cases E4
 have nFT:F≠T:=λz=>by rw [z,R3.top] at E4;cases E4
 have Ue:F∉as:=λz=>by
  obtain ⟨i,hi⟩:=f7 z;rw [R3.row i F hi] at E4;cases E4
 refine ⟨_,rfl,_,rfl,rJ (λ_=>?_) (λ_=>?_)⟩
 ·
  refine ⟨by show 0≤sizeLine;decide,λS hS=>?_⟩
  have Ui:S≠l:=λz=>by rw [z,OD] at hS;cases hS
  have Uh:S≠T:=λz=>by rw [z,R4.top] at hS;cases hS
  have MM:S∉as:=λz=>by
   obtain ⟨i,hi⟩:=f7 z;rw [R4.row i S hi] at hS;cases hS
  refine ⟨_,rfl,T,rfl,⟨_,(av hS _) _ _ R4.top⟩,wR (xs:=as.map V.ref) (λi σ H'=>∃(o6 o7:Option V)(L:List (Addr×(Nat×Nat))),σ= [some (.ref T),some (.ref l),some (.bl b),some (.int (p:Int)),some (.int (r:Int)),some (.ref S),o6,o7,none,none]∧az H4 H'∧H' S=some (.lst (L.map λe=>V.ref e.1))∧nZ H' L∧(∀e∈L,aH w' e.2)∧L.length≤i*14) ?_ ?_ ?_ ?_⟩
  ·exact ⟨_,_,[],rfl,av hS _,ab,(λe he=>by cases he),(λe he=>by cases he),cM _⟩
  ·rintro i σ H' _ ⟨o6,o7,L,rfl,sm,_⟩
   exact aC.of (sm _ _ R4.top)
  ·rintro i x t σ H5 hx ht ⟨o6,o7,L,rfl,F2,Oh,BX,Om,Hw⟩
   rw [dq] at hx;obtain ⟨ai,Fb,rfl⟩:=Option.map_eq_some_iff.mp hx;have hi:i<w'.length:=by rw [←R4.len];exact (b9.mp Fb).1
   refine ⟨t,_,rfl,dr.of ab,rfl,_,_,rfl,_,_,rfl,rfl,?_⟩;have s6:=av ht (.tup [V.int (i:Int),V.ref ai]);generalize upd H5 t (.tup [V.int (i:Int),V.ref ai])=H6 at s6;have yD:=s6 _ _ (F2 _ _ (R4.row i ai Fb));have Oi:=s6 _ _ Oh;have rli:=fm g i;refine ⟨_,rfl, .inl ⟨rfl,_,aC.of Oi⟩,_,rfl,ai,rfl,⟨_,aC.of yD⟩,λDd hD=>?_⟩;have KJ:S≠Dd:=ah Oi hD;refine yJ (aO (row w' i)).length (λj iT Hc=>∃(o:Option V)(M:List (Addr×(Nat×Nat))),iT= [o,some (.int (i:Int))]∧az H6 Hc∧Hc Dd=some (.lst (M.map λe=>V.ref e.1))∧nZ Hc M∧(∀e∈M,aH w' e.2)∧M.length≤j) ?_ ?_ ?_ ?_ ?_
   ·exact ⟨none,[],rfl,av hD _,ab,(λe he=>by cases he),(λe he=>by cases he),aU _⟩
   ·rintro j iT Hc hj ⟨o,M,rfl,wj,_⟩
    exact ⟨_,_,aC.of (wj _ _ yD),cC hj⟩
   ·rintro j iT Hc hj ⟨o,M,rfl,wj,_⟩
    exact ⟨_,aC.of (wj _ _ yD),hj⟩
   ·rintro j x iT Hc H7 hj ⟨o,M,rfl,wj,hM,BY,Oo,OF⟩ ⟨rfl,hx⟩
    obtain ⟨n,hn,rfl⟩:=qU (hx _ (aC.of (wj _ _ yD)));refine Hd ?_;refine ⟨_,rfl,_,rfl,by show 2≤sizeLine;decide,λtt v7=>?_⟩
    have s8:=av v7 (.tup [V.int (i:Int),V.int (n:Int)]);have MB:upd H7 tt (.tup [V.int (i:Int),V.int (n:Int)]) tt=some (.tup (fS (i,n))):=ab;generalize upd H7 tt (.tup [V.int (i:Int),V.int (n:Int)])=H8 at s8 MB;have ntD:tt≠Dd:=λz=>by rw [z,hM] at v7;cases v7
    refine ⟨_,s8 _ _ hM,mI (by rw [aJ];exact OF) (bB (by rw [bD] at hj;omega)),_,M++ [(tt,(i,n))],rfl,λb u eb=>?_,?_,λe he=>?_,λe he=>?_,by simp;omega⟩
    ·rw [ae (ah eb hD)];exact s8 _ _ (wj _ _ eb)
    ·rw [ab,dB];rfl
    ·rcases cE.mp he with z|z
     ·have:=BY e z
      rw [ae (λy=>by rw [y,hM] at this;cases this)]
      exact s8 _ _ this
     ·have z':e=(tt,(i,n)):=by simpa using z
      rw [z',ae ntD];exact MB
    ·rcases cE.mp he with z|z
     ·exact Oo e z
     ·have z':e=(tt,(i,n)):=by simpa using z
      rw [z'];exact cS hn
   ·rintro iT Hc ⟨o,M,rfl,wj,hM,BY,Oo,OF⟩
    rw [bD] at OF;have RY:=wj _ _ Oi;refine ⟨S,Dd,_,_,rfl,rfl,RY,hM,small (by simp;omega),?_⟩
    refine ⟨_,_,L++M,rfl,λb u eb=>?_,?_,λe he=>?_,λe he=>?_,by simp;omega⟩
    ·rw [ae (ah eb hS)];exact wj _ _ (s6 _ _ (F2 _ _ eb))
    ·rw [ab,dB]
    ·have hh:Hc e.1=some (.tup (fS e.2)):=by
      rcases cE.mp he with z|z
      ·exact wj _ _ (s6 _ _ (BX e z))
      ·exact BY e z
     rw [ae (λy=>by rw [y,RY] at hh;cases hh)];exact hh
    ·rcases cE.mp he with z|z
     ·exact Om e z
     ·exact Oo e z
  ·rintro σ H5 ⟨o6,o7,L,rfl,F2,Oh,BX,Om,Hw⟩
   rw [aJ,R4.len] at Hw;exact rE p r S L j2 o6 o7 H5 (MV.trans (Off.of_same F2)) (R4.off (S:= []) (Off.of_same F2) (by simp) (by simp)) hp yE ⟨Oh,BX,Om,by omega⟩ (F2 _ _ OD) rF (by omega) Ui Uh MM
 ·exact rE p r F L j2 none none H4 MV R4 hp yE ⟨hF,DZ,Nf,by omega⟩ OD rF (by omega) nFl nFT Ue
end
abbrev AV:Stmt:=top 33
theorem aE.Vt{H H':Hp}{T:Addr}{as:List Addr}{w:W}(R:aE H T as w){k:Nat}{a:Addr}{r:List Nat}(hk:k<w.length)(na:a∉as)(naT:a≠T)(h:∀b,b∈as→H' b=H b)(eT:H' T=some (.lst ((as.set k a).map V.ref)))
  (e:H' a=some (.lst (aO r))):aE H' T (as.set k a) (w.set k r):=by
 have fe:k<as.length:=by rw [R.len];exact hk
 refine ⟨eT,?_,λz=>?_,by rw [gb,gb];exact R.len,λi b hb=>?_⟩
 ·unfold List.Nodup
  rw [vE];intro i j hi hj lt;rw [gb] at hi hj;rw [List.getElem_set,List.getElem_set];have pw:=vE.mp R.nod
  split
  ·split
   ·omega
   ·intro z;exact na (by rw [z];exact kQ hj)
  ·split
   ·intro z;exact na (by rw [←z];exact kQ hi)
   ·exact pw i j hi hj lt
 ·rcases List.mem_or_eq_of_mem_set z with z|z
  ·exact R.nT z
  ·exact naT z.symm
 ·rw [gK hk]
  rw [nX] at hb
  by_cases hi:k=i
  ·rw [if_pos hi,if_pos fe] at hb
   cases hb;rw [if_pos hi];exact e
  ·rw [if_neg hi] at hb
   rw [if_neg hi,h b (cS hb)];exact R.row i b hb
theorem HS{n k:Nat}(h:k<n):nA n (k:Int)=some k:=by
 unfold nA;rw [if_pos (by omega),if_pos (by omega),kP]
theorem JN(xs:List V)(b:Nat):f6 xs (some (b:Int)) none=xs.drop b:=by
 unfold f6;rw [HT.AU,HT.xE]
 by_cases h:b≤xs.length
 ·rw [Nat.min_eq_left h,nV (by rw [qk];exact aU _)]
 ·rw [Nat.min_eq_right (by omega),vG (aU _),vG (by omega)];simp
theorem JM(xs:List V)(b:Nat):f6 xs none (some (b:Int))=xs.take b:=by
 unfold f6;rw [HT.AU,HT.xE,List.drop_zero,Nat.sub_zero]
 by_cases h:b≤xs.length
 ·rw [Nat.min_eq_left h]
 ·rw [Nat.min_eq_right (by omega),nV (aU _),nV (by omega)]
theorem CN(r:List Nat)(b:Nat):(aO r).take b=aO (r.take b):=by unfold aO;rw [si]
theorem CM(r:List Nat)(b:Nat):(aO r).drop b=aO (r.drop b):=by unfold aO;rw [vK]
theorem FX(r s:List Nat):aO r++aO s=aO (r++s):=by unfold aO;rw [dB]
theorem FW{α:Type}(l:List α)(b:Nat):(l.drop b++l.take b).Perm l:=by
 have:=(Bj (l₁:=l.drop b) (l₂:=l.take b))
 rwa [jl] at this
structure Ord (ord:List Nat) (n:Nat):Prop where
 pm:ord.Perm (List.range n)
theorem Ord.len{ord:List Nat}{n:Nat}(o:Ord ord n):ord.length=n:=by rw [o.pm.length_eq,mJ]
theorem Ord.get{ord:List Nat}{n p:Nat}(o:Ord ord n)(h:p<n):ord[p]? =some (ord.getD p 0):=by
 rw [dJ,cC (by rw [o.len];exact h)];rfl
theorem Ord.into{ord:List Nat}{n p:Nat}(o:Ord ord n)(h:p<n):ord.getD p 0<n:=gd.mp (o.pm.mem_iff.mp (cS (o.get h)))
theorem Ord.inj{ord:List Nat}{n p q:Nat}(o:Ord ord n)(hp:p<n)(hq:q<n)(e:ord.getD p 0=ord.getD q 0):p=q:=by
 have nd:ord.Nodup:=o.pm.nodup_iff.mpr List.nodup_range;have h1:=o.get hp;rw [e] at h1;exact get_inj nd h1 (o.get hq)
theorem Ord.sur{ord:List Nat}{n y:Nat}(o:Ord ord n)(h:y<n):∃p,p<n∧ord.getD p 0=y:=by
 have:=o.pm.mem_iff.mpr (gd.mpr h)
 obtain ⟨p,hp⟩:=f7 this;have lt:=(b9.mp hp).1;rw [o.len] at lt
 have:=o.get lt
 rw [hp] at this;exact ⟨p,lt,(Option.some.inj this).symm⟩
structure Ni (H:Hp) (T:Addr) (as:List Addr) (w:W):Prop where
 top:H T=some (.lst (as.map V.ref))
 len:as.length=w.length
 row:∀(i:Nat) a,as[i]? =some a→H a=some (.lst (aO (Wb.row w i)))
def Js:Sp:=λvs H Q _=>∃(T O l:Addr)(as:List Addr)(w:W)(ord:List Nat)(ns:List Int),vs= [.ref T, .ref O, .ref l]∧Ni H T as w∧Good w∧w.length≤14∧H O=some (.lst (aO ord))∧Ord ord w.length∧H l=some (.lst (ns.map V.int))∧ns≠ []∧ns.length≤2∧l≠T∧l∉as∧l≠O∧
 ∀(F:Addr)(fs:List Addr)(w':W)(H':Hp),Off [l] H H'→H F=none→(∀a∈fs,H a=none)→aE H' F fs w'→Good w'→w'.length=w.length→gk w'=gk w→(∀p,p<w.length→∃b,row w' (ord.getD p 0)=((row w p).map λx=>ord.getD x 0).drop b++((row w p).map λx=>ord.getD x 0).take b)→Q (.ref F) H'
section
variable {P:Program} {w:World} {K:PySem.W.Frag} {mg:Str→Option Value} {base:Heap}
theorem Jh:aI ["_law_turns","_law_order","_law_left","_law_found","_law_p","_law_turn","_law_begin","_law_names"] ["_law_turns","_law_order","_law_left"] (ao AV):=⟨rfl,rfl,rfl,by decide+kernel,rfl,by decide+kernel,by decide+kernel⟩
theorem D4(B:vN mg)(Tk:bM K mg "_law_take" qW ["_law_left","_law_many"])(D:bM K mg "_law_renamed" AV ["_law_turns","_law_order","_law_left"]):FnOk P w K mg base bQ 2 D.f D.fd ["_law_turns","_law_order","_law_left"] Js:=by
 refine D.F.ok Jh (λvs H Q E h=>?_) (λbp A outer s H vs Q E hr h=>?_)
 ·obtain ⟨T,O,l,as,w,ord,ns,rfl,_⟩:=h
  rfl
 obtain ⟨T,O,l,as,w',ord,ns,rfl,R,g,cF,hO,od,hl,fg,hz,sF,jG,Um,q⟩:=h;have nd:=Jh.nd;have Pf:(["_law_turn"]:List Str).Nodup:=by decide+kernel
 have Ik:(["_law_q","_law_order"]:List Str).Nodup:=by decide+kernel
 have gT:=lU (P:=P) (w:=w) (base:=base) B Tk
 refine ⟨_,aB (jR (i:=3) (NC:= ["_law_turn"]) (src:= [none]) rfl nd rfl (Or.inl rfl) (bb.of (ao AV) rfl rfl (by decide+kernel) (by decide+kernel) (by decide+kernel)) trivial (jQ (pv 0))
    (λ_ _ _=>bI (i:=0) Pf rfl (Or.inl rfl)) (λ_ _ _=>pU) (λ_ _ _=>dH ar) rfl)
  (aB (h8 PassesOwn.never rfl (uP rfl B.enumerate (aa (pv 0) ar)) (m8 rfl (dW (bI (i:=4) nd rfl (Or.inl rfl)) (dW (bI (i:=5) nd rfl (Or.inl rfl)) jP)))
   (aB (bJ (i:=6) nd rfl (Or.inl rfl) (aP gT hr rfl Tk.m Tk.F.kp Tk.b .nil bA (aa (pv 2) (aa (bU fR (cp bP rfl B.len PySem.boot_len (aa (pv 5) ar)) aL) ar))))
   (aB (jR (i:=7) (NC:= ["_law_q","_law_order"]) (src:= [none,some 1]) rfl nd rfl (Or.inl rfl) (bb.of (ao AV) rfl rfl (by decide+kernel) (by decide+kernel) (by decide+kernel)) ⟨rfl,rfl,trivial⟩ (jQ (pv 5))
    (λ_ _ _=>bI (i:=0) Ik rfl (Or.inl rfl)) (λ_ _ _=>pU) (λ_ _ _=>cg (xb (K:=K)) (pv 1) (pv 0) (λ_ _=>rfl)) rfl)
   (aY (m9 (bU yX (m7 p9 (pv 7) (lW (pv 6)) uQ) (m7 p9 (pv 7) uQ (lW (pv 6)))) (yZ (pv 3) (cg bu (pv 1) (pv 4) (λ_ _=>rfl)) set_list))))))
  (aY (e7 (pv 3)))),?_⟩
 refine ⟨_,rfl,T,rfl,⟨_,aC.of R.top⟩,λF hF=>?_⟩;refine yJ (as.map V.ref).length (λi iT Hc=>∃(o:Option V)(fs:List Addr),iT= [o]∧az H Hc∧Hc F=some (.lst (fs.map V.ref))∧fs.Nodup∧F∉fs∧(∀a∈fs,H a=none∧Hc a=some (.lst []))∧fs.length=i) ?_ ?_ ?_ ?_ ?_
 ·exact ⟨none,[],rfl,av hF _,ab,jW,(by simp),(λa ha=>by cases ha),rfl⟩
 ·rintro i iT Hc hi ⟨o,fs,rfl,sm,_⟩
  exact ⟨_,_,aC.of (sm _ _ R.top),cC hi⟩
 ·rintro i iT Hc hi ⟨o,fs,rfl,sm,_⟩
  exact ⟨_,aC.of (sm _ _ R.top),hi⟩
 ·rintro i x iT Hc H3 hi ⟨o,fs,rfl,sm,hf,nf,nF,fr,hl⟩ ⟨rfl,hx⟩
  rw [aJ,R.len] at hi;refine Hd ?_;refine ⟨by show 0≤sizeLine;decide,λr fN=>?_⟩
  have Ph:r≠F:=λz=>by rw [z,hf] at fN;cases fN
  have MR:r∉fs:=λz=>by rw [(fr r z).2] at fN;cases fN
  refine ⟨_,by rw [ae (Ne.symm Ph)];exact hf,bB (by simp;omega),_,fs++ [r],rfl,λb u eb=>?_,?_,?_,?_,λa ha=>?_,by simp [hl]⟩
  ·rw [ae (ah eb hF),ae (ah (sm _ _ eb) fN)];exact sm _ _ eb
  ·rw [ab,dB];rfl
  ·rw [mK]
   exact ⟨nf,by simp,λx hx y hy z=>by
    have:y=r:=by simpa using hy
    rw [this] at z;rw [z] at hx;exact MR hx⟩
  ·intro z
   rcases cE.mp z with z|z
   ·exact nF z
   ·have:F=r:=by simpa using z
    exact Ph this.symm
  ·rcases cE.mp ha with z|z
   ·refine ⟨(fr a z).1,?_⟩
    rw [ae (λy=>nF (by rw [←y];exact z)),ae (λy=>MR (by rw [←y];exact z))]
    exact (fr a z).2
   ·have:a=r:=by simpa using z
    rw [this];exact ⟨sm.free fN,by rw [ae Ph,ab]⟩
 rintro iT H1 ⟨o,RL,rfl,CT,Yh,nf0,nF0,Ha,z8⟩;rw [aJ,R.len] at z8;have z9:=CT _ _ hl;have Pg:l≠F:=λz=>by rw [z,hF] at hl;cases hl
 have R1:aE H1 F RL (List.replicate w'.length []):=by
  refine ⟨Yh,nf0,nF0,by rw [z8,r6],λi a e=>?_⟩
  have hz:row (List.replicate w'.length []) i= []:=by
   unfold row;rw [dJ,Bg]
   split<;>rfl
  rw [hz];exact (Ha a (cS e)).2
 refine ⟨_,rfl,T,rfl,⟨_,CT _ _ R.top⟩,wR (xs:=as.map V.ref) (λi σ H'=>∃(o4 o5 o6 o7:Option V)(fs:List Addr)(w1:W)(ds:List Int),σ= [some (.ref T),some (.ref O),some (.ref l),some (.ref F),o4,o5,o6,o7]∧Off [l] H H'∧aE H' F fs w1∧(∀a∈fs,H a=none)∧w1.length=w'.length∧
   (∀p,p<i→∃b,row w1 (ord.getD p 0)=((row w' p).map λx=>ord.getD x 0).drop b++((row w' p).map λx=>ord.getD x 0).take b)∧H' l=some (.lst (ds.map V.int))∧ds≠ []∧ds.length≤2) ?_ ?_ ?_ ?_⟩
 ·exact ⟨_,_,_,_,RL,_,ns,rfl,Off.of_same CT,R1,λa ha=>(Ha a ha).1,r6,(λp hp=>by omega),z9,fg,hz⟩
 ·rintro i σ H' _ ⟨o4,o5,o6,o7,fs,w1,ds,rfl,off,_⟩
  exact aC.of (off _ _ (by simpa using Ne.symm sF) R.top)
 ·rintro i x t σ H5 hx ht ⟨o4,o5,o6,o7,fs,w1,ds,rfl,off,R5,oe,kD,uT,Hw,Mx,Zu⟩
  rw [dq] at hx;obtain ⟨ai,Fb,rfl⟩:=Option.map_eq_some_iff.mp hx;have hi:i<w'.length:=by rw [←R.len];exact (b9.mp Fb).1
  have MO:l≠ai:=λz=>jG (by rw [z];exact cS Fb)
  have lJ:H5 ai=_:=off _ _ (by simpa using Ne.symm MO) (R.row i ai Fb)
  have BM:H5 O=_:=off _ _ (by simpa using Ne.symm Um) hO
  refine ⟨t,_,rfl,dr.of ab,rfl,_,_,rfl,_,_,rfl,rfl,?_⟩;have s6:=av ht (.tup [V.int (i:Int),V.ref ai]);generalize upd H5 t (.tup [V.int (i:Int),V.ref ai])=H6 at s6;have rli:=fm g i;have Vz:=bD (row w' i);refine ⟨_,rfl,_,rfl,ai,_,rfl, .inl (aC.of (s6 _ _ lJ)),_,_,rfl,rfl,l,ds,_,rfl,s6 _ _ Hw,Mx,by omega,by omega,by omega,λdI nr d0 d1 nI HM=>?_⟩
  obtain ⟨b,rfl⟩:=qh d0;have Iy:Off [l] H (upd H6 l (.lst (nr.map V.int))):=(off.trans (Off.of_same s6)).trans (Off.put (.inl bY));have ug:upd H6 l (.lst (nr.map V.int)) l=some (.lst (nr.map V.int)):=ab;have Up:l∉fs:=λz=>by rw [oe l z] at hl;cases hl
  have R7:aE (upd H6 l (.lst (nr.map V.int))) F fs w1:=(R5.off (S:= []) (Off.of_same s6) (by simp) (by simp)).keep λb hb=>by
   refine ae λz=>?_
   rcases hb with hb|hb
   ·exact Pg (z.symm.trans hb)
   ·rw [z] at hb;exact Up hb
  have uk:upd H6 l (.lst (nr.map V.int)) ai=some (.lst (aO (row w' i))):=by rw [ae (Ne.symm MO)];exact s6 _ _ lJ
  have E7:upd H6 l (.lst (nr.map V.int)) O=some (.lst (aO ord)):=by rw [ae (Ne.symm Um)];exact s6 _ _ BM
  generalize upd H6 l (.lst (nr.map V.int))=H7 at Iy ug R7 uk E7;refine ⟨_,rfl,ai,rfl,⟨_,aC.of uk⟩,λNm RX=>?_⟩;refine yJ (aO (row w' i)).length (λj iT Hc=>∃(o:Option V),iT= [o,some (.ref O)]∧az H7 Hc∧Hc Nm=some (.lst (aO (((row w' i).take j).map λx=>ord.getD x 0)))) ?_ ?_ ?_ ?_ ?_
  ·exact ⟨none,rfl,av RX _,ab⟩
  ·rintro j iT Hc hj ⟨o,rfl,sm,_⟩
   exact ⟨_,_,aC.of (sm _ _ uk),cC hj⟩
  ·rintro j iT Hc hj ⟨o,rfl,sm,_⟩
   exact ⟨_,aC.of (sm _ _ uk),hj⟩
  ·rintro j x iT Hc H8 hj ⟨o,rfl,sm,hN⟩ ⟨rfl,hx⟩
   obtain ⟨n,hn,rfl⟩:=qU (hx _ (aC.of (sm _ _ uk)));have OJ:n<w'.length:=g.rng _ _ (cS hn);refine Hd ?_;refine ⟨_,rfl,_,rfl,O,_,_,_,rfl,rfl,aC.of (sm _ _ E7),bS (gz (od.get OJ)),?_⟩;refine ⟨_,hN,mI (by rw [bD,aJ,jn];exact Nat.min_le_right _ _) (bB (by omega)),_,rfl,λb u eb=>?_,?_⟩
   ·rw [ae (ah eb RX)];exact sm _ _ eb
   ·obtain ⟨br,hg⟩:=b9.mp hn
    rw [ab,List.take_succ_eq_append_getElem br,hg,dB];unfold aO;rw [dB];rfl
  rintro iT H8 ⟨o,rfl,VX,J8⟩;rw [Vz,List.take_length] at J8;generalize SO:((row w' i).map λx=>ord.getD x 0)=nm at J8;have nml:nm.length≤14:=by rw [←SO,aJ];omega
  refine ⟨_,rfl,_,rfl,_,rfl,Nm,_,rfl,aC.of J8,λc1 Yw=>?_⟩;rw [JN,CM];have s9:=av Yw (.lst (aO (nm.drop b)));have e9:upd H8 c1 (.lst (aO (nm.drop b))) c1=_:=ab;generalize upd H8 c1 (.lst (aO (nm.drop b)))=H9 at s9 e9;refine ⟨_,rfl,_,rfl,_,rfl,Nm,_,rfl,aC.of (s9 _ _ J8),λc2 vU=>?_⟩;rw [JM,CN];have y4:=av vU (.lst (aO (nm.take b)));have RB:upd H9 c2 (.lst (aO (nm.take b))) c2=_:=ab;generalize upd H9 c2 (.lst (aO (nm.take b)))=x9 at y4 RB;refine ⟨c1,c2,_,_,rfl,rfl,y4 _ _ e9,RB,small (by rw [bD,bD,qk,jn];omega),λc3 R0=>?_⟩
  rw [FX];have CO:=av R0 (.lst (aO (nm.drop b++nm.take b)));have RC:upd x9 c3 (.lst (aO (nm.drop b++nm.take b))) c3=_:=ab;have rB:x9 c3=none:=R0;generalize upd x9 c3 (.lst (aO (nm.drop b++nm.take b)))=Ez at CO RC;have Ed:az H7 Ez:=VX.trans (s9.trans (y4.trans CO));have Ec:az H7 x9:=VX.trans (s9.trans y4);have Nh:aE Ez F fs w1:=R7.off (S:= []) (Off.of_same Ed) (by simp) (by simp)
  have OK:=od.into hi;have lfs:(fs.map V.ref).length=w'.length:=by rw [aJ,R7.len,kD]
  refine ⟨_,rfl,_,rfl,_,rfl,O,_,_,_,rfl,rfl,aC.of (Ed _ _ E7),bS (gz (od.get hi)),F,_,_,ord.getD i 0,rfl,rfl,Nh.top,by rw [lfs];exact HS OK,?_⟩
  have MN:c3≠F:=λz=>by rw [z,Ec _ _ R7.top] at rB;cases rB
  have Pe:c3∉fs:=λz=>by
   obtain ⟨k,hk⟩:=f7 z;rw [Ec _ _ (R7.row k c3 hk)] at rB;cases rB
  have Sa:H c3=none:=by
   cases e:H c3 with
   |none=>rfl
   |some u=>
    by_cases z:c3=l
    ·rw [z,Ec _ _ ug] at rB;cases rB
    ·rw [Ec _ _ (Iy _ _ (by simpa using z) e)] at rB;cases rB
  have aam:l≠F:=Pg;refine ⟨_,_,_,_,fs.set (ord.getD i 0) c3,w1.set (ord.getD i 0) (nm.drop b++nm.take b),nr,rfl,?_,?_,λa ha=>?_,by rw [gb];exact kD,λp hp=>?_,?_,nI,by omega⟩
  ·exact λb u hb eb=>by rw [ae (ah eb hF)];exact Ed _ _ (Iy b u hb eb)
  ·refine Nh.Vt (by rw [kD];exact OK) Pe MN (λb hb=>ae λz=>Nh.nT (by rw [←z];exact hb)) ?_ ?_
   ·rw [ab,List.map_set]
   ·rw [ae MN];exact RC
  ·rcases List.mem_or_eq_of_mem_set ha with z|z
   ·exact oe a z
   ·rw [z];exact Sa
  ·rw [gK (by rw [kD];exact OK)]
   by_cases e:p=i
   ·subst e
    rw [if_pos rfl,SO];exact ⟨b,rfl⟩
   ·rw [if_neg (λz=>e (od.inj (by omega) hi z.symm))]
    exact uT p (by omega)
  ·rw [ae Pg];exact Ed _ _ ug
 ·rintro σ H5 ⟨o4,o5,o6,o7,fs,w1,ds,rfl,off,R5,oe,kD,uT,Hw,Mx,Zu⟩
  rw [aJ,R.len] at uT
  have Lb:∀p,p<w'.length→(row w1 (ord.getD p 0)).Perm ((row w' p).map λx=>ord.getD x 0):=λp hp=>by
   obtain ⟨b,e⟩:=uT p hp;rw [e];exact FW _ b
  exact ⟨_,rfl,q F fs w1 H5 off hF oe R5 (E1 g kD (λp hp=>od.into hp) (λp q hp hq e=>od.inj hp hq e) (λy hy=>od.sur hy) λp hp=>Lb p hp) kD (GJ kD od.pm λp hp=>Lb p hp) uT⟩
end
abbrev Jg:Stmt:=top 34
theorem boot_int:bootBuiltins "int"=some (.type "int"):=by decide+kernel
def LD(K:PySem.W.Frag):Sp:=λvs H Q _=>∃(a:Addr)(ns:List Int)(m:Int)(b:Bool),vs= [.ref a, .int m, .bl b]∧aC K H a (ns.map V.int)∧ns.length≤63∧1≤m∧m≤14∧
 ∀(F:Addr)(fs:List Addr)(w':W)(H':Hp),az H H'→H F=none→(∀a∈fs,H a=none)→aE H' F fs w'→Good w'→1≤w'.length→(w'.length:Int)≤m→gk w'≤102→Q (.ref F) H'
section
variable {P:Program} {w:World} {K:PySem.W.Frag} {mg:Str→Option Value} {base:Heap}
theorem Eh:aI ["_law_script","_law_most","_law_plane","_law_left","_law_many","_law_turns","_law_order","_law_k","_law_at"] ["_law_script","_law_most","_law_plane"] (ao Jg):=⟨rfl,rfl,rfl,by decide+kernel,rfl,by decide+kernel,by decide+kernel⟩
theorem IC(B:vN mg)(Ce:bM K mg "_law_cell" uV ["_law_script","_law_k"])(Mi:bM K mg "_law_mixed" td ["_law_script","_law_turn"])(Di:bM K mg "_law_digits" uW ["_law_script","_law_at"])(Tk:bM K mg "_law_take" qW ["_law_left","_law_many"])
  (Tr:bM K mg "_law_tree" CP ["_law_many","_law_left"]) (Nx:bM K mg "_law_next" uX ["_law_turns","_law_side"]) (Rd:bM K mg "_law_round" tj ["_law_turns","_law_side"]) (Ti:bM K mg "_law_tie" uY ["_law_turns","_law_left","_law_plane"]) (Re:bM K mg "_law_renamed" AV ["_law_turns","_law_order","_law_left"])
  (D:bM K mg "_law_web" Jg ["_law_script","_law_most","_law_plane"]):FnOk P w K mg base bQ 4 D.f D.fd ["_law_script","_law_most","_law_plane"] (LD K):=by
 refine D.F.ok Eh (λvs H Q E h=>?_) (λbp A outer s H vs Q E hr h=>?_)
 ·obtain ⟨a,ns,m,b,rfl,_⟩:=h
  rfl
 obtain ⟨a,ns,m,b,rfl,hS,j4,m1,Fw,q⟩:=h;have nd:=Eh.nd;have gD:=oG (P:=P) (w:=w) (base:=base) B Ce Mi Di;have gT:=(lU (P:=P) (w:=w) (base:=base) B Tk).mono (show 1≤3 by decide)
 have X9:=(IB (P:=P) (w:=w) (base:=base) B Tk Tr).mono (show 2≤3 by decide)
 have X8:=KU (P:=P) (w:=w) (base:=base) B Tk Nx Rd Ti;have X7:=(D4 (P:=P) (w:=w) (base:=base) B Tk Re).mono (show 2≤3 by decide)
 refine ⟨_,aB (bJ (i:=3) nd rfl (Or.inl rfl) (aP gD hr rfl Di.m Di.F.kp Di.b .nil bA (aa (pv 0) (aa aL ar))))
  (aB (bJ (i:=4) nd rfl (Or.inl rfl) (bU fR aL (aP gT hr rfl Tk.m Tk.F.kp Tk.b .nil bA (aa (pv 3) (aa (pv 1) ar)))))
  (aB (bJ (i:=5) nd rfl (Or.inl rfl) (aP X9 hr rfl Tr.m Tr.F.kp Tr.b .nil bA (aa (pv 4) (aa (pv 3) ar))))
  (aB (bJ (i:=6) nd rfl (Or.inl rfl) (dH ar))
  (aB (h8 PassesOwn.never rfl (iL rfl B.range (aa (pv 4) ar)) (bI (i:=7) nd rfl (Or.inl rfl))
   (aY (dh (fh PySem.F.plainAttrs_list PySem.F.slot_list_insert PySem.F.type_list_insert iJ (pv 6) (aa (aP gT hr rfl Tk.m Tk.F.kp Tk.b .nil bA (aa (pv 3) (aa (bU fR (pv 7) aL) ar))) (aa (pv 7) ar))))))
  (aB (h8 PassesOwn.never rfl (jQ (dH (aa aL (aa aL ar)))) (bI (i:=8) nd rfl (Or.inl rfl))
   (aB (bJ (i:=3) nd rfl (Or.inl rfl) (aP gD hr rfl Di.m Di.F.kp Di.b .nil bA (aa (pv 0) (aa (pv 8) ar))))
   (aY (h8 PassesOwn.never rfl (iL rfl B.range (aa (bU m6 (aP gT hr rfl Tk.m Tk.F.kp Tk.b .nil bA (aa (pv 3) (aa aL ar))) (uO Br rfl B.int boot_int (aa (AI IG (pv 4) aL (bF _)) ar))) ar)) (bI (i:=7) nd rfl (Or.inl rfl))
    (aY (dh (aP X8 hr rfl Ti.m Ti.F.kp Ti.b .nil bA (aa (pv 5) (aa (pv 3) (aa (pv 2) ar))))))))))
  (aY (e7 (aP X7 hr rfl Re.m Re.F.kp Re.b .nil bA (aa (pv 5) (aa (pv 6) (aa (aP gD hr rfl Di.m Di.F.kp Di.b .nil bA (aa (pv 0) (aa aL ar))) ar))))))))))),?_⟩
 refine ⟨_,rfl,a,ns,1,rfl,hS,j4,by decide,by decide,λl ds H1 s1 z8 z9 fg hz=>?_⟩
 refine ⟨_,rfl,_,rfl,l,ds,m,rfl,z9,fg,by omega,by omega,by omega,λdI nr d0 d1 nI HM=>?_⟩
 refine ⟨_,_,rfl,rfl,?_⟩;obtain ⟨d,rfl⟩:=qh d0;have em:(1:Int)+(d:Int)=((d+1:Nat):Int):=by omega
 show ud 4 (V.int (1+(d:Int))) _ _ _;rw [em];have hm:((d+1:Nat):Int)≤m:=by omega
 generalize d+1=n at hm em;have Ke:1≤n:=by omega
 refine ⟨_,rfl,_,rfl,l,nr,n,rfl,ab,nI,by omega,Ke,by omega,λT as w0 j2 H2 off Hm Ha R2 g0 len0 Aa rF Kn dg0=>?_⟩
 have sF:l≠T:=λz=>by rw [←z,ab] at Hm;cases Hm
 have jG:l∉as:=λz=>by have:=Ha l z;rw [ab] at this;cases this
 have s2:az H H2:=λb u eb=>off b u (by simpa using ah eb z8) (by rw [ae (ah eb z8)];exact s1 b u eb)
 have hTH:H T=none:=by
  cases e:H T with
  |none=>rfl
  |some u=>rw [ae (Ne.symm sF),s1 _ _ e] at Hm;cases Hm
 have X3:∀x∈as,H x=none:=λx hx=>by
  cases e:H x with
  |none=>rfl
  |some u=>
   have:=Ha x hx
   rw [ae (λz=>jG (by rw [←z];exact hx)),s1 _ _ e] at this;cases this
 refine ⟨by show 0≤sizeLine;decide,λO hO=>?_⟩
 have Pc:l≠O:=ah Aa hO;have nOT:T≠O:=ah R2.top hO
 have ML:O∉as:=λz=>by
  obtain ⟨k,hk⟩:=f7 z;rw [R2.row k O hk] at hO;cases hO
 have Yl:H O=none:=s2.free hO;refine ⟨_,rfl,(n:Int),rfl,by omega,by omega,j3 (n:=((n:Int)).toNat) (λi σ H'=>∃(ord:List Nat)(ds:List Int)(o7:Option V),σ= [some (.ref a),some (.int m),some (.bl b),some (.ref l),some (.int (n:Int)),some (.ref T),some (.ref O),o7,none]∧az H H'∧aE H' T as w0∧H' O=some (.lst (aO ord))∧ord.Perm (List.range i)∧H' l=some (.lst (ds.map V.int))∧ds≠ []∧ds.length≤2) ?_ ?_ ?_⟩
 ·refine ⟨[],j2,none,rfl,s2.trans (av hO _),R2.off (S:= []) (Off.of_same (av hO _)) (by simp) (by simp),ab,List.Perm.refl _,?_,rF,Kn⟩
  rw [ae Pc];exact Aa
 ·rintro i σ H3 hi ⟨ord,NU,o7,rfl,s3,R3,Hk,CF,Fj,Mw,Zt⟩
  rw [kP] at hi;have lo:ord.length=i:=by rw [CF.length_eq,mJ]
  have Km:(0:Int)+(i:Int)=(i:Int):=by omega
  refine ⟨_,rfl, .inl ⟨rfl,_,aC.of Hk⟩,_,rfl,_,rfl,_,_,rfl,rfl,l,NU,_,rfl,Fj,Mw,by omega,by omega,by omega,λeI Ry e0 e1 SK hz4=>?_⟩
  obtain ⟨e,rfl⟩:=qh e0;have Yk:upd H3 l (.lst (Ry.map V.int)) O=some (.lst (aO ord)):=by rw [ae (Ne.symm Pc)];exact Hk
  refine ⟨_,rfl,O,_,_,_,rfl,rfl,Yk,by omega,by rw [bD];omega,mI (by rw [bD];exact Nat.le_of_eq lo) (bB (by omega)),?_⟩
  rw [Km,kP,←ng];refine ⟨ins ord e i,Ry,_,rfl,λb u eb=>?_,?_,ab,?_,?_,SK,by omega⟩
  ·rw [ae (ah eb Yl),ae (ah eb z8)];exact s3 b u eb
  ·refine R3.keep λb hb=>?_
   rw [ae (λz=>?_),ae (λz=>?_)]
   ·rcases hb with hb|hb
    ·exact sF (z.symm.trans hb)
    ·rw [z] at hb;exact jG hb
   ·rcases hb with hb|hb
    ·exact nOT (hb.symm.trans z)
    ·rw [z] at hb;exact ML hb
  ·refine (il ord e i).trans ?_
   rw [List.range_succ];refine (List.Perm.cons i CF).trans ?_;exact (List.perm_append_singleton i (List.range i)).symm
  ·rw [ae Pc,ab]
 rintro σ H3 ⟨ord,NU,o7,rfl,s3,R3,Hk,CF,Fj,Mw,Zt⟩;rw [kP] at CF;have od:Ord ord n:=⟨CF⟩;refine ⟨by show 2≤sizeLine;decide,λLx E6=>?_⟩
 have s4:=av E6 (.lst [V.int 2,V.int 3]);have e4:upd H3 Lx (.lst [V.int 2,V.int 3]) Lx=some (.lst [V.int 2,V.int 3]):=ab;have nLT:Lx≠T:=Ne.symm (ah R3.top E6);have nLO:Lx≠O:=Ne.symm (ah Hk E6)
 have Ug:Lx∉as:=λz=>by
  obtain ⟨k,hk⟩:=f7 z;rw [R3.row k Lx hk] at E6;cases E6
 have hLH:H Lx=none:=s3.free E6;generalize upd H3 Lx (.lst [V.int 2,V.int 3])=H4 at s4 e4;have R4:aE H4 T as w0:=R3.off (S:= []) (Off.of_same s4) (by simp) (by simp)
 refine ⟨Lx,rfl,⟨_,aC.of e4⟩,EW (K:=K) (a:=Lx) (xs:= [V.int 2,V.int 3]) (λi σ H'=>∃(l':Addr)(w1:W)(o7 o8:Option V),σ= [some (.ref a),some (.int m),some (.bl b),some (.ref l'),some (.int (n:Int)),some (.ref T),some (.ref O),o7,o8]∧az H H'∧aE H' T as w1∧Good w1∧w1.length=n∧H' O=some (.lst (aO ord))∧H' Lx=some (.lst [V.int 2,V.int 3])∧gk w1≤26+38*i) ?_ ?_ ?_ ?_⟩
 ·exact ⟨l,w0,o7,none,rfl,s3.trans s4,R4,g0,len0,s4 _ _ Hk,e4,by omega⟩
 ·rintro i σ H' _ ⟨l',w1,o7,o8,rfl,_,_,_,_,_,hL,_⟩
  exact aC.of hL
 ·rintro i x σ H5 hx ⟨l',w1,o7,o8,rfl,s5,R5,g5,kD,BM,Od,Ru⟩
  obtain ⟨k,sD,sE,rfl⟩:∃k:Int,0≤k∧k≤100∧x= .int k:=by
   match i,hx with
   |0,hx=>cases hx;exact ⟨2,by decide,by decide,rfl⟩
   |1,hx=>cases hx;exact ⟨3,by decide,by decide,rfl⟩
   |n+2,hx=>simp at hx
  refine ⟨_,rfl,_,rfl,a,ns,k,rfl,s5.seq hS,j4,sD,sE,λl2 NV H6 s6 gH OE Hz Tg=>?_⟩;have Ub:l2≠T:=λz=>by rw [z,R5.top] at gH;cases gH
  have MK:l2∉as:=λz=>by
   obtain ⟨k,hk⟩:=f7 z;rw [R5.row k l2 hk] at gH;cases gH
  have Ua:l2≠O:=λz=>by rw [z,BM] at gH;cases gH
  have T9:l2≠Lx:=λz=>by rw [z,Od] at gH;cases gH
  have RO:H l2=none:=s5.free gH;refine ⟨_,rfl,l2,NV,20,rfl,OE,Hz,by omega,by decide,by decide,λcI zT c0 c1 SM hz7=>?_⟩
  refine ⟨_,rfl,_,_,rfl,rfl, .inr ⟨_,rfl,?_⟩⟩;obtain ⟨c,rfl⟩:=qh c0
  have R7:aE (upd H6 l2 (.lst (zT.map V.int))) T as w1:=(R5.off (S:= []) (Off.of_same s6) (by simp) (by simp)).keep λb hb=>by
   refine ae λz=>?_
   rcases hb with hb|hb
   ·exact Ub (z.symm.trans hb)
   ·rw [z] at hb;exact MK hb
  have s7:az H (upd H6 l2 (.lst (zT.map V.int))):=λb u eb=>by rw [ae (ah eb RO)];exact s6 _ _ (s5 b u eb)
  have E7:upd H6 l2 (.lst (zT.map V.int)) O=some (.lst (aO ord)):=by rw [ae (Ne.symm Ua)];exact s6 _ _ BM
  have RW:upd H6 l2 (.lst (zT.map V.int)) Lx=some (.lst [V.int 2,V.int 3]):=by rw [ae (Ne.symm T9)];exact s6 _ _ Od
  have ug:upd H6 l2 (.lst (zT.map V.int)) l2=some (.lst (zT.map V.int)):=ab;generalize upd H6 l2 (.lst (zT.map V.int))=H7 at R7 s7 E7 RW ug;refine ⟨_,_,rfl,rfl, .inl ⟨by omega,by omega⟩,?_⟩
  have Sf:∃N:Nat,(c:Int)*(if decide ((1:Int)<(n:Int))=true then 1 else 0)=(N:Int)∧N<20∧(0<N→2≤n):=by
   by_cases hn:(1:Int)<(n:Int)
   ·rw [decide_eq_true hn,if_pos rfl]
    exact ⟨c,by omega,by omega,λ_=>by omega⟩
   ·rw [decide_eq_false hn,if_neg (by decide)]
    exact ⟨0,by omega,by omega,λh=>by omega⟩
  obtain ⟨N,eN,N20,N2⟩:=Sf;refine ⟨(N:Int),congrArg (λz=> [V.int z]) eN,by omega,by omega,j3 (n:=((N:Int)).toNat) (λj σ H'=>∃(w2:W)(ds:List Int)(o7 o8:Option V),σ= [some (.ref a),some (.int m),some (.bl b),some (.ref l2),some (.int (n:Int)),some (.ref T),some (.ref O),o7,o8]∧az H H'∧aE H' T as w2∧Good w2∧w2.length=n∧H' O=some (.lst (aO ord))∧H' Lx=some (.lst [V.int 2,V.int 3])∧H' l2=some (.lst (ds.map V.int))∧ds≠ []∧ds.length≤2∧gk w2≤gk w1+2*j) ?_ ?_ ?_⟩
  ·exact ⟨w1,zT,_,_,rfl,s7,R7,g5,kD,E7,RW,ug,SM,by omega,by omega⟩
  ·rintro j σ H8 hj ⟨w2,Rz,o7,o8,rfl,s8,R8,g8,MD,Og,Oe,Sz,My,Th,Rx⟩
   rw [kP] at hj;have n2:=N2 (by omega)
   refine ⟨_,rfl,_,rfl,_,rfl,T,l2,b,as,w2,Rz,rfl,R8,g8,by omega,by omega,Sz,My,Th,Ub,MK,λw3 XO H9 Iz R9 g9 aak YX SN Zv dg9=>?_⟩
   refine ⟨w3,XO,_,_,rfl,λb u eb=>Iz b u (λz=>?_) (s8 b u eb),R9,g9,by omega,Iz _ _ (λz=>?_) Og,Iz _ _ (λz=>?_) Oe,YX,SN,Zv,by omega⟩
   ·rcases ck.mp z with z|z
    ·rw [z,RO] at eb;cases eb
    ·rw [X3 b z] at eb;cases eb
   ·rcases ck.mp z with z|z
    ·exact Ua z.symm
    ·exact ML z
   ·rcases ck.mp z with z|z
    ·exact T9 z.symm
    ·exact Ug z
  ·rintro σ H8 ⟨w2,Rz,o7,o8,rfl,s8,R8,g8,MD,Og,Oe,Sz,My,Th,Rx⟩
   rw [kP] at Rx;exact ⟨l2,w2,o7,o8,rfl,s8,R8,g8,MD,Og,Oe,by omega⟩
 ·rintro σ H5 ⟨l',w1,o7,o8,rfl,s5,R5,g5,kD,BM,Od,Ru⟩
  refine ⟨_,rfl,_,rfl,_,rfl,a,ns,4,rfl,s5.seq hS,j4,by decide,by decide,λl4 NV H6 s6 gH OE Hz Tg=>?_⟩
  have n4T:l4≠T:=λz=>by rw [z,R5.top] at gH;cases gH
  have Uc:l4∉as:=λz=>by
   obtain ⟨k,hk⟩:=f7 z;rw [R5.row k l4 hk] at gH;cases gH
  have n4O:l4≠O:=λz=>by rw [z,BM] at gH;cases gH
  have Ye:H l4=none:=s5.free gH;have PF:=s5.trans s6;refine ⟨T,O,l4,as,w1,ord,NV,rfl,(let Q5:=R5.off (S:= []) (Off.of_same s6) (by simp) (by simp);⟨Q5.top,Q5.len,Q5.row⟩),g5,by omega,s6 _ _ BM,by rw [kD];exact od,OE,Hz,Tg,n4T,Uc,n4O,λF fs w' H' off hF fr R' g' aaj XI _=>?_⟩
  refine q F fs w' H' (λb u eb=>off b u (by simpa using ah eb Ye) (PF b u eb)) (PF.free hF) (λx hx=>PF.free (fr x hx)) R' g' (by omega) (by omega) (by rw [XI];simp at Ru;omega)
end
end jX
namespace Bm
open PySem L2 Wb
variable {P:Program} {w:World} {mg:Str→Option Value} {base:Heap} {Z:DC} (T:Txt Z mg)
theorem y2{Z:DC}{G:Hp}:∀(fs:List Addr)(w:W),fs.length=w.length→(∀(i:Nat) a,fs[i]? =some a→G a=some (.lst (jX.aO (row w i))))→aq Z G (fs.map V.ref) (w.map aD)
 | [],[],_,_=> .nil
 | [],_::_,h,_=>by cases h
 |_::_,[],h,_=>by cases h
 |a::fs,r::w,h,k=>by
  refine .cons ?_ (y2 fs w (by simpa using h) λi b hb=>k (i+1) b (by simpa using hb))
  have h0:G a=some (.lst (jX.aO r)):=k 0 a rfl;refine Dv.lst h0 ?_;unfold jX.aO;clear h0 k h
  induction r with
  |nil=>exact .nil
  |cons x r ih=>exact .cons (.int _) ih
def LC:eF:=λds P=>∃(ns:List Int)(m:Nat)(b:Bool),ds= [.jA ns,ay m, .bl b]∧1≤m∧m≤14∧∀w,Good w→1≤w.length→w.length≤m→P (bG w)
theorem zH{Z:DC}{mg:Str→Option Value}(T:Txt Z mg):jX.vN mg:=⟨T.B.len,T.B.range,T.B.max,T.B.min,T.B.enumerate,T.B.zip,T.B.sorted,T.B.all,T.B.isinstance,T.B.int,T.B.bool,T.B.list,T.B.tuple⟩
theorem yV:FnOk P w Z.K mg base bQ 4 T.d__law_web.f T.d__law_web.fd ["_law_script","_law_most","_law_plane"] (aZ Z LC):=by
 refine (jX.IC (zH T) T.d__law_cell T.d__law_mixed T.d__law_digits T.d__law_take T.d__law_tree T.d__law_next T.d__law_round T.d__law_tie T.d__law_renamed T.d__law_web).imp ?_;rintro vs H Q E ⟨G,ds,P,s,dv,⟨ns,m,b,rfl,m1,Fw,hp⟩,q⟩;obtain ⟨v1,us,rfl,d1,dv⟩:=dv.sY;obtain ⟨v2,v3,rfl,d2,d3⟩:=dv.uJ;obtain ⟨a,rfl,hs,j4⟩:=d1.qO;obtain rfl:=d2.ofInt;obtain rfl:=d3.UY;refine ⟨a,ns,m,b,rfl,hs.mono s,j4,by omega,by omega,λF fs w' H' sm hF Ow R g l1 lm _=>?_⟩
 let Fc:Addr→Prop:=λb=>b=F∨b∈fs
 have F1:∀b,Fc b→H b=none:=λb hb=>by
  rcases hb with rfl|hb
  ·exact hF
  ·exact Ow b hb
 have nF:∀b o,H b=some o→¬Fc b:=λb o e z=>by rw [F1 b z] at e;cases e
 have x2:Ext G H (plus G H' Fc) H':=⟨λb o e=>by rw [cq (nF b o (s _ _ e))];exact e,λb o e=>by
  by_cases z:Fc b
  ·rw [dR z] at e;exact e
  ·rw [cq z] at e;exact sm _ _ (s _ _ e),sm,λb hb hg=>by
  rw [cq (λz=>hb (F1 b z))];exact hg⟩
 refine q _ (hp w' g l1 (by omega)) _ _ _ x2 (Dv.lst (xs:=fs.map V.ref) (by rw [dR (.inl rfl)];exact R.top) (y2 fs w' R.len λi a ha=>?_))
 rw [dR (.inr (cS ha))];exact R.row i a ha
def Jo:eF:=λds P=>∃(ns:List Int)(k:Nat),ds= [.jA ns,ay k]∧k≤100∧∀v:Int,P (.int v)
theorem we:FnOk P w Z.K mg base bQ 1 T.d__law_cell.f T.d__law_cell.fd ["_law_script","_law_k"] (aZ Z Jo):=by
 refine (jX.uK T.d__law_cell).imp ?_;rintro vs H Q E ⟨G,ds,P,s,dv,⟨ns,k,rfl,hk,hp⟩,q⟩;obtain ⟨v1,v2,rfl,d1,d2⟩:=dv.uJ;obtain ⟨a,rfl,hs,j4⟩:=d1.qO;obtain rfl:=d2.ofInt;refine ⟨a,ns,k,rfl,hs.mono s,j4,by omega,by omega,λv H' sm=>?_⟩
 exact q _ (hp v) _ G H' ⟨.refl _,s.trans sm,sm,λ_ _ z=>z⟩ (.int v)
variable {P:Program} {w:World} {mg:Str→Option Value} {base:Heap} {Z:DC} (T:Txt Z mg)
def ur(l:List Int):List D:=l.map D.int
def Lw:eF:=λds P=>∃(ns:List Int)(k:Nat),ds= [.jA ns,ay k]∧k≤100∧∀xs:List Int,xs≠ []→xs.length≤2→P (.lst (ur xs))
theorem qP:FnOk P w Z.K mg base bQ 3 T.d__law_digits.f T.d__law_digits.fd ["_law_script","_law_at"] (iI Z 1 Lw):=by
 refine (jX.oG (zH T) T.d__law_cell T.d__law_mixed T.d__law_digits).imp ?_;rintro vs H Q E ⟨G,ds,P,s,dv,⟨ns,k,rfl,hk,hp⟩,q⟩;obtain ⟨v1,v2,rfl,d1,d2⟩:=dv.uJ;obtain ⟨a,rfl,hs,j4⟩:=d1.qO;obtain rfl:=d2.ofInt;refine ⟨a,ns,k,rfl,hs.mono s,j4,by omega,by omega,λr xs H' sm hr h' fg hz=>?_⟩
 refine q _ (hp xs fg hz) (.ref r) [r] G H' ⟨.refl _,s.trans sm,sm,λ_ _ z=>z⟩ (.inl ⟨r,_,_,[],rfl,rfl,h',rfl,(aq.ints xs).own⟩) (by simp) λb hb=>?_
 have:b=r:=by simpa using hb
 subst this;exact ⟨hr,(by rw [h'];exact λz=>nomatch z),s.free hr⟩
section
variable {X:Cx} {md:List Nat}
def EF(md:List Nat)(i j:Nat)(tm te:aT):dD:=λE ρ=>∃(xs:List D)(ns:List Int),ρ[i]? =some (some (.lst xs))∧ρ[j]? =some (some (.lst (ur ns)))∧ns≠ []∧ns.length≤1000∧tm (A9 md false ρ) λm'=>∃m:Int,m'= .int m∧0<m∧m<1073741824∧
 ∀(d:Int)(lR:List Int),0≤d→d<m→lR≠ []→lR.length≤ns.length→te (A9 md false (ρ.set j (some (.lst (ur lR))))) λv=>(d≤xs.length∧xs.length<sizeLine)∧E.nx ((ρ.set j (some (.lst (ur lR)))).set i (some (.lst (Wb.ins xs d.toNat v))))
theorem zU(i j:Nat){x y f:Str}{px py p apos aN pos p2:Pos}{em e:Expr}{tm te:aT}{fa:Addr}{fd:FuncData}{rn k:Nat}{ps:List Str}(F:FnOk X.prog X.w X.K X.mg X.base bQ k fa fd ps jX.Ek)(hr:bO k X.A)(hg:Gl X f)(qD:X.mg f=some (.ref fa))(hk:PySem.W.keepIn X.K (.ref fa)=true)(hb:Binds X.K fd ps [])
  (hm:DE Z X em tm) (he:DE Z X e te) (ij:i≠j:=by decide) (SF:md.getD i 0=1:=by rfl) (Ae:md.getD j 0=1:=by rfl) (hi:X.N[i]? =some x:=by rfl) (hj:X.N[j]? =some y:=by rfl)
  (hv:sq X.env.scope x:=by first|exact Or.inl rfl|exact Or.inr (Or.inl rfl) |exact Or.inr (Or.inr rfl)) (Zj:sq X.env.scope y:=by first|exact Or.inl rfl|exact Or.inr (Or.inl rfl) |exact Or.inr (Or.inr rfl))
  (hd:(x==("__debug__":Str))=false:=by decide) (gq:(x==("__classdict__":Str))=false:=by decide) (YE:(y==("__debug__":Str))=false:=by decide) (Yy:(y==("__classdict__":Str))=false:=by decide) (gW:(f==("__debug__":Str))=false:=by decide)
  (dF:attributeBase (.Name x px) "insert" X.env (eval (.Name x px) X.env)=eval (.Name x px) X.env:=by rfl)
  (iG:((backTo aN (starEach [.Call (.Name f p) [.Name y py,em] [] p2,e] X.env)).all (λx=>!x.1)&&(backToKw aN (keywordEach [] X.env)).all (λx=>x.1.isSome)&&decide (([.Call (.Name f p) [.Name y py,em] [] p2,e]:List Expr).length+([]:List Keyword).length+(if ([]:List Keyword).isEmpty then 0 else 1)<30))=true:=by rfl)
  (cA:(apos.endLine==aN.line)=true:=by rfl) (hs:starEach [.Call (.Name f p) [.Name y py,em] [] p2,e] X.env=(false,eval (.Call (.Name f p) [.Name y py,em] [] p2) X.env)::starEach [e] X.env:=by rfl) (j5:starEach [e] X.env=(false,eval e X.env)::starEach [] X.env:=by rfl) (dG:(backTo aN (starEach [e] X.env)).any (·.1)=false:=by rfl)
  (SY:starEach [.Name y py,em] X.env=(false,eval (.Name y py) X.env)::starEach [em] X.env:=by rfl) (Zd:starEach [em] X.env=(false,eval em X.env)::starEach [] X.env:=by rfl) (cW:(backTo p2 (starEach [em] X.env)).any (·.1)=false:=by rfl)
  (qE:swapsWith (.Call (.Attribute (.Name x px) "insert" apos) [.Call (.Name f p) [.Name y py,em] [] p2,e] [] aN) none pos.line X.env=pure false:=by rfl):
  DSt Z X md rn (.Expr (.Call (.Attribute (.Name x px) "insert" apos) [.Call (.Name f p) [.Name y py,em] [] p2,e] [] aN) pos) (EF md i j tm te):=by
 refine (dh (fh PySem.F.plainAttrs_list PySem.F.slot_list_insert PySem.F.type_list_insert iJ (pv i hi hv hd gq) (aa (aP F hr hg qD hk hb .nil bA (aa (pv j hj Zj YE Yy) (aa hm ar Zd) SY) gW SY cW) (aa he ar j5) hs) dF iG cA hs dG) qE).imp ?_;rintro Dn σ H ⟨B,ρ,E,⟨G,fp,S⟩,⟨xs,ns,h1,h2,fg,hz,h⟩,M⟩;obtain ⟨l,xs0,_,_,e2,e3,_⟩:=S.one SF h1;obtain ⟨lj,xsj,dsj,ej1,RE,ej3,_⟩:=S.one Ae h2;refine ⟨_,e2,ty_list e3,_,RE,S.ev false h λm' Fl=>⟨trivial,λv G1 H1 S1 x1 dv=>?_⟩⟩;obtain ⟨m,rfl,m0,m1,h⟩:=Fl;cases dv;obtain ⟨lk,xk,dk,k1,k2,k3,XU,Vl⟩:=S1.one Ae h2;have k1:ns.map D.int=dk:=by cases k1;rfl
 subst k1;rw [RE] at k2;cases k2;obtain rfl:=lA XU;refine ⟨lj,ns,m,rfl,k3,fg,hz,m0,m1,λd lR d0 dm ne' l'=>?_⟩;have S2:=Vl (lR.map V.int) (lR.map D.int) (.ints lR);refine S2.ev false (h d lR d0 dm ne' l') λv hv=>⟨trivial,λu G3 H3 S3 x3 du=>?_⟩;obtain ⟨⟨z1,z2⟩,hn⟩:=hv;have J7:(ρ.set j (some (.lst (lR.map D.int))))[i]? =some (some (.lst xs)):=by rw [kO (Ne.symm ij)];exact h1
 obtain ⟨l3,xs3,NU,q1,q2,q3,bg,put⟩:=S3.one SF J7;cases q1;rw [e2] at q2;cases q2;exact ⟨l,xs3,d,u,rfl,rfl,q3,d0,by rw [bg.length];exact z1,by rw [bg.length];exact z2,M.nx _ hn _ _ ⟨G3,fp,put _ _ (bg.ins _ du)⟩⟩
def GD(i:Nat)(t:dD):dD:=λE ρ=>(∃d,ρ[i]? =some (some d))∧t {nx:=λ_=>False,rt:=E.rt} ρ
theorem zV(i:Nat){CW:List Stmt}{t:dD}(h:qp Z X (md.set i 0) 0 CW t):qp Z X md 0 CW (GD i t):=by
 refine jZ.imp h ?_;rintro Dn σ H ⟨B,ρ,E,⟨G,fp,S⟩,⟨⟨d,hd⟩,ht⟩,M⟩;obtain ⟨v,hv,dv,S'⟩:=S.Ll hd;refine ⟨B,ρ,_,⟨_,_,⟨S'.ex,S'.fl,S.len,λj c hj=>?_,S'.nd,S'.ap,S'.nw⟩⟩,ht,⟨λ_ z=>z.elim,M.rt,λ_ z=>z.elim,λ_ z=>z.elim⟩⟩
 by_cases e:j=i
 ·subst e
  rw [hd] at hj;cases hj;refine ⟨v,hv,?_⟩
  have:(md.set j 0).getD j 0=0:=by
   rw [dJ,nX]
   split<;>first| (split<;>rfl) |exact absurd rfl ‹_›
  rw [this,if_pos rfl];exact ⟨dv,rfl⟩
 ·obtain ⟨u,hu,ow⟩:=S'.at_ j c (by rw [kO (Ne.symm e)];exact hj)
  refine ⟨u,hu,?_⟩
  have:(md.set i 0).getD j 0=md.getD j 0:=by rw [dJ,dJ,kO (Ne.symm e)]
  rw [this];exact ow
end
def Q3(ta tb tc tk:aT):aT:=λρ P=>ta ρ λd1=>tb ρ λd2=>tc ρ λd3=>tk ρ λd4=>∃(w:W)(ord:List Nat)(ns:List Int)(k:Nat),d1=bG w∧d2=aD ord∧d3= .jA ns∧d4=ay k∧k≤100∧Good w∧w.length≤14∧ord.Perm (List.range w.length)∧
 ∀v,Good v→v.length=w.length→(∀p,p<w.length→∃b,row v (ord.getD p 0)=((row w p).map λx=>ord.getD x 0).drop b++((row w p).map λx=>ord.getD x 0).take b)→P (bG v)
theorem JW{X:Cx}{a b c k:Expr}{ta tb tc tk:aT}{p p2 pos fE:Pos}{f f2:Str}{fa N4:Addr}{fd RJ:FuncData}{ps Vk:List Str}(Fr:FnOk X.prog X.w X.K X.mg X.base bQ 2 fa fd ps jX.Js)(Fd:FnOk X.prog X.w X.K X.mg X.base bQ 3 N4 RJ Vk (jX.xH Z.K))(OM:bO 2 X.A)(Zb:bO 3 X.A)(hg:Gl X f)(qD:X.mg f=some (.ref fa))(sE:PySem.W.keepIn X.K (.ref fa)=true)(J9:Binds X.K fd ps [])
  (YL:Gl X f2) (SE:X.mg f2=some (.ref N4)) (YV:PySem.W.keepIn X.K (.ref N4)=true) (Ys:Binds X.K RJ Vk []) (ha:DE Z X a ta) (hb:DE Z X b tb) (hc:DE Z X c tc) (hk:DE Z X k tk) (eK:X.K=Z.K:=by rfl) (gW:(f==("__debug__":Str))=false:=by decide) (Sh:(f2==("__debug__":Str))=false:=by decide)
  (s1:starEach [a,b, .Call (.Name f2 p2) [c,k] [] fE] X.env=(false,eval a X.env)::starEach [b, .Call (.Name f2 p2) [c,k] [] fE] X.env:=by rfl) (s2:starEach [b, .Call (.Name f2 p2) [c,k] [] fE] X.env=(false,eval b X.env)::starEach [.Call (.Name f2 p2) [c,k] [] fE] X.env:=by rfl)
  (s3:starEach [.Call (.Name f2 p2) [c,k] [] fE] X.env=(false,eval (.Call (.Name f2 p2) [c,k] [] fE) X.env)::starEach [] X.env:=by rfl) (s4:starEach [c,k] X.env=(false,eval c X.env)::starEach [k] X.env:=by rfl) (s5:starEach [k] X.env=(false,eval k X.env)::starEach [] X.env:=by rfl)
  (l1:(backTo pos (starEach [b, .Call (.Name f2 p2) [c,k] [] fE] X.env)).any (·.1)=false:=by rfl) (l2:(backTo fE (starEach [k] X.env)).any (·.1)=false:=by rfl):
  DE Z X (.Call (.Name f p) [a,b, .Call (.Name f2 p2) [c,k] [] fE] [] pos) (Q3 ta tb tc tk):=by
 refine (aP Fr OM hg qD sE J9 .nil bA (aa ha (aa hb (aa (aP Fd Zb YL SE YV Ys .nil bA (aa hc (aa hk ar s5) s4) Sh s4 l2) ar s3) s2) s1) gW s1 l1).imp ?_;rintro σ H Q ⟨G,ρ,P,s,en,h,q⟩;refine ⟨G,ρ,_,s,en,h,λd1 h v1 G1 H1 x1 NW=>?_⟩;refine ⟨G1,ρ,_,x1.sub,en.mono x1.gg,h,λd2 h v2 G2 H2 x2 BE=>?_⟩;refine ⟨G2,ρ,_,x2.sub,en.mono (x1.trans x2).gg,h,λd3 h v3 G3 H3 x3 NX=>?_⟩;refine ⟨G3,ρ,_,x3.sub,en.mono ((x1.trans x2).trans x3).gg,h,λd4 h v4 G4 H4 x4 XR=>?_⟩;obtain ⟨w',ord,ns,n,rfl,rfl,rfl,rfl,aal,g,cF,od,hp⟩:=h;obtain ⟨sa,rfl,hs,j4⟩:=NX.qO;obtain rfl:=XR.ofInt;have x14:=((x1.trans x2).trans x3).trans x4;have Fw:az G1 H4:=((x2.trans x3).trans x4).gg.trans x4.sub;have T6:az G2 H4:=(x3.trans x4).gg.trans x4.sub;have m34:az G3 H4:=x4.gg.trans x4.sub;refine ⟨sa,ns,n,rfl,hs.mono m34,j4,by omega,by omega,λl xs H5 s5 z8 z9 fg hz=>?_⟩
 obtain ⟨T1,ys,rfl,hT,Zr⟩:=NW.km;obtain ⟨A,rfl,Hi,Hj⟩:=qz Zr;obtain ⟨O,rfl,hO⟩:=DP BE;have nl:∀b o,H4 b=some o→l≠b:=λb o e z=>by rw [←z,z8] at e;cases e
 have tv:∀r:List Nat,(fX r).map V.int=jX.aO r:=λr=>by unfold fX jX.aO;rw [bL];rfl
 have Yf:A.length=w'.length:=by rw [←Hi];simp
 refine ⟨T1,O,l,A.map (·.1),w',ord,xs,rfl,⟨?_,by rw [aJ];exact Yf,λi a ha=>?_⟩,g,cF,?_,⟨od⟩,z9,fg,hz,nl _ _ (Fw _ _ hT),λz=>?_,nl _ _ (T6 _ _ hO),λF fs v H6 off hF Ow R6 gv lv _ rows=>?_⟩
 ·rw [s5 _ _ (Fw _ _ hT),bL];rfl
 ·obtain ⟨e,he,rfl⟩:=eQ ha
  have h1:=Hj e (cS he)
  have h2:row w' i=e.2:=by
   unfold row;rw [←Hi,dJ,dq,he];rfl
  rw [s5 _ _ (Fw _ _ h1),h2,tv]
 ·rw [s5 _ _ (T6 _ _ hO),tv]
 ·obtain ⟨e,he,z⟩:=bN.mp z
  exact nl _ _ (Fw _ _ (Hj e he)) z.symm
 ·let Fc:Addr→Prop:=λb=>b=F∨b∈fs
  have F1:∀b,Fc b→H4 b=none:=λb hb=>by
   rcases hb with rfl|hb
   ·exact s5.free hF
   ·exact s5.free (Ow b hb)
  have VD:az H4 H6:=λb o e=>off b o (by simpa using Ne.symm (nl b o e)) (s5 b o e)
  have nF:∀b o,H4 b=some o→¬Fc b:=λb o e z=>by rw [F1 b z] at e;cases e
  have x5:Ext G4 H4 (plus G4 H6 Fc) H6:=⟨λb o e=>by rw [cq (nF b o (x4.sub _ _ e))];exact e,λb o e=>by
   by_cases z:Fc b
   ·rw [dR z] at e;exact e
   ·rw [cq z] at e;exact VD _ _ (x4.sub _ _ e),VD,λb hb hg=>by
   rw [cq (λz=>hb (F1 b z))];exact hg⟩
  refine q _ (hp v gv lv rows) _ _ _ (x14.trans x5) (Dv.lst (xs:=fs.map V.ref) (by rw [dR (.inl rfl)];exact R6.top) (y2 fs v R6.len λi a ha=>?_))
  rw [dR (.inr (cS ha))];exact R6.row i a ha
variable {P:Program} {w:World} {mg:Str→Option Value} {base:Heap} {Z:DC} (T:Txt Z mg)
def fb(l:List Nat):List (Nat×Nat):=(List.range l.length).map λk=>(l.getD k 0,l.getD ((k+1)%l.length) 0)
theorem oM{w:W}{d:Nat×Nat}{r:List (Nat×Nat)}(h:ft w d r):fb (r.map (·.1))=r:=by
 refine qi λi=>?_;unfold fb;rw [dq,aJ]
 by_cases h2:i<r.length
 ·have g1:r.getD i (0,0)=r[i]:=by rw [dJ,cC h2];rfl
  rw [se h2,cC h2,Option.map_some,wV,wV,Jc h h2,g1];rfl
 ·rw [fG (by rw [mJ];omega),fG (by omega)];rfl
theorem T5(a b c d:Int):HT.lexLt [a,b] [c,d]=decide (a<c∨(a=c∧b<d)):=by
 rw [HT.eO]
 by_cases e:a=c
 ·rw [if_pos e,HT.eO]
  by_cases e2:b=d
  ·rw [if_pos e2,show HT.lexLt [] []=false from lN [],decide_eq_false (by omega)]
  ·rw [if_neg e2]
   exact decide_eq_decide.mpr (by omega)
 ·rw [if_neg e]
  exact decide_eq_decide.mpr (by omega)
theorem Cc{w:W}(h:ju w≠ []):(ju w).Pairwise fQ:=by
 unfold ju at h ⊢
 split
 ·next z=>exact z.choose_spec.2
 ·next z=>rw [dif_neg z] at h;exact absurd rfl h
theorem tX{v w:W}{P:D→Prop}(h:P (.bl (!decide (v=w)))):zN (bG v) (bG w) P:=by
 refine ⟨_,_,D9 v,D9 w,by have:=zR v;omega,?_⟩
 have:PyData.eqv (qd v) (qd w)=decide (v=w):=by
  by_cases e:v=w
  ·rw [decide_eq_true e];exact (wL v w).mpr e
  ·rw [decide_eq_false e]
   apply qj.mpr;exact λz=>e ((wL v w).mp z)
 rw [if_pos rfl,this];exact h
variable {P:Program} {w:World} {mg:Str→Option Value} {base:Heap} {Z:DC} (T:Txt Z mg)
theorem Ay{x:Nat×Nat}:∀(c:List (Nat×Nat))(m:Nat),m<c.idxOf x→c[m]? ≠some x
 | [],m,h=>by simp at h
 |a::c,m,h=>by
  rw [List.idxOf_cons] at h
  by_cases e:(a==x)=true
  ·rw [e] at h;simp at h
  ·rw [qj.mpr e] at h
   cases m with
   |zero=>intro z;simp at z;exact e (by simp [z])
   |succ m=>rw [qg];exact Ay c m (by simpa using h)
def Jn:eF:=λds P=>∃(c:List (Nat×Nat)),ds= [aD (c.map (·.1))]∧c≠ []∧fb (c.map (·.1))=c∧c.length≤300∧P (aD ((fc c).map (·.1)))
theorem lT:FnOk P w Z.K mg base bQ 1 T.d__law_begun.f T.d__law_begun.fd ["_law_land"] (aZ Z Jn):=by
 have nd:=mq.nd;refine bZ T.d__law_begun.F mq [0,0,0,0] (by decide) (λds R h=>by obtain ⟨_,rfl,_⟩:=h;rfl) (λbp A outer s H E ds R hr h=>?_)
 have hu:=hr.units
 refine ⟨_,(ax (dE false 1 nd (cm i6 rfl T.B.len iY (af (U 0) au)))
   (ax (mO 2 (NC:= ["_law_k","_law_land","_law_many"]) (src:= [none,some 0,some 1]) rfl nd (vS (ao gG)) ⟨rfl,rfl,rfl,rfl,trivial⟩ (BB rfl T.B.range (af (U 1) au)) (λ_ _ _=>(cy 0 (show (["_law_k","_law_land","_law_many"]:List Str).Nodup from by decide+kernel))) (λ_ _ _=>eL) (λ_ _ _=>(fK (af (lq (U 1) (U 0)) (af (lq (U 1) (js yU (js kj (U 0) cG) (U 2))) au)))))
   (ax (dE false 3 nd (BA hu (U 2) (cm (Gw rfl hu) rfl T.B.min JL (af (U 2) au))))
   (aA (bE (js kj (qv (U 0) (t8 (U 3)) t7) (qv (U 0) t7 (t8 (U 3))))))))),?_⟩
 obtain ⟨c,rfl,cn,cs,c3,q⟩:=h;obtain ⟨i1,i2,i3,i4⟩:=mT cn;have ll:((c.map (·.1)).map ay).length=c.length:=by rw [aJ,aJ]
 refine ⟨_,rfl,trivial,?_⟩;refine ⟨_,rfl,⟨by omega,by show (((c.map (·.1)).map ay).length:Int)<2^62;omega⟩,?_⟩
 rw [show ((((c.map (·.1)).map ay).length:Int)).toNat=c.length by omega,CK]
 refine jb (ρ:= [none,some (aD (c.map (·.1))),some (.int (((c.map (·.1)).map ay).length:Int))]) ay (λk=>pairD ((c.map (·.1)).getD k 0,(c.map (·.1)).getD ((k+1)%(c.map (·.1)).length) 0)) (List.range c.length) _ (λk hk Y hY=>?_) rfl (by rw [mJ];exact small (by omega)) λaF=>?_
 ·have kl:=gd.mp hk
  have et:((k:Int)+1)%(((c.map (·.1)).map ay).length:Int)=(((k+1)%(c.map (·.1)).length:Nat):Int):=by rw [ll,aJ,show (k:Int)+1=((k+1:Nat):Int) by omega,Int.natCast_emod]
  have at2:gf ((c.map (·.1)).map ay) (((k:Int)+1)%(((c.map (·.1)).map ay).length:Int))=some (ay ((c.map (·.1)).getD ((k+1)%(c.map (·.1)).length) 0)):=by rw [et];exact pN (Nat.mod_lt _ (by rw [aJ];omega))
  exact ⟨_,rfl,_,rfl,_,pN (by rw [aJ];exact kl),_,rfl,_,rfl,_,rfl,(by show (0:Int)<(((c.map (·.1)).map ay).length:Int);omega),_,at2,by show 2≤sizeLine;decide,hY⟩
 have e1:((List.range c.length).map λk=>pairD ((c.map (·.1)).getD k 0,(c.map (·.1)).getD ((k+1)%(c.map (·.1)).length) 0))=c.map pairD:=by
  have:(fb (c.map (·.1))).map pairD=c.map pairD:=by rw [cs]
  rw [←this];unfold fb;rw [bL,aJ];rfl
 rw [e1];refine ⟨trivial,?_⟩;refine ⟨_,rfl,_,rfl,_,rfl,c.map (λe=> [(e.1:Int),(e.2:Int)]),by rw [bL];rfl,λz=>?_,λm hm SG=>?_⟩
 ·have:=congrArg List.length z
  rw [aJ] at this;exact absurd this (Nat.ne_of_gt (xR.mpr cn))
 obtain ⟨e,he,rfl⟩:=bN.mp hm
 have el:∀x∈c,lexLe e x:=λx hx=>by
  have h:=SG _ (bN.mpr ⟨x,hx,rfl⟩);rw [T5] at h;have h:=of_decide_eq_false h;unfold lexLe;omega
 have ee:=As cn he el;rw [ee] at i4;have pe:∀i:Nat,(c.map gy)[i]? =(c[i]?).map gy:=λi=>dq ..
 have ge:c[gX c]? =some e:=by
  have h:=ee;rw [dJ,cC i1] at h;rw [cC i1];exact congrArg some h
 refine ⟨c.map gy,gy e,gX c,kr y1 c,y1 e,by unfold gy nD;simp [PyData.depth,PyData.depthAll],⟨gy e,by rw [pe,ge];rfl,(mQ e e).mpr rfl⟩,λm z hm hz=>?_,trivial,?_⟩
 ·rw [pe] at hz
  obtain ⟨x,hx,rfl⟩:=Option.map_eq_some_iff.mp hz;apply qj.mpr;intro z;rw [(mQ x e).mp z] at hx;exact Ay c m (by rw [←i4];exact hm) hx
 have ca:cutD ((c.map (·.1)).map ay) (some (gX c:Int)) none=((c.map (·.1)).drop (gX c)).map ay:=by rw [Bx _ _ (by rw [ll];omega),vK]
 have cb:cutD ((c.map (·.1)).map ay) none (some (gX c:Int))=((c.map (·.1)).take (gX c)).map ay:=by rw [tV _ _ (by rw [ll];omega),si]
 have ef:aD ((fc c).map (·.1))= .lst (cutD ((c.map (·.1)).map ay) (some (gX c:Int)) none++cutD ((c.map (·.1)).map ay) none (some (gX c:Int))):=by
  rw [ca,cb,←dB,←vK,←si,←dB];rfl
 have sz:(cutD ((c.map (·.1)).map ay) (some (gX c:Int)) none).length+(cutD ((c.map (·.1)).map ay) none (some (gX c:Int))).length≤sizeLine:=by
  rw [ca,cb,aJ,aJ,qk,jn,aJ];exact small (by omega)
 rw [ef] at q;exact ⟨_,rfl,_,rfl,_,rfl,_,rfl,sz,q⟩
def Rs(w:W)(rs:List (List (Nat×Nat))):Prop:=(w.length=1∧rs= [[(0,0)]])∨(2≤w.length∧bw w rs)
theorem wx:fc [(0,0)]= [(0,0)]:=by
 have h:=(mT (c:= [(0,0)]) (by simp)).1
 have e:gX [(0,0)]=0:=by
  have:gX [(0,0)]<1:=h
  omega
 unfold fc;rw [e];rfl
theorem Rs.uniq{w:W}(g:Good w){rs cX:List (List (Nat×Nat))}(h:Rs w rs)(h':Rs w cX)(s:(bH rs).Pairwise fQ)(s':(bH cX).Pairwise fQ):bH rs=bH cX:=by
 rcases h with ⟨h1,rfl⟩ | ⟨h1,R⟩
 ·rcases h' with ⟨_,rfl⟩ | ⟨h2,_⟩
  ·rfl
  ·omega
 ·rcases h' with ⟨h2,_⟩ | ⟨_,R'⟩
  ·omega
  ·exact R.uniq g R' s s'
theorem bw.two{w:W}(g:Good w){rs:List (List (Nat×Nat))}(R:bw w rs){r:List (Nat×Nat)}(hr:r∈rs):2≤r.length:=by
 obtain ⟨d,Rd,dd,_⟩:=R.rnd r hr;have h0:=vF Rd.first;apply Classical.byContradiction;intro z;have h1:r.length=1:=by omega
 obtain ⟨k,k0,k1,k2,rfl⟩:=Rd;rw [dY] at h1;subst h1;have k1:jN w d=d:=k1;have e1:d.2=d.1:=congrArg Prod.fst k1;exact zO g dd e1.symm
theorem Rs.small{w:W}(g:Good w)(cF:w.length≤14){rs:List (List (Nat×Nat))}(h:Rs w rs):rs.length≤300∧∀r∈rs,r≠ []∧r.length≤300∧fb (r.map (·.1))=r∧∀x∈r,x.1<w.length:=by
 rcases h with ⟨h1,rfl⟩ | ⟨h1,R⟩
 ·refine ⟨by show 1≤300;omega,λr hr=>?_⟩
  rw [iS] at hr;subst hr;exact ⟨by simp,by show 1≤300;omega,rfl,λx hx=>by rw [iS] at hx;subst hx;show 0<w.length;omega⟩
 ·have dl:=iD g
  have dl2:w.length*w.length≤14*14:=vD cF cF;have N5:=R.perm.length_eq;refine ⟨?_,λr hr=>?_⟩
  ·have h:∀cX:List (List (Nat×Nat)),(∀r∈cX,r≠ [])→cX.length≤cX.flatten.length:=λcX=>by
    induction cX with
    |nil=>intro _;exact aU _
    |cons a l ih=>
     intro h;have h1:=xR.mpr (h a (bY ..));have h2:=ih λr hr=>h r (cu _ hr);rw [sg,bV,cL];omega
   have:=h rs R.ne
   omega
  ·obtain ⟨d,Rd,dd,_⟩:=R.rnd r hr
   have:=aS (Rd.nodup g dd) λx hx=>aX.mpr (Rd.aG g dd x hx)
   exact ⟨R.ne r hr,by omega,oM Rd,λx hx=>fV (Rd.aG g dd x hx)⟩
theorem Rs.nam{w v:W}{φ:Nat→Nat}(N:zw w v φ)(g:Good w)(gv:Good v){rs:List (List (Nat×Nat))}(h:Rs w rs):Rs v (rs.map λr=>fc (r.map λd=>(φ d.1,φ d.2)))∧∀r∈rs,fb ((r.map λd=>(φ d.1,φ d.2)).map (·.1))=r.map λd=>(φ d.1,φ d.2):=by
 rcases h with ⟨h1,rfl⟩ | ⟨h1,R⟩
 ·have p0:φ 0=0:=by have:=N.lt 0 (by omega);omega
  refine ⟨.inl ⟨by rw [N.len];exact h1,?_⟩,λr hr=>?_⟩
  ·show [fc [(φ 0,φ 0)]]=_
   rw [p0,wx]
  ·rw [iS] at hr
   subst hr;show fb [φ 0]= [(φ 0,φ 0)];rw [p0];rfl
 ·refine ⟨.inr ⟨by rw [N.len];exact h1,(N.dmap g).rounds g gv N.M5 R⟩,λr hr=>?_⟩
  obtain ⟨d,Rd,dd,_⟩:=R.rnd r hr;exact oM ((N.dmap g).rnd g Rd dd)
theorem Jl{r:List (Nat×Nat)}(hs:fb (r.map (·.1))=r){x:Nat}{t:List Nat}(e:r.map (·.1)=x::t):r.map (·.2)=t++ [x]:=by
 have h1:r.map (·.2)=(fb (x::t)).map (·.2):=by rw [←e,hs]
 rw [h1];refine qi λi=>?_;unfold fb;rw [bL,dq];have hl:(x::t).length=t.length+1:=rfl
 by_cases h2:i<t.length+1
 ·rw [se (by rw [hl];exact h2)]
  show some ((x::t).getD ((i+1)%(x::t).length) 0)=_;rw [hl]
  by_cases h3:i<t.length
  ·rw [sh (by omega),jj h3,List.getD_cons_succ,dJ,cC h3];rfl
  ·have:i=t.length:=by omega
   subst this;rw [Nat.mod_self,ji (aU _),mL];rfl
 ·rw [fG (by rw [mJ,hl];omega),fG (by rw [bV];show t.length+1≤i;omega)];rfl
def je(r:List (Nat×Nat)):List (Nat×Nat):=(r.map λd=>(d.2,d.1)).reverse.drop 1++(r.map λd=>(d.2,d.1)).reverse.take 1
theorem uE(r:List (Nat×Nat)):(je r).Perm (r.map λd=>(d.2,d.1)):=by
 unfold je
 have:=Bj (l₁:=(r.map λd=>(d.2,d.1)).reverse.drop 1) (l₂:=(r.map λd=>(d.2,d.1)).reverse.take 1)
 rw [jl] at this;exact this.trans (vI _)
theorem Fz{r:List (Nat×Nat)}(hn:r≠ [])(hs:fb (r.map (·.1))=r):(je r).map (·.1)=(r.map (·.1)).reverse:=by
 obtain ⟨x,t,e⟩:∃x t,r.map (·.1)=x::t:=by
  cases r with
  |nil=>exact absurd rfl hn
  |cons a r=>exact ⟨_,_,rfl⟩
 have h2:=Jl hs e;unfold je
 have e3:((r.map λd=>(d.2,d.1)).reverse).map (·.1)=x::t.reverse:=by
  rw [List.map_reverse,bL];show (r.map (·.2)).reverse=_;rw [h2,r9];rfl
 rw [dB,vK,si,e3,e,List.reverse_cons];rfl
theorem Rs.mir{w:W}(g:Good w){rs:List (List (Nat×Nat))}(h:Rs w rs):Rs (eS w) (rs.map λr=>fc (je r))∧∀r∈rs,fb ((je r).map (·.1))=je r:=by
 have gm:=uF g;have M:=qM g
 rcases h with ⟨h1,rfl⟩ | ⟨h1,R⟩
 ·refine ⟨.inl ⟨by rw [jL];exact h1,?_⟩,λr hr=>?_⟩
  ·show [fc [(0,0)]]=_
   rw [wx]
  ·rw [iS] at hr
   subst hr;rfl
 ·have key:∀r∈rs,∃e,ft (eS w) e (je r)∧aH (eS w) e:=λr hr=>by
   obtain ⟨d,Rd,dd,_⟩:=R.rnd r hr;obtain ⟨e,k1,k2⟩:=M.rnd g Rd dd;have l2:1<((r.map λd=>(d.2,d.1)).reverse).length:=by rw [List.length_reverse,aJ];exact bw.two g R hr
   have hm:((r.map λd=>(d.2,d.1)).reverse).getD 1 (0,0)∈(r.map λd=>(d.2,d.1)).reverse:=by
    rw [dJ,cC l2];exact kQ l2
   exact ⟨_,k1.Vv gm k2 l2,k1.aG gm k2 _ hm⟩
  refine ⟨.inr ⟨by rw [jL];exact h1,⟨λr' fN=>?_,?_⟩⟩,λr hr=>?_⟩
  ·obtain ⟨r,hr,rfl⟩:=bN.mp fN
   obtain ⟨e,k1,k2⟩:=key r hr;obtain ⟨f,m1,m2,m3⟩:=wy gm k1 k2;exact ⟨f,m1,m2,m3⟩
  ·have e1:(rs.map λr=>fc (je r)).flatten.Perm ((rs.map λr=>r.map λd=>(d.2,d.1)).flatten):=by
    clear key R
    induction rs with
    |nil=>exact .nil
    |cons r rs ih=>
     rw [fY,fY,sg,sg];exact ((n4 _).trans (uE r)).append ih
   refine e1.trans ?_;rw [←List.map_flatten];exact (R.perm.map _).trans (i7 g gm M.dart M.inj (xo g))
  ·obtain ⟨e,k1,_⟩:=key r hr
   exact oM k1
theorem uv{w:W}{P:D→Prop}(g:Good w)(h:∀rs,Rs w rs→(bH rs).Pairwise fQ→P (.lst ((bH rs).map aD))):(w.length=1→P (.lst [aD [0]]))∧(2≤w.length→∀rs,bw w rs→ju w=bH rs→P (.lst ((ju w).map aD))):=by
 refine ⟨λh1=>h [[(0,0)]] (.inl ⟨h1,rfl⟩) (List.pairwise_singleton _ _),λh2 rs R e=>?_⟩
 have ne:ju w≠ []:=λz=>by
  rw [z] at e
  have rs0:rs= []:=by
   cases rs with
   |nil=>rfl
   |cons a l=>cases e
  have N5:=R.perm.length_eq;rw [rs0] at N5;have d0:(aG w).length=0:=N5.symm
  obtain ⟨x,hx⟩:∃x,x∈aG w:=by
   cases g.con 1 (by omega) with
   |step h1 h2=>exact ⟨_,aX.mpr (show aH w (_,1) from h2)⟩
  have:=vF hx
  omega
 have s:=Cc ne;rw [e] at s ⊢;exact h rs (.inr ⟨h2,R⟩) s
def tc(w:W):Nat:=(ic (row w) w.length).length
theorem tu{w:W}(g:Good w):2*tc w=(aG w).length:=by
 have:=(tP g (.refl _)).length_eq
 rw [bV,aJ] at this;unfold tc;omega
def Jp:eF:=λds P=>∃(w:W),ds= [.gO w]∧Good w∧1≤w.length∧w.length≤14∧∀rs,Rs w rs→(bH rs).Pairwise fQ→P (.tup [.int (w.length:Int), .int (tc w:Int), .int (rs.length:Int)])
theorem jO:FnOk P w Z.K mg base bQ 4 T.d_count.f T.d_count.fd ["web"] (aZ Z Jp):=by
 have nd:=xF.nd;refine bZ T.d_count.F xF [0] (by decide) (λds R h=>by obtain ⟨_,rfl,_⟩:=h;rfl) (λbp A outer s H E ds R hr h=>?_)
 have hu:=hr.units;refine ⟨_,(aA (bE (fK (af (jD T.W (U 0) T.m_many.m (pP T) (hr.mono (by decide)) T.m_many.b) (af (cm i6 rfl T.B.len iY (af (jD T.W (U 0) T.m_ties.m (kn T) (hr.mono (by decide)) T.m_ties.b) au)) (af (cm i6 rfl T.B.len iY (af (aK T.d_lands ((iK T).imp F4) hr (af (U 0) au)) au)) au)))))),?_⟩
 obtain ⟨w',rfl,g,l1,kZ,q⟩:=h;refine ⟨_,rfl,w',rfl,w',rfl,_,rfl,w',rfl,w',rfl,g,kZ,λts pm u6=>?_⟩
 obtain ⟨u1,u2⟩:=uv (P:=λd=>Gm [d] λx=>([.int (w'.length:Int), .int ((ts.map pairD).length:Int),x]:List D).length≤sizeLine∧R (.tup [.int (w'.length:Int), .int ((ts.map pairD).length:Int),x])) g λrs Rr s=>by
  refine ⟨by show 3≤sizeLine;decide,?_⟩
  have:=q rs Rr s
  have e1:(ts.map pairD).length=tc w':=by rw [aJ,pm.length_eq];rfl
  have e2:((bH rs).map aD).length=rs.length:=by rw [aJ,aJ]
  rw [e1,e2];exact this
 exact ⟨_,rfl,w',rfl,g,l1,kZ,u1,u2⟩
def Jr:eF:=λds P=>∃(w:W),ds= [.gO w]∧Good w∧1≤w.length∧w.length≤14∧∀rs,Rs w rs→(bH rs).Pairwise fQ→P (.bl (decide ((w.length:Int)+(rs.length:Int)=(tc w:Int)+2)))
theorem h7:FnOk P w Z.K mg base bQ 5 T.d_is_plane.f T.d_is_plane.fd ["web"] (aZ Z Jr):=by
 have nd:=p7.nd;refine bZ T.d_is_plane.F p7 [0,0,0,0] (by decide) (λds R h=>by obtain ⟨_,rfl,_⟩:=h;rfl) (λbp A outer s H E ds R hr h=>?_)
 have hu:=hr.units
 refine ⟨_,(ax (DL (aK T.d_count (jO T) hr (af (U 0) au)) (i8 3 rfl (bC (ba 1 nd) (bC (ba 2 nd) (bC (ba 3 nd) fA)))))
   (aA (bE (sQ (uI hu) (js kj (U 1) (U 3)) (js kj (U 2) cG) (bF _))))),?_⟩
 obtain ⟨w',rfl,g,l1,kZ,q⟩:=h;refine ⟨_,rfl,w',rfl,g,l1,kZ,λrs Rr s=>?_⟩;refine ⟨rfl,rfl,?_⟩;refine ⟨_,rfl,_,rfl,_,rfl,?_⟩;exact zM (q rs Rr s)
variable {P:Program} {w:World} {mg:Str→Option Value} {base:Heap} {Z:DC} (T:Txt Z mg)
theorem wC{a b c d e f:Int}{P:D→Prop}(h:P (.bl (!decide (a=d∧b=e∧c=f)))):zN (.tup [.int a, .int b, .int c]) (.tup [.int d, .int e, .int f]) P:=by
 have py:∀x y z:Int,(D.tup [.int x, .int y, .int z]).py=some (.tuple [.int x, .int y, .int z]):=λx y z=>by rw [D.py,eU,eU,eU,eU];rfl
 refine ⟨_,_,py a b c,py d e f,by simp [PyData.depth,PyData.depthAll],?_⟩
 rw [if_pos rfl,show PyData.eqv (.tuple [.int a, .int b, .int c]) (.tuple [.int d, .int e, .int f])=decide (a=d∧b=e∧c=f) by
  rw [vz,decide_eq_true_iff];simp [PyData.eqv,PyData.eqvAll]]
 exact h
theorem Dw{a b:Bool}{P:D→Prop}(h:P (.bl (decide (a=b)))):JP (.bl a) (.bl b) P:=by
 refine ⟨.bool a, .bool b,rfl,rfl,by simp [PyData.depth],?_⟩
 rw [if_neg cK,show PyData.eqv (.bool a) (.bool b)=decide (a=b) by cases a<;>cases b<;>rfl]
 exact h
theorem il{α:Type}(l:List α)(i:Nat)(x:α):(Wb.ins l i x).Perm (x::l):=by
 unfold Wb.ins
 have:=List.perm_middle (a:=x) (l₁:=l.take i) (l₂:=l.drop i)
 rwa [jl] at this
theorem Rs.pO{w:W}{rs cX:List (List (Nat×Nat))}(h:Rs w rs)(p:cX.Perm rs):Rs w cX:=by
 rcases h with ⟨h1,rfl⟩ | ⟨h1,R⟩
 ·exact .inl ⟨h1,List.perm_singleton.mp p⟩
 ·exact .inr ⟨h1,R.pO p⟩
theorem Rs.len{w:W}(g:Good w){rs cX:List (List (Nat×Nat))}(h:Rs w rs)(h':Rs w cX):rs.length=cX.length:=by
 rcases h with ⟨h1,rfl⟩ | ⟨h1,R⟩
 ·rcases h' with ⟨_,rfl⟩ | ⟨h2,_⟩
  ·rfl
  ·omega
 ·rcases h' with ⟨h2,_⟩ | ⟨_,R'⟩
  ·omega
  ·exact ((xO (R.nodup g) (R'.nodup g)).mpr λr=>⟨R.sub R' r,R'.sub R r⟩).length_eq
theorem Rs.sorted{w:W}(g:Good w){rs PC:List (List (Nat×Nat))}(h:Rs w rs)(s:(bH rs).Pairwise fQ)(h1:Rs w PC){M:List (List Nat)}(pm:M.Perm (bH PC))(ms:M.Pairwise fQ):bH rs=M:=by
 obtain ⟨cX,p',rfl⟩:=L2.fU (λr:List (Nat×Nat)=>r.map (·.1)) M PC pm;exact h.uniq g (h1.pO p') s ms
theorem mU{w:W}{P:D→Prop}(g:Good w)(l1:1≤w.length)(kZ:w.length≤14)(h:∀rs,Rs w rs→(bH rs).Pairwise fQ→P (.lst ((bH rs).map aD))):A2 [.gO w] P:=⟨w,rfl,g,l1,kZ,uv g h⟩
theorem KR:FnOk P w Z.K mg base bQ 6 T.d_law.f T.d_law.fd ["_law_script"] (aZ Z Ej):=by
 have nd:=Ei.nd;refine bZ T.d_law.F Ei [0,0,1,1,0,0,0,0,0,0] (by decide) (λds R h=>by obtain ⟨_,rfl,_⟩:=h;rfl) (λbp A outer s H E ds R hr h=>?_)
 have hu:=hr.units
 refine ⟨_,(ax (dE false 1 nd (aK T.d__law_web (yV T) hr (af (U 0) (af cG (af (sQ (uI hu) (js yU (aK T.d__law_cell (we T) hr (af (U 0) (af cG au))) cG) cG (bF _)) au)))))
   (ax (o9 2 nd (EN T.d__law_digits (qP T) hr (af (U 0) (af cG au))))
   (ax (o9 3 nd (sR au))
   (ax (GR rfl PassesOwn.never (BC rfl T.B.range (af (cm i6 rfl T.B.len iY (af (U 1) au)) au)) (ba 4 nd) (aA (zU 3 2 (jX.lU (zH T) T.d__law_take) (hr.mono (by decide)) rfl T.d__law_take.m T.d__law_take.F.kp T.d__law_take.b (js kj (U 4) cG) (U 4))))
   (zV 3
   (ax (dE false 5 nd (t4 T.mkW (gx T) (hr.mono (by decide)) rfl T.mC T.m___init__b (af (ym (NC:= ["_law_turn"]) (src:= [none]) rfl (vS (ao oK)) trivial (cz (U 1)) (λ_ _ _=>(cy 0 (show (["_law_turn"]:List Str).Nodup from by decide+kernel))) (λ_ _ _=>eL) (λ_ _ _=>(tZ zI rfl T.B.list tJ (af (U 0) au)))) au)))
   (ax (dE false 6 nd (t4 T.mkW (gx T) (hr.mono (by decide)) rfl T.mC T.m___init__b (af (JW (jX.D4 (zH T) T.d__law_take T.d__law_renamed) (jX.oG (zH T) T.d__law_cell T.d__law_mixed T.d__law_digits) (hr.mono (by decide)) (hr.mono (by decide)) rfl T.d__law_renamed.m T.d__law_renamed.F.kp T.d__law_renamed.b rfl T.d__law_digits.m T.d__law_digits.F.kp T.d__law_digits.b (U 1) (U 3) (U 0) cG) au)))
   (ax (dE false 7 nd (t4 T.mkW (gx T) (hr.mono (by decide)) rfl T.mC T.m___init__b (af (ym (NC:= ["_law_turn"]) (src:= [none]) rfl (vS (ao oK)) trivial (cz (U 1)) (λ_ _ _=>(cy 0 (show (["_law_turn"]:List Str).Nodup from by decide+kernel))) (λ_ _ _=>eL) (λ_ _ _=>(rq rfl rfl T.B.list rfl T.B.reversed (af (U 0) au)))) au)))
   (ax (dE false 8 nd (aK T.d_lands ((iK T).imp F4) hr (af (U 5) au)))
   (ax (mO 9 (NC:= ["_law_land","_law_order"]) (src:= [none,some 3]) rfl nd (vS (ao oK)) ⟨rfl,rfl,trivial⟩ (cz (U 8)) (λ_ _ _=>(cy 0 (show (["_law_land","_law_order"]:List Str).Nodup from by decide+kernel))) (λ_ _ _=>eL) (λ_ _ _=>(aK T.d__law_begun (lT T) hr (af (ym (NC:= ["_law_p","_law_order"]) (src:= [none,some 1]) rfl QG ⟨rfl,rfl,trivial⟩ (cz (U 0)) (λ_ _ _=>(cy 0 (show (["_law_p","_law_order"]:List Str).Nodup from by decide+kernel))) (λ_ _ _=>eL) (λ_ _ _=>(lq (U 1) (U 0)))) au))))
   (ax (eJ (cH (qN hu) (aK T.d_lands ((iK T).imp F4) hr (af (U 6) au)) (cm (tR hu) rfl T.B.sorted iA (af (U 9) au)) (bF _)) (aA (bE qu)) bT)
   (ax (mO 9 (NC:= ["_law_land"]) (src:= [none]) rfl nd (vS (ao oK)) trivial (cz (U 8)) (λ_ _ _=>(cy 0 (show (["_law_land"]:List Str).Nodup from by decide+kernel))) (λ_ _ _=>eL) (λ_ _ _=>(aK T.d__law_begun (lT T) hr (af (rq rfl rfl T.B.list rfl T.B.reversed (af (U 0) au)) au))))
   (ax (eJ (DW.dt (GW (cH (qN hu) (aK T.d_lands ((iK T).imp F4) hr (af (U 7) au)) (cm (tR hu) rfl T.B.sorted iA (af (U 9) au)) (bF _)) (DQ (cH (qN hu) (aK T.d_lands ((iK T).imp F4) hr (af (U 5) au)) (U 8) (bF _))))) (aA (bE qu)) bT)
   (ax (eJ (DW.dt (GW (cH (qN hu) (aK T.d_count (jO T) hr (af (U 6) au)) (aK T.d_count (jO T) hr (af (U 5) au)) (bF _)) (DQ (cH (qN hu) (aK T.d_count (jO T) hr (af (U 7) au)) (aK T.d_count (jO T) hr (af (U 5) au)) (bF _))))) (aA (bE qu)) bT)
   (aA (bE (yl (sQ (uI hu) (aK T.d_is_plane (h7 T) hr (af (U 6) au)) (aK T.d_is_plane (h7 T) hr (af (U 5) au)) (bF _)) (DB (sQ (uI hu) (aK T.d_is_plane (h7 T) hr (af (U 7) au)) (aK T.d_is_plane (h7 T) hr (af (U 5) au)) (bF _)))))))))))))))))))),?_⟩
 obtain ⟨ns,rfl,yB,q⟩:=h;refine ⟨_,rfl,_,rfl,ns,5,rfl,by omega,λv=>⟨(by show (0:Int)<2;decide),RF ?_⟩⟩
 refine ⟨ns,14,_,rfl,by omega,by omega,λw' g l1 kZ=>⟨trivial,?_⟩⟩
 have lw:(w'.map aD).length=w'.length:=aJ _;refine ⟨_,rfl,ns,6,rfl,by omega,λxs fg hz=>⟨_,rfl,?_⟩⟩
 refine ⟨by show 0≤sizeLine;decide,?_⟩
 refine ⟨_,rfl,⟨by omega,by show ((w'.map aD).length:Int)<2^62;omega⟩,?_⟩
 rw [show (((w'.map aD).length:Int)).toNat=w'.length by omega]
 refine EX (λj ρ=>∃(xs:List Int)(ord:List Nat)(o4:Option D),ρ= [some (.jA ns),some (bG w'),some (.lst (ur xs)),some (aD ord),o4,none,none,none,none,none]∧xs≠ []∧xs.length≤2∧ord.Perm (List.range j)) ⟨xs,[],none,rfl,fg,hz, .nil⟩ ?_ ?_
 ·rintro j _ hj ⟨xs,ord,o4,rfl,fg,hz,pm⟩ A hA
  have ol:ord.length=j:=by have:=pm.length_eq;rw [mJ] at this;exact this
  refine ⟨ord.map ay,xs,rfl,rfl,fg,by omega,_,rfl,(j:Int)+1,rfl,by omega,by omega,λd sO d0 dm ne' l'=>⟨_,rfl,⟨by rw [aJ];omega,bB (by rw [aJ];omega)⟩,?_⟩⟩
  refine hA _ ⟨sO,Wb.ins ord d.toNat j,some (ay j),?_,ne',by omega,?_⟩
  ·have:aD (Wb.ins ord d.toNat j)= .lst (Wb.ins (ord.map ay) d.toNat (ay j)):=by rw [Fq];rfl
   rw [this];rfl
  ·rw [List.range_succ]
   exact (il ..).trans ((List.Perm.cons _ pm).trans (List.perm_append_singleton ..).symm)
 rintro _ ⟨Wm,ord,o4,rfl,_,_,od⟩;refine ⟨⟨_,rfl⟩,?_⟩;refine ⟨_,rfl,jb (ρ:= [none]) aD aD w' _ (λy hy Y h=>⟨_,rfl,h⟩) rfl (small (by omega)) λaF=>⟨w',rfl,g,l1,kZ,trivial,?_⟩⟩
 refine ⟨_,rfl,_,rfl,_,rfl,w',ord,ns,7,rfl,rfl,rfl,rfl,by omega,g,kZ,od,λv gv lv rows=>⟨v,rfl,gv,by omega,by omega,trivial,?_⟩⟩
 have O:jX.Ord ord w'.length:=⟨od⟩;have N:zw w' v (λx=>ord.getD x 0):=⟨lv,λp hp=>O.into hp,λp q hp hq e=>O.inj hp hq e,λy hy=>O.sur hy,rows⟩;have gm:=uF g;have ml:=jL w';refine ⟨_,rfl,jb (ρ:= [none]) aD (λr=>aD r.reverse) w' _ (λy hy Y h=>⟨_,rfl,?_⟩) rfl (small (by omega)) λaF=>⟨eS w',?_,gm,by omega,by omega,trivial,?_⟩⟩
 ·refine (?_:Y (.lst (y.map ay).reverse))
  rw [←List.map_reverse];exact h
 ·unfold eS bG
  rw [bL];rfl
 refine ⟨_,rfl,?_⟩;dsimp only [rp];refine mU g l1 kZ λrs Rr u6=>?_;refine ⟨trivial,?_⟩;obtain ⟨rl,rf⟩:=Rr.small g kZ;have e1:(bH rs).map aD=rs.map λr=>aD (r.map (·.1)):=by rw [bL];rfl
 obtain ⟨R1,s1⟩:=Rr.nam N g gv;obtain ⟨R2,s2⟩:=Rr.mir g;refine ⟨_,rfl,?_⟩;refine (?_:lcW _ _ _ ((bH rs).map aD) _ _ _);rw [e1];refine jb (i:=0) (ρ:= [none,some (aD ord)]) (λr=>aD (r.map (·.1))) (λr=>aD ((fc (r.map λd=>(ord.getD d.1 0,ord.getD d.2 0))).map (·.1))) rs _ (λr hr Y hY=>?_) rfl (small (by omega)) λaF=>?_
 ·obtain ⟨rn,r3,Vw,Vu⟩:=rf r hr
  refine ⟨_,rfl,?_⟩;refine (?_:lcW (mN 0) oW (Bz NL (Dx 1) (Dx 0)) ((r.map (·.1)).map ay) [none,some (aD ord)] [] _);refine jb (i:=0) (ρ:= [none,some (aD ord)]) ay (λx=>ay (ord.getD x 0)) (r.map (·.1)) _ (λx hx Y hY=>?_) rfl (by rw [aJ];exact small (by omega)) λaF=>?_
  ·obtain ⟨d,hd,rfl⟩:=bN.mp hx
   exact ⟨_,rfl,_,rfl,_,pN (by rw [O.len];exact Vu d hd),hY⟩
  ·refine ⟨r.map λd=>(ord.getD d.1 0,ord.getD d.2 0),?_,λz=>rn (List.map_eq_nil_iff.mp z),s1 r hr,by rw [aJ];exact r3,hY⟩
   unfold aD;rw [bL,bL,bL];rfl
 have e2:(.lst (rs.map λr=>aD ((fc (r.map λd=>(ord.getD d.1 0,ord.getD d.2 0))).map (·.1))):D)= .lst ((bH (rs.map λr=>fc (r.map λd=>(ord.getD d.1 0,ord.getD d.2 0)))).map aD):=by rw [bL,bL];rfl
 rw [e2,←e1];refine ⟨trivial,?_⟩;have Pa:1≤v.length:=by omega
 have Ig:v.length≤14:=by omega
 have O8:1≤(eS w').length:=by omega
 have Ia:(eS w').length≤14:=by omega
 have ME:∀x:List (List (Nat×Nat)),(bH x).length=x.length:=λx=>aJ _;refine ⟨_,rfl,?_⟩;dsimp only [rp];refine mU gv Pa Ig λVy Rv sv=>?_;refine ⟨_,rfl,_,rfl,by rw [ME,aJ];omega,λM pm ms=>?_⟩
 obtain rfl:=Rv.sorted gv sv R1 pm ms;refine (?_:zN (bG (bH Vy)) (bG (bH Vy)) _);refine tX ⟨_,rfl,Ap (by simp) ?_⟩
 refine ⟨_,rfl,?_⟩;refine (?_:lcW (mN 0) oW _ ((bH rs).map aD) [none] [] _);rw [e1];refine jb (i:=0) (ρ:= [none]) (λr=>aD (r.map (·.1))) (λr=>aD ((fc (je r)).map (·.1))) rs _ (λr hr Y hY=>?_) rfl (small (by omega)) λaF=>?_
 ·obtain ⟨rn,r3,Vw,Vu⟩:=rf r hr
  have KH:(je r).length=r.length:=by rw [(uE r).length_eq,aJ]
  refine ⟨_,rfl,je r,?_,λz=>?_,s2 r hr,by omega,hY⟩
  ·rw [Fz rn Vw]
   unfold aD;rw [List.map_reverse]
  ·rw [z] at KH
   exact rn (List.length_eq_zero_iff.mp KH.symm)
 have e3:(.lst (rs.map λr=>aD ((fc (je r)).map (·.1))):D)= .lst ((bH (rs.map λr=>fc (je r))).map aD):=by rw [bL,bL];rfl
 rw [e3,←e1];refine ⟨trivial,?_⟩;refine ⟨_,rfl,?_⟩;dsimp only [rp];refine mU gm O8 Ia λVx Rm sm=>?_;refine ⟨_,rfl,_,rfl,by rw [ME,aJ];omega,λM pm ms=>?_⟩
 obtain rfl:=Rm.sorted gm sm R2 pm ms;refine (?_:zN (bG (bH Vx)) (bG (bH Vx)) _);refine tX ⟨_,rfl,Ap (by simp) ?_⟩
 refine ⟨_,rfl,?_⟩;dsimp only [rp];refine mU g l1 kZ λrsw Rw sw=>?_;have ew:bH rsw=bH rs:=Rw.uniq g Rr sw u6;rw [ew];refine ⟨_,rfl,?_⟩;refine (?_:zN (bG (bH rs)) (bG (bH rs)) _);refine tX ⟨_,rfl,Ap (by simp) ?_⟩
 have dv:(aG v).length=(aG w').length:=by
  have:=(i7 g gv (N.dmap g).dart (N.dmap g).inj N.M5).length_eq
  rw [aJ] at this;exact this.symm
 have dm:(aG (eS w')).length=(aG w').length:=by
  have:=(i7 g gm (qM g).dart (qM g).inj (xo g)).length_eq
  rw [aJ] at this;exact this.symm
 have tv:tc v=tc w':=by have:=tu g;have:=tu gv;omega
 have tm:tc (eS w')=tc w':=by have:=tu g;have:=tu gm;omega
 have nv:∀a b,Rs v a→Rs w' b→a.length=b.length:=λa b ha hb=>by
  have h1:=Rs.len gv ha R1;have h2:=Rs.len g hb Rr;rw [aJ] at h1;omega
 have nm:∀a b,Rs (eS w') a→Rs w' b→a.length=b.length:=λa b ha hb=>by
  have h1:=Rs.len gm ha R2;have h2:=Rs.len g hb Rr;rw [aJ] at h1;omega
 refine ⟨_,rfl,v,rfl,gv,Pa,Ig,λa Ra _=>⟨_,rfl,w',rfl,g,l1,kZ,λb Rb _=>wC ⟨_,rfl,Ap ?_ ?_⟩⟩⟩
 ·rw [decide_eq_true ⟨by rw [lv],by rw [tv],by rw [nv a b Ra Rb]⟩];rfl
 refine ⟨_,rfl,eS w',rfl,gm,O8,Ia,λa Ra _=>⟨_,rfl,w',rfl,g,l1,kZ,λb Rb _=>wC ⟨_,rfl,Ap ?_ ?_⟩⟩⟩
 ·rw [decide_eq_true ⟨by rw [ml],by rw [tm],by rw [nm a b Ra Rb]⟩];rfl
 refine ⟨_,rfl,v,rfl,gv,Pa,Ig,λa Ra _=>⟨_,rfl,w',rfl,g,l1,kZ,λb Rb _=>Dw ⟨true,congrArg D.bl (decide_eq_true ?_),fP ?_⟩⟩⟩
 ·rw [lv,tv,nv a b Ra Rb]
 refine ⟨_,rfl,eS w',rfl,gm,O8,Ia,λa Ra _=>⟨_,rfl,w',rfl,g,l1,kZ,λb Rb _=>Dw ?_⟩⟩;rw [decide_eq_true (by rw [ml,tm,nm a b Ra Rb])];exact q
theorem all_mk{l:PySem.W.OpenLaw}{w:World}{K:PySem.W.Frag}{h:Heap}{mg:Str→Option Value}{fa C:Addr}{Wh:Tok}(X:K.In h)(G:h.Ns mainGlobals mg)(YJ:mg "law"=some (.ref fa))
  {d0:Addr} {od0 WO:Option Addr} {sl0:Array (Option Value)} {oc0 kV0 Xw pm0 Qv Xh:Value}
  {d1:Addr} {od1 WQ:Option Addr} {sl1:Array (Option Value)} {oc1 kV1 Xx IT Qw Xi:Value}
  {d2:Addr} {od2 WR:Option Addr} {oN:Array (Option Value)} {oc2 kV2 Xy La Qx Xj:Value}
  {d3:Addr} {od3 WS:Option Addr} {sl3:Array (Option Value)} {oc3 kV3 Xz CF Qy Xk:Value}
  {d4:Addr} {od4 WT:Option Addr} {sl4:Array (Option Value)} {oc4 kV4 XA pm4 Qz Xl:Value}
  {d5:Addr} {od5 WU:Option Addr} {sl5:Array (Option Value)} {oc5 kV5 XB Lb QA Xm:Value}
  {d6:Addr} {od6 WV:Option Addr} {sl6:Array (Option Value)} {oc6 kV6 XE pm6 QB Xn:Value}
  {d7:Addr} {od7 WW:Option Addr} {sl7:Array (Option Value)} {oc7 kV7 XF pm7 QC Xo:Value}
  {d8:Addr} {od8 WX:Option Addr} {sl8:Array (Option Value)} {oc8 kV8 XG pm8 QD Xp:Value}
  {d9:Addr} {od9 WY:Option Addr} {sl9:Array (Option Value)} {oc9 kV9 XH pm9 QE Xq:Value}
  {Nq:Addr} {UJ Qh:Option Addr} {VI:Array (Option Value)} {Uu TC Q9 U5 LY QH:Value}
  {Nr:Addr} {UK Qi:Option Addr} {VJ:Array (Option Value)} {Uv TF Rc U6 LZ QI:Value}
  {Nt:Addr} {UL Qj:Option Addr} {VL:Array (Option Value)} {Uw TH Rf U7 L0 QJ:Value}
  {Nu:Addr} {UM Qk:Option Addr} {VM:Array (Option Value)} {Ux TJ Rg U8 L1 QK:Value}
  {Nv:Addr} {UN Ql:Option Addr} {VN:Array (Option Value)} {Uy TK Rh U9 L3 QL:Value}
  {Nw:Addr} {UO Qm:Option Addr} {VO:Array (Option Value)} {Uz TL Ri Va L4 QM:Value}
  {Ny:Addr} {UP Qn:Option Addr} {VP:Array (Option Value)} {UA TM Rj Vb L5 QN:Value}
  {Nz:Addr} {UQ Qo:Option Addr} {VQ:Array (Option Value)} {UB TN Rk Vc L6 QO:Value}
  {NA:Addr} {UR Qp:Option Addr} {VR:Array (Option Value)} {UC TQ Rl Vd L7 QP:Value}
  {NB:Addr} {US Qq:Option Addr} {VS:Array (Option Value)} {UD TR Rn Ve L8 QQ:Value}
  {ND:Addr} {UT Qr:Option Addr} {VT:Array (Option Value)} {UE TU Ro Vf L9 QR:Value}
  {NF:Addr} {UU Qs:Option Addr} {VU:Array (Option Value)} {UG TV Rp Vg Ma QS:Value}
  {NG:Addr} {UW Qt:Option Addr} {VV:Array (Option Value)} {UH TX Rq Vh Mb QT:Value}
  {NH:Addr} {UX Qu:Option Addr} {VW:Array (Option Value)} {UI TY Rt Vi Mc QU:Value}
  {i0:Addr} {ZI ZU:Option Addr} {js0:Array (Option Value)} {ZC ZO Z0 Z6 Tu jt0:Value}
  {i1:Addr} {ZJ ZV:Option Addr} {js1:Array (Option Value)} {ZD ZP Z1 Z7 Tv jt1:Value}
  {i2:Addr} {ZK ZW:Option Addr} {js2:Array (Option Value)} {ZE ZQ Z2 Z8 Tw jt2:Value}
  {i3:Addr} {ZL ZX:Option Addr} {js3:Array (Option Value)} {ZF ZR Z3 Z9 Tx jt3:Value}
  {i4:Addr} {ZM ZY:Option Addr} {js4:Array (Option Value)} {ZG ZS Z4 jp4 Tz jt4:Value}
  {i5:Addr} {ZN ZZ:Option Addr} {js5:Array (Option Value)} {ZH ZT Z5 jp5 TB jt5:Value}
  (gC:PySem.W.nsIn K mainGlobals "Web"=some (some (.ref C)))
  (a0:gQ K "round_from" d0)
  (l0:fi K "round_from" "round_from" jy d0 od0 WO sl0 oc0 kV0 Xw pm0 Qv Xh)
  (c0:PySem.W.codeIn K Qv "round_from"=true)
  (k0:PySem.W.keepIn K (.ref d0)=true)
  (a1:gQ K "lands" d1)
  (l1:fi K "lands" "lands" mm d1 od1 WQ sl1 oc1 kV1 Xx IT Qw Xi)
  (c1:PySem.W.codeIn K Qw "lands"=true)
  (k1:PySem.W.keepIn K (.ref d1)=true)
  (a2:gQ K "count" d2)
  (l2:fi K "count" "count" uZ d2 od2 WR oN oc2 kV2 Xy La Qx Xj)
  (c2:PySem.W.codeIn K Qx "count"=true)
  (k2:PySem.W.keepIn K (.ref d2)=true)
  (a3:gQ K "is_plane" d3)
  (l3:fi K "is_plane" "is_plane" mj d3 od3 WS sl3 oc3 kV3 Xz CF Qy Xk)
  (c3:PySem.W.codeIn K Qy "is_plane"=true)
  (k3:PySem.W.keepIn K (.ref d3)=true)
  (a4:gQ K "is_among" d4)
  (l4:fi K "is_among" "is_among" mh d4 od4 WT sl4 oc4 kV4 XA pm4 Qz Xl)
  (c4:PySem.W.codeIn K Qz "is_among"=true)
  (k4:PySem.W.keepIn K (.ref d4)=true)
  (a5:gQ K "alien_fault" d5)
  (l5:fi K "alien_fault" "alien_fault" iM d5 od5 WU sl5 oc5 kV5 XB Lb QA Xm)
  (c5:PySem.W.codeIn K QA "alien_fault"=true)
  (k5:PySem.W.keepIn K (.ref d5)=true)
  (a6:gQ K "self_fault" d6)
  (l6:fi K "self_fault" "self_fault" jz d6 od6 WV sl6 oc6 kV6 XE pm6 QB Xn)
  (c6:PySem.W.codeIn K QB "self_fault"=true)
  (k6:PySem.W.keepIn K (.ref d6)=true)
  (a7:gQ K "twice_fault" d7)
  (l7:fi K "twice_fault" "twice_fault" iP d7 od7 WW sl7 oc7 kV7 XF pm7 QC Xo)
  (c7:PySem.W.codeIn K QC "twice_fault"=true)
  (k7:PySem.W.keepIn K (.ref d7)=true)
  (a8:gQ K "lone_fault" d8)
  (l8:fi K "lone_fault" "lone_fault" jx d8 od8 WX sl8 oc8 kV8 XG pm8 QD Xp)
  (c8:PySem.W.codeIn K QD "lone_fault"=true)
  (k8:PySem.W.keepIn K (.ref d8)=true)
  (a9:gQ K "reached_from_first" d9)
  (l9:fi K "reached_from_first" "reached_from_first" cB d9 od9 WY sl9 oc9 kV9 XH pm9 QE Xq)
  (c9:PySem.W.codeIn K QE "reached_from_first"=true)
  (k9:PySem.W.keepIn K (.ref d9)=true)
  (WA:gQ K "apart_fault" Nq)
  (l10:fi K "apart_fault" "apart_fault" iN Nq UJ Qh VI Uu TC Q9 U5 LY QH)
  (W0:PySem.W.codeIn K LY "apart_fault"=true)
  (k10:PySem.W.keepIn K (.ref Nq)=true)
  (WB:gQ K "first_fault" Nr)
  (l11:fi K "first_fault" "first_fault" iO Nr UK Qi VJ Uv TF Rc U6 LZ QI)
  (W2:PySem.W.codeIn K LZ "first_fault"=true)
  (k11:PySem.W.keepIn K (.ref Nr)=true)
  (WC:gQ K "_law_cell" Nt)
  (l12:fi K "_law_cell" "_law_cell" pW Nt UL Qj VL Uw TH Rf U7 L0 QJ)
  (W3:PySem.W.codeIn K L0 "_law_cell"=true)
  (k12:PySem.W.keepIn K (.ref Nt)=true)
  (WD:gQ K "_law_mixed" Nu)
  (l13:fi K "_law_mixed" "_law_mixed" nN Nu UM Qk VM Ux TJ Rg U8 L1 QK)
  (W4:PySem.W.codeIn K L1 "_law_mixed"=true)
  (k13:PySem.W.keepIn K (.ref Nu)=true)
  (WE:gQ K "_law_digits" Nv)
  (kZ:fi K "_law_digits" "_law_digits" lZ Nv UN Ql VN Uy TK Rh U9 L3 QL)
  (W5:PySem.W.codeIn K L3 "_law_digits"=true)
  (k14:PySem.W.keepIn K (.ref Nv)=true)
  (WG:gQ K "_law_take" Nw)
  (l15:fi K "_law_take" "_law_take" pY Nw UO Qm VO Uz TL Ri Va L4 QM)
  (W6:PySem.W.codeIn K L4 "_law_take"=true)
  (k15:PySem.W.keepIn K (.ref Nw)=true)
  (WH:gQ K "_law_tree" Ny)
  (l16:fi K "_law_tree" "_law_tree" pZ Ny UP Qn VP UA TM Rj Vb L5 QN)
  (W7:PySem.W.codeIn K L5 "_law_tree"=true)
  (k16:PySem.W.keepIn K (.ref Ny)=true)
  (WI:gQ K "_law_next" Nz)
  (l17:fi K "_law_next" "_law_next" pX Nz UQ Qo VQ UB TN Rk Vc L6 QO)
  (W8:PySem.W.codeIn K L6 "_law_next"=true)
  (k17:PySem.W.keepIn K (.ref Nz)=true)
  (WJ:gQ K "_law_round" NA)
  (l18:fi K "_law_round" "_law_round" nO NA UR Qp VR UC TQ Rl Vd L7 QP)
  (W9:PySem.W.codeIn K L7 "_law_round"=true)
  (k18:PySem.W.keepIn K (.ref NA)=true)
  (WK:gQ K "_law_tie" NB)
  (l19:fi K "_law_tie" "_law_tie" rO NB US Qq VS UD TR Rn Ve L8 QQ)
  (Xa:PySem.W.codeIn K L8 "_law_tie"=true)
  (k19:PySem.W.keepIn K (.ref NB)=true)
  (WL:gQ K "_law_renamed" ND)
  (l20:fi K "_law_renamed" "_law_renamed" kH ND UT Qr VT UE TU Ro Vf L9 QR)
  (Xb:PySem.W.codeIn K L9 "_law_renamed"=true)
  (k20:PySem.W.keepIn K (.ref ND)=true)
  (WM:gQ K "_law_web" NF)
  (l21:fi K "_law_web" "_law_web" rP NF UU Qs VU UG TV Rp Vg Ma QS)
  (Xc:PySem.W.codeIn K Ma "_law_web"=true)
  (k21:PySem.W.keepIn K (.ref NF)=true)
  (WN:gQ K "_law_begun" NG)
  (l22:fi K "_law_begun" "_law_begun" gG NG UW Qt VV UH TX Rq Vh Mb QT)
  (Xd:PySem.W.codeIn K Mb "_law_begun"=true)
  (k22:PySem.W.keepIn K (.ref NG)=true)
  (Qf:gQ K "law" NH)
  (l23:fi K "law" "law" oK NH UX Qu VW UI TY Rt Vi Mc QU)
  (Xe:PySem.W.codeIn K Mc "law"=true)
  (k23:PySem.W.keepIn K (.ref NH)=true)
  (m0:PySem.W.findIn K (.ref C) "__init__"=some (some (.ref i0)))
  (f0:PySem.W.isFn K (.ref i0)=true)
  (ml0:fi K "__init__" "Web.__init__" dS i0 ZI ZU js0 ZC ZO Z0 Z6 Tu jt0)
  (mc0:PySem.W.codeIn K Tu "Web.__init__"=true)
  (mk0:PySem.W.keepIn K (.ref i0)=true)
  (m1:PySem.W.findIn K (.ref C) "many"=some (some (.ref i1)))
  (f1:PySem.W.isFn K (.ref i1)=true)
  (ml1:fi K "many" "Web.many" lY i1 ZJ ZV js1 ZD ZP Z1 Z7 Tv jt1)
  (mc1:PySem.W.codeIn K Tv "Web.many"=true)
  (mk1:PySem.W.keepIn K (.ref i1)=true)
  (m2:PySem.W.findIn K (.ref C) "turns"=some (some (.ref i2)))
  (f2:PySem.W.isFn K (.ref i2)=true)
  (KH:fi K "turns" "Web.turns" pV i2 ZK ZW js2 ZE ZQ Z2 Z8 Tw jt2)
  (mc2:PySem.W.codeIn K Tw "Web.turns"=true)
  (mk2:PySem.W.keepIn K (.ref i2)=true)
  (m3:PySem.W.findIn K (.ref C) "ties"=some (some (.ref i3)))
  (f3:PySem.W.isFn K (.ref i3)=true)
  (ml3:fi K "ties" "Web.ties" jf i3 ZL ZX js3 ZF ZR Z3 Z9 Tx jt3)
  (mc3:PySem.W.codeIn K Tx "Web.ties"=true)
  (mk3:PySem.W.keepIn K (.ref i3)=true)
  (m4:PySem.W.findIn K (.ref C) "tied"=some (some (.ref i4)))
  (f4:PySem.W.isFn K (.ref i4)=true)
  (ml4:fi K "tied" "Web.tied" rN i4 ZM ZY js4 ZG ZS Z4 jp4 Tz jt4)
  (mc4:PySem.W.codeIn K Tz "Web.tied"=true)
  (mk4:PySem.W.keepIn K (.ref i4)=true)
  (m5:PySem.W.findIn K (.ref C) "behind"=some (some (.ref i5)))
  (f5:PySem.W.isFn K (.ref i5)=true)
  (ml5:fi K "behind" "Web.behind" jw i5 ZN ZZ js5 ZH ZT Z5 jp5 TB jt5)
  (mc5:PySem.W.codeIn K TB "Web.behind"=true)
  (mk5:PySem.W.keepIn K (.ref i5)=true)
  (pgC:PySem.W.plainGet K C Str.empty=true)
  (Ka:PySem.W.hasDictIn K C=true)
  (poC:PySem.W.plainOver K C=true)
  (saC:PySem.W.findIn K (.ref C) "__setattr__"=some (some (.builtin "object.__setattr__")))
  (mkC:PySem.W.makesIn K C=true)
  (kpC:PySem.W.keepIn K (.ref C)=true)
  (nR:PySem.W.findIn K (.ref C) "rows"=some none)
  (Xf:PySem.W.nsIn K mainGlobals "MOST_POINTS"=some (some (.int 14 Wh)))
  (Wr:PySem.W.nsIn K mainGlobals "len"=some none)
  (LO:PySem.W.nsIn K mainGlobals "range"=some none)
  (Ws:PySem.W.nsIn K mainGlobals "max"=some none)
  (Wt:PySem.W.nsIn K mainGlobals "min"=some none)
  (Bd:PySem.W.nsIn K mainGlobals "enumerate"=some none)
  (Ww:PySem.W.nsIn K mainGlobals "zip"=some none)
  (JD:PySem.W.nsIn K mainGlobals "sorted"=some none)
  (Wo:PySem.W.nsIn K mainGlobals "all"=some none)
  (zl:PySem.W.nsIn K mainGlobals "isinstance"=some none)
  (Wq:PySem.W.nsIn K mainGlobals "int"=some none)
  (P1:PySem.W.nsIn K mainGlobals "bool"=some none)
  (P2:PySem.W.nsIn K mainGlobals "list"=some none)
  (LP:PySem.W.nsIn K mainGlobals "tuple"=some none)
  (Wv:PySem.W.nsIn K mainGlobals "sum"=some none)
  (Dl:PySem.W.nsIn K mainGlobals "reversed"=some none)
  (Wu:PySem.W.nsIn K mainGlobals "set"=some none)
  :∃fd:FuncData,(∀(s:Shared)(v:Value),BindsTo s fd ⟨[v],[]⟩ [("_law_script",v)])∧∀base:Heap,K.In base→base.Ns mainGlobals mg→FnOk l.prog w K mg base bQ 40 fa fd ["_law_script"] (L2.qb K):=by
 have e:=YJ.symm.trans (PySem.W.mg_of X G Qf);cases e;have E0:=pk (st:=dS) ml0 mc0 mk0;have e0:=E0.binds (ps:= ["self","turns"]) (λ_ _ _ _ _ _ _ hl=>by obtain ⟨_,_,rfl⟩:=L2.lK hl;rfl)
 let Z:DC:=⟨K,C⟩
 let T:Txt Z mg:=⟨⟨PySem.W.mg_none_of X G Wr,PySem.W.mg_none_of X G LO,PySem.W.mg_none_of X G Ws,PySem.W.mg_none_of X G Wt,PySem.W.mg_none_of X G Bd,PySem.W.mg_none_of X G Ww,PySem.W.mg_none_of X G JD,PySem.W.mg_none_of X G Wo,PySem.W.mg_none_of X G zl,PySem.W.mg_none_of X G Wq,PySem.W.mg_none_of X G P1,PySem.W.mg_none_of X G P2,PySem.W.mg_none_of X G LP,PySem.W.mg_none_of X G Wv,PySem.W.mg_none_of X G Dl⟩,PySem.W.mg_none_of X G Wu, .of X G a0 l0 c0 k0 (λ_ _ _ _ _ _ _ hl=>by obtain ⟨_,_,rfl⟩:=L2.lK hl;rfl), .of X G a1 l1 c1 k1 (λ_ _ _ _ _ _ _ hl=>by obtain ⟨_,rfl⟩:=L2.g7 hl;rfl), .of X G a2 l2 c2 k2 (λ_ _ _ _ _ _ _ hl=>by obtain ⟨_,rfl⟩:=L2.g7 hl;rfl), .of X G a3 l3 c3 k3 (λ_ _ _ _ _ _ _ hl=>by obtain ⟨_,rfl⟩:=L2.g7 hl;rfl), .of X G a4 l4 c4 k4 (λ_ _ _ _ _ _ _ hl=>by obtain ⟨_,_,rfl⟩:=L2.lK hl;rfl), .of X G a5 l5 c5 k5 (λ_ _ _ _ _ _ _ hl=>by obtain ⟨_,rfl⟩:=L2.g7 hl;rfl), .of X G a6 l6 c6 k6 (λ_ _ _ _ _ _ _ hl=>by obtain ⟨_,rfl⟩:=L2.g7 hl;rfl), .of X G a7 l7 c7 k7 (λ_ _ _ _ _ _ _ hl=>by obtain ⟨_,rfl⟩:=L2.g7 hl;rfl), .of X G a8 l8 c8 k8 (λ_ _ _ _ _ _ _ hl=>by obtain ⟨_,rfl⟩:=L2.g7 hl;rfl), .of X G a9 l9 c9 k9 (λ_ _ _ _ _ _ _ hl=>by obtain ⟨_,rfl⟩:=L2.g7 hl;rfl), .of X G WA l10 W0 k10 (λ_ _ _ _ _ _ _ hl=>by obtain ⟨_,rfl⟩:=L2.g7 hl;rfl), .of X G WB l11 W2 k11 (λ_ _ _ _ _ _ _ hl=>by obtain ⟨_,rfl⟩:=L2.g7 hl;rfl), .of X G WC l12 W3 k12 (λ_ _ _ _ _ _ _ hl=>by obtain ⟨_,_,rfl⟩:=L2.lK hl;rfl), .of X G WD l13 W4 k13 (λ_ _ _ _ _ _ _ hl=>by obtain ⟨_,_,rfl⟩:=L2.lK hl;rfl), .of X G WE kZ W5 k14 (λ_ _ _ _ _ _ _ hl=>by obtain ⟨_,_,rfl⟩:=L2.lK hl;rfl), .of X G WG l15 W6 k15 (λ_ _ _ _ _ _ _ hl=>by obtain ⟨_,_,rfl⟩:=L2.lK hl;rfl), .of X G WH l16 W7 k16 (λ_ _ _ _ _ _ _ hl=>by obtain ⟨_,_,rfl⟩:=L2.lK hl;rfl), .of X G WI l17 W8 k17 (λ_ _ _ _ _ _ _ hl=>by obtain ⟨_,_,rfl⟩:=L2.lK hl;rfl), .of X G WJ l18 W9 k18 (λ_ _ _ _ _ _ _ hl=>by obtain ⟨_,_,rfl⟩:=L2.lK hl;rfl), .of X G WK l19 Xa k19 (λ_ _ _ _ _ _ _ hl=>by obtain ⟨_,_,_,rfl⟩:=L2.Au hl;rfl), .of X G WL l20 Xb k20 (λ_ _ _ _ _ _ _ hl=>by obtain ⟨_,_,_,rfl⟩:=L2.Au hl;rfl), .of X G WM l21 Xc k21 (λ_ _ _ _ _ _ _ hl=>by obtain ⟨_,_,_,rfl⟩:=L2.Au hl;rfl), .of X G WN l22 Xd k22 (λ_ _ _ _ _ _ _ hl=>by obtain ⟨_,rfl⟩:=L2.g7 hl;rfl), .of X G Qf l23 Xe k23 (λ_ _ _ _ _ _ _ hl=>by obtain ⟨_,rfl⟩:=L2.g7 hl;rfl),⟨⟨pgC,Ka,poC,saC⟩,nR⟩,PySem.W.mg_of X G gC,i0,_,E0,⟨mkC,m0,f0,kpC⟩,e0, .of m1 f1 ml1 mc1 mk1 (λ_ _ _ _ _ _ _ hl=>by obtain ⟨_,rfl⟩:=L2.g7 hl;rfl), .of m2 f2 KH mc2 mk2 (λ_ _ _ _ _ _ _ hl=>by obtain ⟨_,rfl⟩:=L2.g7 hl;rfl), .of m3 f3 ml3 mc3 mk3 (λ_ _ _ _ _ _ _ hl=>by obtain ⟨_,rfl⟩:=L2.g7 hl;rfl), .of m4 f4 ml4 mc4 mk4 (λ_ _ _ _ _ _ _ hl=>by obtain ⟨_,_,_,rfl⟩:=L2.Au hl;rfl), .of m5 f5 ml5 mc5 mk5 (λ_ _ _ _ _ _ _ hl=>by obtain ⟨_,_,_,rfl⟩:=L2.Au hl;rfl),⟨Wh,PySem.W.mg_of X G Xf⟩⟩
 exact ⟨_,λs v=> .of_eq rfl,λbase _ _=>(((KR (P:=l.prog) (w:=w) (base:=base) T).mono (by decide)).imp (L2.Ky (Z:=Z)))⟩
theorem walk{l:PySem.W.OpenLaw}{q:Program}{loose:List Str}{XP:(Str→Option Value)→Heap→Prop}{YP:World→Heap→Prop}{d:DefRec}{K:Params→PySem.W.Frag}(hn:l.most=some 63)(BQ:d.params.defaults= [])
  (hY:∀(w:World)(h:Heap),YP w h→(K w.params).In h)
  (F:∀(w:World)(mg:Str→Option Value)(fa:Addr)(h:Heap),(K w.params).In h→h.Ns mainGlobals mg→mg d.name=some (.ref fa)→
   ∃fd:FuncData,(∀(s:Shared)(u:Value),BindsTo s fd ⟨[u],[]⟩ [("_law_script",u)])∧∀base:Heap,(K w.params).In base→base.Ns mainGlobals mg→FnOk l.prog w (K w.params) mg base bQ 40 fa fd ["_law_script"] (qb (K w.params))):
  PySem.W.WalkO q loose XP YP l.row.toRowW d [] (λf vs=>PySem.call f vs):=L2.PZ 40 (by decide) hn BQ hY F
end Bm
def PySem.W.Fast.tw7566252565114172216:Nat:=0
def PySem.W.Fast.tw14432135582017050214:Nat:=0
def PySem.W.Fast.tw15698070221787596581:Nat:=0
def PySem.W.Fast.tw2555017277594222628:Nat:=0
def PySem.W.Fast.tw9120260825652363712:Nat:=0
def PySem.W.Fast.tw1615551308319939397:Nat:=0
def PySem.W.Fast.tw15419738598864913845:Nat:=0
def PySem.W.Fast.tw3101322391235813838:Nat:=0
def PySem.W.Fast.tw2327826404152325738:Nat:=0
def PySem.W.Fast.tw10920164998854378922:Nat:=0
def PySem.W.Fast.tw2595214388345011826:Nat:=0
def PySem.W.Fast.tw3728438131104087564:Nat:=0
def PySem.W.Fast.tw12738678753475840771:Nat:=0
def PySem.W.Fast.tw13384558135062190047:Nat:=0
def PySem.W.Fast.tw12968414681190186792:Nat:=0
def PySem.W.Fast.tw13631379430493776:Nat:=0
def PySem.W.Fast.tw11909276479676405425:Nat:=0
def PySem.W.Fast.tw1541115728097824581:Nat:=0
def PySem.W.Fast.tw5883365869378975867:Nat:=0
def PySem.W.Fast.tw8695307093226869639:Nat:=0
def PySem.W.Fast.tw9517159277453958384:Nat:=0
def PySem.W.Fast.tw14810158497592372145:Nat:=0
def PySem.W.Fast.tw9460963754552533081:Nat:=0
def PySem.W.Fast.tw15938210256936543225:Nat:=0
def PySem.W.Fast.tw9087509816357488800:Nat:=0
def PySem.W.Fast.tw805719994983591878:Nat:=0
def PySem.W.Fast.tw17293259989788509132:Nat:=0
def PySem.W.Fast.tw923352125114301299:Nat:=0
def PySem.W.Fast.tw3159160889800963974:Nat:=0
def PySem.W.Fast.tw4917107799862263280:Nat:=0
def PySem.W.Fast.tw13010559068089539615:Nat:=0
def PySem.W.Fast.tw3888066306244692104:Nat:=0
def PySem.W.Fast.tw14360806116145462987:Nat:=0
def PySem.W.Fast.tw14809202639979603880:Nat:=0
def PySem.W.Fast.tw4901652139672734156:Nat:=0
def PySem.W.Fast.tw5737798377623795711:Nat:=0
def PySem.W.Fast.tw17222770821205848720:Nat:=0
def PySem.W.Fast.tw10358378782580832012:Nat:=0
def PySem.W.Fast.tw274338878182028048:Nat:=0
def PySem.W.Fast.tw12825878987452835362:Nat:=0
def PySem.W.Fast.tw11037356558353389022:Nat:=0
def PySem.W.Fast.tw1418549744938440532:Nat:=0
def PySem.W.Fast.tw15148779754345120578:Nat:=0
def PySem.W.Fast.tw815891006570534234:Nat:=0
def PySem.W.Fast.tw5805581736917095848:Nat:=0
def PySem.W.Fast.tw4744055313832318424:Nat:=0
def PySem.W.Fast.tw8406795788031429073:Nat:=0
def PySem.W.Fast.tw15835173859986652871:Nat:=0
def PySem.W.Fast.tw3920062340068395211:Nat:=0
def PySem.W.Fast.tw9700439494395445800:Nat:=0
def PySem.W.Fast.tw15302183006688516780:Nat:=0
def PySem.W.Fast.tw11481933962393029524:Nat:=0
def PySem.W.Fast.tw3075292109665082611:Nat:=0
def PySem.W.Fast.tw11187666979411667824:Nat:=0
def PySem.W.Fast.tw18237393962361107561:Nat:=0
def PySem.W.Fast.tw9045969368310020502:Nat:=0
def PySem.W.Fast.tw14302076255348094981:Nat:=0
def PySem.W.Fast.tw17046208546572857951:Nat:=0
def PySem.W.Fast.tw13093317724119246219:Nat:=0
def PySem.W.Fast.tw2767110753415489177:Nat:=0
def PySem.W.Fast.tw1134498921409844522:Nat:=0
def PySem.W.Fast.tw14468005530087950841:Nat:=0
def PySem.W.Fast.tw10834639359938311620:Nat:=0
def PySem.W.Fast.tw158405833090723526:Nat:=0
def PySem.W.Fast.tw13542261665874424480:Nat:=0
def PySem.W.Fast.tw964380900830569010:Nat:=0
open PySem PySem.W PyProof.Rows
set_option maxRecDepth 100000 in
set_option maxHeartbeats 0 in
theorem PySem.Challenge.cw_mapdye_k15_whole_renamed_and_mirrored_holds : PySem.Challenge.rw_mapdye_k15_whole_renamed_and_mirrored.Holds := by
 w_on;o_law;k_head;(case hw=>w_witness2)
 k_fill
 refine Bm.walk (l:=PySem.Challenge.rw_mapdye_k15_whole_renamed_and_mirrored) rfl rfl (λw h Y=>PySem.W.kIn_of Y) ?F
 case F=>
  intro w mg fa h KX G qD
  refine' Bm.all_mk KX G qD ?_ ?_ ?_ ?_ ?_ ?_ ?_ ?_ ?_ ?_ ?_ ?_ ?_ ?_ ?_ ?_ ?_ ?_ ?_ ?_ ?_ ?_ ?_ ?_ ?_ ?_ ?_ ?_ ?_ ?_ ?_ ?_ ?_ ?_ ?_ ?_ ?_ ?_ ?_ ?_ ?_ ?_ ?_ ?_ ?_ ?_ ?_ ?_ ?_ ?_ ?_ ?_ ?_ ?_ ?_ ?_ ?_ ?_ ?_ ?_ ?_ ?_ ?_ ?_ ?_ ?_ ?_ ?_ ?_ ?_ ?_ ?_ ?_ ?_ ?_ ?_ ?_ ?_ ?_ ?_ ?_ ?_ ?_ ?_ ?_ ?_ ?_ ?_ ?_ ?_ ?_ ?_ ?_ ?_ ?_ ?_ ?_ ?_ ?_ ?_ ?_ ?_ ?_ ?_ ?_ ?_ ?_ ?_ ?_ ?_ ?_ ?_ ?_ ?_ ?_ ?_ ?_ ?_ ?_ ?_ ?_ ?_ ?_ ?_ ?_ ?_ ?_ ?_ ?_ ?_ ?_ ?_ ?_ ?_ ?_ ?_ ?_ ?_ ?_ ?_ ?_ ?_ ?_ ?_ ?_ ?_ ?_ ?_ ?_ ?_ ?_
  all_goals (try (show _=_;k_is))
