import PyProof.Rows.All
import Wide.All
import OpenK.AllK
import Wide.FinOn
import Lean
import PyProof.EqAt
import PyProof.EqKinds
import PyProof.TupleCall
import KE.KSortTup
import PyProof.NeKinds
import PyProof.SetKind
import PyProof.SetRoads
import PyProof.SetNew
import PyProof.WalksS
import PyProof.CollectWalk
import PyProof.TupleKey
import PyProof.IsRules
import PyProof.InstEq
import KE.KRevIter
import PyProof.FitsBits
import PyProof.P3Eq
import PyProof.ListRange
import PyProof.MeetsSeq
import PySem.Challenge.RW_mapdye_k35_whole_counts_and_turned_rings
set_option Elab.async false
set_option linter.all false
set_option maxRecDepth 100000
abbrev aJ:= @List.getD_eq_getElem?_getD
abbrev bq:= @List.getElem?_eq_getElem
abbrev cv:= @List.mem_cons_of_mem
abbrev b4:= @List.mem_cons_self
abbrev cy:= @List.length_append
abbrev br:= @Nat.le_refl
abbrev cg:= @List.mem_range
abbrev fA:= @List.getElem?_eq_some_iff
abbrev eW:= @List.mem_append_right
abbrev dW:= @Bool.false_ne_true
abbrev dP:= @List.getElem?_append_left
abbrev bx:= @List.mem_map
abbrev b8:= @List.length_take
abbrev eu:= @List.idxOf_lt_length_iff
abbrev cB:= @List.size_toArray
abbrev fG:= @List.getElem?_append_right
abbrev b9:= @List.mem_cons
abbrev cc:= @Nat.ne_of_lt
abbrev fo:= @List.mem_append_left
abbrev fq:= @List.mem_iff_getElem
abbrev dE:= @List.length_drop
abbrev eC:= @List.getElem?_map
abbrev cn:= @Nat.zero_le
abbrev dF:= @List.mem_append
abbrev fg:= @List.nodup_append
abbrev eU:= @List.length_cons
abbrev eV:= @Nat.mod_eq_of_lt
abbrev fH:= @List.getElem_idxOf
abbrev f7:= @List.mem_of_getElem?
abbrev fh:= @List.map_append
abbrev f9:= @Nat.lt_of_lt_of_le
abbrev gO:= @Array.length_toList
abbrev gd:= @List.length_range
abbrev i9:= @List.getElem?_eq_none
abbrev jT:= @List.take_append_drop
abbrev gf:= @List.nodup_cons
abbrev ja:= @List.mem_singleton
abbrev fW:= @Nat.lt_irrefl
abbrev fI:= @List.map_map
abbrev nk:= @List.getElem?_take_of_lt
abbrev jb:= @List.pairwise_map
abbrev jc:= @List.flatMap_cons
abbrev kK:= @List.getD_cons_succ
abbrev iI:= @List.length_nil
abbrev iJ:= @List.mem_filter
abbrev q0:= @Array.getD_eq_getD_getElem?
abbrev rb:= @Array.getElem?_eq_getElem
abbrev pU:= @List.getElem?_set_self
abbrev iK:= @List.map_cons
abbrev pV:= @Array.getElem?_toList
abbrev jd:= @List.map_take
abbrev kL:= @List.length_set
abbrev kM:= @List.nil_append
abbrev me:= @List.nodup_range
abbrev jU:= @List.map_drop
abbrev kN:= @List.nodup_nil
abbrev uy:= @List.getElem?_cons_succ
abbrev nu:= @Nat.le_of_not_lt
abbrev nv:= @List.getElem_mem
abbrev jV:= @Nat.le_trans
abbrev uz:= @List.drop_eq_nil_of_le
abbrev rd:= @List.length_pos_iff
abbrev nz:= @List.append_nil
abbrev vQ:= @List.drop_eq_getElem_cons
abbrev uA:= @List.length_singleton
abbrev kO:= @Nat.sub_self
abbrev pW:= @List.lookup_cons
abbrev pX:= @List.mem_flatMap
abbrev je:= @Nat.mod_lt
abbrev rg:= @List.getElem?_set
abbrev uB:= @List.replicate_succ
abbrev zf:= @Array.getElem?_eq_some_iff
abbrev zg:= @List.nodup_iff_pairwise_ne
abbrev rh:= @Bool.and_eq_true
abbrev rj:= @List.filter_cons
abbrev uC:= @List.getElem?_drop
abbrev vS:= @List.length_replicate
abbrev vT:= @List.length_filter_le
abbrev nB:= @Nat.zero_add
abbrev vU:= @List.getElem?_set_ne
abbrev uD:= @List.append_assoc
abbrev vV:= @List.map_congr_left
abbrev vW:= @List.length_reverse
abbrev vX:= @List.flatMap_append
abbrev uE:= @List.not_mem_nil
abbrev zh:= @List.length_pos_of_mem
abbrev vY:= @Bool.false_eq_true
abbrev uF:= @List.range_succ
abbrev B3:= @List.perm_ext_iff_of_nodup
abbrev vZ:= @List.flatten_cons
abbrev v7:= @Int.toNat_natCast
abbrev v8:= @List.getElem_take
abbrev zi:= @List.getElem?_of_mem
abbrev pY:= @Nat.le_succ
abbrev v9:= @List.flatMap_nil
abbrev B4:= @List.set_eq_of_length_le
abbrev zj:= @List.getElem?_range
abbrev B5:= @List.getElem?_replicate
abbrev B6:= @List.length_eq_zero_iff
abbrev wa:= @List.idxOf_cons
abbrev zq100:= @List.mem_filterMap
abbrev xq:= @Array.getElem?_eq_none
abbrev ur:= @Bool.eq_false_iff
abbrev oG:= @Nat.le_of_lt
abbrev oH:= @Nat.mod_self
abbrev xr:= @List.concat_eq_append
abbrev uu:= @Nat.lt_succ_self
abbrev uv:= @List.getElem_map
abbrev A6:= @Array.perm_iff_toList_perm
abbrev xt:= @List.getElem_range
abbrev xu:= @Nat.mod_eq_sub_mod
abbrev uw:= @Bool.false_and
abbrev ux:= @Bool.xor_false
namespace L2
open PySem PySem.Spec PyProof.Rows
abbrev Key:=Sum Int Str
def Fh:Key→Value→Bool
 | .inl k,v=>Value.isInt k v
 | .inr x,v=>Value.isStrOf x v
def P8(w:World):Key→Int
 | .inl k=>hashInt k
 | .inr x=>hashStr w x
theorem cF:∀{k:Key}{v:Value},Fh k v=true→(∃i t,k=Sum.inl i∧v=Value.int i t)∨(∃x t,k=Sum.inr x∧v=Value.str x t)
 | .inl i,v,h=>by
  obtain ⟨t,e⟩:=Value.isInt_shape (k:=i) (v:=v) h;exact .inl ⟨i,t,rfl,e⟩
 | .inr x,v,h=>by
  obtain ⟨t,e⟩:=Value.isStrOf_shape (x:=x) (v:=v) h;exact .inr ⟨x,t,rfl,e⟩
theorem HK(a b:Int):decide ((Sum.inl a:Key)=Sum.inl b)=(a==b):=by
 by_cases e:a=b
 ·subst e;simp
 ·have h:¬(Sum.inl a:Key)=Sum.inl b:=λq=>e (Sum.inl.inj q)
  rw [decide_eq_false h];exact (beq_eq_false_iff_ne.mpr e).symm
theorem HP(a b:Str):decide ((Sum.inr a:Key)=Sum.inr b)=decide (a=b):=by
 by_cases e:a=b
 ·subst e;simp
 ·have h:¬(Sum.inr a:Key)=Sum.inr b:=λq=>e (Sum.inr.inj q)
  rw [decide_eq_false h,decide_eq_false e]
theorem HL(a:Int)(b:Str):decide ((Sum.inl a:Key)=Sum.inr b)=false:=decide_eq_false (λq=>nomatch q)
theorem HN(a:Str)(b:Int):decide ((Sum.inr a:Key)=Sum.inl b)=false:=decide_eq_false (λq=>nomatch q)
def tR(prog:Program)(w:World):PySem.KeyKind prog w Key where
 is:=Fh
 hash:=P8 w
 inj:=λv a b ha hb=>by
  rcases cF ha with ⟨i,t,rfl,rfl⟩ | ⟨x,t,rfl,rfl⟩
  ·rcases cF hb with ⟨j,u,rfl,e⟩ | ⟨y,u,rfl,e⟩
   ·injection e with e1 _;rw [e1]
   ·exact nomatch e
  ·rcases cF hb with ⟨j,u,rfl,e⟩ | ⟨y,u,rfl,e⟩
   ·exact nomatch e
   ·injection e with e1 _;rw [e1]
 byValue:=λk v h=>by
  rcases cF h with ⟨i,t,rfl,rfl⟩ | ⟨x,t,rfl,rfl⟩<;>rfl
 pyHash:=λhv h=>by
  rcases cF hv with ⟨i,t,rfl,rfl⟩ | ⟨x,t,rfl,rfl⟩
  ·exact wpAny_pyHash_int h
  ·exact wpAny_pyHash_str h
 eqBool:=λhu hv h=>by
  rcases cF hu with ⟨i,t,rfl,rfl⟩ | ⟨x,t,rfl,rfl⟩
  ·rcases cF hv with ⟨j,u,rfl,rfl⟩ | ⟨y,u,rfl,rfl⟩
   ·rw [HK] at h;exact wpAny_eqBool_int h
   ·rw [HL] at h;exact SeqAt.EqAt.int_str i t y u _ _ _ _ h
  ·rcases cF hv with ⟨j,u,rfl,rfl⟩ | ⟨y,u,rfl,rfl⟩
   ·rw [HN] at h;exact SeqAt.EqAt.str_int x t j u _ _ _ _ h
   ·rw [HP] at h;exact wpAny_eqBool_str h
 «strs»:=λk x t v h=>by
  rcases cF h with ⟨i,u,rfl,e⟩ | ⟨y,u,rfl,e⟩
  ·exact nomatch e
  ·injection e with e1 _
   subst e1;cases v<;>rfl
inductive V where
 |bf|bl (b:Bool) |int (i:Int) |str (x:Str) |B9 (b:Array UInt8) |zL (b:UInt64) |ref (a:Addr) |ty (n:String)
 deriving DecidableEq
def RelV:V→Value→Prop
 | .bf,u=>u=Value.none
 | .bl b,u=>u=Value.bool b
 | .int i,u=>∃t,u=Value.int i t
 | .str x,u=>∃t,u=Value.str x t
 | .B9 b,u=>∃t,u=Value.bytes b t
 | .zL b,u=>∃t,u=Value.float b t
 | .ref a,u=>u=Value.ref a
 | .ty n,u=>u=Value.type n
abbrev Vals:List V→List Value→Prop:=Paired RelV
theorem Vals.length{xs:List V}{us:List Value}(r:Vals xs us):xs.length=us.length:=Paired.length r
theorem Vals.get:∀{xs:List V}{us:List Value}{i:Nat}{x:V},Vals xs us→xs[i]? =some x→∃u,us[i]? =some u∧RelV x u
 |_,_,_,_, .nil,e=>by simp at e
 |_,_,0,_, .cons r _,e=>by simp at e;subst e;exact ⟨_,rfl,r⟩
 |_,_,i+1,x, .cons _ t,e=>by
  obtain ⟨u,h1,h2⟩:=Vals.get (i:=i) (x:=x) t (by simpa using e)
  exact ⟨u,by simpa using h1,h2⟩
theorem Vals.set{x:V}{u:Value}(r:RelV x u):∀{xs:List V}{us:List Value}(i:Nat),Vals xs us→Vals (xs.set i x) (us.set i u)
 |_,_,_, .nil=> .nil
 |_,_,0, .cons _ t=> .cons r t
 |_,_,i+1, .cons q t=> .cons q (Vals.set r i t)
theorem Vals.append:∀{xs ys:List V}{us ws:List Value},Vals xs us→Vals ys ws→Vals (xs++ys) (us++ws)
 |_,_,_,_, .nil,s=>s
 |_,_,_,_, .cons r t,s=> .cons r (Vals.append t s)
theorem Vals.take:∀{xs:List V}{us:List Value}(n:Nat),Vals xs us→Vals (xs.take n) (us.take n)
 |_,_,0,_=> .nil
 |_,_,_+1, .nil=> .nil
 |_,_,n+1, .cons r t=> .cons r (Vals.take n t)
theorem Vals.drop:∀{xs:List V}{us:List Value}(n:Nat),Vals xs us→Vals (xs.drop n) (us.drop n)
 |_,_,0,r=>r
 |_,_,_+1, .nil=> .nil
 |_,_,n+1, .cons _ t=>Vals.drop n t
def mP:Option V→Option Value→Prop
 |some v,some u=>RelV v u
 |none,none=>True
 |_,_=>False
def KV{κ:Type}:List (κ×V)→List (κ×Value)→Prop:=Paired λ(p:κ×V)(q:κ×Value)=>p.1=q.1∧RelV p.2 q.2
def kV:Key→V
 | .inl i=> .int i
 | .inr x=> .str x
inductive HO where
 |lst (xs:List V)
 |tup (xs:List V)
 |dK (dB:List (Key×V)) |dT (dB:List (List Key×V))
 |set (S:Int→Bool) (n:Nat)
 |ins (C dx:Addr) (fs:List (Str×V))
 |own (x:Addr)
 |xd (fs:List (Str×V))
 |met (f x:Addr)
 |rng (lo hi:Int)
 |nP (o:Obj) (u:HO)
 |y8 (ps:Array Value)
 |ext (φ:Heap→Prop)
abbrev Hp:=Addr→Option HO
def upd(H:Hp)(a:Addr)(o:HO):Hp:=λb=>if b=a then some o else H b
theorem aB{H:Hp}{a:Addr}{o:HO}:upd H a o a=some o:=by unfold upd;rw [if_pos rfl]
theorem aD{H:Hp}{a b:Addr}{o:HO}(h:b≠a):upd H a o b=H b:=by unfold upd;rw [if_neg h]
theorem aT{H:Hp}{a b:Addr}{o:HO}(h:H a=some o)(h':H b=none):a≠b:=by
 intro e;subst e;rw [h] at h';cases h'
section
variable (P:Program) (w:World)
def cJ(H:Hp)(h:Heap)(a:Addr):HO→Prop
 | .lst xs=>xs.length≤sizeLine∧∃(its:List Value)(n:Nat),Vals xs its∧h.get? a=some {cls:= .type "list",data:= .seq its.toArray n}
 | .tup xs=>xs.length≤sizeLine∧∃its:List Value,Vals xs its∧IsTup h a its.toArray
 | .dK dB=>dB.length≤sizeLine∧(a==sysModules)=false∧∃vs,KV dB vs∧h.DictOf (tR P w) a vs
 | .dT dB=>dB.length≤sizeLine∧(a==sysModules)=false∧∃xs:List (List Key×Addr×Value),
   Paired (λ(p:List Key×V)(q:List Key×Addr×Value)=>p.1=q.1∧H q.2.1=some (.tup (p.1.map kV))∧RelV p.2 q.2.2) dB xs∧
   ∃o es ep,h.get? a=some o∧o.ExactDict∧o.data= .dict es ep∧es.toList=xs.map (entryOfKey (tupleKind (tR P w)))∧(xs.map (·.1)).Nodup
 | .set S n=>h.SetOf (intKind P w) a S n
 | .ins C dx fs=>H dx=some (.own a)∧fs.length≤1000∧dx≠a∧h.get? a=some (PySem.W.instObj C dx)∧
   ∃mA,h.Ns1 dx mA∧(∀f,mP (fs.lookup f) (mA f))∧PySem.Within mA (fs.map (·.1))
 | .own _=>∃o,h.get? a=some o
 | .xd fs=>∃mA,h.Ns1 a mA∧∀f,mP (fs.lookup f) (mA f)
 | .rng lo hi=>∃t u v,h.get? a=some {cls:= .type "range",data:= .fields #[.int lo t, .int hi u, .int 1 v]}
 | .nP o u=>h.get? a=some o∧cJ H h a u
 | .y8 ps=>h.get? a=some {cls:= .none,data:= .fields ps}
 | .met f x=>h.get? a=some (PySem.W.methodObj (.ref f) (.ref x))
 | .ext φ=>φ h∧(∃o,h.get? a=some o)∧∀h1 h2:Heap,φ h1→(∀o,h1.get? a=some o→h2.get? a=some o)→φ h2
def gZ(H:Hp)(h:Heap):Prop:=∀a o,H a=some o→cJ P w H h a o
end
section
variable {P:Program} {w:World} {H H':Hp} {h h':Heap} {a:Addr} {o:HO}
theorem cJ.lt(x:cJ P w H h a o):a<h.objs.size:=by
 cases o with
 |lst xs=>obtain ⟨_,_,_,_,e⟩:=x;exact Heap.lt_size e
 |tup xs=>obtain ⟨_,_,_,p⟩:=x;exact p.lt
 |dK dB=>obtain ⟨_,_,_,_,o,_,_,e,_⟩:=x;exact Heap.lt_size e
 |dT dB=>obtain ⟨_,_,_,_,o,_,_,e,_⟩:=x;exact Heap.lt_size e
 |set S n=>obtain ⟨o,_,_,_,e,_⟩:=x;exact Heap.lt_size e
 |ins C dx fs=>obtain ⟨_,_,_,e,_⟩:=x;exact Heap.lt_size e
 |own y=>obtain ⟨_,e⟩:=x;exact Heap.lt_size e
 |xd fs=>obtain ⟨_,⟨_,_,_,e,_⟩,_⟩:=x;exact Heap.lt_size e
 |rng lo hi=>obtain ⟨_,_,_,e⟩:=x;exact Heap.lt_size e
 |nP ob u=>obtain ⟨e,_⟩:=x;exact Heap.lt_size e
 |y8 ps=>exact Heap.lt_size (show h.get? a=some _ from x)
 |met f y=>exact Heap.lt_size (show h.get? a=some _ from x)
 |ext φ=>obtain ⟨_,⟨_,e⟩,_⟩:=x;exact Heap.lt_size e
theorem Paired.JU{α β:Type}{F G:α→β→Prop}:∀{l₁:List α}{l₂:List β},Paired F l₁ l₂→(∀a b,F a b→G a b)→Paired G l₁ l₂
 |_,_, .nil,_=> .nil
 |_,_, .cons r t,f=> .cons (f _ _ r) (Paired.JU t f)
theorem cJ.pP(x:cJ P w H h a o)(k:∀b u,(b=a∨H b=some (.own a))→h.get? b=some u→h'.get? b=some u)
  (ho:∀b,H b=some (.own a)→H' b=some (.own a)) (ht:∀b xs,H b=some (.tup xs)→H' b=some (.tup xs)):cJ P w H' h' a o:=by
 induction o with
 |lst xs=>obtain ⟨z,its,n,r,e⟩:=x;exact ⟨z,its,n,r,k _ _ (.inl rfl) e⟩
 |tup xs=>obtain ⟨z,its,r,ob,e,c⟩:=x;exact ⟨z,its,r,ob,k _ _ (.inl rfl) e,c⟩
 |dK dB=>obtain ⟨z,y,vs,r,ob,es,ep,e,c⟩:=x;exact ⟨z,y,vs,r,ob,es,ep,k _ _ (.inl rfl) e,c⟩
 |dT dB=>
  obtain ⟨z,y,xs,r,ob,es,ep,e,c⟩:=x;exact ⟨z,y,xs,Paired.JU r λp q z=>⟨z.1,ht _ _ z.2.1,z.2.2⟩,ob,es,ep,k _ _ (.inl rfl) e,c⟩
 |set S n=>obtain ⟨ob,es,ep,t,e,c⟩:=x;exact ⟨ob,es,ep,t,k _ _ (.inl rfl) e,c⟩
 |ins C dx fs=>
  obtain ⟨d,z,ne,e,mA,⟨od,es,ep,e2,c⟩,r⟩:=x;exact ⟨ho _ d,z,ne,k _ _ (.inl rfl) e,mA,⟨od,es,ep,k _ _ (.inr d) e2,c⟩,r⟩
 |own y=>obtain ⟨ob,e⟩:=x;exact ⟨ob,k _ _ (.inl rfl) e⟩
 |xd fs=>obtain ⟨mA,⟨od,es,ep,e,c⟩,r⟩:=x;exact ⟨mA,⟨od,es,ep,k _ _ (.inl rfl) e,c⟩,r⟩
 |rng lo hi=>obtain ⟨t,u,v,e⟩:=x;exact ⟨t,u,v,k _ _ (.inl rfl) e⟩
 |nP ob u ih=>obtain ⟨e,q⟩:=x;exact ⟨k _ _ (.inl rfl) e,ih q⟩
 |y8 ps=>
  have e:h.get? a=some {cls:= .none,data:= .fields ps}:=x;show h'.get? a=some {cls:= .none,data:= .fields ps};exact k a _ (.inl rfl) e
 |met f y=>
  have e:h.get? a=some (PySem.W.methodObj (.ref f) (.ref y)):=x;show h'.get? a=some (PySem.W.methodObj (.ref f) (.ref y));exact k a _ (.inl rfl) e
 |ext φ=>obtain ⟨p,⟨o,e⟩,st⟩:=x;exact ⟨st _ _ p λo q=>k _ _ (.inl rfl) q,⟨o,k _ _ (.inl rfl) e⟩,st⟩
theorem gZ.lt(x:gZ P w H h)(e:H a=some o):a<h.objs.size:=(x a o e).lt
theorem gZ.fresh(x:gZ P w H h)(e:h.objs.size≤a):H a=none:=by
 cases q:H a with
 |none=>rfl
 |some u=>exact absurd (f9 (x.lt q) e) (fW _)
theorem gZ.kept(x:gZ P w H h)(k:∀b u,h.get? b=some u→h'.get? b=some u):gZ P w H h':=λa o e=>
 (x a o e).pP (λb u _ q=>k b u q) (λ_ q=>q) λ_ _ q=>q
theorem gZ.laid(x:gZ P w H h)(k:∀b u,h.get? b=some u→h'.get? b=some u)(hp:h.objs.size≤a)(new:cJ P w (upd H a o) h' a o):gZ P w (upd H a o) h':=λb u e=>by
 have hn:=x.fresh hp
 by_cases hb:b=a
 ·subst hb;rw [aB] at e;cases e;exact new
 ·rw [aD hb] at e
  exact (x b u e).pP (λc v _ q=>k c v q) (λc q=>by rw [aD (aT q hn)];exact q) λc xs q=>by rw [aD (aT q hn)];exact q
end
def Rd(H:Hp)(a:Addr)(u:HO):Prop:=H a=some u∨∃o,H a=some (.nP o u)
theorem Rd.ok{P:Program}{w:World}{H:Hp}{h:Heap}{a:Addr}{u:HO}(r:Rd H a u)(x:gZ P w H h):cJ P w H h a u:=by
 rcases r with r| ⟨o,r⟩
 ·exact x a u r
 ·obtain ⟨_,q⟩:=x a _ r
  exact q
def GY:Option HO→Prop
 |some (.lst _)=>True
 |some (.dK _)=>True
 |some (.dT _)=>True
 |some (.set _ _)=>True
 |some (.ins _ _ _)=>True
 |some (.ext _)=>True
 |_=>False
section
variable {P:Program} {w:World} {H:Hp} {h h':Heap} {x e:Addr} {o':HO}
theorem gZ.write(ok:gZ P w H h)(mu:GY (H x))(he:e=x∨H e=some (.own x))(k:∀b u,b≠e→h.get? b=some u→h'.get? b=some u)(Cv:∃u,h'.get? e=some u)
  (new:cJ P w (upd H x o') h' x o'):gZ P w (upd H x o') h':=λb u q=>by
 have JX:∀c y,H c=some (.own y)→c≠x:=λc y r z=>by subst z;rw [r] at mu;exact mu
 have Qg:∀c xs,H c=some (.tup xs)→c≠x:=λc xs r z=>by subst z;rw [r] at mu;exact mu
 by_cases hb:b=x
 ·subst hb;rw [aB] at q;cases q;exact new
 ·rw [aD hb] at q
  by_cases zW:b=e
  ·have q':H b=some (.own x):=by
    rcases he with z|z
    ·exact absurd (zW.trans z) hb
    ·rw [zW];exact z
   rw [q] at q';cases q';obtain ⟨v,hv⟩:=Cv;exact ⟨v,by rw [zW];exact hv⟩
  ·refine (ok b u q).pP (λc v hc r=>k c v ?_ r) (λc r=>by rw [aD (JX c b r)];exact r) λc xs r=>by rw [aD (Qg c xs r)];exact r
   rcases hc with rfl|hc
   ·exact zW
   ·rintro rfl
    rcases he with z|z
    ·exact JX c b hc z
    ·rw [hc] at z;cases z;exact hb rfl
end
structure Un (fs ex:List Addr) (H H':Hp) (h h':Heap):Prop where
 keep:∀b o,h.get? b=some o→H b=none→b∉fs→b∉ex→h'.get? b=some o
 slot:∀b o,h.get? b=some o→H b=none→b∈fs→b∉ex→∃sl,h'.get? b=some {o with slots:=sl}
 free:∀b o,h.get? b=some o→H b=none→b∉ex→H' b=none
 there:∀b o,h.get? b=some o→b∉ex→∃o',h'.get? b=some o'
 tups:∀b xs,H b=some (.tup xs)→H' b=some (.tup xs)
 frzs:∀b o u,H b=some (.nP o u)→H' b=some (.nP o u)
 tbls:∀b ps,H b=some (.y8 ps)→∃more,H' b=some (.y8 (ps++more))
section
variable {fs Ul ex Yv:List Addr} {H H1 H2:Hp} {h h1 h2 h':Heap} {a x e:Addr} {o:HO}
theorem Un.any(u:Un fs ex H H1 h h1){b:Addr}{ob:Obj}(q:h.get? b=some ob)(n:H b=none)(hx:b∉ex):∃sl,h1.get? b=some {ob with slots:=sl}:=by
 by_cases hb:b∈fs
 ·exact u.slot b ob q n hb hx
 ·exact ⟨ob.slots,u.keep b ob q n hb hx⟩
theorem Un.kept(k:∀b u,h.get? b=some u→h'.get? b=some u):Un fs ex H H h h':=
 ⟨λb ob q _ _ _=>k b ob q,λb ob q _ _ _=>⟨ob.slots,k b ob q⟩,λ_ _ _ n _=>n,λb ob q _=>⟨ob,k b ob q⟩,λ_ _ q=>q,λ_ _ _ q=>q,λ_ ps q=>⟨#[],by rw [q];simp⟩⟩
theorem Un.refl:Un fs ex H H h h:=Un.kept λ_ _ q=>q
theorem Un.laid(k:∀b u,h.get? b=some u→h'.get? b=some u)(hp:h.objs.size≤a)(hn:H a=none):Un fs ex H (upd H a o) h h' where
 keep:=λb u q _ _ _=>k b u q
 slot:=λb u q _ _ _=>⟨u.slots,k b u q⟩
 free:=λb u q n _=>by rw [aD (cc (f9 (Heap.lt_size q) hp))];exact n
 there:=λb u q _=>⟨u,k b u q⟩
 tups:=λb xs q=>by rw [aD (aT q hn)];exact q
 frzs:=λb u xs q=>by rw [aD (aT q hn)];exact q
 tbls:=λb ps q=>⟨#[],by rw [aD (aT q hn),q];simp⟩
theorem Un.write(mu:GY (H x))(he:e=x∨H e=some (.own x))(k:∀b u,b≠e→h.get? b=some u→h'.get? b=some u)(Cv:∃u,h'.get? e=some u):Un fs ex H (upd H x o) h h':=by
 have hx:∀b,H b=none→b≠x:=λb n z=>by subst z;rw [n] at mu;exact mu
 have hb:∀b,H b=none→b≠e:=λb n z=>by
  subst z
  rcases he with r|r
  ·exact hx b n r
  ·rw [n] at r;cases r
 have hm:∀b u,H b=some u→¬GY (some u)→b≠x:=λb u q nm z=>by subst z;rw [q] at mu;exact nm mu
 refine ⟨λb u q n _ _=>k b u (hb b n) q,λb u q n _ _=>⟨u.slots,k b u (hb b n) q⟩,λb u q n _=>by rw [aD (hx b n)];exact n,λb u q _=>?_,
  λb xs q=>by rw [aD (hm b _ q λz=>z)];exact q,λb u xs q=>by rw [aD (hm b _ q λz=>z)];exact q,λb ps q=>⟨#[],by rw [aD (hm b _ q λz=>z),q];simp⟩⟩
 by_cases zW:b=e
 ·subst zW;exact Cv
 ·exact ⟨u,k b u zW q⟩
end
def Jc(h:Heap)(H:Hp):List Addr:=(List.range h.objs.size).filter λa=>(H a).isSome
def oZ(h:Heap)(H:Hp):Heap:=PySem.W.hideAll h (Jc h H)
theorem zZ(h:Heap)(H:Hp):(oZ h H).objs.size=h.objs.size:=PySem.W.hideAll_size _ _
theorem Cy{h:Heap}{H:Hp}{b:Addr}{o:Obj}(e:h.get? b=some o)(n:H b=none):(oZ h H).get? b=some o:=
 PySem.W.hideAll_get _ e λhm=>by
  have q:(H b).isSome=true:=(iJ.mp hm).2;rw [n] at q;simp at q
theorem FH{h:Heap}{H:Hp}{b:Addr}{o:Obj}(e:(oZ h H).get? b=some o):h.get? b=some o∧H b=none:=by
 have e':h.get? b=some o:=PySem.W.of_hideAll (Jc h H) e;refine ⟨e',?_⟩;cases q:H b with
 |none=>rfl
 |some x=>
  have hm:b∈Jc h H:=iJ.mpr ⟨cg.mpr (Heap.lt_size e'),by simp [q]⟩
  have z:(oZ h H).get? b=none:=PySem.W.hideAll_none (Jc h H) hm;rw [z] at e;cases e
def sE(g h:Heap)(L:Addr):List (Addr×Obj):=(List.range h.objs.size).filterMap λa=>if a=L∨(g.get? a).isSome=true then none else (h.get? a).map λo=>(a,o)
theorem j8{g h:Heap}{L a:Addr}{o:Obj}(h1:a≠L)(h2:g.get? a=none)(h3:h.get? a=some o):(a,o)∈sE g h L:=
 zq100.mpr ⟨a,cg.mpr (Heap.lt_size h3),by simp [h1,h2,h3]⟩
theorem rG{g h:Heap}{L:Addr}{p:Addr×Obj}(hp:p∈sE g h L):p.1≠L∧g.get? p.1=none∧h.get? p.1=some p.2:=by
 obtain ⟨b,_,e⟩:=zq100.mp hp
 split at e
 ·cases e
 ·rename_i hn
  cases q:h.get? b with
  |none=>rw [q] at e;simp at e
  |some u=>
   rw [q] at e;simp only [Option.map_some,Option.some.injEq] at e;subst e;refine ⟨λz=>hn (.inl z),?_,q⟩;show g.get? b=none;cases r:g.get? b with
   |none=>rfl
   |some v=>exact (hn (.inr (by simp [r]))).elim
theorem CT{g h:Heap}{L:Addr}:News g L h (sE g h L):=λp hp=>let ⟨a,b,c⟩:=rG hp;⟨c,a,b⟩
structure Mod (K:PySem.W.Frag) (mg:Str→Option Value) (base:Heap):Prop where
 kin:K.In base
 glob:base.Ns mainGlobals mg
 blt:∃mb,base.Ns builtinsNs mb∧∀x:Str,x≠"__name__"→mb x=bootBuiltins x
 nolimit:base.NoLimit
structure Cx where
 prog:Program
 w:World
 K:PySem.W.Frag
 mg:Str→Option Value
 base:Heap
 A:Around
 N:List Str
 s₀:Shared
 H₀:Hp
 env:Env
 outer:List Env
 stack:List Env
 ex:List Addr
 fn:Str→Bool
 calm:Bool
 pn:List (Addr×Obj)
 xe:Value→Shared→Prop
def tw(l:List Env):List Addr:=l.filterMap (·.frame)
abbrev Cx.fs(X:Cx):List Addr:=tw X.outer
def sC(sc:Scope)(x:Str):Prop:=sc.names.lookup x=some .local∨sc.names.lookup x=some .cell∨sc.names.lookup x=some .free
def Loc(sc:Scope)(x:Str):Prop:=sc.names.lookup x=some .local∨sc.names.lookup x=some .cell
def Look(env:Env)(h:Heap)(m:Str→Option Value)(x:Str)(u:Value):Prop:=
 (env.kindOf x=some .local∧m x=some u)∨((env.kindOf x=some .cell∨env.kindOf x=some .free)∧∃c,env.cells.lookup x=some c∧h.IsCell c (some u))
structure Cx.Ok (X:Cx):Prop where
 mod:Mod X.K X.mg X.base
 kind:X.env.scope.kind= .function
 glob:X.env.globals=mainGlobals
 blt:X.env.builtins=builtinsNs
 above:X.s₀.heap.objs.size≤X.env.locals
 inj:∀x y c,X.env.cells.lookup x=some c→X.env.cells.lookup y=some c→x=y
 has:∀x,(X.env.kindOf x=some .cell∨X.env.kindOf x=some .free)→∃c,X.env.cells.lookup x=some c
 cab:∀x c,X.fn x=true→X.env.cells.lookup x=some c→X.s₀.heap.objs.size≤c
 hd:X.calm=true→X.A.handled=none
 frames:X.A.frames=some X.stack
 stk:X.stack=X.outer∨(X.stack=X.env::X.outer∧X.env.frame=some X.env.locals)
 exf:∀b∈X.ex,b≠X.env.locals∧∀x c,X.env.cells.lookup x=some c→c≠b
 bs:∀b o,X.base.get? b=some o→X.s₀.heap.get? b=some o∧X.H₀ b=none
 bsz:X.base.objs.size≤X.s₀.heap.objs.size
 noex:∀b o,X.base.get? b=some o→b∉X.ex
 exfs:∀b∈X.ex,b∉X.fs
 funs:X.s₀.heap.FunFrames X.base X.outer
 frf:∀b∈X.fs,X.H₀ b=none
structure Inv (X:Cx) (pins:List (Addr×Obj)) (σ:List (Option V)) (H:Hp) (s:Shared):Prop where
 ok:X.Ok
 os:s.os=X.s₀.os
 bare:AllBare s.gens
 base:Un X.fs X.ex X.H₀ H X.s₀.heap s.heap
 loc:∃m,s.heap.Ns X.env.locals m∧∀(i:Nat)(x:Str)(v:V),X.N[i]? =some x→σ[i]? =some (some v)→sC X.env.scope x→∃u,RelV v u∧Look X.env s.heap m x u
 cell:∀x c,X.env.cells.lookup x=some c→∃v,s.heap.IsCell c v
 free:H X.env.locals=none
 freeC:∀x c,X.env.cells.lookup x=some c→H c=none
 pin:∀p∈X.pn++pins,s.heap.get? p.1=some p.2∧H p.1=none∧p.1≠X.env.locals∧p.1∉X.fs∧∀v,p.2.data≠ .cell v
 hok:gZ X.prog X.w H s.heap
 len:σ.length=X.N.length
section
variable {X:Cx} {pins:List (Addr×Obj)} {σ:List (Option V)} {H H':Hp} {s:Shared} {h':Heap}
theorem Cx.Ok.Qe(ok:X.Ok){b:Addr}{o:Obj}(e:X.base.get? b=some o):b∉X.fs:=λhb=>by
 have:=(ok.funs.mem hb).1
 rw [e] at this;cases this
theorem Inv.bs(I:Inv X pins σ H s):∀b o,X.base.get? b=some o→s.heap.get? b=some o∧H b=none:=λb o e=>
 ⟨I.base.keep b o (I.ok.bs b o e).1 (I.ok.bs b o e).2 (I.ok.Qe e) (I.ok.noex b o e),I.base.free b o (I.ok.bs b o e).1 (I.ok.bs b o e).2 (I.ok.noex b o e)⟩
theorem Inv.bk(I:Inv X pins σ H s):∀b o,X.base.get? b=some o→s.heap.get? b=some o:=λb o e=>(I.bs b o e).1
theorem Inv.mod(I:Inv X pins σ H s):Mod X.K X.mg X.base:=I.ok.mod
theorem Inv.g6(I:Inv X pins σ H s):X.K.In s.heap:=I.ok.mod.kin.keeps I.bk
theorem Inv.fr(I:Inv X pins σ H s):∃m,Fr X.base X.env.locals s.heap m:=
 let ⟨m,hn,_⟩:=I.loc
 ⟨m,hn,I.bk,jV I.ok.bsz I.ok.above⟩
theorem Inv.lt(I:Inv X pins σ H s):X.env.locals<s.heap.objs.size:=let ⟨_,hn,_⟩:=I.loc;hn.lt
theorem Inv.sz(I:Inv X pins σ H s):X.s₀.heap.objs.size≤s.heap.objs.size:=jV I.ok.above (oG I.lt)
theorem Inv.FC(I:Inv X pins σ H s){a:Addr}(h:s.heap.objs.size≤a):a∉X.fs:=λhb=>by
 obtain ⟨_,o,ho,_⟩:=I.ok.funs.mem hb;exact absurd (f9 (Heap.lt_size ho) (jV I.sz h)) (fW _)
theorem Inv.zw(I:Inv X pins σ H s):∀x c,X.env.cells.lookup x=some c→c≠X.env.locals:=λx c e z=>by
 obtain ⟨v,o,ho,hd⟩:=I.cell x c e;obtain ⟨m,⟨o',es,ep,ik,mJ,_⟩,_⟩:=I.loc;rw [z,ik] at ho;cases ho;rw [mJ] at hd;cases hd
theorem Inv.funs(I:Inv X pins σ H s):s.heap.FunFrames X.base X.outer:=by
 have all:∀(l:List Env),(∀b∈tw l,b∈X.fs)→X.s₀.heap.FunFrames X.base l→s.heap.FunFrames X.base l:=by
  intro l
  induction l with
  |nil=>intro _ _;trivial
  |cons env r ih=>
   intro hs hl;obtain ⟨hk,⟨L,o,hf,hn,ho,hd⟩,hr⟩:=hl;have hL:L∈X.fs:=hs L (by unfold tw;rw [List.filterMap_cons,hf];exact b4)
   obtain ⟨sl,e⟩:=I.base.slot L o ho (I.ok.frf L hL) hL λz=>I.ok.exfs L z hL;exact ⟨hk,⟨L,_,hf,hn,e,hd⟩,ih (λb hb=>hs b (by unfold tw;rw [List.filterMap_cons,hf];exact cv _ hb)) hr⟩
 exact all X.outer (λ_ hb=>hb) I.ok.funs
theorem Inv.stack(I:Inv X pins σ H s):s.heap.FunFrames X.base X.stack:=by
 rcases I.ok.stk with e| ⟨e,hf⟩
 ·rw [e];exact I.funs
 ·rw [e]
  obtain ⟨m,hn,_⟩:=I.loc;refine .cons (by rw [I.ok.kind];decide) hf hn ?_ I.funs
  exact Heap.get?_none_of_le (jV I.ok.bsz I.ok.above)
theorem Inv.xj(I:Inv X pins σ H s):∀b∈tw X.stack,b∈X.env.locals::X.fs:=λb hb=>by
 rcases I.ok.stk with e| ⟨e,hf⟩
 ·rw [e] at hb;exact cv _ hb
 ·rw [e] at hb
  unfold tw at hb;rw [List.filterMap_cons,hf] at hb;exact hb
theorem Inv.y4(I:Inv X pins σ H s):∀b∈tw X.stack,H b=none:=λb hb=>by
 rcases b9.mp (I.xj b hb) with e|hb
 ·rw [e];exact I.free
 ·obtain ⟨_,o,ho,_⟩:=I.ok.funs.mem hb
  exact I.base.free b o ho (I.ok.frf b hb) λz=>I.ok.exfs b z hb
theorem Inv.step{g':Array GenState}{t':Nat}{d':Drawn}{ch:List Addr}(I:Inv X pins σ H s)
  (uR:∀b∈ch,(b∈X.ex∨X.s₀.heap.objs.size≤b)∧b≠X.env.locals∧(∀x c,X.env.cells.lookup x=some c→c≠b)∧∀p∈X.pn++pins,p.1≠b)
  (keep:∀b o,b≠X.env.locals→b∉X.fs→b∉ch→s.heap.get? b=some o→H b=none→h'.get? b=some o)
  (slot:∀b o,b≠X.env.locals→b∈X.fs→b∉ch→s.heap.get? b=some o→H b=none→∃sl,h'.get? b=some {o with slots:=sl}) (free:∀b o,b∉ch→s.heap.get? b=some o→H b=none→H' b=none)
  (there:∀b o,b∉ch→s.heap.get? b=some o→∃o',h'.get? b=some o')
  (tups:∀b xs,H b=some (.tup xs)→H' b=some (.tup xs)) (frzs:∀b o u,H b=some (.nP o u)→H' b=some (.nP o u)) (tbls:∀b ps,H b=some (.y8 ps)→∃more,H' b=some (.y8 (ps++more)))
  (ns:∀m,s.heap.Ns X.env.locals m→h'.Ns X.env.locals m) (hok:gZ X.prog X.w H' h') (hg:AllBare g'):
  Inv X pins σ H' {s with heap:=h',gens:=g',drawn:=d',toks:=t'}:=by
 have Qc:∀b o,X.s₀.heap.get? b=some o→b≠X.env.locals:=λb o e=>cc (f9 (Heap.lt_size e) I.ok.above)
 have Ib:∀b o,X.s₀.heap.get? b=some o→b∉X.ex→b∉ch:=λb o e hx hb=>by
  rcases (uR b hb).1 with z|z
  ·exact hx z
  ·exact absurd (f9 (Heap.lt_size e) z) (fW _)
 have cellK:∀x c,X.env.cells.lookup x=some c→∀v,s.heap.IsCell c v→h'.IsCell c v:=λx c e v ⟨o,ho,hd⟩=>by
  have Fx:c∉ch:=λz=>(uR c z).2.2.1 x c e rfl
  by_cases hc:c∈X.fs
  ·obtain ⟨sl,q⟩:=slot c o (I.zw x c e) hc Fx ho (I.freeC x c e)
   exact ⟨_,q,hd⟩
  ·exact ⟨o,keep c o (I.zw x c e) hc Fx ho (I.freeC x c e),hd⟩
 refine ⟨I.ok,I.os,hg,⟨λb o e n hb hx=>?_,λb o e n hb hx=>?_,λb o e n hx=>?_,λb o e hx=>?_,λb xs e=>tups b xs (I.base.tups b xs e),λb o xs e=>frzs b o xs (I.base.frzs b o xs e),λb ps e=>?_⟩,?_,λx c e=>?_,?_,λx c e=>?_,λp hp=>?_,hok,I.len⟩
 ·exact keep b o (Qc b o e) hb (Ib b o e hx) (I.base.keep b o e n hb hx) (I.base.free b o e n hx)
 ·obtain ⟨sl,e1⟩:=I.base.slot b o e n hb hx
  obtain ⟨XT,e2⟩:=slot b _ (Qc b o e) hb (Ib b o e hx) e1 (I.base.free b o e n hx);exact ⟨XT,e2⟩
 ·obtain ⟨o',e1⟩:=I.base.there b o e hx
  exact free b o' (Ib b o e hx) e1 (I.base.free b o e n hx)
 ·obtain ⟨o',e1⟩:=I.base.there b o e hx
  exact there b o' (Ib b o e hx) e1
 ·obtain ⟨m1,e1⟩:=I.base.tbls b ps e
  obtain ⟨m2,e2⟩:=tbls b _ e1;exact ⟨m1++m2,by rw [e2,Array.append_assoc]⟩
 ·obtain ⟨m,hn,hl⟩:=I.loc
  refine ⟨m,ns m hn,λi x v e1 e2 e3=>?_⟩;obtain ⟨u,r,l⟩:=hl i x v e1 e2 e3;refine ⟨u,r,?_⟩
  rcases l with l| ⟨k,c,e,z⟩
  ·exact .inl l
  ·exact .inr ⟨k,c,e,cellK x c e _ z⟩
 ·obtain ⟨v,z⟩:=I.cell x c e
  exact ⟨v,cellK x c e v z⟩
 ·obtain ⟨m,⟨o,_,_,ho,_⟩,_⟩:=I.loc
  exact free _ o (λz=>(uR _ z).2.1 rfl) ho I.free
 ·obtain ⟨v,o,ho,hd⟩:=I.cell x c e
  exact free c o (λz=>(uR c z).2.2.1 x c e rfl) ho (I.freeC x c e)
 ·obtain ⟨e,n,ne,nf,d⟩:=I.pin p hp
  have Fx:p.1∉ch:=λz=>(uR p.1 z).2.2.2 p hp rfl;exact ⟨keep p.1 p.2 ne nf Fx e n,free p.1 p.2 Fx e n,ne,nf,d⟩
theorem Inv.un{t':Nat}(I:Inv X pins σ H s)(u:Un X.fs [] H H' s.heap h')(hok:gZ X.prog X.w H' h'):Inv X pins σ H' {s with heap:=h',toks:=t'}:=by
 obtain ⟨m,⟨o,es,ep,ho,r⟩,_⟩:=id I.loc;obtain ⟨sl,hL⟩:=u.any ho I.free (by simp)
 exact I.step (g':=s.gens) (d':=s.drawn) (ch:= []) (λ_ z=>nomatch z) (λb o _ hb _ e n=>u.keep b o e n hb (by simp)) (λb o _ hb _ e n=>u.slot b o e n hb (by simp)) (λb o _ e n=>u.free b o e n (by simp)) (λb o _ e=>u.there b o e (by simp)) u.tups u.frzs u.tbls (λm' hm=>by
  obtain ⟨o',ji,zI,ik,r'⟩:=hm;rw [ho] at ik;cases ik;exact ⟨_,ji,zI,hL,r'⟩) hok I.bare
theorem Inv.call{g':Array GenState}{t':Nat}{d':Drawn}{ch:List Addr}(I:Inv X pins σ H s)(u:Un (tw X.stack) ch H H' s.heap h')(hok:gZ X.prog X.w H' h')(hg:AllBare g')
  (uR:∀b∈ch,(b∈X.ex∨X.s₀.heap.objs.size≤b)∧b≠X.env.locals∧(∀x c,X.env.cells.lookup x=some c→c≠b)∧∀p∈X.pn++pins,p.1≠b):
  Inv X pins σ H' {s with heap:=h',gens:=g',drawn:=d',toks:=t'}:=by
 obtain ⟨m,⟨o,es,ep,ho,r⟩,_⟩:=id I.loc;obtain ⟨sl,hL⟩:=u.any ho I.free λz=>(uR _ z).2.1 rfl
 exact I.step (ch:=ch) uR (λb o hL hb hc e n=>u.keep b o e n (λz=>(b9.mp (I.xj b z)).elim hL hb) hc) (λb o _ _ hc e n=>u.any e n hc) (λb o hc e n=>u.free b o e n hc) (λb o hc e=>u.there b o e hc) u.tups u.frzs u.tbls (λm' hm=>by
  obtain ⟨o',ji,zI,ik,r'⟩:=hm;rw [ho] at ik;cases ik;exact ⟨_,ji,zI,hL,r'⟩) hok hg
theorem Inv.turned{t':Nat}{it:Addr}(I:Inv X pins σ H s)(k:∀b o,b≠it→s.heap.get? b=some o→h'.get? b=some o)(hn:H it=none)(hL:it≠X.env.locals)
  (h1:it∈X.ex∨X.s₀.heap.objs.size≤it) (h2:∀x c,X.env.cells.lookup x=some c→c≠it) (h3:∀p∈X.pn++pins,p.1≠it):Inv X pins σ H {s with heap:=h',toks:=t'}:=by
 have Qd:∀b u,H b=some u→b≠it:=λb u e z=>by rw [z,hn] at e;cases e
 refine I.step (g':=s.gens) (d':=s.drawn) (ch:= [it]) (λb hb=>?_) (λb o _ _ hc e _=>k b o (λz=>hc (by simp [z])) e) (λb o _ _ hc e _=>⟨o.slots,k b o (λz=>hc (by simp [z])) e⟩) (λ_ _ _ _ n=>n)
  (λb o hc e=>⟨o,k b o (λz=>hc (by simp [z])) e⟩) (λ_ _ e=>e) (λ_ _ _ e=>e) (λb ps e=>⟨#[],by rw [e];simp⟩) (λm hm=>?_) (λb u e=>?_) I.bare
 ·have e:b=it:=by simpa using hb
  subst e;exact ⟨h1,hL,h2,h3⟩
 ·obtain ⟨o,es,ep,ho,r⟩:=hm
  exact ⟨o,es,ep,k _ o (Ne.symm hL) ho,r⟩
 ·refine (I.hok b u e).pP (λc v hc q=>k c v ?_ q) (λ_ q=>q) λ_ _ q=>q
  rcases hc with z|z
  ·rw [z];exact Qd b u e
  ·exact Qd c _ z
theorem Inv.tok(I:Inv X pins σ H s)(t:Nat):Inv X pins σ H {s with toks:=t}:=I.un (h':=s.heap) (t':=t) Un.refl I.hok
theorem Inv.kept{t':Nat}(I:Inv X pins σ H s)(k:∀b u,s.heap.get? b=some u→h'.get? b=some u):Inv X pins σ H {s with heap:=h',toks:=t'}:=I.un (Un.kept k) (I.hok.kept k)
theorem Inv.laid{a:Addr}{o:HO}{t':Nat}(I:Inv X pins σ H s)(k:∀b u,s.heap.get? b=some u→h'.get? b=some u)(hp:s.heap.objs.size≤a)(new:cJ X.prog X.w (upd H a o) h' a o):
  Inv X pins σ (upd H a o) {s with heap:=h',toks:=t'}:=I.un (Un.laid k hp (I.hok.fresh hp)) (I.hok.laid k hp new)
theorem Inv.write{x e:Addr}{o:HO}{t':Nat}(I:Inv X pins σ H s)(mu:GY (H x))(he:e=x∨H e=some (.own x))(k:∀b u,b≠e→s.heap.get? b=some u→h'.get? b=some u)(Cv:∃u,h'.get? e=some u)
  (new:cJ X.prog X.w (upd H x o) h' x o):Inv X pins σ (upd H x o) {s with heap:=h',toks:=t'}:=I.un (Un.write mu he k Cv) (I.hok.write mu he k Cv new)
theorem Inv.jI{xf:List (Addr×Obj)}(I:Inv X pins σ H s)(h:∀p∈xf,s.heap.get? p.1=some p.2∧H p.1=none∧p.1≠X.env.locals∧p.1∉X.fs∧∀v,p.2.data≠ .cell v):Inv X xf σ H s:=
 ⟨I.ok,I.os,I.bare,I.base,I.loc,I.cell,I.free,I.freeC,λp hp=>(dF.mp hp).elim (λz=>I.pin p (fo _ z)) (h p),I.hok,I.len⟩
theorem vB{N:List Str}(hN:N.Nodup){i j:Nat}{x:Str}(a:N[i]? =some x)(b:N[j]? =some x):i=j:=by
 obtain ⟨h1,e1⟩:=fA.mp a;obtain ⟨h2,e2⟩:=fA.mp b;exact (List.getElem_inj hN).mp (e1.trans e2.symm)
theorem store_ok2{M:Model}{A:Around}{E:Value→Shared→Prop}{i:Nat}{x:Str}{v:V}{u:Value}{Q:Unit→Shared→Prop}(I:Inv X pins σ H s)(hN:X.N.Nodup)(hi:X.N[i]? =some x)(hx:Loc X.env.scope x)(r:RelV v u)
  (h:∀s',Inv X pins (σ.set i (some v)) H s'→(∃a,Heap.SameBut a s.heap s'.heap∧(a=X.env.locals∨X.env.cells.lookup x=some a))→Q () s') (hf:X.fn x=true∨X.env.scope.names.lookup x=some .local:=by first|exact .inl rfl|exact .inr rfl|assumption):wpAny M A (storeName X.env x u) Q E s:=by
 obtain ⟨m,hn,hl⟩:=id I.loc;have O1:(X.env.scope.kind== .class|| (X.env.scope.kind== .module&&X.env.locals !=X.env.globals))=false:=by rw [I.ok.kind];rfl
 have JR:i<σ.length:=by rw [I.len];exact (fA.mp hi).1
 have zw:=I.zw
 have tracked:∀{a:Addr}{h':Heap},(∃o,s.heap.get? a=some o∧H a=none)→Heap.SameBut a s.heap h'→gZ X.prog X.w H h':=λ {a h'} ha hs b ob e=>by
  obtain ⟨_,_,EU⟩:=ha;refine (I.hok b ob e).pP (λc w' hc q=>(hs.2 c ?_).trans q) (λ_ q=>q) λ_ _ q=>q;rintro rfl
  rcases hc with rfl|hc
  ·rw [EU] at e;cases e
  ·rw [EU] at hc;cases hc
 rcases hx with hk|hk
 ·refine wpAny_storeName_local hk hn (λh' UQ hs=>?_) O1
  obtain ⟨oL,_,_,E3,_⟩:=id hn;refine h _ ⟨I.ok,I.os,I.bare,⟨λb o e n hb hx=>?_,λb o e n hb hx=>?_,I.base.free,λb o e hx=>?_,I.base.tups,I.base.frzs,I.base.tbls⟩,⟨_,UQ,λj y v' e1 e2 e3=>?_⟩,λy c e=>?_,I.free,I.freeC,λp hp=>?_,tracked ⟨oL,E3,I.free⟩ hs,by simpa using I.len⟩ ⟨_,hs, .inl rfl⟩
  ·exact (hs.2 b (cc (f9 (Heap.lt_size e) I.ok.above))).trans (I.base.keep b o e n hb hx)
  ·obtain ⟨sl,e1⟩:=I.base.slot b o e n hb hx
   exact ⟨sl,(hs.2 b (cc (f9 (Heap.lt_size e) I.ok.above))).trans e1⟩
  ·obtain ⟨o',e1⟩:=I.base.there b o e hx
   exact ⟨o',(hs.2 b (cc (f9 (Heap.lt_size e) I.ok.above))).trans e1⟩
  ·by_cases hj:j=i
   ·subst hj
    rw [hi] at e1;cases e1;rw [pU JR] at e2;cases e2;exact ⟨u,r, .inl ⟨hk,by simp⟩⟩
   ·rw [vU (Ne.symm hj)] at e2
    obtain ⟨u',r',q⟩:=hl j y v' e1 e2 e3;refine ⟨u',r',?_⟩
    rcases q with ⟨k,e⟩ | ⟨k,c,e,z⟩
    ·refine .inl ⟨k,?_⟩
     have:y≠x:=λe=>hj (vB hN e1 (e▸hi))
     simp [this,e]
    ·exact .inr ⟨k,c,e,z.sameBut hs (zw y c e)⟩
  ·obtain ⟨w',z⟩:=I.cell y c e
   exact ⟨w',z.sameBut hs (zw y c e)⟩
  ·obtain ⟨e,n,ne,nf,d⟩:=I.pin p hp
   exact ⟨(hs.2 p.1 ne).trans e,n,ne,nf,d⟩
 ·have LB:X.fn x=true:=by
   rcases hf with z|z
   ·exact z
   ·rw [z] at hk;cases hk
  obtain ⟨c,hc⟩:=I.ok.has x (.inl hk);obtain ⟨w',z⟩:=I.cell x c hc;refine wpAny_storeName_cell I.ok.kind hk hc z (λh' qj hs=>?_);obtain ⟨oc,Pg,Ph⟩:=id z;refine h {s with heap:=h'} ⟨I.ok,I.os,I.bare,⟨λb o e n hb hx=>?_,λb o e n hb hx=>?_,I.base.free,λb o e hx=>?_,I.base.tups,I.base.frzs,I.base.tbls⟩,⟨m,hn.sameBut hs (Ne.symm (zw x c hc)),λj y v' e1 e2 e3=>?_⟩,λy c' e=>?_,I.free,I.freeC,λp hp=>?_,tracked ⟨oc,Pg,I.freeC x c hc⟩ hs,by simpa using I.len⟩ ⟨c,hs, .inr hc⟩
  ·exact (hs.2 b (cc (f9 (Heap.lt_size e) (I.ok.cab x c LB hc)))).trans (I.base.keep b o e n hb hx)
  ·obtain ⟨sl,e1⟩:=I.base.slot b o e n hb hx
   exact ⟨sl,(hs.2 b (cc (f9 (Heap.lt_size e) (I.ok.cab x c LB hc)))).trans e1⟩
  ·obtain ⟨o',e1⟩:=I.base.there b o e hx
   exact ⟨o',(hs.2 b (cc (f9 (Heap.lt_size e) (I.ok.cab x c LB hc)))).trans e1⟩
  ·by_cases hj:j=i
   ·subst hj
    rw [hi] at e1;cases e1;rw [pU JR] at e2;cases e2;exact ⟨u,r, .inr ⟨.inl hk,c,hc,qj⟩⟩
   ·rw [vU (Ne.symm hj)] at e2
    obtain ⟨u',r',q⟩:=hl j y v' e1 e2 e3;refine ⟨u',r',?_⟩
    rcases q with q| ⟨k,c',e,z'⟩
    ·exact .inl q
    ·refine .inr ⟨k,c',e,z'.sameBut hs ?_⟩
     rintro rfl;exact hj (vB hN e1 (I.ok.inj _ _ _ e hc▸hi))
  ·by_cases O0:c'=c
   ·subst O0;exact ⟨_,qj⟩
   ·obtain ⟨w2,z2⟩:=I.cell y c' e
    exact ⟨w2,z2.sameBut hs O0⟩
  ·obtain ⟨e,n,ne,nf,d⟩:=I.pin p hp
   refine ⟨(hs.2 p.1 ?_).trans e,n,ne,nf,d⟩;intro q;rw [q,Pg] at e;have q':oc=p.2:=Option.some.inj e;exact d w' (by rw [←q'];exact Ph)
theorem mE{M:Model}{A:Around}{E:Value→Shared→Prop}{i:Nat}{x:Str}{v:V}{u:Value}{Q:Unit→Shared→Prop}(I:Inv X pins σ H s)(hN:X.N.Nodup)(hi:X.N[i]? =some x)(hx:Loc X.env.scope x)(r:RelV v u)
  (h:∀s',Inv X pins (σ.set i (some v)) H s'→Q () s') (hf:X.fn x=true∨X.env.scope.names.lookup x=some .local:=by first|exact .inl rfl|exact .inr rfl|assumption):wpAny M A (storeName X.env x u) Q E s:=
 store_ok2 I hN hi hx r (λs' I' _=>h s' I') hf
theorem Inv.Ko{s':Shared}{ch:List Addr}(I:Inv X pins σ H s)(ho:s'.os=s.os)(u:Un (tw X.stack) ch H H' s.heap s'.heap)(hok:gZ X.prog X.w H' s'.heap)(hg:AllBare s'.gens)
  (uR:∀b∈ch,(b∈X.ex∨X.s₀.heap.objs.size≤b)∧b≠X.env.locals∧(∀x c,X.env.cells.lookup x=some c→c≠b)∧∀p∈X.pn++pins,p.1≠b):Inv X pins σ H' s':=by
 obtain ⟨h',g',d',t',o'⟩:=s';have e:o'=s.os:=ho;subst e;exact I.call (g':=g') (t':=t') (d':=d') u hok hg uR
end
abbrev XK:=Value→Option Addr→Hp→Prop
abbrev St:=List (Option V)
abbrev VK:=V→Hp→Prop
abbrev TE:=St→Hp→VK→Prop
abbrev TT:=St→Hp→(Bool→Hp→Prop)→Prop
abbrev TA:=St→Hp→(List V→Hp→Prop)→Prop
structure Ends where
 nx:St→Hp→Prop
 rt:VK
 bk:St→Hp→Prop:=λ_ _=>False
 ct:St→Hp→Prop:=λ_ _=>False
abbrev TS:=Ends→St→Hp→Prop
def EP(X:Cx)(pins:List (Addr×Obj))(σ:St)(Q:VK)(u:Value)(s':Shared):Prop:=∃v H',Inv X pins σ H' s'∧RelV v u∧Q v H'
def TP(X:Cx)(pins:List (Addr×Obj))(σ:St)(Q:Bool→Hp→Prop)(b:Bool)(s':Shared):Prop:=∃H',Inv X pins σ H' s'∧Q b H'
def AP(X:Cx)(pins:List (Addr×Obj))(σ:St)(Q:List V→Hp→Prop)(us:List Value)(s':Shared):Prop:=∃vs H',Inv X pins σ H' s'∧Vals vs us∧Q vs H'
def SP(X:Cx)(pins:List (Addr×Obj))(D:Ends)(f:Flow)(s':Shared):Prop:=
 match f with
 | .next=>∃ay H',Inv X pins ay H' s'∧D.nx ay H'
 | .brk=>∃ay H',Inv X pins ay H' s'∧D.bk ay H'
 | .cont=>∃ay H',Inv X pins ay H' s'∧D.ct ay H'
 | .ret u=>∃v ay H',Inv X pins ay H' s'∧RelV v u∧D.rt v H'
def PE(X:Cx)(e:Expr)(t:TE):Prop:=
 ∀(pins:List (Addr×Obj))(s:Shared)(σ:St)(H:Hp)(Q:VK),Inv X pins σ H s→t σ H Q→wpAny (model X.prog X.w) X.A (eval e X.env) (EP X pins σ Q) X.xe s
def PT(X:Cx)(e:Expr)(t:TT):Prop:=
 ∀(pins:List (Addr×Obj))(s:Shared)(σ:St)(H:Hp)(Q:Bool→Hp→Prop),Inv X pins σ H s→t σ H Q→wpAny (model X.prog X.w) X.A (isTrue e X.env (eval e X.env)) (TP X pins σ Q) X.xe s
def PW(X:Cx)(e:Expr)(t:TT):Prop:=
 ∀(whole:Sem Value)(pins:List (Addr×Obj))(s:Shared)(σ:St)(H:Hp)(Q:Bool→Hp→Prop),Inv X pins σ H s→t σ H Q→wpAny (model X.prog X.w) X.A (isTrue e X.env whole) (TP X pins σ Q) X.xe s
theorem PW.pt{X:Cx}{e:Expr}{t:TT}(h:PW X e t):PT X e t:=h _
def PA(X:Cx)(es:List Expr)(t:TA):Prop:=
 ∀(pos:Pos)(pins:List (Addr×Obj))(s:Shared)(σ:St)(H:Hp)(Q:List V→Hp→Prop),Inv X pins σ H s→t σ H Q→wpAny (model X.prog X.w) X.A (spliced (backTo pos (starEach es X.env))) (AP X pins σ Q) X.xe s
def PS(X:Cx)(st:Stmt)(t:TS):Prop:=
 ∀(pins:List (Addr×Obj))(s:Shared)(σ:St)(H:Hp)(D:Ends),Inv X pins σ H s→t D σ H→wpAny (model X.prog X.w) X.A (exec st X.env) (SP X pins D) X.xe s
def kX(X:Cx)(st:List Stmt)(t:TS):Prop:=
 ∀(pins:List (Addr×Obj))(s:Shared)(σ:St)(H:Hp)(D:Ends),Inv X pins σ H s→t D σ H→wpAny (model X.prog X.w) X.A (execs st X.env) (SP X pins D) X.xe s
theorem thn{α:Type}{t:Sem α}{Q Q':α→Shared→Prop}{M:Model}{A:Around}{E:Value→Shared→Prop}{s:Shared}(h:wpAny M A t Q E s)(hQ:∀a s,Q a s→Q' a s):wpAny M A t Q' E s:=wpAny_mono h hQ λ_ _ x=>x
section
variable {X:Cx}
def Kc(i:Nat):TE:=λσ H Q=>∃v,σ[i]? =some (some v)∧Q v H
def tC(v:V):TE:=λ_ H Q=>Q v H
theorem BH{i:Nat}{x:Str}{pos:Pos}(hN:X.N[i]? =some x)(hv:sC X.env.scope x)(hd:(x==("__debug__":Str))=false:=by decide)(gu:(x==("__classdict__":Str))=false:=by decide):PE X (.Name x pos) (Kc i):=by
 intro pins s σ H Q I h;obtain ⟨v,e,h⟩:=h;obtain ⟨m,hn,hl⟩:=I.loc;obtain ⟨u,r,l⟩:=hl i x v hN e hv;have fin:EP X pins σ Q u s:=⟨v,H,I,r,h⟩
 rcases l with ⟨hk,hm⟩ | ⟨hk,c,hc,EN⟩
 ·exact wpAny_Name (wpAny_loadName_local I.ok.kind hk hn hm fin) hd
 ·rcases hk with hk|hk
  ·exact wpAny_Name (wpAny_loadName_cell I.ok.kind hk hc EN fin) hd
  ·exact wpAny_Name (wpAny_loadName_free I.ok.kind hk hc EN fin gu) hd
theorem IA{i j pos}:PE X (.Constant (.int i) j pos) (tC (.int i)):=λ_ _ _ H _ I h=>wpAny_Constant_int ⟨.int i,H,I.tok _,⟨_,rfl⟩,h⟩
theorem Me{b j pos}:PE X (.Constant (.bool b) j pos) (tC (.bl b)):=λ_ _ _ H _ I h=>Constant_bool ⟨.bl b,H,I,rfl,h⟩
theorem IC{j pos}:PE X (.Constant .none j pos) (tC .bf):=λ_ _ _ H _ I h=>Constant_none ⟨.bf,H,I,rfl,h⟩
theorem IF{x j pos}:PE X (.Constant (.str x) j pos) (tC (.str x)):=λ_ _ _ H _ I h=>Calls.Constant_str ⟨.str x,H,I.tok _,⟨_,rfl⟩,h⟩
def Gl(X:Cx)(x:Str):Prop:=X.env.kindOf x=some .globalImplicit
theorem tJ{E:Value→Shared→Prop}{pins:List (Addr×Obj)}{s:Shared}{σ:St}{H:Hp}{x:Str}{u:Value}{pos:Pos}{Q:Value→Shared→Prop}(I:Inv X pins σ H s)(hg:Gl X x)(hm:X.mg x=some u)(h:Q u s)
  (hd:(x==("__debug__":Str))=false:=by decide):wpAny (model X.prog X.w) X.A (eval (.Name x pos) X.env) Q E s:=
 Calls.Name_function_global I.ok.kind hg (Calls.loadGlobal_global (by rw [I.ok.glob];exact I.mod.glob.keeps I.bk) hm h) hd
theorem g7{E:Value→Shared→Prop}{pins:List (Addr×Obj)}{s:Shared}{σ:St}{H:Hp}{x:Str}{u:Value}{pos:Pos}{Q:Value→Shared→Prop}(I:Inv X pins σ H s)(hg:Gl X x)(hm:X.mg x=none)(hv:bootBuiltins x=some u)(h:Q u s)
  (hn:x≠"__name__":=by decide) (hd:(x==("__debug__":Str))=false:=by decide):wpAny (model X.prog X.w) X.A (eval (.Name x pos) X.env) Q E s:=by
 obtain ⟨mb,h1,h2⟩:=I.mod.blt;exact Calls.Name_function_global I.ok.kind hg (Calls.loadGlobal_builtin (by rw [I.ok.glob];exact I.mod.glob.keeps I.bk) hm (by rw [I.ok.blt];exact h1.keeps I.bk) ((h2 x hn).trans hv) h) hd
theorem FP{x:Str}{v:V}{u:Value}{pos:Pos}(hg:Gl X x)(hm:X.mg x=some u)(r:RelV v u)(hd:(x==("__debug__":Str))=false:=by decide):PE X (.Name x pos) (tC v):=
 λ_ _ _ H _ I h=>tJ I hg hm ⟨v,H,I,r,h⟩ hd
theorem FL{x:Str}{v:V}{u:Value}{pos:Pos}(hg:Gl X x)(hm:X.mg x=none)(hv:bootBuiltins x=some u)(r:RelV v u)(hn:x≠"__name__":=by decide)(hd:(x==("__debug__":Str))=false:=by decide):PE X (.Name x pos) (tC v):=
 λ_ _ _ H _ I h=>g7 I hg hm hv ⟨v,H,I,r,h⟩ hn hd
variable {a b:Expr} {ta tb:TE} {pos:Pos}
variable {tA xk:TT} {rest:List Expr}
def RV(t u:TT):TT:=λσ H Q=>t σ H λc H1=>if c=true then u σ H1 Q else Q false H1
def X7(t u:TT):TT:=λσ H Q=>t σ H λc H1=>if c=true then Q true H1 else u σ H1 Q
def R5(t:TT):TT:=λσ H Q=>t σ H λc H1=>Q (!c) H1
theorem F9(ha:PT X a tA):PW X (.BoolOp .And [a] pos) tA:=by
 intro wh pins s σ H Q I h;refine isTrue_and (thn (ha pins s σ H Q I h) λc s1 e=>?_);cases c with
 |true=>exact isTrue_and_nil e
 |false=>exact e
theorem IK(ha:PT X a tA):PW X (.BoolOp .Or [a] pos) tA:=by
 intro wh pins s σ H Q I h;refine isTrue_or (thn (ha pins s σ H Q I h) λc s1 e=>?_);cases c with
 |false=>exact isTrue_or_nil e
 |true=>exact e
theorem IJ(ha:PT X a tA)(hb:PW X (.BoolOp .And (b::rest) pos) xk):PW X (.BoolOp .And (a::b::rest) pos) (RV tA xk):=by
 intro wh pins s σ H Q I h;refine isTrue_and (thn (ha pins s σ H _ I h) λc s1 ⟨H1,I1,q1⟩=>?_);cases c with
 |true=>exact hb wh pins s1 σ H1 Q I1 q1
 |false=>exact ⟨H1,I1,q1⟩
theorem Mi(ha:PT X a tA)(hb:PW X (.BoolOp .Or (b::rest) pos) xk):PW X (.BoolOp .Or (a::b::rest) pos) (X7 tA xk):=by
 intro wh pins s σ H Q I h;refine isTrue_or (thn (ha pins s σ H _ I h) λc s1 ⟨H1,I1,q1⟩=>?_);cases c with
 |true=>exact ⟨H1,I1,q1⟩
 |false=>exact hb wh pins s1 σ H1 Q I1 q1
theorem II(ha:PT X a tA):PT X (.UnaryOp .Not a pos) (R5 tA):=by
 intro pins s σ H Q I h;exact isTrue_not (ha pins s σ H (λc H1=>Q (!c) H1) I h)
def MA(ta tb:TE):TE:=λσ H Q=>ta σ H λx H1=>∃c,x= .bl c∧if c=true then tb σ H1 Q else Q (.bl false) H1
def MG(ta:TE):TE:=λσ H Q=>ta σ H λx H1=>∃c,x= .bl c∧Q (.bl (!c)) H1
theorem IE{op}{t:TE}(h:PE X a t):PE X (.BoolOp op [a] pos) t:=λpins s σ H Q I hw=>BoolOp_one (h pins s σ H Q I hw)
theorem Iv(ha:PE X a ta)(hb:PE X (.BoolOp .And (b::rest) pos) tb):PE X (.BoolOp .And (a::b::rest) pos) (MA ta tb):=by
 intro pins s σ H Q I h;refine BoolOp_and (thn (ha pins s σ H _ I h) λv s1 ⟨x,H1,I1,r1,q1⟩=>?_);obtain ⟨c,rfl,q1⟩:=q1;cases r1;refine wpAny_truthy_bool ?_;cases c with
 |true=>exact hb pins s1 σ H1 Q I1 q1
 |false=>exact ⟨.bl false,H1,I1,rfl,q1⟩
theorem ID(ha:PE X a ta):PE X (.UnaryOp .Not a pos) (MG ta):=by
 intro pins s σ H Q I h;refine UnaryOp_ (thn (ha pins s σ H _ I h) λv s1 ⟨x,H1,I1,r1,q1⟩=>?_);obtain ⟨c,rfl,q1⟩:=q1;cases r1;exact not_of (wpAny_truthy_bool ⟨.bl (!c),H1,I1,rfl,q1⟩)
end
def cD(K:PySem.W.Frag)(H:Hp)(a:Addr)(xs:List V):Prop:=
 Rd H a (.lst xs)∨
  ∃(o:Obj)(its:Array Value)(n:Nat),K.lookup a=some o∧o.cls= .type "list"∧o.dict=none∧o.data= .seq its n∧its.size≤sizeLine∧Vals xs its.toList
def fL(K:PySem.W.Frag)(H:Hp)(a:Addr)(xs:List V):Prop:=
 Rd H a (.tup xs)∨
  ∃(o:Obj)(its:Array Value)(n:Nat),K.lookup a=some o∧o.cls= .type "tuple"∧o.data= .seq its n∧its.size≤sizeLine∧Vals xs its.toList
def MW:Value→Option V
 | .none=>some .bf
 | .bool b=>some (.bl b)
 | .int i _=>some (.int i)
 | .str x _=>some (.str x)
 | .bytes b _=>some (.B9 b)
 | .float b _=>some (.zL b)
 | .ref a=>some (.ref a)
 | .type n=>some (.ty n)
 |_=>none
theorem RelV.abs{x:V}{u:Value}(r:RelV x u):MW u=some x:=by
 cases x with
 |bf=>cases r;rfl
 |bl _=>cases r;rfl
 |int _=>obtain ⟨t,rfl⟩:=r;rfl
 |str _=>obtain ⟨t,rfl⟩:=r;rfl
 |B9 _=>obtain ⟨t,rfl⟩:=r;rfl
 |zL _=>obtain ⟨t,rfl⟩:=r;rfl
 |ref _=>cases r;rfl
 |ty _=>cases r;rfl
theorem RelV.inj{x y:V}{u:Value}(r:RelV x u)(q:RelV y u):x=y:=Option.some.inj (r.abs.symm.trans q.abs)
theorem Vals.inj:∀{xs ys:List V}{us:List Value},Vals xs us→Vals ys us→xs=ys
 |_,_,_, .nil, .nil=>rfl
 |_,_,_, .cons r t, .cons r' t'=>by rw [r.inj r',Vals.inj t t']
section
variable {X:Cx} {pins:List (Addr×Obj)} {σ:St} {H:Hp} {s:Shared} {a:Addr} {xs ys:List V}
theorem cD.of{K:PySem.W.Frag}(h:H a=some (.lst xs)):cD K H a xs:= .inl (.inl h)
theorem fL.of{K:PySem.W.Frag}(h:H a=some (.tup xs)):fL K H a xs:= .inl (.inl h)
theorem Inv.list(I:Inv X pins σ H s)(h:cD X.K H a xs):∃its:List Value,Vals xs its∧PlainL s.heap a its.toArray∧xs.length≤sizeLine:=by
 rcases h with h| ⟨o,its,n,hk,hc,hd,hs,hz,r⟩
 ·obtain ⟨z,its,n,r,e⟩:=h.ok I.hok
  exact ⟨its,r,⟨_,n,e,rfl,rfl,rfl⟩,z⟩
 ·refine ⟨its.toList,r,⟨o,n,I.g6 a o hk,hc,hd,by simpa using hs⟩,?_⟩
  have e:=r.length;simp only [gO] at e;omega
theorem Inv.tuple(I:Inv X pins σ H s)(h:fL X.K H a xs):∃its:List Value,Vals xs its∧IsTup s.heap a its.toArray∧xs.length≤sizeLine:=by
 rcases h with h| ⟨o,its,n,hk,hc,hs,hz,r⟩
 ·obtain ⟨z,its,r,p⟩:=h.ok I.hok
  exact ⟨its,r,p,z⟩
 ·refine ⟨its.toList,r,⟨o,I.g6 a o hk,hc,n,by simpa using hs⟩,?_⟩
  have e:=r.length;simp only [gO] at e;omega
theorem Inv.vz(I:Inv X pins σ H s)(h:cD X.K H a xs)(h':cD X.K H a ys):xs=ys:=by
 obtain ⟨its,r,⟨o,n,e,_,_,d⟩,_⟩:=I.list h;obtain ⟨its',r',⟨o',n',e',_,_,d'⟩,_⟩:=I.list h';rw [e] at e';cases e';rw [d] at d'
 injection d' with d1 _
 have:its=its':=by simpa using congrArg Array.toList d1
 subst this;exact r.inj r'
end
abbrev Cx.ni(X:Cx)(E:Value→Shared→Prop):Cx:={X with xe:=E}
abbrev Cx.gK(X:Cx):Cx:=X.ni λ_ _=>False
theorem Cx.Ok.ni{X:Cx}(ok:X.Ok)(E:Value→Shared→Prop):(X.ni E).Ok:=
 ⟨ok.mod,ok.kind,ok.glob,ok.blt,ok.above,ok.inj,ok.has,ok.cab,ok.hd,ok.frames,ok.stk,ok.exf,ok.bs,ok.bsz,ok.noex,ok.exfs,ok.funs,ok.frf⟩
theorem Cx.Ok.i7{X:Cx}{E:Value→Shared→Prop}(ok:(X.ni E).Ok):X.Ok:=
 ⟨ok.mod,ok.kind,ok.glob,ok.blt,ok.above,ok.inj,ok.has,ok.cab,ok.hd,ok.frames,ok.stk,ok.exf,ok.bs,ok.bsz,ok.noex,ok.exfs,ok.funs,ok.frf⟩
section
variable {X:Cx} {pins:List (Addr×Obj)} {σ:St} {H:Hp} {s:Shared} {E:Value→Shared→Prop}
theorem Inv.ni(I:Inv X pins σ H s)(E:Value→Shared→Prop):Inv (X.ni E) pins σ H s:=⟨I.ok.ni E,I.os,I.bare,I.base,I.loc,I.cell,I.free,I.freeC,I.pin,I.hok,I.len⟩
theorem Inv.i7(I:Inv (X.ni E) pins σ H s):Inv X pins σ H s:=⟨I.ok.i7,I.os,I.bare,I.base,I.loc,I.cell,I.free,I.freeC,I.pin,I.hok,I.len⟩
theorem SP.i7{D:Ends}{f:Flow}{s':Shared}(h:SP (X.ni E) pins D f s'):SP X pins D f s':=by
 cases f with
 |next=>obtain ⟨ay,H',I,q⟩:=h;exact ⟨ay,H',I.i7,q⟩
 |brk=>obtain ⟨ay,H',I,q⟩:=h;exact ⟨ay,H',I.i7,q⟩
 |cont=>obtain ⟨ay,H',I,q⟩:=h;exact ⟨ay,H',I.i7,q⟩
 |ret u=>obtain ⟨v,ay,H',I,r,q⟩:=h;exact ⟨v,ay,H',I.i7,r,q⟩
theorem kX.gK{st:List Stmt}{t:TS}(h:kX X.gK st t):kX X st t:=λpins s σ H D I hw=>
 wpAny_mono (h pins s σ H D (I.ni _) hw) (λ_ _ q=>q.i7) λ_ _ z=>False.elim z
end
section
variable {X:Cx} {st:Stmt} {rest:List Stmt} {t u:TS} {e:Expr} {te:TE} {pos:Pos}
def MF:TS:=λD σ H=>D.nx σ H
def R7(t u:TS):TS:=λD σ H=>t {D with nx:=u D} σ H
theorem F4:kX X [] MF:=λ_ _ σ H _ I h=>wpAny_execs_nil ⟨σ,H,I,h⟩
theorem jL(h1:PS X st t)(h2:kX X rest u):kX X (st::rest) (R7 t u):=by
 intro pins s σ H D I h;refine wpAny_execs_cons (thn (h1 pins s σ H {D with nx:=u D} I h) λf s1 q=>?_)
 cases f with
 |next=>
  obtain ⟨ay,H',I',q⟩:=q;exact h2 pins s1 ay H' D I' q
 |ret v=>exact q
 |brk=>exact q
 |cont=>exact q
theorem yN(h1:PS X st t):kX X [st] t:=by
 intro pins s σ H D I h;refine wpAny_execs_cons (thn (h1 pins s σ H D I h) λf s1 q=>?_);cases f with
 |next=>exact wpAny_execs_nil q
 |ret v=>exact q
 |brk=>exact q
 |cont=>exact q
theorem Inv.quiet{pins:List (Addr×Obj)}{σ:St}{H:Hp}{s:Shared}(I:Inv X pins σ H s):interactive X.env=false:=by simp [interactive,I.ok.kind]
def MD(te:TE):TS:=λD σ H=>te σ H λ_ H1=>D.nx σ H1
theorem pH(he:PE X e te)(hs:swapsWith e none pos.line X.env=pure false:=by rfl):PS X (.Expr e pos) (MD te):=by
 intro pins s σ H D I h;exact wpAny_Expr_any (thn (he pins s σ H _ I h) λv s1 ⟨x,H1,I1,r1,q1⟩=>⟨σ,H1,I1,q1⟩) I.quiet hs
def R6(te:TE):TS:=λD σ H=>te σ H D.rt
theorem BM(he:PE X e te):PS X (.Return (some e) pos) (R6 te):=by
 intro pins s σ H D I h;exact wpAny_Return_some (thn (he pins s σ H _ I h) λv s1 ⟨x,H1,I1,r1,q1⟩=>⟨x,σ,H1,I1,r1,q1⟩)
def R3(c:TT)(t u:TS):TS:=λD σ H=>c σ H λb H1=>if b=true then t D σ H1 else u D σ H1
theorem Mh{c:Expr}{a b:List Stmt}{tc:TT}(hc:PT X c tc)(ha:kX X a t)(hb:kX X b u):PS X (.If c a b pos) (R3 tc t u):=by
 intro pins s σ H D I h;refine wpAny_If (thn (hc pins s σ H _ I h) λd s1 ⟨H1,I1,q1⟩=>?_);cases d with
 |true=>exact ha pins s1 σ H1 D I1 q1
 |false=>exact hb pins s1 σ H1 D I1 q1
def Ja:TS:=λ_ _ _=>False
theorem C2:PS X st Ja:=λ_ _ _ _ _ _ h=>h.elim
end
abbrev TG:=V→St→Hp→(St→Hp→Prop)→Prop
abbrev uK:=List V→St→Hp→(St→Hp→Prop)→Prop
def PG(X:Cx)(target:Expr)(t:TG):Prop:=
 ∀(pins:List (Addr×Obj))(s:Shared)(σ:St)(H:Hp)(v:V)(u:Value)(Q:St→Hp→Prop),Inv X pins σ H s→RelV v u→t v σ H Q→
  wpAny (model X.prog X.w) X.A (assign target X.env u) (λ_ s'=>∃ay H',Inv X pins ay H' s'∧Q ay H') X.xe s
def we(X:Cx)(ts:List Expr)(t:uK):Prop:=
 ∀(pins:List (Addr×Obj))(s:Shared)(σ:St)(H:Hp)(vs:List V)(us:List Value)(Q:St→Hp→Prop),Inv X pins σ H s→Vals vs us→t vs σ H Q→
  wpAny (model X.prog X.w) X.A (assignInOrder ((assignEach ts X.env).map (·.2)) us) (λ_ s'=>∃ay H',Inv X pins ay H' s'∧Q ay H') X.xe s
abbrev DQ:=V→V→V→Hp→(Hp→Prop)→Prop
def Jk(X:Cx)(t:DQ):Prop:=
 ∀(pins:List (Addr×Obj))(s:Shared)(σ:St)(H:Hp)(o i v:V)(ov iv u:Value)(Q:Hp→Prop),Inv X pins σ H s→RelV o ov→RelV i iv→RelV v u→t o i v H Q→
  wpAny (model X.prog X.w) X.A (setItem ov iv u) (λ_ s'=>∃H',Inv X pins σ H' s'∧Q H') X.xe s
section
variable {X:Cx} {pos:Pos}
def EF(i:Nat):TG:=λv σ H Q=>Q (σ.set i (some v)) H
theorem yH{i:Nat}{x:Str}(hN:X.N.Nodup)(hi:X.N[i]? =some x)(hx:Loc X.env.scope x)(hf:X.fn x=true∨X.env.scope.names.lookup x=some .local:=by first|exact .inl rfl|exact .inr rfl|assumption):PG X (.Name x pos) (EF i):=by
 intro pins s σ H v u Q I r h;exact wpAny_assign_Name (mE I hN hi hx r (λs' I'=>⟨_,H,I',h⟩) hf)
def OL:uK:=λvs σ H Q=>vs= []∧Q σ H
def Lg(t:TG)(u:uK):uK:=λvs σ H Q=>∃v r,vs=v::r∧t v σ H λay H'=>u r ay H' Q
theorem yI:we X [] OL:=by
 intro pins s σ H vs us Q I r h;obtain ⟨e,h⟩:=h;subst e;cases r;exact assignInOrder_nil ⟨σ,H,I,h⟩
theorem vI{e:Expr}{es:List Expr}{t:TG}{u:uK}(h1:PG X e t)(h2:we X es u)
  (hs:(assignEach (e::es) X.env).map (·.2)=assign e X.env::(assignEach es X.env).map (·.2):=by rfl):we X (e::es) (Lg t u):=by
 intro pins s σ H vs us Q I r h;obtain ⟨v,vr,e1,h⟩:=h;subst e1;cases r with
 |cons r rr=>
  rw [hs];refine assignInOrder_cons (thn (h1 pins s σ H _ _ _ I r h) λ_ s1 ⟨A8,H1,I1,q1⟩=>?_);exact h2 pins s1 A8 H1 _ _ Q I1 rr q1
def ON(K:PySem.W.Frag)(n:Nat)(t:uK):TG:=λv σ H Q=>∃a xs,v= .ref a∧fL K H a xs∧xs.length=n∧t xs σ H Q
theorem BJ{es:List Expr}{k:Nat}{t:uK}{n:Nat}(hc:X.calm=true)(h:we X es t)
  (hn:(assignEach es X.env).length=n:=by rfl) (mN:(assignEach es X.env).findIdx? (·.1)=none:=by rfl):PG X (.Tuple es k pos) (ON X.K n t):=by
 intro pins s σ H v u Q I r hw;obtain ⟨a,xs,e1,hq,hl,hw⟩:=hw;subst e1;cases r;obtain ⟨its,rv,ht,hz⟩:=I.tuple hq;refine assign_Tuple_tuple (I.ok.hd hc) ht (by simp [hn,←hl,rv.length]) mN λh' hx=>?_
 have I1:Inv X pins σ H {s with heap:=h'}:=I.kept (t':=s.toks) λb o e=>hx b o (cc (Heap.lt_size e)) e
 exact h pins _ σ H xs _ Q I1 (by simpa using rv) hw
def OM(to ti:TE)(t:DQ):TG:=λv σ H Q=>to σ H λo H1=>ti σ H1 λi H2=>t o i v H2 λH3=>Q σ H3
theorem BI{o i:Expr}{to ti:TE}{t:DQ}(ho:PE X o to)(hi:PE X i ti)(hs:Jk X t)
  (ha:∀v,assign (.Subscript o i pos) X.env v=(do
   let ov ←holding [v] (eval o X.env)
   let iv ←holding [v,ov] (eval i X.env)
   standAt pos
   holding [v,ov,iv] (setItem ov iv v)
   release [v,ov,iv] []):=by intro _;rfl):PG X (.Subscript o i pos) (OM to ti t):=by
 intro pins s σ H v u Q I r h;rw [ha];refine wpAny_bind (wpAny_holding (thn (ho pins s σ H _ I h) λov s1 ⟨x,H1,I1,r1,q1⟩=>?_));refine wpAny_bind (wpAny_holding (thn (hi pins s1 σ H1 _ I1 q1) λiv s2 ⟨y,H2,I2,r2,q2⟩=>?_));refine wpAny_bind (wpAny_standAt (wpAny_bind (wpAny_holding (thn (hs pins s2 σ H2 x y v ov iv u _ I2 r1 r2 r q2) λ_ s3 ⟨H3,I3,q3⟩=>?_))));exact wpAny_release ⟨σ,H3,I3,q3⟩
def J9(te:TE)(g:TG):TS:=λD σ H=>te σ H λx H1=>g x σ H1 D.nx
theorem xg{tg e:Expr}{te:TE}{g:TG}(he:PE X e te)(hg:PG X tg g)(hs:swapsWithSole [tg] e pos.line X.env=pure false:=by rfl)(hw:swappedStores [tg] e X.env=pure none:=by rfl)
  (h1:(assignEach [tg] X.env).map (·.2)= [assign tg X.env]:=by rfl):PS X (.Assign [tg] e pos) (J9 te g):=by
 intro pins s σ H D I h;refine wpAny_Assign_stores (thn (he pins s σ H _ I h) λv s1 ⟨x,H1,I1,r1,q1⟩=>?_) hs hw;rw [h1];exact thn (hg pins s1 σ H1 x v _ I1 r1 q1) λ_ s2 q=>q
theorem r9{i:Nat}{x:Str}{e:Expr}{te:TE}{pos':Pos}(hN:X.N.Nodup)(hi:X.N[i]? =some x)(hx:Loc X.env.scope x)(he:PE X e te)(hs:swapsWith e (some (.Name x pos')) pos.line X.env=pure false:=by rfl)(hf:X.fn x=true∨X.env.scope.names.lookup x=some .local:=by first|exact .inl rfl|exact .inr rfl|assumption):
  PS X (.Assign [.Name x pos'] e pos) (J9 te (EF i)):=by
 intro pins s σ H D I h;refine wpAny_Assign_Name (thn (he pins s σ H _ I h) λv s1 ⟨y,H1,I1,r1,q1⟩=>?_) hs;exact mE I1 hN hi hx r1 (λs2 I2=>⟨_,H1,I2,q1⟩) hf
end
section
variable {X:Cx} {pos:Pos}
def Jb(c:TT)(tb:TS):TS:=λD σ H=>∃W:Nat→St→Hp→Prop,(∃m,W m σ H)∧∀m σ H,W m σ H→
 c σ H λb H1=>if b=true then ∃N:St→Hp→Prop,(∀ay H',N ay H'→∃m',m'<m∧W m' ay H')∧tb {D with nx:=N,ct:=N,bk:=D.nx} σ H1 else D.nx σ H1
theorem C3{c:Expr}{body:List Stmt}{tc:TT}{tb:TS}(hp:PassesOwn (model X.prog X.w) X.A X.env X.xe)(hc:PT X c tc)(hb:kX X body tb):PS X (.While c body [] pos) (Jb tc tb):=by
 intro pins s σ H D I h;obtain ⟨W,⟨m0,w0⟩,turn⟩:=h;refine wpAny_While (codeAny_whileLoop (λn s'=>∃ay H',Inv X pins ay H' s'∧W n ay H') ?_ m0 ⟨σ,H,I,w0⟩);rintro n s1 ⟨A8,H1,I1,w1⟩;refine wpAny_passesOwn hp (thn (hc pins s1 A8 H1 _ I1 (turn n A8 H1 w1)) λb s2 ⟨H2,I2,q2⟩=>?_);cases b with
 |true=>
  obtain ⟨N,hN,q2⟩:=q2;rw [if_pos rfl];refine wpAny_passesOwn hp (thn (hb pins s2 A8 H2 _ I2 q2) λf s3 q3=>?_);cases f with
  |next=>
   obtain ⟨rT,H3,I3,n3⟩:=q3;obtain ⟨m',hm,w3⟩:=hN rT H3 n3;exact ⟨m',hm,rT,H3,I3,w3⟩
  |cont=>
   obtain ⟨rT,H3,I3,n3⟩:=q3;obtain ⟨m',hm,w3⟩:=hN rT H3 n3;exact ⟨m',hm,rT,H3,I3,w3⟩
  |brk=>exact q3
  |ret v=>exact q3
 |false=>
  rw [if_neg dW];exact wpAny_execs_nil ⟨A8,H2,I2,q2⟩
end
structure It where
 go:Nat→Hp→Prop
 yld:Nat→Hp→V→Hp→Prop
 stop:Nat→Hp→Prop
def dY(X:Cx)(pins:List (Addr×Obj))(H:Hp)(b:Addr):Prop:=
 H b=none∧b≠X.env.locals∧b∉X.fs∧(b∈X.ex∨X.s₀.heap.objs.size≤b)∧(∀x c,X.env.cells.lookup x=some c→c≠b)∧∀p∈X.pn++pins,p.1≠b
theorem Inv.EE{X:Cx}{pins:List (Addr×Obj)}{σ:St}{H H':Hp}{s:Shared}{b:Addr}(I:Inv X pins σ H s)(hb:s.heap.objs.size≤b)(hn:H' b=none):dY X pins H' b:=by
 refine ⟨hn,Nat.ne_of_gt (f9 I.lt hb),I.FC hb, .inr (jV I.sz hb),λx c e z=>?_,λp hp z=>?_⟩
 ·obtain ⟨v,q⟩:=I.cell x c e
  exact absurd (f9 q.lt (by rw [z];exact hb)) (fW _)
 ·exact absurd (f9 (Heap.lt_size (I.pin p hp).1) (by rw [z];exact hb)) (fW _)
structure Turn (P:Program) (w:World) (K:PySem.W.Frag) (tg:Expr) (J:It) (fp:List Addr) (it:Addr) (tn:Nat→Heap→Prop):Prop where
 mem:it∈fp
 obj:∀i h,tn i h→∀b∈fp,∃o,h.get? b=some o∧∀v,o.data≠ .cell v
 keep:∀i h h',tn i h→(∀b∈fp,∀o,h.get? b=some o→h'.get? b=some o)→tn i h'
 item:∀(X:Cx),X.prog=P→X.w=w→X.K=K→X.calm=true→∀(i:Nat)(pins:List (Addr×Obj))(s:Shared)(σ:St)(H:Hp)(E:Value→Shared→Prop),Inv X pins σ H s→(∀b∈fp,dY X pins H b)→tn i s.heap→J.go i H→
  wpAny (model P w) X.A (pyNext (.ref it)) (λr s1=>∃u,r=some u∧
   wpAny (model P w) X.A (letOwnedTupleGo tg (.ref it) u) (λ_ s2=>∃x H',Inv X pins σ H' s2∧RelV x u∧J.yld i H x H'∧tn (i+1) s2.heap∧∀b∈fp,H' b=none) E s1) E s
 done:∀(X:Cx),X.prog=P→X.w=w→X.K=K→X.calm=true→∀(i:Nat)(pins:List (Addr×Obj))(s:Shared)(σ:St)(H:Hp)(E:Value→Shared→Prop),Inv X pins σ H s→(∀b∈fp,dY X pins H b)→tn i s.heap→J.stop i H→
  wpAny (model P w) X.A (pyNext (.ref it)) (λr s1=>r=none∧Inv X pins σ H s1) E s
 self:∀(A:Around)(i:Nat)(s:Shared)(Q:Value→Shared→Prop)(E:Value→Shared→Prop),tn i s.heap→Q (.ref it) s→wpAny (model P w) A (pyIter (.ref it)) Q E s
abbrev TI:=St→Hp→(It→Hp→Prop)→Prop
def MT(X:Cx)(pins:List (Addr×Obj))(σ:St)(tg:Expr)(R:It→Hp→Prop)(yo:Value)(s2:Shared):Prop:=
 ∃(it:Addr)(fp:List Addr)(tn:Nat→Heap→Prop)(J:It)(H':Hp),yo= .ref it∧Inv X pins σ H' s2∧Turn X.prog X.w X.K tg J fp it tn∧tn 0 s2.heap∧(∀b∈fp,dY X pins H' b)∧R J H'
def PI(X:Cx)(tg iter:Expr)(wi:TI):Prop:=
 ∀(pins:List (Addr×Obj))(s:Shared)(σ:St)(H:Hp)(R:It→Hp→Prop),Inv X pins σ H s→wi σ H R→
  wpAny (model X.prog X.w) X.A (eval iter X.env) (λv s1=>wpAny (model X.prog X.w) X.A (pyIter v) (MT X pins σ tg R) X.xe s1) X.xe s
theorem EI{M:Model}{A:Around}{E:Value→Shared→Prop}{s:Shared}{tg:Expr}{it:Addr}{u:Value}{o:Obj}{n:String}{vs:Array Value}{Q:Unit→Shared→Prop}(ho:s.heap.get? it=some o)(hc:o.cls= .type n)(hd:o.data= .fields vs)
  (hn: ["enumerate","zip","dict_itemiterator","dict_reverseitemiterator","odict_iterator","itertools.zip_longest","itertools.pairwise"].contains n=false) (hQ:Q () s):wpAny M A (letOwnedTupleGo tg (.ref it) u) Q E s:=by
 unfold letOwnedTupleGo
 cases tg<;>first
  |exact wpAny_pure hQ
  | (cases u<;>first
    |exact wpAny_pure hQ
    | (refine wpAny_bind (wpAny_load ho ?_)
       rw [hc,hd];show wpAny M A (if (["enumerate","zip","dict_itemiterator","dict_reverseitemiterator","odict_iterator","itertools.zip_longest","itertools.pairwise"].contains n&&vs[0]? ==some (rawInt _))=true then _ else _) Q E s;rw [if_neg (by intro h;rw [hn,uw] at h;cases h)]
       exact wpAny_pure hQ))
def Kj(K:PySem.W.Frag)(a:Addr):It:=
 ⟨λi H=>∃xs x,cD K H a xs∧xs[i]? =some x,λi H x H'=>H'=H∧∀xs,cD K H a xs→xs[i]? =some x,λi H=>∃xs,cD K H a xs∧xs.length≤i⟩
def DK(lo:Int)(n:Nat):It:=⟨λi _=>i<n,λi H x H'=>H'=H∧x= .int (lo+i),λi _=>n≤i⟩
theorem A4{P:Program}{w:World}{K:PySem.W.Frag}{tg:Expr}(a it:Addr):Turn P w K tg (Kj K a) [it] it (λi h=>h.IsListIter it a i) where
 mem:=by simp
 obj:=λi h st b hb=>by
  have e:b=it:=by simpa using hb
  subst e;obtain ⟨o,e,c,d⟩:=st;exact ⟨o,e,λv z=>by rw [d] at z;cases z⟩
 keep:=λi h h' st k=>st.at λo e=>k it (by simp) o e
 item:=by
  intro X hP hw hK hc i pins s σ H E I hf st hg;subst hP hw hK;obtain ⟨xs,x,hq,hx⟩:=hg;obtain ⟨its,rv,p,hz⟩:=I.list hq;obtain ⟨u,hu,ru⟩:=rv.get hx;obtain ⟨f0,f1,f2,f3,f4,f5⟩:=hf it (by simp)
  refine wpAny_pyNext_list_item st p.isList (x:=u) (by simpa using hu) λh' GA sb=>?_
  have I1:Inv X pins σ H {s with heap:=h'}:=I.turned (t':=s.toks) (λb o hb e=>(sb.2 b hb).trans e) f0 f1 f3 f4 f5
  obtain ⟨o,e,c,d⟩:=id GA;exact ⟨u,rfl,EI (s:={s with heap:=h'}) e c d (by decide) ⟨x,H,I1,ru,⟨rfl,λys hy=>by rw [I.vz hy hq];exact hx⟩,GA,λb hb=>(hf b hb).1⟩⟩
 done:=by
  intro X hP hw hK hc i pins s σ H E I hf st hg;subst hP hw hK;obtain ⟨xs,hq,hx⟩:=hg;obtain ⟨its,rv,p,hz⟩:=I.list hq;obtain ⟨f0,f1,f2,f3,f4,f5⟩:=hf it (by simp)
  have hl:=rv.length;exact wpAny_pyNext_list_end (I.ok.hd hc) st p.isList (by simp;omega) λh' eb=>⟨rfl,I.turned (t':=s.toks) (λb o hb e=>eb b o hb e) f0 f1 f3 f4 f5⟩
 self:=λ_ _ _ _ _ st h=>wpAny_pyIter_listiter st h
theorem za{P:Program}{w:World}{K:PySem.W.Frag}{tg:Expr}(it:Addr)(lo:Int)(n:Nat):Turn P w K tg (DK lo n) [it] it (λi h=>IsRangeIter h it (lo+(i:Nat)*1) ((n:Int)-(i:Nat)) 1) where
 mem:=by simp
 obj:=λi h st b hb=>by
  have e:b=it:=by simpa using hb
  subst e
  exact ⟨_,st,λv z=>by
   have z':Data.fields _=Data.cell v:=z;cases z'⟩
 keep:=λi h h' st k=>k it (by simp) _ st
 item:=by
  intro X hP hw hK hc i pins s σ H E I hf st hg;subst hP hw hK;obtain ⟨f0,f1,f2,f3,f4,f5⟩:=hf it (by simp)
  have W:=Walks.range (prog:=X.prog) (w:=X.w) (I.ok.hd hc) it lo 1 n;refine W.item i s _ _ hg st λv h' tk hv GA kk=>?_;obtain ⟨t,rfl⟩:=hv;have I1:Inv X pins σ H {s with heap:=h',toks:=tk}:=I.turned (λb o hb e=>kk b o (by simpa using hb) e) f0 f1 f3 f4 f5
  refine ⟨_,rfl,EI (s:={s with heap:=h',toks:=tk}) (n:="range_iterator") GA rfl rfl (by decide) ⟨.int (lo+i),H,I1,⟨t,?_⟩,⟨rfl,rfl⟩,GA,λb hb=>(hf b hb).1⟩⟩
  rw [Int.mul_one]
 done:=by
  intro X hP hw hK hc i pins s σ H E I hf st hg;subst hP hw hK;obtain ⟨f0,f1,f2,f3,f4,f5⟩:=hf it (by simp)
  exact wpAny_pyNext_range_end (I.ok.hd hc) st (by have:n≤i:=hg;omega) λh' eb=>⟨rfl,I.turned (t':=s.toks) (λb o hb e=>eb b o hb e) f0 f1 f3 f4 f5⟩
 self:=λ_ _ _ _ _ st h=>wpAny_pyIter_rangeiter st h
section
variable {X:Cx} {tg:Expr}
def LU(K:PySem.W.Frag)(tl:TE):TI:=λσ H R=>tl σ H λx H1=>∃a,x= .ref a∧(∃xs,cD K H1 a xs)∧R (Kj K a) H1
theorem FY{l:Expr}{tl:TE}(hl:PE X l tl):PI X tg l (LU X.K tl):=by
 intro pins s σ H R I h;refine thn (hl pins s σ H _ I h) λv s1 ⟨x,H1,I1,r1,q1⟩=>?_;obtain ⟨a,e,⟨xs,hq⟩,q⟩:=q1;subst e;cases r1;obtain ⟨its,rv,p,hz⟩:=I1.list hq;refine wpAny_pyIter_list p.isList ?_;refine ⟨s1.heap.objs.size,[s1.heap.objs.size],_,_,H1,rfl,I1.kept (t':=s1.toks) λb o e=>Heap.get?_push_of_some _ e,A4 a _,⟨_,Heap.get?_push_size _ rfl,rfl,rfl⟩,λb hb=>?_,q⟩;have e:b=s1.heap.objs.size:=by simpa using hb
 subst e;exact I1.EE (br _) (I1.hok.fresh (br _))
theorem vN{pins:List (Addr×Obj)}{σ:St}{H:Hp}{s:Shared}{R:It→Hp→Prop}{E:Value→Shared→Prop}{lo hi:Int}{t u v:Tok}{tk:Nat}(I:Inv X pins σ H s)(h1: -(2^62)≤lo)(h2:lo<2^62)(h3: -(2^62)≤hi)(h4:hi<2^62)
  (q:R (DK lo (hi-lo).toNat) H):wpAny (model X.prog X.w) X.A (pyIter (.ref s.heap.objs.size)) (MT X pins σ tg R) E {s with heap:=s.heap.push {cls:= .type "range",data:= .fields #[.int lo t, .int hi u, .int 1 v]},toks:=tk}:=by
 refine wpAny_pyIter_range (IsRange.new ..) (small_one h1 h2 h3 h4) ?_;have I1:Inv X pins σ H {s with heap:=s.heap.push {cls:= .type "range",data:= .fields #[.int lo t, .int hi u, .int 1 v]},toks:=tk}:=I.kept λb o e=>Heap.get?_push_of_some _ e
 refine ⟨(s.heap.push {cls:= .type "range",data:= .fields #[.int lo t, .int hi u, .int 1 v]}).objs.size,[(s.heap.push {cls:= .type "range",data:= .fields #[.int lo t, .int hi u, .int 1 v]}).objs.size],_,_,H,rfl,
  I1.kept (t':=tk) λb o e=>Heap.get?_push_of_some _ e,za _ lo (hi-lo).toNat,?_,λb hb=>?_,q⟩
 ·have e1:lo+((0:Nat):Int)*1=lo:=by simp
  have e2:(((hi-lo).toNat:Nat):Int)-((0:Nat):Int)=Builtin.Range.rangeSize lo hi 1:=by rw [rangeSize_one];split<;>omega
  show IsRangeIter _ _ (lo+((0:Nat):Int)*1) ((((hi-lo).toNat:Nat):Int)-((0:Nat):Int)) 1;rw [e1,e2];exact Heap.get?_push_size _ rfl
 ·have e:b=(s.heap.push {cls:= .type "range",data:= .fields #[.int lo t, .int hi u, .int 1 v]}).objs.size:=by simpa using hb
  subst e;exact I1.EE (br _) (I1.hok.fresh (br _))
def LV(ta:TA):TI:=λσ H R=>ta σ H λvs H1=>∃j:Int,vs= [.int j]∧-(2^62)≤j∧j<2^62∧R (DK 0 j.toNat) H1
def LW(ta:TA):TI:=λσ H R=>ta σ H λvs H1=>∃i j:Int,vs= [.int i, .int j]∧(-(2^62)≤i∧i<2^62∧-(2^62)≤j∧j<2^62)∧R (DK i (j-i).toNat) H1
theorem t9{a:Expr}{ta:TA}{p pos:Pos}(hg:Gl X "range")(hm:X.mg "range"=none)(ha:PA X [a] ta)(hs:starEach [a] X.env= [(false,eval a X.env)]:=by rfl):PI X tg (.Call (.Name "range" p) [a] [] pos) (LV ta):=by
 intro pins s σ H R I h;refine Call_ (g7 I hg hm boot_range (PyProof.Rows.callWith_type1 (thn (ha pos pins s σ H _ I h) λus s1 ⟨vs,H1,I1,r1,q1⟩=>?_) hs rfl));obtain ⟨j,e,q1,q2,q⟩:=q1;subst e;cases r1 with
 |cons r rr=>
  cases rr;obtain ⟨t,rfl⟩:=r;exact call_range_1 (vN I1 (by omega) (by omega) q1 q2 (by simpa using q))
theorem ua{a b:Expr}{ta:TA}{p pos:Pos}(hg:Gl X "range")(hm:X.mg "range"=none)(ha:PA X [a,b] ta)(hs:starEach [a,b] X.env= [(false,eval a X.env),(false,eval b X.env)]:=by rfl)(j5:starEach [b] X.env= [(false,eval b X.env)]:=by rfl):
  PI X tg (.Call (.Name "range" p) [a,b] [] pos) (LW ta):=by
 intro pins s σ H R I h;refine Call_ (g7 I hg hm boot_range (PyProof.Rows.callWith_type1 (thn (ha pos pins s σ H _ I h) λus s1 ⟨vs,H1,I1,r1,q1⟩=>?_) (by rw [hs,j5]) (by rw [j5];rfl)))
 obtain ⟨i,j,e,⟨q1,q2,q3,q4⟩,q⟩:=q1;subst e;cases r1 with
 |cons r rr=>
  cases rr with
  |cons r' rr=>
   cases rr;obtain ⟨t,rfl⟩:=r;obtain ⟨t',rfl⟩:=r';exact call_range_2 (vN I1 q1 q2 q3 q4 q)
def R0(wi:TI)(g:TG)(tb:TS):TS:=λD σ H=>wi σ H λJ H1=>∃W:Nat→Nat→St→Hp→Prop,(∃m,W 0 m σ H1)∧∀i m σ H,W i m σ H→
 (J.stop i H∧D.nx σ H)∨(J.go i H∧∃N:St→Hp→Prop,(∀ay H',N ay H'→∃m',m'<m∧W (i+1) m' ay H')∧∀x H',J.yld i H x H'→g x σ H' λdX H2=>tb {D with nx:=N,ct:=N,bk:=D.nx} dX H2)
def iX(fp:List Addr)(h:Heap):List (Addr×Obj):=fp.filterMap λb=>(h.get? b).map λo=>(b,o)
theorem cH{fp:List Addr}{h:Heap}{b:Addr}{o:Obj}(hb:b∈fp)(e:h.get? b=some o):(b,o)∈iX fp h:=zq100.mpr ⟨b,hb,by rw [e];rfl⟩
theorem Aw{fp:List Addr}{h:Heap}{p:Addr×Obj}(hp:p∈iX fp h):p.1∈fp∧h.get? p.1=some p.2:=by
 obtain ⟨b,hb,e⟩:=zq100.mp hp;cases q:h.get? b with
 |none=>rw [q] at e;cases e
 |some o=>
  rw [q] at e;have e':(b,o)=p:=Option.some.inj e;subst e';exact ⟨hb,q⟩
theorem Inv.pinned{pins:List (Addr×Obj)}{σ:St}{H:Hp}{s:Shared}{fp:List Addr}(I:Inv X pins σ H s)(hf:∀b∈fp,dY X pins H b)(ho:∀b∈fp,∃o,s.heap.get? b=some o∧∀v,o.data≠ .cell v):Inv X (pins++iX fp s.heap) σ H s:=
 I.jI λp hp=>(dF.mp hp).elim (λz=>I.pin p (eW _ z)) λz=>by
  obtain ⟨hb,e⟩:=Aw z;obtain ⟨f0,f1,f2,_⟩:=hf p.1 hb;obtain ⟨o,e',d⟩:=ho p.1 hb;rw [e] at e';cases e';exact ⟨e,f0,f1,f2,d⟩
theorem Inv.gz{pins pl:List (Addr×Obj)}{σ:St}{H:Hp}{s:Shared}(I:Inv X (pins++pl) σ H s):Inv X pins σ H s:=I.jI λp hp=>I.pin p (eW _ (fo _ hp))
theorem BL{iter:Expr}{body:List Stmt}{wi:TI}{g:TG}{tb:TS}{pos:Pos}(hp:PassesOwn (model X.prog X.w) X.A X.env X.xe)(hc:X.calm=true)(hi:PI X tg iter wi)(hg:PG X tg g)(hb:kX X body tb)
  (hs:∀x,foldedSetIterable iter X.env x=pure x:=by intro _;rfl):PS X (.For tg iter body [] pos) (R0 wi g tb):=by
 intro pins s σ H D I h;refine wpAny_For (thn (hi pins s σ H _ I h) λv s1 h1=>thn h1 λyo s2 h2=>?_) hs;obtain ⟨it,fp,tn,J,H2,e,I2,T,kT,f2,W,⟨m0,w0⟩,turn⟩:=h2;subst e;have stat:∀{H':Hp},(∀b∈fp,H' b=none)→∀b∈fp,dY X pins H' b:=λhn b hb=>⟨hn b hb,(f2 b hb).2⟩;refine codeAny_forLoop_any (λn s'=>∃i ay H',Inv X pins ay H' s'∧tn i s'.heap∧(∀b∈fp,H' b=none)∧W i n ay H') ?_ m0 ⟨0,σ,H2,I2,kT,λb hb=>(f2 b hb).1,w0⟩;rintro n s3 ⟨i,rT,H3,I3,uj,OK,w3⟩
 rcases turn i n rT H3 w3 with ⟨stop,qn⟩ | ⟨go,N,hN,step⟩
 ·refine wpAny_passesOwn hp (thn (T.done X rfl rfl rfl hc i pins s3 rT H3 X.xe I3 (stat OK) uj stop) λr s4 ⟨hr,I4⟩=>?_)
  subst hr;exact wpAny_execs_nil ⟨rT,H3,I4,qn⟩
 ·refine wpAny_passesOwn hp (thn (T.item X rfl rfl rfl hc i pins s3 rT H3 X.xe I3 (stat OK) uj go) λr s4 ⟨u,hr,h4⟩=>?_)
  subst hr;refine wpAny_passesOwn hp (thn h4 λ_ s5 ⟨x,H5,I5,r5,y5,oj,qi⟩=>?_);have DJ:=I5.pinned (stat qi) (T.obj _ _ oj);refine wpAny_passesOwn hp (thn (hg _ s5 rT H5 x u _ DJ r5 (step x H5 y5)) λ_ s6 ⟨Yh,H6,I6,q6⟩=>?_);refine wpAny_passesOwn hp (thn (hb _ s6 Yh H6 _ I6 q6) λf s7 q7=>?_)
  have again:∀{mf:St}{H7:Hp},Inv X (pins++iX fp s5.heap) mf H7 s7→N mf H7→∃m,m<n∧∃i ay H',Inv X pins ay H' s7∧tn i s7.heap∧(∀b∈fp,H' b=none)∧W i m ay H':=λ {mf H7} I7 n7=>by
   obtain ⟨m',hm,w7⟩:=hN mf H7 n7;refine ⟨m',hm,i+1,mf,H7,I7.gz,T.keep _ _ _ oj λb hb o e=>(I7.pin (b,o) (eW _ (eW _ (cH hb e)))).1,λb hb=>?_,w7⟩;obtain ⟨o,e,d⟩:=T.obj _ _ oj b hb;exact (I7.pin (b,o) (eW _ (eW _ (cH hb e)))).2.1
  cases f with
  |next=>obtain ⟨mf,H7,I7,n7⟩:=q7;exact again I7 n7
  |cont=>obtain ⟨mf,H7,I7,n7⟩:=q7;exact again I7 n7
  |brk=>obtain ⟨mf,H7,I7,q7⟩:=q7;exact ⟨mf,H7,I7.gz,q7⟩
  |ret v=>obtain ⟨x7,mf,H7,I7,r7,q7⟩:=q7;exact ⟨x7,mf,H7,I7.gz,r7,q7⟩
end
abbrev R2:=V→V→Hp→VK→Prop
def OpR(X:Cx)(f:Value→Value→Sem Value)(r:R2):Prop:=
 ∀(pins:List (Addr×Obj))(s:Shared)(σ:St)(H:Hp)(x y:V)(v u:Value)(Q:VK),Inv X pins σ H s→RelV x v→RelV y u→r x y H Q→
  wpAny (model X.prog X.w) X.A (f v u) (EP X pins σ Q) X.xe s
def UnR(X:Cx)(f:Value→Sem Value)(r:V→Hp→VK→Prop):Prop:=
 ∀(pins:List (Addr×Obj))(s:Shared)(σ:St)(H:Hp)(x:V)(v:Value)(Q:VK),Inv X pins σ H s→RelV x v→r x H Q→
  wpAny (model X.prog X.w) X.A (f v) (EP X pins σ Q) X.xe s
def cC(X:Cx)(f:Value)(r:List V→Hp→VK→Prop):Prop:=
 ∀(pins:List (Addr×Obj))(s:Shared)(σ:St)(H:Hp)(xs:List V)(us:List Value)(Q:VK),Inv X pins σ H s→Vals xs us→r xs H Q→
  wpAny (model X.prog X.w) X.A (call f us) (EP X pins σ Q) X.xe s
def MU(X:Cx)(r:V→Hp→(Bool→Hp→Prop)→Prop):Prop:=
 ∀(pins:List (Addr×Obj))(s:Shared)(σ:St)(H:Hp)(x:V)(v:Value)(Q:Bool→Hp→Prop),Inv X pins σ H s→RelV x v→r x H Q→
  wpAny (model X.prog X.w) X.A (truthy v) (TP X pins σ Q) X.xe s
def GI(r:R2)(ta tb:TE):TE:=λσ H Q=>ta σ H λx H1=>tb σ H1 λy H2=>r x y H2 Q
def X9(r:V→Hp→VK→Prop)(ta:TE):TE:=λσ H Q=>ta σ H λx H1=>r x H1 Q
def rI(C:Int→Int→Prop)(g:Int→Int→V):R2:=λx y H Q=>∃i j,x= .int i∧y= .int j∧C i j∧Q (g i j) H
def uV(g:Int→Int→V):R2:=λx y H Q=>∃i j,x= .int i∧y= .int j∧Q (g i j) H
def rU(g:Int→V):V→Hp→VK→Prop:=λx H Q=>∃i,x= .int i∧Q (g i) H
section
variable {X:Cx} {a b c:Expr} {ta tb tc:TE} {pos:Pos}
theorem D6(ha:PE X a ta)(hb:PE X b tb){pins:List (Addr×Obj)}{s:Shared}{σ:St}{H:Hp}{R:V→V→Hp→Prop}(I:Inv X pins σ H s)
  (h:ta σ H λx H1=>tb σ H1 λy H2=>R x y H2) {Q:Value→Shared→Prop} {f:Value→Value→Sem Value}
  (hf:∀v u s2 x y H2,Inv X pins σ H2 s2→RelV x v→RelV y u→R x y H2→wpAny (model X.prog X.w) X.A (f v u) Q X.xe s2):
  wpAny (model X.prog X.w) X.A (eval a X.env) (λv s₁=>wpAny (model X.prog X.w) X.A (eval b X.env) (λu BY=>wpAny (model X.prog X.w) X.A (f v u) Q X.xe BY) X.xe s₁) X.xe s:=by
 refine thn (ha pins s σ H _ I h) λv s1 ⟨x,H1,I1,r1,q1⟩=>?_;refine thn (hb pins s1 σ H1 _ I1 q1) λu s2 ⟨y,H2,I2,r2,q2⟩=>?_;exact hf v u s2 x y H2 I2 r1 r2 q2
theorem FT{op:Operator}{r:R2}(ho:OpR X (binaryOp op) r)(ha:PE X a ta)(hb:PE X b tb):PE X (.BinOp a op b pos) (GI r ta tb):=by
 intro pins s σ H Q I h;exact wpAny_BinOp (D6 ha hb I h λv u s2 x y H2 I2 rx ry q=>ho pins s2 σ H2 x y v u Q I2 rx ry q)
theorem Mg{op:UnaryOp}{r:V→Hp→VK→Prop}(ho:UnR X (unaryOp op) r)(ha:PE X a ta):PE X (.UnaryOp op a pos) (X9 r ta):=by
 intro pins s σ H Q I h;exact UnaryOp_ (thn (ha pins s σ H _ I h) λv s1 ⟨x,H1,I1,r1,q1⟩=>ho pins s1 σ H1 x v Q I1 r1 q1)
theorem Ii{f:Value→Value→Sem Value}{C:Int→Int→Prop}{g:Int→Int→Int}
  (rule:∀(i j:Int)(t u:Tok)(s:Shared)(Q:Value→Shared→Prop)(E:Value→Shared→Prop),C i j→Q (.int (g i j) s.toks) {s with toks:=s.toks+1}→wpAny (model X.prog X.w) X.A (f (.int i t) (.int j u)) Q E s):
  OpR X f (rI C λi j=> .int (g i j)):=by
 intro pins s σ H x y v u Q I rx ry h;obtain ⟨i,j,rfl,rfl,hc,q⟩:=h;obtain ⟨t,rfl⟩:=rx;obtain ⟨t',rfl⟩:=ry;exact rule i j t t' s _ _ hc ⟨.int (g i j),H,I.tok _,⟨_,rfl⟩,q⟩
theorem J0{f:Value→Value→Sem Value}{g:Int→Int→Int}
  (rule:∀(i j:Int)(t u:Tok)(s:Shared)(Q:Value→Shared→Prop)(E:Value→Shared→Prop),Q (.int (g i j) s.toks) {s with toks:=s.toks+1}→wpAny (model X.prog X.w) X.A (f (.int i t) (.int j u)) Q E s):
  OpR X f (uV λi j=> .int (g i j)):=by
 intro pins s σ H x y v u Q I rx ry h;obtain ⟨i,j,rfl,rfl,q⟩:=h;obtain ⟨t,rfl⟩:=rx;obtain ⟨t',rfl⟩:=ry;exact rule i j t t' s _ _ ⟨.int (g i j),H,I.tok _,⟨_,rfl⟩,q⟩
theorem BE{f:Value→Value→Sem Value}{g:Int→Int→Bool}
  (rule:∀(i j:Int)(t u:Tok)(s:Shared)(Q:Value→Shared→Prop)(E:Value→Shared→Prop),Q (.bool (g i j)) s→wpAny (model X.prog X.w) X.A (f (.int i t) (.int j u)) Q E s):
  OpR X f (uV λi j=> .bl (g i j)):=by
 intro pins s σ H x y v u Q I rx ry h;obtain ⟨i,j,rfl,rfl,q⟩:=h;obtain ⟨t,rfl⟩:=rx;obtain ⟨t',rfl⟩:=ry;exact rule i j t t' s _ _ ⟨.bl (g i j),H,I,rfl,q⟩
def Ji(i j:Int):Prop:=0<j∧j<1073741824
def Jj(i j:Int):Prop:=0≤j∧j≤1000000∧i.natAbs<2^64
def A9(i j:Int):Prop:=(-(2^64)<i∧i<2^64)∨(-(2^64)<j∧j<2^64)
theorem A9.ok{i j:Int}(h:A9 i j):IntMulOk i j:=by
 rcases h with ⟨h1,h2⟩ | ⟨h1,h2⟩
 ·exact .of_left (intBits_le_64 h1 h2)
 ·exact .of_right (intBits_le_64 h1 h2)
theorem Ij:OpR X (binaryOp .Add) (uV λi j=> .int (i+j)):=J0 λ_ _ _ _ _ _ _ q=>add_int q
theorem Iu:OpR X (binaryOp .Sub) (uV λi j=> .int (i-j)):=J0 λ_ _ _ _ _ _ _ q=>sub_int q
theorem Io:OpR X (binaryOp .Mult) (rI A9 λi j=> .int (i*j)):=Ii λ_ _ _ _ _ _ _ hc q=>mul_int q hc.ok
theorem FJ:OpR X (binaryOp .FloorDiv) (rI Ji λi j=> .int (i / j)):=Ii λi j _ _ _ _ _ hc q=>by
 have h1:(0:Int)<j:=hc.1;have h2:j<1073741824:=hc.2;exact floordiv_int (by omega) (by rw [Int.fdiv_eq_ediv_of_nonneg i (by omega)];exact q) (.inl (PyProof.noPylong_small (by omega)))
theorem Im:OpR X (binaryOp .Mod) (rI (λ_ j=>0<j) λi j=> .int (i%j)):=Ii λi j _ _ _ _ _ hc q=>by
 have h1:(0:Int)<j:=hc;exact mod_int' (by omega) (by rw [Int.fmod_eq_emod_of_nonneg i (by omega)];exact q)
theorem Iq:OpR X (binaryOp .Pow) (rI Jj λi j=> .int (i^j.toNat)):=Ii λ_ _ _ _ _ _ _ hc q=>pow_int_small hc.1 hc.2.1 hc.2.2 q
theorem Yb{f:Value→Sem Value}{g:Int→Int}
  (rule:∀(i:Int)(t:Tok)(s:Shared)(Q:Value→Shared→Prop)(E:Value→Shared→Prop),Q (.int (g i) s.toks) {s with toks:=s.toks+1}→wpAny (model X.prog X.w) X.A (f (.int i t)) Q E s):
  UnR X f (rU λi=> .int (g i)):=by
 intro pins s σ H x v Q I rx h;obtain ⟨i,rfl,q⟩:=h;obtain ⟨t,rfl⟩:=rx;exact rule i t s _ _ ⟨.int (g i),H,I.tok _,⟨_,rfl⟩,q⟩
theorem Jf:UnR X (unaryOp .USub) (rU λi=> .int (-i)):=Yb λ_ _ _ _ _ q=>neg_int q
end
section
variable {X:Cx} {a b c:Expr} {ta tb tc:TE} {pos:Pos}
theorem Bo{pins:List (Addr×Obj)}{σ:St}{H:Hp}{s:Shared}{Q:VK}{k k':Bool}(I:Inv X pins σ H s)(q:Q (.bl k) H)(e:k=k'):EP X pins σ Q (.bool k') s:=by
 subst e;exact ⟨.bl k,H,I,rfl,q⟩
theorem Ma:OpR X (compareOp .Lt) (uV λi j=> .bl (decide (i<j))):=BE λ_ _ _ _ _ _ _ q=>lt_int q
theorem L9:OpR X (compareOp .LtE) (uV λi j=> .bl (decide (i≤j))):=BE λ_ _ _ _ _ _ _ q=>le_int q
theorem L8:OpR X (compareOp .Gt) (uV λi j=> .bl (decide (j<i))):=BE λ_ _ _ _ _ _ _ q=>gt_int q
theorem L7:OpR X (compareOp .GtE) (uV λi j=> .bl (decide (j≤i))):=BE λ_ _ _ _ _ _ _ q=>ge_int q
theorem Il:OpR X (compareOp .Is) (λx y H Q=>y= .bf∧Q (.bl (decide (x= .bf))) H):=by
 intro pins s σ H x y v u Q I rx ry h;obtain ⟨rfl,q⟩:=h;cases ry;refine is_none_gen (Bo I q ?_)
 cases x<;>first
  | (cases rx;rfl)
  | (obtain ⟨t,rfl⟩:=rx;rfl)
theorem FK:OpR X (compareOp .IsNot) (λx y H Q=>y= .bf∧Q (.bl (!decide (x= .bf))) H):=by
 intro pins s σ H x y v u Q I rx ry h;obtain ⟨rfl,q⟩:=h;cases ry;refine isnot_none_gen (Bo I q ?_)
 cases x<;>first
  | (cases rx;rfl)
  | (obtain ⟨t,rfl⟩:=rx;rfl)
theorem OpR.or{f:Value→Value→Sem Value}{r r':R2}(h:OpR X f r)(h':OpR X f r'):OpR X f (λx y H Q=>r x y H Q∨r' x y H Q):=by
 intro pins s σ H x y v u Q I rx ry q
 rcases q with q|q
 ·exact h pins s σ H x y v u Q I rx ry q
 ·exact h' pins s σ H x y v u Q I rx ry q
theorem bF(b:Expr){op:CmpOp}(h:op≠ .In:=by decide)(h2:op≠ .NotIn:=by decide):behindInMarks op b=false:=by
 have e1:(op==CmpOp.In)=false:=by cases op<;>first|rfl|exact absurd rfl h
 have e2:(op==CmpOp.NotIn)=false:=by cases op<;>first|rfl|exact absurd rfl h2
 cases b<;>simp [behindInMarks,e1,e2]
theorem FO{op:CmpOp}{r:R2}(ho:OpR X (compareOp op) r)(ha:PE X a ta)(hb:PE X b tb)(hm:behindInMarks op b=false):PE X (.Compare a [op] [b] pos) (GI r ta tb):=by
 intro pins s σ H Q I h;exact wpAny_Compare1 (D6 ha hb I h λv u s2 x y H2 I2 rx ry q=>ho pins s2 σ H2 x y v u Q I2 rx ry q) hm
def AY(t:TE):TT:=λσ H Q=>t σ H λx H'=>∃k,x= .bl k∧Q k H'
theorem F5{op:CmpOp}{r:R2}(ho:OpR X (compareOp op) r)(ha:PE X a ta)(hb:PE X b tb)(hm:behindInMarks op b=false):PT X (.Compare a [op] [b] pos) (AY (GI r ta tb)):=by
 intro pins s σ H Q I h
 refine wpAny_isTrue_Compare1 (thn (ha pins s σ H _ I h) λv s1 ⟨x,H1,I1,r1,q1⟩=>thn (hb pins s1 σ H1 _ I1 q1) λu s2 ⟨y,H2,I2,r2,q2⟩=>
  thn (ho pins s2 σ H2 x y v u _ I2 r1 r2 q2) λc s3 ⟨z,H3,I3,r3,k,e,q3⟩=>?_) hm
 subst e;cases r3;exact wpAny_truthy_bool ⟨H3,I3,q3⟩
def xl(r r':R2)(ta tb tc:TE):TE:=λσ H Q=>ta σ H λx H1=>tb σ H1 λy H2=>r x y H2 λz H3=>∃k,z= .bl k∧
 (if k=true then tc σ H3 λw' H4=>r' y w' H4 Q else Q (.bl false) H3)
theorem CZ{op n9:CmpOp}{r r':R2}(ho:OpR X (compareOp op) r)(ik:OpR X (compareOp n9) r')(ha:PE X a ta)(hb:PE X b tb)(hc:PE X c tc)
  (hm:lastMarks [op,n9] [b,c]=false:=by with_unfolding_all rfl):PE X (.Compare a [op,n9] [b,c] pos) (xl r r' ta tb tc):=by
 intro pins s σ H Q I h
 refine Compare_chain (thn (ha pins s σ H _ I h) λv s1 ⟨x,H1,I1,r1,q1⟩=>chain_link (thn (hb pins s1 σ H1 _ I1 q1) λu s2 ⟨y,H2,I2,r2,q2⟩=>
  thn (ho pins s2 σ H2 x y v u _ I2 r1 r2 q2) λd s3 ⟨z,H3,I3,r3,k,e,q3⟩=>?_)) hm
 subst e;cases r3;refine wpAny_truthy_bool ?_;cases k with
 |false=>exact ite_ff ⟨.bl false,H3,I3,rfl,q3⟩
 |true=>exact ite_tt (chain_last (thn (hc pins s3 σ H3 _ I3 q3) λw' s4 ⟨z',H4,I4,r4,q4⟩=>ik pins s4 σ H4 y z' u w' Q I4 r2 r4 q4))
theorem C4{op n9:CmpOp}{r r':R2}(ho:OpR X (compareOp op) r)(ik:OpR X (compareOp n9) r')(ha:PE X a ta)(hb:PE X b tb)(hc:PE X c tc)
  (hm:lastMarks [op,n9] [b,c]=false:=by with_unfolding_all rfl):PT X (.Compare a [op,n9] [b,c] pos) (AY (xl r r' ta tb tc)):=by
 intro pins s σ H Q I h
 refine isTrue_chain (thn (ha pins s σ H _ I h) λv s1 ⟨x,H1,I1,r1,q1⟩=>test_link (thn (hb pins s1 σ H1 _ I1 q1) λu s2 ⟨y,H2,I2,r2,q2⟩=>
  thn (ho pins s2 σ H2 x y v u _ I2 r1 r2 q2) λd s3 ⟨z,H3,I3,r3,k,e,q3⟩=>?_)) hm
 subst e;cases r3;refine wpAny_truthy_bool ?_;cases k with
 |false=>
  obtain ⟨k',e',q'⟩:=q3;cases e';exact ite_ff ⟨H3,I3,q'⟩
 |true=>
  refine ite_tt (test_last (thn (hc pins s3 σ H3 _ I3 q3) λw' s4 ⟨z',H4,I4,r4,q4⟩=>thn (ik pins s4 σ H4 y z' u w' _ I4 r2 r4 q4) λd' s5 ⟨z2,H5,I5,r5,k2,e2,q5⟩=>?_));subst e2;cases r5;exact wpAny_truthy_bool ⟨H5,I5,q5⟩
def Jl(K:PySem.W.Frag)(x:V)(H:Hp)(k:Bool):Prop:=
 match x with
 | .bf=>k=false
 | .bl b=>k=b
 | .int i=>k=(i !=0)
 | .str y=>y.length≤sizeLine∧k=((y.length:Int) !=0)
 | .B9 y=>y.size≤sizeLine∧k=((y.size:Int) !=0)
 | .ref p=>(∃xs,cD K H p xs∧k= !xs.isEmpty)∨(∃xs,fL K H p xs∧k= !xs.isEmpty)∨∃dB,H p=some (.dK dB)∧k= !dB.isEmpty
 |_=>False
theorem yl{κ:Type}{dB:List (κ×V)}{vs:List (κ×Value)}(r:KV dB vs):(!vs.isEmpty)= !dB.isEmpty:=by
 cases r<;>rfl
theorem qQ{xs:List V}{its:List Value}(r:Vals xs its):(!its.toArray.isEmpty)= !xs.isEmpty:=by
 cases r<;>simp
theorem j7:(sizeLine:Nat)<2^63:=by rw [sizeLine_eq];decide
theorem Jd:MU X (λx H Q=>∃k,Jl X.K x H k∧Q k H):=by
 intro pins s σ H x v Q I rx h;obtain ⟨k,e,q⟩:=h;have hl:=j7;have hs:sizeLine=16777216:=sizeLine_eq;cases x with
 |bf=>
  cases rx;have e':k=false:=e;subst e';exact truthy_none ⟨H,I,q⟩
 |bl b=>
  cases rx;have e':k=b:=e;subst e';exact wpAny_truthy_bool ⟨H,I,q⟩
 |int i=>
  obtain ⟨t,rfl⟩:=rx;have e':k=(i !=0):=e;subst e';exact PySem.P.truthy_int ⟨H,I,q⟩
 |str y=>
  obtain ⟨t,rfl⟩:=rx;obtain ⟨hy,e'⟩:y.length≤sizeLine∧k=((y.length:Int) !=0):=e;subst e';exact PySem.P.truthy_str (by omega) ⟨H,I.tok _,q⟩
 |B9 y=>
  obtain ⟨t,rfl⟩:=rx;obtain ⟨hy,e'⟩:y.size≤sizeLine∧k=((y.size:Int) !=0):=e;subst e';exact PySem.W.truthy_bytes (by omega) ⟨H,I.tok _,q⟩
 |ref p=>
  cases rx;have e':(∃xs,cD X.K H p xs∧k= !xs.isEmpty)∨(∃xs,fL X.K H p xs∧k= !xs.isEmpty)∨∃dB,H p=some (.dK dB)∧k= !dB.isEmpty:=e
  rcases e' with ⟨xs,hx,e'⟩ | ⟨xs,hx,e'⟩ | ⟨dB,hx,e'⟩
  ·subst e'
   obtain ⟨its,r,pl,hz⟩:=I.list hx;have hlen:=r.length;exact wpAny_truthy_list pl.isList (by simp only [cB];omega) ⟨H,I.tok _,by rw [qQ r];exact q⟩
  ·subst e'
   obtain ⟨its,r,pl,hz⟩:=I.tuple hx;have hlen:=r.length;exact truthy_tuple pl (by simp only [cB];omega) ⟨H,I.tok _,by rw [qQ r];exact q⟩
  ·subst e'
   obtain ⟨hz,hS,vs,r,m⟩:dB.length≤sizeLine∧(p==sysModules)=false∧∃vs,KV dB vs∧s.heap.DictOf (tR X.prog X.w) p vs:=I.hok p _ hx;have hlen:dB.length=vs.length:=Paired.length r;exact wpAny_truthy_dict hS m (by omega) ⟨H,I.tok _,by rw [yl r];exact q⟩
 |_=>exact (show False from e).elim
theorem C5(ha:PE X a ta)(he:∀whole,isTrue a X.env whole=(do let v ←whole;standAt a.pos;holding [v] (truthy v))):
  PT X a (λσ H Q=>ta σ H λx H'=>∃k,Jl X.K x H' k∧Q k H'):=by
 intro pins s σ H Q I h;exact isTrue_plain (thn (ha pins s σ H _ I h) λv s1 ⟨x,H1,I1,r1,q1⟩=>Jd pins s1 σ H1 x v Q I1 r1 q1) (he _)
theorem vals1{x:V}{us:List Value}(r:Vals [x] us):∃u,us= [u]∧RelV x u:=by
 cases r with
 |cons r1 r2=>cases r2;exact ⟨_,rfl,r1⟩
theorem vals2{x y:V}{us:List Value}(r:Vals [x,y] us):∃u w',us= [u,w']∧RelV x u∧RelV y w':=by
 cases r with
 |cons r1 r2=>
  cases r2 with
  |cons r3 r4=>cases r4;exact ⟨_,_,rfl,r1,r3⟩
theorem zt(hc:X.calm=true):cC X (.builtin "max") (λxs H Q=>∃i j,xs= [.int i, .int j]∧Q (.int (if j>i then j else i)) H):=by
 intro pins s σ H xs us Q I r h;obtain ⟨i,j,rfl,q⟩:=h;obtain ⟨u,w',rfl,⟨t,rfl⟩,⟨t',rfl⟩⟩:=vals2 r;refine max_two_ints (I.ok.hd hc) λh' tk k=>⟨_,H,I.kept k,?_,q⟩
 by_cases hj:j>i
 ·rw [if_pos hj,if_pos hj];exact ⟨_,rfl⟩
 ·rw [if_neg hj,if_neg hj];exact ⟨_,rfl⟩
theorem zu(hc:X.calm=true):cC X (.builtin "min") (λxs H Q=>∃i j,xs= [.int i, .int j]∧Q (.int (if j<i then j else i)) H):=by
 intro pins s σ H xs us Q I r h;obtain ⟨i,j,rfl,q⟩:=h;obtain ⟨u,w',rfl,⟨t,rfl⟩,⟨t',rfl⟩⟩:=vals2 r;refine min_two_ints (I.ok.hd hc) λh' tk k=>⟨_,H,I.kept k,?_,q⟩
 by_cases hj:j<i
 ·rw [if_pos hj,if_pos hj];exact ⟨_,rfl⟩
 ·rw [if_neg hj,if_neg hj];exact ⟨_,rfl⟩
end
structure sA (h:Heap) (x dx C:Addr) (mA:Str→Option Value):Prop where
 obj:h.get? x=some (PySem.W.instObj C dx)
 ns:h.Ns1 dx mA
 ne:dx≠x
theorem Al{h:Heap}{dx:Addr}{mA:Str→Option Value}(n:h.Ns1 dx mA):∃od,h.get? dx=some od∧∀name,PySem.W.lookIn name od=some (mA name):=by
 obtain ⟨o,es,ep,ho,hd,hk,_,hm⟩:=n;refine ⟨o,ho,λname=>?_⟩;have e:=hm name;unfold nsFind findBy at e;rw [←Array.find?_toList] at e;unfold PySem.W.lookIn;rw [hd];dsimp only
 split
 ·rename_i y q
  rw [q] at e;exact congrArg some e
 ·rename_i q
  rw [q] at e
  have a:es.toList.any (·.refKey)=false:=by
   rw [List.any_eq_false];intro y hy;obtain ⟨z,t,Br⟩:=hk y (Array.mem_toList_iff.mp hy);simp [DictEntry.refKey,Br]
  have a':¬es.toList.any (·.refKey)=true:=by rw [a];exact dW
  rw [if_neg a'];exact congrArg some e
theorem sA.look{h:Heap}{x dx C:Addr}{mA:Str→Option Value}(I:sA h x dx C mA):∃od,PySem.W.InstAt h x (PySem.W.instObj C dx) C (some od)∧∀name,PySem.W.lookIn name od=some (mA name):=
 let ⟨od,ho,hl⟩:=Al I.ns
 ⟨od,⟨I.obj,rfl,rfl,ho⟩,hl⟩
section
variable {prog:Program} {w:World} {A:Around} {E:Value→Shared→Prop} {s:Shared} {K:PySem.W.Frag} {x dx C f:Addr} {mA:Str→Option Value} {name:Str} {v:Value}
theorem get_map{expr:Bool}{Q:Value→Shared→Prop}(X:K.In s.heap)(I:sA s.heap x dx C mA)(hg:PySem.W.plainGet K C name=true)(hh:PySem.W.hasDictIn K C=true)
  (ha:PySem.W.findIn K (.ref C) name=some none) (hv:mA name=some v) (z6:PySem.W.handedIn v=true) (h:Q v {s with toks:=s.toks+1}):
  wpAny (model prog w) A (getAttr (.ref x) name expr) Q E s:=by
 obtain ⟨od,J,hl⟩:=I.look;exact PySem.W.get_value X J (PySem.W.plainGet_of hg).1 (PySem.W.findObj_own hh ha rfl (by rw [hl,hv])) z6 h
theorem Cq{pl:Sem Bool}{Q:Value×List Value→Shared→Prop}(X:K.In s.heap)(I:sA s.heap x dx C mA)(hg:PySem.W.plainGet K C name=true)
  (hf:PySem.W.findIn K (.ref C) name=some (some (.ref f))) (ht:PySem.W.isFn K (.ref f)=true) (hv:mA name=none) (h:Q (.ref f,[.ref x]) s):
  wpAny (model prog w) A (getMethod (.ref x) name pl) Q E s:=by
 obtain ⟨od,J,hl⟩:=I.look;exact PySem.W.method_fn X J (PySem.W.plainGet_of hg).1 (PySem.W.plainGet_of hg).2 hf (beq_iff_eq.mp ht) (by show (PySem.W.lookIn name od).map (·.isSome)=some false;rw [hl,hv];rfl) h
theorem Gm{ns:List Str}{Q:Unit→Shared→Prop}(X:K.In s.heap)(I:sA s.heap x dx C mA)
  (hs:PySem.W.findIn K (.ref C) "__setattr__"=some (some (.builtin "object.__setattr__"))) (hp:PySem.W.plainOver K C=true) (ht:PySem.W.takerIn K C name=some none) (hh:PySem.W.hasDictIn K C=true)
  (hw:PySem.Within mA ns) (rF:ns.length≤sizeLine)
  (h:∀h',sA h' x dx C (λy=>if y=name then some v else mA y)→Heap.SameBut dx s.heap h'→Q () {s with heap:=h',toks:=s.toks+2}):
  wpAny (model prog w) A (setAttr (.ref x) name v) Q E s:=by
 obtain ⟨od,J,hl⟩:=I.look;refine PySem.W.set_plain X J hs (PySem.W.osa_open (s:={s with toks:=s.toks+1}) (r:=none) X J hp ht λb=>?_)
 obtain ⟨cd,hc,mJ⟩:=PySem.W.any_some hh;have hx:s.heap.get? x=some ⟨.ref C,some dx, .plain, #[]⟩:=I.obj;refine wpAny_bind (wpAny_pure (wpAny_bind (wpAny_bind (wpAny_loadPart hx (wpAny_bind (PySem.W.Looks.here (s:={s with toks:=s.toks+1}) (PySem.W.looks_clsIn X hc) ?_))))))
 rw [mJ];refine wpAny_pure (a:=some dx) (wpAny_bind (wpAny_pure (wpAny_bind ?_)));refine wpAny_nsSet1 (s:={s with toks:=s.toks+1}) I.ns λh' HF j5=>?_
 obtain ⟨oD,Yu,Yt,US,UD,UC⟩:=HF.count (PySem.Within.cons name v hw);refine wpAny_bind (wpAny_lookBehind US (by rw [UD];exact pastItsLine_dict (jV UC (by rw [eU];omega))) ?_)
 exact wpAny_pure (h _ ⟨(j5.2 _ (Ne.symm I.ne)).trans I.obj,HF,I.ne⟩ j5)
theorem CP{R:Result→Shared→Prop}{vs:List Value}{kw:List (Str×Value)}(X:K.In s.heap)(hm:PySem.W.makesIn K C=true)
  (hi:PySem.W.findIn K (.ref C) "__init__"=some (some (.ref f))) (hf:PySem.W.typeIn K (.ref f)=some (.type "function"))
  (h:codeAny (model prog w) (A.under (.builtin "type.__call__" ⟨.ref C::vs,kw⟩)) (.call (.ref f) ⟨.ref (s.heap.objs.size+1)::vs,kw⟩) (PySem.W.InitBack (s.heap.objs.size+1) R)
   {s with heap:=(s.heap.push PySem.W.emptyDict).push (PySem.W.instObj C s.heap.objs.size)}):
  codeAny (model prog w) A (.call (.ref C) ⟨vs,kw⟩) R s:=by
 obtain ⟨hh,g,d,t,os⟩:=s;exact PySem.W.make_core (PySem.W.makes_of X hm) (PySem.W.looks_findIn X hi) (λself=>PySem.W.bind_fn X self hf) (.inl rfl) h
end
def gY(f:Str)(v:V):List (Str×V)→List (Str×V)
 | []=> [(f,v)]
 | (g,x)::r=>if g=f then (g,v)::r else (g,x)::gY f v r
theorem pz(f g:Str)(v:V):∀fs:List (Str×V),(gY f v fs).lookup g=if g=f then some v else fs.lookup g
 | []=>by
  show List.lookup g [(f,v)]=_
  by_cases h:g=f
  ·have hb:(g==f)=true:=beq_iff_eq.mpr h
   simp only [List.lookup,hb,if_pos h]
  ·have hb:(g==f)=false:=beq_eq_false_iff_ne.mpr h
   simp only [List.lookup,hb,if_neg h]
 | (k,x)::r=>by
  have ih:=pz f g v r;rw [show gY f v ((k,x)::r)=(if k=f then (k,v)::r else (k,x)::gY f v r) from rfl]
  by_cases hk:k=f
  ·rw [if_pos hk]
   by_cases h:g=k
   ·have hb:(g==k)=true:=beq_iff_eq.mpr h
    simp only [List.lookup,hb,if_pos (h.trans hk)]
   ·have hb:(g==k)=false:=beq_eq_false_iff_ne.mpr h
    simp only [List.lookup,hb,if_neg (λe:g=f=>h (e.trans hk.symm))]
  ·rw [if_neg hk]
   by_cases h:g=k
   ·have hb:(g==k)=true:=beq_iff_eq.mpr h
    simp only [List.lookup,hb,if_neg (λe:g=f=>hk (h.symm.trans e))]
   ·have hb:(g==k)=false:=beq_eq_false_iff_ne.mpr h
    simp only [List.lookup,hb];exact ih
theorem nW(f:Str)(v:V):∀fs:List (Str×V),f∈(gY f v fs).map (·.1)∧∀g,g∈fs.map (·.1)→g∈(gY f v fs).map (·.1)
 | []=>⟨by simp [gY],λg h=>by simp at h⟩
 | (k,x)::r=>by
  obtain ⟨i1,i2⟩:=nW f v r;rw [show gY f v ((k,x)::r)=(if k=f then (k,v)::r else (k,x)::gY f v r) from rfl]
  by_cases hk:k=f
  ·rw [if_pos hk]
   subst hk;exact ⟨by simp,λg h=>by simpa using h⟩
  ·rw [if_neg hk]
   refine ⟨?_,λg h=>?_⟩
   ·rw [iK]
    exact cv _ i1
   ·rw [iK] at h ⊢
    rcases b9.mp h with e|e
    ·exact b9.mpr (.inl e)
    ·exact cv _ (i2 g e)
theorem pj(f:Str)(v:V):∀fs:List (Str×V),(gY f v fs).length≤fs.length+1
 | []=>by simp [gY]
 | (k,x)::r=>by
  have ih:=pj f v r;rw [show gY f v ((k,x)::r)=(if k=f then (k,v)::r else (k,x)::gY f v r) from rfl]
  by_cases hk:k=f
  ·rw [if_pos hk,eU,eU];omega
  ·rw [if_neg hk,eU,eU];omega
theorem mP.some_of{v:V}{o:Option Value}(r:mP (some v) o):∃u,o=some u∧RelV v u:=by
 cases o with
 |none=>exact (show False from r).elim
 |some u=>exact ⟨u,rfl,r⟩
theorem mP.none_of{o:Option Value}(r:mP none o):o=none:=by
 cases o with
 |none=>rfl
 |some u=>exact (show False from r).elim
theorem zV{v:V}{u:Value}(r:RelV v u):PySem.W.handedIn u=true:=by
 cases v with
 |bf=>cases (show u=Value.none from r);rfl
 |bl b=>cases (show u=Value.bool b from r);rfl
 |int i=>obtain ⟨t,e⟩:=(show ∃t,u=Value.int i t from r);cases e;rfl
 |str x=>obtain ⟨t,e⟩:=(show ∃t,u=Value.str x t from r);cases e;rfl
 |B9 b=>obtain ⟨t,e⟩:=(show ∃t,u=Value.bytes b t from r);cases e;rfl
 |zL b=>obtain ⟨t,e⟩:=(show ∃t,u=Value.float b t from r);cases e;rfl
 |ref a=>cases (show u=Value.ref a from r);rfl
 |ty n=>cases (show u=Value.type n from r);rfl
section
variable {P:Program} {w:World} {H H':Hp} {h h':Heap} {a C dx:Addr} {fs Ul:List (Str×V)}
theorem pd(hok:gZ P w H h)(e:H a=some (.ins C dx fs)):∃mA,sA h a dx C mA∧(∀f,mP (fs.lookup f) (mA f))∧PySem.Within mA (fs.map (·.1))∧fs.length≤1000∧H dx=some (.own a):=by
 obtain ⟨d,z,ne,ob,mA,n,r,q⟩:=(show cJ P w H h a (.ins C dx fs) from hok a _ e);exact ⟨mA,⟨ob,n,ne⟩,r,q,z,d⟩
end
structure uI (K:PySem.W.Frag) (C:Addr):Prop where
 pg:PySem.W.plainGet K C Str.empty=true
 hd:PySem.W.hasDictIn K C=true
 po:PySem.W.plainOver K C=true
 sa:PySem.W.findIn K (.ref C) "__setattr__"=some (some (.builtin "object.__setattr__"))
theorem uI.get{K:PySem.W.Frag}{C:Addr}(c:uI K C)(f:Str):PySem.W.plainGet K C f=true:=c.pg
def jX(K:PySem.W.Frag)(C:Addr)(f:Str):Prop:=PySem.W.findIn K (.ref C) f=some none
theorem jX.MI{K:PySem.W.Frag}{C:Addr}{f:Str}(n:jX K C f):PySem.W.takerIn K C f=some none:=by
 unfold PySem.W.takerIn;rw [show PySem.W.findIn K (.ref C) f=some none from n];rfl
structure Meth (K:PySem.W.Frag) (C:Addr) (m:Str) (f:Addr):Prop where
 at_:PySem.W.findIn K (.ref C) m=some (some (.ref f))
 fn:PySem.W.isFn K (.ref f)=true
 kp:PySem.W.keepIn K (.ref f)=true
section
variable {X:Cx} {pins:List (Addr×Obj)} {σ:St} {H:Hp} {s:Shared} {a C dx:Addr} {fs:List (Str×V)} {f:Str} {v:V} {A:Around} {E:Value→Shared→Prop}
theorem yd{b:Bool}{Q:Value→Shared→Prop}(I:Inv X pins σ H s)(e:H a=some (.ins C dx fs))(c:uI X.K C)(n:jX X.K C f)(l:fs.lookup f=some v)
  (h:∀u s',Inv X pins σ H s'→RelV v u→Q u s'):wpAny (model X.prog X.w) A (getAttr (.ref a) f b) Q E s:=by
 obtain ⟨mA,O,r,_,_,_⟩:=pd I.hok e;obtain ⟨u,hu,ru⟩:=mP.some_of (v:=v) (o:=mA f) (by rw [←l];exact r f)
 exact get_map I.g6 O (c.get f) c.hd n hu (zV ru) (h u _ (I.tok _) ru)
theorem ye{m:Str}{g:Addr}{pl:Sem Bool}{Q:Value×List Value→Shared→Prop}(I:Inv X pins σ H s)(e:H a=some (.ins C dx fs))(c:uI X.K C)(k:Meth X.K C m g)(l:fs.lookup m=none)
  (h:Q (.ref g,[.ref a]) s):wpAny (model X.prog X.w) A (getMethod (.ref a) m pl) Q E s:=by
 obtain ⟨mA,O,r,_,_,_⟩:=pd I.hok e;have hn:mA m=none:=mP.none_of (by rw [←l];exact r m)
 exact Cq I.g6 O (c.get m) k.at_ k.fn hn h
theorem yU{y:V}{u:Value}{Q:Unit→Shared→Prop}(I:Inv X pins σ H s)(e:H a=some (.ins C dx fs))(c:uI X.K C)(n:jX X.K C f)(hl:fs.length<1000)(ry:RelV y u)
  (h:∀s',Inv X pins σ (upd H a (.ins C dx (gY f y fs))) s'→Q () s'):wpAny (model X.prog X.w) A (setAttr (.ref a) f u) Q E s:=by
 obtain ⟨mA,O,r,wi,_,ho⟩:=pd I.hok e;have hz:(fs.map (·.1)).length≤sizeLine:=by rw [List.length_map,sizeLine_eq];omega
 refine Gm I.g6 O c.sa c.po n.MI c.hd wi hz λh' O' sb=>h _ ?_;have hd:∃o,h'.get? dx=some o:=let ⟨o,_,_,e',_⟩:=O'.ns;⟨o,e'⟩;refine I.write (x:=a) (e:=dx) (by rw [e];exact True.intro) (.inr ho) (λb q hb z=>(sb.2 b hb).trans z) hd ?_
 refine ⟨by rw [aD O.ne];exact ho,?_,O.ne,O'.obj,_,O'.ns,λg=>?_,λg hg=>?_⟩
 ·have:=pj f y fs;omega
 ·show mP ((gY f y fs).lookup g) (if g=f then some u else mA g)
  rw [pz]
  by_cases q:g=f
  ·rw [if_pos q,if_pos q];exact ry
  ·rw [if_neg q,if_neg q];exact r g
 ·by_cases q:g=f
  ·rw [q];exact (nW f y fs).1
  ·refine (nW f y fs).2 g (wi g λz=>hg ?_)
   show (if g=f then some u else mA g)=none;rw [if_neg q];exact z
theorem Inv.made(I:Inv X pins σ H s):Inv X pins σ (upd (upd H s.heap.objs.size (.own (s.heap.objs.size+1))) (s.heap.objs.size+1) (.ins C s.heap.objs.size []))
  {s with heap:=(s.heap.push PySem.W.emptyDict).push (PySem.W.instObj C s.heap.objs.size)}:=by
 have e1:(s.heap.push PySem.W.emptyDict).get? s.heap.objs.size=some PySem.W.emptyDict:=Heap.get?_push_size s.heap rfl
 have e2:((s.heap.push PySem.W.emptyDict).push (PySem.W.instObj C s.heap.objs.size)).get? (s.heap.objs.size+1)=some (PySem.W.instObj C s.heap.objs.size):=by
  have:=Heap.get?_push_size (s.heap.push PySem.W.emptyDict) (o:=PySem.W.instObj C s.heap.objs.size) rfl
  rwa [Heap.size_push] at this
 have e3:(s.heap.push PySem.W.emptyDict).Ns s.heap.objs.size (λ_=>none):=⟨PySem.W.emptyDict, #[],_,e1,rfl,(λe he=>absurd he (by simp)),λ_=>rfl⟩
 have I1:=I.laid (a:=s.heap.objs.size) (o:= .own (s.heap.objs.size+1)) (h':=s.heap.push PySem.W.emptyDict) (t':=s.toks) (λb u q=>Heap.get?_push_of_some _ q) (br _) ⟨_,e1⟩;refine I1.laid (a:=s.heap.objs.size+1) (o:= .ins C s.heap.objs.size []) (t':=s.toks) (λb u q=>Heap.get?_push_of_some _ q) (Nat.le_of_eq (Heap.size_push _ _)) ?_;have ne:s.heap.objs.size≠s.heap.objs.size+1:=cc (uu _);refine ⟨by rw [aD ne,aB],cn _,ne,e2,λ_=>none,(Heap.Ns1.of_empty e3).at λo q=>Heap.get?_push_of_some _ q,λ_=>True.intro,λy hy=>absurd rfl hy⟩
theorem DZ{prog:Program}{w:World}{env:Env}{e:Expr}{f:Str}{pos:Pos}{s:Shared}{Q:Value→Shared→Prop}(hb:attributeBase e f env (eval e env)=eval e env)
  (h:wpAny (model prog w) A (eval e env) (λo s₁=>wpAny (model prog w) A (getAttr o f true) Q E s₁) E s):wpAny (model prog w) A (eval (.Attribute e f pos) env) Q E s:=
 Attribute_any_ h (by rw [arm_eval_Attribute,hb])
end
def RZ(K:PySem.W.Frag)(ta:TE)(f:Str):TE:=λσ H Q=>ta σ H λx H1=>∃a C dx fs v,x= .ref a∧H1 a=some (.ins C dx fs)∧uI K C∧jX K C f∧fs.lookup f=some v∧Q v H1
def Rq(K:PySem.W.Frag)(ta tv:TE)(f:Str):TS:=λD σ H=>tv σ H λy H1=>ta σ H1 λx H2=>∃a C dx fs,x= .ref a∧H2 a=some (.ins C dx fs)∧uI K C∧jX K C f∧fs.length<1000∧
 D.nx σ (upd H2 a (.ins C dx (gY f y fs)))
section
variable {X:Cx} {o e value:Expr} {f:Str} {pos pos' Yr:Pos} {ta tv:TE}
theorem Iz(he:PE X e ta)(hb:attributeBase e f X.env (eval e X.env)=eval e X.env):PE X (.Attribute e f pos) (RZ X.K ta f):=by
 intro pins s σ H Q I h;refine DZ hb (thn (he pins s σ H _ I h) λu s1 ⟨x,H1,I1,rx,a,C,dx,fs,v,ex,ea,c,n,l,q⟩=>?_);subst ex;obtain rfl:u=Value.ref a:=rx;exact yd I1 ea c n l λu' s2 I2 ru=>⟨v,H1,I2,ru,q⟩
theorem IH(ha:PE X o ta)(hv:PE X value tv)(hs:swapsWith value (some (.Attribute o f pos')) pos.line X.env=pure false):PS X (.Assign [.Attribute o f pos'] value pos) (Rq X.K ta tv f):=by
 intro pins s σ H D I h;refine plainObj_wpAny_Assign_Attribute (thn (hv pins s σ H _ I h) λu s1 ⟨y,H1,I1,ry,q⟩=>thn (ha pins s1 σ H1 _ I1 q) λov s2 ⟨x,H2,I2,rx,a,C,dx,fs,ex,ea,c,n,l,q2⟩=>?_) hs;subst ex;obtain rfl:ov=Value.ref a:=rx;exact yU I2 ea c n l ry λs3 I3=>⟨σ,_,I3,q2⟩
end
section
variable {X:Cx} {pins:List (Addr×Obj)} {σ:St} {H:Hp} {s:Shared} {A:Around} {E:Value→Shared→Prop} {Q:Value→Shared→Prop} {c:Value} {b:Bool}
inductive iO (K:PySem.W.Frag) (H:Hp):V→Value→Prop where
 |bf:iO K H .bf (.type "NoneType")
 |bl (x:Bool):iO K H (.bl x) (.type "bool")
 |int (i:Int):iO K H (.int i) (.type "int")
 |str (x:Str):iO K H (.str x) (.type "str")
 |zL (x:UInt64):iO K H (.zL x) (.type "float")
 |lst {a:Addr} {xs:List V} (e:H a=some (.lst xs)):iO K H (.ref a) (.type "list")
 |nP {a:Addr} {o:Obj} {xs:List V} (e:H a=some (.nP o (.lst xs))):iO K H (.ref a) (.type "list")
 |tup {a:Addr} {xs:List V} (e:H a=some (.tup xs)):iO K H (.ref a) (.type "tuple")
 |dK {a:Addr} {dB:List (Key×V)} (e:H a=some (.dK dB)):iO K H (.ref a) (.type "dict")
 |dT {a:Addr} {dB:List (List Key×V)} (e:H a=some (.dT dB)):iO K H (.ref a) (.type "dict")
 |ins {a C dx:Addr} {fs:List (Str×V)} (e:H a=some (.ins C dx fs)) (cl:uI K C) (ha:PySem.W.findIn K (.ref C) "__class__"=some (some (.builtin "object.__class__")))
   (hn:PySem.W.specialIn K (.builtin "object.__class__") "__get__"=some (some (.builtin "getset_descriptor.__get__"))) (Pr:PySem.W.takesIn K (.builtin "object.__class__")=some true)
   (hm:PySem.W.mroIn K C (.type "object")=some true):iO K H (.ref a) (.ref C)
theorem Ac{x:V}{u t:Value}(I:Inv X pins σ H s)(rx:RelV x u)(ty:iO X.K H x t)(e:PySem.W.kitOne X.K t c=some b)(h:∀tk,Q (.bool b) {s with toks:=tk}):
  wpAny (model X.prog X.w) A (call (.builtin "isinstance") [u,c]) Q E s:=by
 cases ty with
 |bf=>cases (show u=Value.none from rx);exact PySem.W.kia_one PySem.W.kitx_none I.g6 True.intro e (λz=>nomatch z) h
 |bl y=>cases (show u=Value.bool y from rx);exact PySem.W.kia_one PySem.W.kitx_bool I.g6 True.intro e (λz=>nomatch z) h
 |int i=>obtain ⟨t,q⟩:=(show ∃t,u=Value.int i t from rx);cases q;exact PySem.W.kia_one PySem.W.kitx_int I.g6 True.intro e (λz=>nomatch z) h
 |str y=>obtain ⟨t,q⟩:=(show ∃t,u=Value.str y t from rx);cases q;exact PySem.W.kia_one PySem.W.kitx_str I.g6 True.intro e (λz=>nomatch z) h
 |zL y=>obtain ⟨t,q⟩:=(show ∃t,u=Value.float y t from rx);cases q;exact PySem.W.kia_one PySem.W.kitx_float I.g6 True.intro e (λz=>nomatch z) h
 | @lst a xs ea=>
  cases (show u=Value.ref a from rx);obtain ⟨_,_,n,_,h1⟩:=(show cJ X.prog X.w H s.heap a (.lst xs) from I.hok a _ ea);exact PySem.W.kia_one PySem.W.kitx_list I.g6 ⟨_,h1,rfl⟩ e (λz=>nomatch z) h
 | @nP a ob xs ea=>
  cases (show u=Value.ref a from rx);obtain ⟨_,_,_,n,_,h1⟩:=(show cJ X.prog X.w H s.heap a (.nP ob (.lst xs)) from I.hok a _ ea);exact PySem.W.kia_one PySem.W.kitx_list I.g6 ⟨_,h1,rfl⟩ e (λz=>nomatch z) h
 | @tup a xs ea=>
  cases (show u=Value.ref a from rx);obtain ⟨_,_,_,p⟩:=(show cJ X.prog X.w H s.heap a (.tup xs) from I.hok a _ ea);obtain ⟨o,h1,h2,_⟩:=p;exact PySem.W.kia_one PySem.W.kitx_tuple I.g6 ⟨o,h1,h2⟩ e (λz=>nomatch z) h
 | @dK a dB ea=>
  cases (show u=Value.ref a from rx);obtain ⟨_,_,vs,_,p⟩:=(show cJ X.prog X.w H s.heap a (.dK dB) from I.hok a _ ea);obtain ⟨o,es,ep,h1,h2,_⟩:=p;exact PySem.W.kia_one PySem.W.kitx_dict I.g6 ⟨o,h1,h2.1⟩ e (λz=>nomatch z) h
 | @dT a dB ea=>
  cases (show u=Value.ref a from rx);obtain ⟨_,_,xs,_,o,es,ep,h1,h2,_⟩:=(show cJ X.prog X.w H s.heap a (.dT dB) from I.hok a _ ea);exact PySem.W.kia_one PySem.W.kitx_dict I.g6 ⟨o,h1,h2.1⟩ e (λz=>nomatch z) h
 | @ins a C dx fs ea cl ha hn Pr hm=>
  cases (show u=Value.ref a from rx);obtain ⟨mA,O,_⟩:=pd I.hok ea;obtain ⟨od,J,_⟩:=O.look;exact PySem.W.kia_one (PySem.W.kitx_own (cl.get _) cl.hd ha hn Pr hm) I.g6 J e (λz=>nomatch z) h
end
structure cS (k:Nat) (A:Around):Prop where
 hd:A.handled=none
 dp:A.depth+3*k+5<recursionLimit
 un:A.units+16*k+200<cLine
theorem cS.mono{j k:Nat}{A:Around}(r:cS k A)(h:j≤k):cS j A:=⟨r.hd,by have:=r.dp;omega,by have:=r.un;omega⟩
theorem cS.deeper{k:Nat}{A:Around}(r:cS (k+1) A)(env:Env):cS k (A.deeper env):=
 ⟨r.hd,by have:=r.dp;show A.depth+1+3*k+5<_;omega,by have:=r.un;show A.units+3+16*k+200<_;omega⟩
theorem yx{A:Around}{C:Addr}{us:List Value}{kw:List (Str×Value)}:(A.under (.builtin "type.__call__" ⟨.ref C::us,kw⟩)).depth=A.depth+1:=by
 first|rfl|simp [Around.under,Code.weight,Code.isCreation,Code.isGuard,Code.isCaller,Code.frames,Code.isFrame,guardIds]
theorem yy{A:Around}{C:Addr}{us:List Value}{kw:List (Str×Value)}:(A.under (.builtin "type.__call__" ⟨.ref C::us,kw⟩)).units=A.units+1:=by
 first|rfl|simp [Around.under,Code.cUnits,Code.frames,Code.isFrame]
theorem cS.make{k:Nat}{A:Around}(r:cS (k+1) A)(C:Addr)(us:List Value)(kw:List (Str×Value)):cS k (A.under (.builtin "type.__call__" ⟨.ref C::us,kw⟩)):=
 ⟨r.hd,by have:=r.dp;rw [yx];omega,by have:=r.un;rw [yy];omega⟩
theorem cS.depth{k:Nat}{A:Around}(r:cS k A):A.depth<recursionLimit:=by have:=r.dp;omega
theorem cS.units{k:Nat}{A:Around}(r:cS k A):A.units+64<cLine:=by have:=r.un;omega
def Ka:TA:=λ_ H Q=>Q [] H
def MC(ta:TE)(tr:TA):TA:=λσ H Q=>ta σ H λx H1=>tr σ H1 λxs H2=>Q (x::xs) H2
section
variable {X:Cx} {e:Expr} {es:List Expr} {te:TE} {t:TA} {pos:Pos}
theorem ke:PA X [] Ka:=λ_ _ _ _ H Q I h=>Calls.spliced_nil ⟨[],H,I, .nil,h⟩
theorem fS(ha:PE X e te)(hr:PA X es t)(hs:starEach (e::es) X.env=(false,eval e X.env)::starEach es X.env:=by rfl):PA X (e::es) (MC te t):=by
 intro pos pins s σ H Q I h;rw [hs];show wpAny _ _ (spliced ((false,eval e X.env)::backTo pos (starEach es X.env))) _ _ s;refine Calls.spliced_cons (thn (ha pins s σ H _ I h) λu s1 ⟨x,H1,I1,r1,q1⟩=>?_);exact thn (hr pos pins s1 σ H1 _ I1 q1) λus s2 ⟨xs,H2,I2,r2,q2⟩=>⟨x::xs,H2,I2, .cons r1 r2,q2⟩
def R8(t:TA):TE:=λσ H Q=>t σ H λxs H1=>xs.length≤sizeLine∧∀p,H1 p=none→Q (.ref p) (upd H1 p (.tup xs))
def R4(t:TA):TE:=λσ H Q=>t σ H λxs H1=>xs.length≤sizeLine∧∀p,H1 p=none→Q (.ref p) (upd H1 p (.lst xs))
theorem IG{x1}(h:PA X es t):PE X (.Tuple es x1 pos) (R8 t):=by
 intro pins s σ H Q I hq;refine wpAny_Tuple_spliced (thn (h pos pins s σ H _ I hq) λus s1 ⟨xs,H1,I1,r,z,q⟩=>⟨by rw [←r.length];exact z,?_⟩)
 have hf:H1 s1.heap.objs.size=none:=I1.hok.fresh (br _);refine ⟨.ref s1.heap.objs.size,upd H1 s1.heap.objs.size (.tup xs),I1.laid (t':=s1.toks) (λb u e=>Heap.get?_push_of_some _ e) (br _) ?_,rfl,q _ hf⟩;exact ⟨z,us,r,⟨_,Heap.get?_push_size _ rfl,rfl,_,rfl⟩⟩
theorem BG(h:PA X es t):PE X (.List es pos) (R4 t):=by
 intro pins s σ H Q I hq;refine wpAny_List_spliced (thn (h pos pins s σ H _ I hq) λus s1 ⟨xs,H1,I1,r,z,q⟩=>⟨by rw [←r.length];exact z,?_⟩)
 have hf:H1 s1.heap.objs.size=none:=I1.hok.fresh (br _);refine ⟨.ref s1.heap.objs.size,upd H1 s1.heap.objs.size (.lst xs),I1.laid (t':=s1.toks) (λb u e=>Heap.get?_push_of_some _ e) (br _) ?_,rfl,q _ hf⟩;exact ⟨z,us,0,r,Heap.get?_push_size _ rfl⟩
end
abbrev Sp:=List V→Hp→VK→XK→Prop
abbrev p5:=List Env→Hp→Shared→XK→Value→Shared→Prop
structure Env0 (P:Program) (w:World) (K:PySem.W.Frag) (mg:Str→Option Value) (base:Heap) (A:Around) (outer:List Env) (s:Shared) (H:Hp):Prop where
 frames:A.frames=some outer
 mod:Mod K mg base
 bs:∀b o,base.get? b=some o→s.heap.get? b=some o∧H b=none
 bsz:base.objs.size≤s.heap.objs.size
 funs:s.heap.FunFrames base outer
 frf:∀b∈tw outer,H b=none
 hok:gZ P w H s.heap
 bare:AllBare s.gens
def CE(outer:List Env)(P:Program)(w:World)(H:Hp)(s:Shared)(Q:VK)(u:Value)(s':Shared):Prop:=
 ∃v H',s'.os=s.os∧AllBare s'.gens∧Un (tw outer) [] H H' s.heap s'.heap∧gZ P w H' s'.heap∧RelV v u∧Q v H'
def CR(CX:p5)(outer:List Env)(P:Program)(w:World)(H:Hp)(s:Shared)(Q:VK)(E:XK)(r:Result)(s':Shared):Prop:=
 match r with
 | .ok (.ret u)=>CE outer P w H s Q u s'
 | .ok _=>False
 | .error e=>CX outer H s E e s'
structure FnOk (P:Program) (w:World) (K:PySem.W.Frag) (mg:Str→Option Value) (base:Heap) (CX:p5) (k:Nat) (f:Addr) (fd:FuncData) (ps:List Str) (sp:Sp):Prop where
 len:∀vs H Q E,sp vs H Q E→vs.length=ps.length
 run:∀(A:Around)(outer:List Env)(s:Shared)(H:Hp)(args:Args)(us:List Value)(vs:List V)(Q:VK)(E:XK),cS k A→Env0 P w K mg base A outer s H→BindsTo s fd args (ps.zip us)→Vals vs us→sp vs H Q E→
  codeAny (model P w) A (.call (.ref f) args) (CR CX outer P w H s Q E) s
theorem FnOk.mono{P:Program}{w:World}{K:PySem.W.Frag}{mg:Str→Option Value}{base:Heap}{CX:p5}{j k:Nat}{f:Addr}{fd:FuncData}{ps:List Str}{sp:Sp}(F:FnOk P w K mg base CX j f fd ps sp)(h:j≤k):
  FnOk P w K mg base CX k f fd ps sp:=⟨F.len,λA outer s H args us vs Q E hr=>F.run A outer s H args us vs Q E (hr.mono h)⟩
theorem FnOk.imp{P:Program}{w:World}{K:PySem.W.Frag}{mg:Str→Option Value}{base:Heap}{CX:p5}{k:Nat}{f:Addr}{fd:FuncData}{ps:List Str}{sp RN:Sp}(F:FnOk P w K mg base CX k f fd ps sp)
  (h:∀vs H Q E,RN vs H Q E→sp vs H Q E):FnOk P w K mg base CX k f fd ps RN:=
 ⟨λvs H Q E q=>F.len vs H Q E (h _ _ _ _ q),λA outer s H args us vs Q E hr he hb hv hs=>F.run A outer s H args us vs Q E hr he hb hv (h _ _ _ _ hs)⟩
theorem Env0.make{P:Program}{w:World}{K:PySem.W.Frag}{mg:Str→Option Value}{base:Heap}{A:Around}{outer:List Env}{s:Shared}{H:Hp}(e:Env0 P w K mg base A outer s H)(C:Addr)(us:List Value)(kw:List (Str×Value)):
  Env0 P w K mg base (A.under (.builtin "type.__call__" ⟨.ref C::us,kw⟩)) outer s H:=⟨by first|exact e.frames| (simpa [Around.under,Code.envs,Code.isFrame,pushEnvs] using e.frames),e.mod,e.bs,e.bsz,e.funs,e.frf,e.hok,e.bare⟩
section
variable {X:Cx} {pins:List (Addr×Obj)} {σ:St} {H:Hp} {s s':Shared}
theorem Inv.JN(I:Inv X pins σ H s):Env0 X.prog X.w X.K X.mg X.base X.A X.stack s H:=
 ⟨I.ok.frames,I.ok.mod,I.bs,jV I.ok.bsz I.sz,I.stack,I.y4,I.hok,I.bare⟩
theorem Inv.after{Q:VK}{u:Value}(I:Inv X pins σ H s)(h:CE X.stack X.prog X.w H s Q u s'):EP X pins σ Q u s':=by
 obtain ⟨v,H',os,bare,un,hok,r,q⟩:=h;obtain ⟨hh,g,d,t,Md⟩:=s';obtain rfl:Md=s.os:=os;exact ⟨v,H',I.call (h':=hh) (g':=g) (d':=d) (t':=t) (ch:= []) un hok bare (λb z=>absurd z (by simp)),r,q⟩
end
def MB(sp:Sp)(bz:List V)(E:XK)(t:TA):TE:=λσ H Q=>t σ H λvs H1=>sp (vs++bz) H1 Q E
def GG(C:Addr)(m:Str)(sp:Sp)(bz:List V)(E:XK)(ta:TE)(t:TA):TE:=λσ H Q=>ta σ H λx H1=>∃a dx fs,x= .ref a∧H1 a=some (.ins C dx fs)∧fs.lookup m=none∧
 t σ H1 λvs H2=>sp (x::(vs++bz)) H2 Q E
def ME(C:Addr)(sp:Sp)(bz:List V)(E:XK)(t:TA):TE:=λσ H Q=>t σ H λvs H1=>∀x dx,H1 x=none→H1 dx=none→dx≠x→
 sp (.ref x::(vs++bz)) (upd (upd H1 dx (.own x)) x (.ins C dx [])) (λv H2=>v= .bf∧Q (.ref x) H2) E
def Binds(K:PySem.W.Frag)(fd:FuncData)(ps:List Str)(ds:List Value):Prop:=
 ∀(s:Shared)(us:List Value),K.In s.heap→(us++ds).length=ps.length→BindsTo s fd ⟨us,[]⟩ (ps.zip (us++ds))
theorem Binds.all{K:PySem.W.Frag}{fd:FuncData}{ps:List Str}(h:∀us:List Value,us.length=ps.length→bindArgs fd ⟨us,[]⟩=pure (ps.zip us)):Binds K fd ps []:=λs us _ hl=>by
 rw [nz] at hl ⊢;exact .of_eq (h us hl)
def Passes(CX:p5)(X:Cx)(E:XK):Prop:=∀(pins:List (Addr×Obj))(σ:St)(H:Hp)(s:Shared)(e:Value)(s':Shared),Inv X pins σ H s→CX X.stack H s E e s'→X.xe e s'
section
variable {X:Cx} {CX:p5} {k:Nat} {f C:Addr} {fd:FuncData} {ps:List Str} {sp:Sp} {bz:List V} {ds:List Value} {E:XK} {x m:Str} {p pos apos:Pos} {e o:Expr} {es:List Expr} {ta:TE} {t:TA}
theorem BR{pins:List (Addr×Obj)}{σ:St}{H:Hp}{s:Shared}{Q:VK}{us:List Value}{vs:List V}(F:FnOk X.prog X.w X.K X.mg X.base CX k f fd ps sp)(hr:cS k X.A)(hb:Binds X.K fd ps ds)(hd:Vals bz ds)(hx:Passes CX X E)
  (I:Inv X pins σ H s) (r:Vals vs us) (h:sp (vs++bz) H Q E):wpAny (model X.prog X.w) X.A (call (.ref f) us) (EP X pins σ Q) X.xe s:=by
 have r2:Vals (vs++bz) (us++ds):=r.append hd;have hl:(us++ds).length=ps.length:=by rw [←r2.length];exact F.len _ _ _ _ h
 refine wpAny_call (codeAny_mono (F.run X.A X.stack s H ⟨us,[]⟩ (us++ds) (vs++bz) Q E hr I.JN (hb s us I.g6 hl) r2 h) λr s' hq=>?_);cases r with
 |error e=>exact hx pins σ H s e s' I hq
 |ok fl=>
  cases fl with
  |ret u=>exact I.after hq
  |next=>exact False.elim hq
  |brk=>exact False.elim hq
  |cont=>exact False.elim hq
theorem FN(F:FnOk X.prog X.w X.K X.mg X.base CX k f fd ps sp)(hr:cS k X.A)(hg:Gl X x)(hm:X.mg x=some (.ref f))(hk:PySem.W.keepIn X.K (.ref f)=true)(hb:Binds X.K fd ps ds)(hd:Vals bz ds)(hx:Passes CX X E)
  (ha:PA X (e::es) t) (lE:(x==("__debug__":Str))=false:=by decide) (he:starEach (e::es) X.env=(false,eval e X.env)::starEach es X.env:=by rfl) (g5:(backTo pos (starEach es X.env)).any (·.1)=false:=by rfl):
  PE X (.Call (.Name x p) (e::es) [] pos) (MB sp bz E t):=by
 intro pins s σ H Q I h;refine wpAny_Call_Name_kw (tJ I hg hm ?_ lE);refine PySem.W.callWith_K (h₀:=X.base) I.ok.mod.kin hk (thn (ha pos pins s σ H _ I h) λus s1 ⟨vs,H1,I1,r,q⟩=>⟨I1.g6,?_⟩) he g5;exact BR F hr hb hd hx I1 r q
theorem C0{pl:Sem Bool}(he:PE X o ta)(c:uI X.K C)(hm:Meth X.K C m f)(F:FnOk X.prog X.w X.K X.mg X.base CX k f fd ps sp)(hr:cS k X.A)(hb:Binds X.K fd ps ds)(hd:Vals bz ds)(hx:Passes CX X E)
  (ht:eval (.Call (.Attribute o m apos) [] [] pos) X.env=(do
   let ov ←eval o X.env
   standAt apos.atName
   let (f,first) ←holding [ov] (getMethod ov m pl)
   callWith pos f first (backTo pos (starEach [] X.env)) (backToKw pos (keywordEach [] X.env))):=by rfl):
  PE X (.Call (.Attribute o m apos) [] [] pos) (GG C m sp bz E ta Ka):=by
 intro pins s σ H Q I h;refine PySem.W.methodCall_KW (pl:=pl) (thn (he pins s σ H _ I h) λu s1 ⟨x,H1,I1,rx,a,dx,fs,ex,ea,l,q⟩=>?_) ht;subst ex;obtain rfl:u=Value.ref a:=rx;refine ye I1 ea c hm l ?_;exact PySem.W.callWith_K0 (first:= [.ref a]) I1.g6 hm.kp (BR (us:= [.ref a]) (vs:= [.ref a]) F hr hb hd hx I1 (.cons rfl .nil) q)
structure Mk (K:PySem.W.Frag) (C f:Addr):Prop where
 makes:PySem.W.makesIn K C=true
 init:PySem.W.findIn K (.ref C) "__init__"=some (some (.ref f))
 fn:PySem.W.isFn K (.ref f)=true
 kp:PySem.W.keepIn K (.ref C)=true
theorem C8{pins:List (Addr×Obj)}{σ:St}{H:Hp}{s:Shared}{Q:VK}{us:List Value}{vs:List V}(M:Mk X.K C f)(F:FnOk X.prog X.w X.K X.mg X.base CX k f fd ps sp)(hr:cS (k+1) X.A)(hb:Binds X.K fd ps ds)(hd:Vals bz ds)
  (hx:Passes CX X E) (I:Inv X pins σ H s) (r:Vals vs us)
  (h:∀x dx,H x=none→H dx=none→dx≠x→sp (.ref x::(vs++bz)) (upd (upd H dx (.own x)) x (.ins C dx [])) (λv H2=>v= .bf∧Q (.ref x) H2) E):
  wpAny (model X.prog X.w) X.A (call (.ref C) us) (EP X pins σ Q) X.xe s:=by
 have hq:=h (s.heap.objs.size+1) s.heap.objs.size (I.hok.fresh (pY _)) (I.hok.fresh (br _)) (cc (uu _));have I2:=Inv.made (C:=C) I;have r2:Vals (V.ref (s.heap.objs.size+1)::(vs++bz)) (Value.ref (s.heap.objs.size+1)::(us++ds)):= .cons rfl (r.append hd)
 have hl:(Value.ref (s.heap.objs.size+1)::us++ds).length=ps.length:=by
  have e:=r2.length;rw [F.len _ _ _ _ hq] at e;exact e.symm
 refine wpAny_call (CP (f:=f) I.g6 M.makes M.init (beq_iff_eq.mp M.fn) (codeAny_mono (F.run _ X.stack _ _ ⟨Value.ref (s.heap.objs.size+1)::us,[]⟩ (Value.ref (s.heap.objs.size+1)::(us++ds)) _ _ E (hr.make C us [])
  (I2.JN.make C us []) (hb _ (Value.ref (s.heap.objs.size+1)::us) I2.g6 hl) r2 hq) λr s' E7=>?_))
 cases r with
 |error e=>exact hx pins σ _ _ e s' I2 E7
 |ok fl=>
  cases fl with
  |ret u=>
   obtain ⟨v,H',I3,rv,ev,q3⟩:=I2.after E7;subst ev;exact ⟨rv,⟨V.ref (s.heap.objs.size+1),H',I3,rfl,q3⟩⟩
  |next=>exact False.elim E7
  |brk=>exact False.elim E7
  |cont=>exact False.elim E7
theorem FR(M:Mk X.K C f)(F:FnOk X.prog X.w X.K X.mg X.base CX k f fd ps sp)(hr:cS (k+1) X.A)(hg:Gl X x)(hm:X.mg x=some (.ref C))(hb:Binds X.K fd ps ds)(hd:Vals bz ds)(hx:Passes CX X E)
  (ha:PA X (e::es) t) (lE:(x==("__debug__":Str))=false:=by decide) (he:starEach (e::es) X.env=(false,eval e X.env)::starEach es X.env:=by rfl) (g5:(backTo pos (starEach es X.env)).any (·.1)=false:=by rfl):
  PE X (.Call (.Name x p) (e::es) [] pos) (ME C sp bz E t):=by
 intro pins s σ H Q I h;refine wpAny_Call_Name_kw (tJ I hg hm ?_ lE);refine PySem.W.callWith_K (h₀:=X.base) I.ok.mod.kin M.kp (thn (ha pos pins s σ H _ I h) λus s1 ⟨vs,H1,I1,r,q⟩=>⟨I1.g6,?_⟩) he g5;exact C8 M F hr hb hd hx I1 r q
end
section
variable {X:Cx} {CX:p5} {k:Nat} {f C:Addr} {fd:FuncData} {ps ks:List Str} {sp:Sp} {E:XK} {x m:Str} {p pos apos Yq:Pos} {e o:Expr} {es:List Expr} {YG:List Keyword} {te ta:TE} {t tk:TA} {nm:Option Str}
variable {g:List Value→List Value→List Value} {gV:List V→List V→List V}
end
structure aL (N P:List Str) (sc:Scope):Prop where
 kind:sc.kind= .function
 co:sc.isCoroutine=false
 gen:sc.isGenerator=false
 nd:N.Nodup
 pre:N.take P.length=P
 par:∀x∈P,sc.names.lookup x=some .local∨sc.names.lookup x=some .cell
 nofree:∀y∈sc.names,y.2≠ .free
theorem sN{kindOf:Str→Option NameKind}{x:Str}:∀{binds:List (Str×Value)}{m:Str→Option Value},(∀v,(x,v)∉binds)→bindL kindOf binds m x=m x
 | [],_,_=>rfl
 | (n,v)::r,m,h=>by
  unfold bindL;rw [sN λw hw=>h w (cv _ hw)]
  split
  ·have:x≠n:=by rintro rfl;exact h v b4
   simp [this]
  ·rfl
theorem sI{kindOf:Str→Option NameKind}{x:Str}:∀{binds:List (Str×Value)}{m:Str→Option Value},(∀v,(x,v)∉binds)→bindC kindOf binds m x=m x
 | [],_,_=>rfl
 | (n,v)::r,m,h=>by
  unfold bindC;rw [sI λw hw=>h w (cv _ hw)]
  split
  ·rfl
  ·have:x≠n:=by rintro rfl;exact h v b4
   simp [this]
theorem sM{kindOf:Str→Option NameKind}{x:Str}{v:Value}:∀{P:List Str}{vs:List Value}{i:Nat}{m:Str→Option Value},P.Nodup→P[i]? =some x→vs[i]? =some v→kindOf x=some .local→
  bindL kindOf (P.zip vs) m x=some v
 | [],_,_,_,_,h,_,_=>by simp at h
 |_::_,[],_,_,_,_,h,_=>by simp at h
 |p::P,w::vs,0,m,nd,h1,h2,hk=>by
  simp at h1 h2;subst h1;subst h2;show bindL kindOf ((p,w)::P.zip vs) m p=_;unfold bindL;rw [sN λv hv=>(gf.mp nd).1 (List.of_mem_zip hv).1,if_pos hk];simp
 |p::P,w::vs,i+1,m,nd,h1,h2,hk=>by
  show bindL kindOf ((p,w)::P.zip vs) m x=_;unfold bindL;exact sM (i:=i) (gf.mp nd).2 (by simpa using h1) (by simpa using h2) hk
theorem sH{kindOf:Str→Option NameKind}{x:Str}{v:Value}:∀{P:List Str}{vs:List Value}{i:Nat}{m:Str→Option Value},P.Nodup→P[i]? =some x→vs[i]? =some v→kindOf x≠some .local→
  bindC kindOf (P.zip vs) m x=some v
 | [],_,_,_,_,h,_,_=>by simp at h
 |_::_,[],_,_,_,_,h,_=>by simp at h
 |p::P,w::vs,0,m,nd,h1,h2,hk=>by
  simp at h1 h2;subst h1;subst h2;show bindC kindOf ((p,w)::P.zip vs) m p=_;unfold bindC;rw [sI λv hv=>(gf.mp nd).1 (List.of_mem_zip hv).1,if_neg hk];simp
 |p::P,w::vs,i+1,m,nd,h1,h2,hk=>by
  show bindC kindOf ((p,w)::P.zip vs) m x=_;unfold bindC;exact sH (i:=i) (gf.mp nd).2 (by simpa using h1) (by simpa using h2) hk
def start(N:List Str)(vs:List V):St:=vs.map some++List.replicate (N.length-vs.length) none
def qM(CX:p5)(P:Program)(w:World)(K:PySem.W.Frag)(mg:Str→Option Value)(base:Heap)(N:List Str)(qual:Str)(scope:Scope)(f:Addr)(cd:Value)(A:Around)(outer:List Env)(s:Shared)(H:Hp)(E:XK):Cx where
 prog:=P
 w:=w
 K:=K
 mg:=mg
 base:=base
 A:=A.deeper (envOfC qual scope s.heap.objs.size f cd)
 N:=N
 s₀:=s
 H₀:=H
 env:=envOfC qual scope s.heap.objs.size f cd
 outer:=outer
 stack:=envOfC qual scope s.heap.objs.size f cd::outer
 ex:= []
 calm:=true
 fn:=λ_=>true
 pn:= []
 xe:=λe s'=>wpAny (model P w) (A.deeper (envOfC qual scope s.heap.objs.size f cd)) (leaving (envOfC qual scope s.heap.objs.size f cd) e) (λ_ Mu=>CX outer H s E e Mu) (λe' Mu=>CX outer H s E e' Mu) s'
theorem u0{sc:Scope}{n:Nat}{x:Str}(h:sc.names.lookup x=some .cell):∃c,(cellsFrom n sc.names []).lookup x=some c:=by
 have q:=PySem.W.cellsFrom_some sc.names n [] (.inl h);exact Option.isSome_iff_exists.mp q
theorem Aa{CX:p5}{P:Program}{w:World}{K:PySem.W.Frag}{mg:Str→Option Value}{base:Heap}{N ps:List Str}{qual:Str}{scope:Scope}{f:Addr}{cd:Value}{A:Around}{outer:List Env}{s s1:Shared}{H:Hp}{E:XK}{us:List Value}{vs:List V}
  (S:aL N ps scope) (hd:A.handled=none) (e0:Env0 P w K mg base A outer s H) (hl:vs.length=ps.length) (r:Vals vs us)
  (x:InCallC s s.heap.objs.size (bindL (envOfC qual scope s.heap.objs.size f cd).kindOf (ps.zip us) λ_=>none) (cellsFrom (s.heap.objs.size+1) scope.names []) (bindC (envOfC qual scope s.heap.objs.size f cd).kindOf (ps.zip us) λ_=>none) s1):
  Inv (qM CX P w K mg base N qual scope f cd A outer s H E) [] (start N vs) H s1:=by
 have g5:ps.length≤N.length:=by have:=congrArg List.length S.pre;rw [b8] at this;omega
 obtain ⟨h1,tk,rfl,hk⟩:=x.done;have FA:∀b:Addr,b∉(qM CX P w K mg base N qual scope f cd A outer s H E).ex:=λb z=>absurd (show b∈([]:List Addr) from z) (by simp)
 refine ⟨⟨e0.mod,S.kind,rfl,rfl,br _,λy z c h1 h2=>?_,λy hy=>?_,λy c _ h=>?_,λ_=>hd,Around.frames_deeper e0.frames, .inr ⟨rfl,rfl⟩,λb z=>absurd z (FA b),e0.bs,e0.bsz,λb _ _=>FA b,λb z=>absurd z (FA b),e0.funs,e0.frf⟩,
  rfl,e0.bare,Un.kept hk,⟨_,x.toInCall.ns,λi y v h1 h2 h3=>?_⟩,λy c h=>⟨_,x.cell y c h⟩,e0.hok.fresh (br _),λy c h=>?_,λp hp=>absurd (show p∈([]:List (Addr×Obj)) from hp) (by simp),e0.hok.kept hk,?_⟩
 ·exact name_of_addr x.apart (PySem.mem_of_lookup h1) (PySem.mem_of_lookup h2)
 ·have hy:scope.names.lookup y=some .cell∨scope.names.lookup y=some .free:=hy
  rcases hy with hy|hy
  ·exact u0 hy
  ·exact absurd rfl (S.nofree _ (PySem.mem_of_lookup hy))
 ·exact oG (x.above y c (PySem.mem_of_lookup h))
 ·have hi:i<vs.length:=by
   unfold start at h2
   by_cases hi:i<vs.length
   ·exact hi
   ·rw [fG (by simpa using hi)] at h2
    rw [B5] at h2
    split at h2<;>cases h2
  have ha:vs[i]? =some v:=by
   unfold start at h2;rw [dP (by simpa using hi),eC] at h2
   cases e:vs[i]? with
   |none=>rw [e] at h2;cases h2
   |some a=>rw [e] at h2;cases h2;rfl
  obtain ⟨u,hu,rv⟩:=r.get ha
  have hp:ps[i]? =some y:=by
   rw [←S.pre,nk (by omega)];exact h1
  have Qb:ps.Nodup:=by rw [←S.pre];exact S.nd.sublist (List.take_sublist _ _)
  refine ⟨u,rv,?_⟩
  rcases S.par y (f7 hp) with k|k
  ·exact .inl ⟨k,sM Qb hp hu k⟩
  ·obtain ⟨c,e⟩:=u0 (n:=s.heap.objs.size+1) k
   refine .inr ⟨.inl k,c,e,?_⟩;have q:=x.cell y c e;rw [sH Qb hp hu (by show scope.names.lookup y≠_;rw [k];decide)] at q
   exact q
 ·exact e0.hok.fresh (oG (x.above y c (PySem.mem_of_lookup h)))
 ·unfold start
  show _=N.length;rw [cy,List.length_map,vS];omega
theorem Ld{CX:p5}{P:Program}{w:World}{K:PySem.W.Frag}{mg:Str→Option Value}{base:Heap}{k:Nat}{f:Addr}{name qual:Str}{params:Arguments}{body:List Stmt}{scope:Scope}{dV kV doc pm bM ct oc:Value}{an od:Option Addr}
  {yE:Array (Option Value)} {N ps:List Str} {sp:Sp} (lk:K.lookup f=some ⟨oc,od, .func (PySem.W.fnOf name qual params body scope dV kV doc pm an bM ct),yE⟩) (gu:PySem.W.codeIn K bM qual=true) (S:aL N ps scope)
  (len:∀vs H Q E,sp vs H Q E→vs.length=ps.length)
  (nT:∀(A:Around)(outer:List Env)(s:Shared)(H:Hp)(vs:List V)(Q:VK)(E:XK),cS k (A.deeper (envOfC qual scope s.heap.objs.size f bM))→sp vs H Q E→
   ∃t,kX (qM CX P w K mg base N qual scope f bM A outer s H E) body t∧t {nx:=λ_ H'=>Q .bf H',rt:=Q} (start N vs) H):
  FnOk P w K mg base CX (k+1) f (PySem.W.fnOf name qual params body scope dV kV doc pm an bM ct) ps sp:=by
 refine ⟨len,λA outer s H args us vs Q E hr e0 hb r yh=>?_⟩;have hl:=len _ _ _ _ yh;have KX:K.In s.heap:=e0.mod.kin.keeps λb o e=>(e0.bs b o e).1;have lim:s.heap.NoLimit:=e0.mod.nolimit.keeps λb o e=>(e0.bs b o e).1
 have LH:∀y∈ps.zip us,scope.names.lookup y.1=some .local∨(scope.names.lookup y.1=some .cell∧((cellsFrom (s.heap.objs.size+1) scope.names []).lookup y.1).isSome=true):=λ⟨n,v⟩ hy=>by
  rcases S.par n (List.of_mem_zip hy).1 with q|q
  ·exact .inl q
  ·exact .inr ⟨q,PySem.W.cellsFrom_some _ _ _ (.inl q)⟩
 refine codeAny_call_function hr.depth (KX _ _ lk) rfl S.co S.gen rfl (PySem.W.codeRec_of KX gu) (hb _ _ _ _ ?_);refine wpAny_newFunctionEnv_cells S.kind LH λenv he s1 x=>?_;subst he;refine ⟨lim.keeps x.toInCall.keep,codeAny_func ?_⟩;obtain ⟨t,ht,hq⟩:=nT A outer s H vs Q E (hr.deeper _) yh;have I:Inv (qM CX P w K mg base N qual scope f bM A outer s H E) [] (start N vs) H s1:=Aa S hr.hd e0 hl r x;refine wpAny_mono (ht [] s1 (start N vs) H _ I hq) (λfl s' hs=>?_) λe s' hs=>hs
 have fin:∀{ay:St}{H':Hp}{v:V}{u:Value},Inv (qM CX P w K mg base N qual scope f bM A outer s H E) [] ay H' s'→RelV v u→Q v H'→CE outer P w H s Q u s':=
  λ {ay H' v u} J rv q=>⟨v,H',J.os,J.bare,J.base,J.hok,rv,q⟩
 cases fl with
 |ret u=>
  obtain ⟨v,ay,H',J,rv,q⟩:=hs;exact fin J rv q
 |next=>
  obtain ⟨ay,H',J,q⟩:=hs;exact fin (v:=V.bf) (u:=Value.none) J rfl q
 |brk=>
  obtain ⟨_,_,_,q⟩:=hs;exact False.elim q
 |cont=>
  obtain ⟨_,_,_,q⟩:=hs;exact False.elim q
section
variable {X:Cx} {x:Str} {p pos:Pos} {e:Expr} {es:List Expr} {t:TA} {id T:String} {r:List V→Hp→VK→Prop}
def RY(r:List V→Hp→VK→Prop)(t:TA):TE:=λσ H Q=>t σ H λvs H1=>r vs H1 Q
theorem vG(hc:cC X (.builtin id) r)(hg:Gl X x)(hm:X.mg x=none)(hv:bootBuiltins x=some (.builtin id))(ha:PA X (e::es) t)(hn:x≠"__name__":=by decide)(lE:(x==("__debug__":Str))=false:=by decide)
  (he:starEach (e::es) X.env=(false,eval e X.env)::starEach es X.env:=by rfl) (g5:(backTo pos (starEach es X.env)).any (·.1)=false:=by rfl):PE X (.Call (.Name x p) (e::es) [] pos) (RY r t):=by
 intro pins s σ H Q I h;refine wpAny_Call_Name_kw (g7 I hg hm hv ?_ hn lE);exact PyProof.Rows.callWith_builtin1 (thn (ha pos pins s σ H _ I h) λus s1 ⟨vs,H1,I1,r1,q1⟩=>hc pins s1 σ H1 vs us Q I1 r1 q1) he g5
theorem AD(hc:cC X (.type T) r)(hg:Gl X x)(hm:X.mg x=none)(hv:bootBuiltins x=some (.type T))(ha:PA X (e::es) t)(hn:x≠"__name__":=by decide)(lE:(x==("__debug__":Str))=false:=by decide)
  (he:starEach (e::es) X.env=(false,eval e X.env)::starEach es X.env:=by rfl) (g5:(backTo pos (starEach es X.env)).any (·.1)=false:=by rfl):PE X (.Call (.Name x p) (e::es) [] pos) (RY r t):=by
 intro pins s σ H Q I h;refine wpAny_Call_Name_kw (g7 I hg hm hv ?_ hn lE);exact PyProof.Rows.callWith_type1 (thn (ha pos pins s σ H _ I h) λus s1 ⟨vs,H1,I1,r1,q1⟩=>hc pins s1 σ H1 vs us Q I1 r1 q1) he g5
end
end L2
namespace HT
open PySem PyProof.Rows
section
open PySem.SeqAt
open PySem.AutoSeq1 (wpAny_loadPart')
open PySem.MeetsSeq PySem.MeetsSeq2 PySem.MeetsSeq3
end
section
variable {prog:Program} {w:World} {A:Around} {E:Value→Shared→Prop} {s:Shared}
theorem D9{t b:Addr}{vs ws:List Value}{Q:Value→Shared→Prop}(ht:IsTup s.heap t vs.toArray)(hb:IsTup s.heap b ws.toArray)(hv:vs≠ [])
  (h1:ws= []→Q (.ref t) s) (h2:ws≠ []→Q (.ref s.heap.objs.size) {s with heap:=s.heap.push {cls:= .type "tuple",data:= .seq (vs++ws).toArray}})
  (rF:vs.length+ws.length≤sizeLine):wpAny (model prog w) A (binaryOp .Add (.ref t) (.ref b)) Q E s:=by
 obtain ⟨⟨cls,dd,data,sl⟩,ho,hc,n,hd⟩:=id ht;obtain ⟨⟨Yk,OB,data2,IS⟩,yg,wM,n2,hd2⟩:=id hb;simp only at hc hd wM hd2;subst hc hd wM hd2;have e:vs.toArray++ws.toArray=(vs++ws).toArray:=by simp
 by_cases hw:ws= []
 ·exact concat_meets ⟨_,ho,rfl⟩ ⟨_,yg,rfl⟩ noFill_tuple_add seq_tuple_add PySem.F.slot_tuple_add PySem.F.entry_tuple_add (PySem.F.args_tuple_add_2 _ _)
   (tuple_addW1 t b vs.toArray ws.toArray n n2 dd OB sl IS (by simpa using hv) (by simp [hw])) ⟨ho,yg,h1 hw⟩
 ·refine concat_meets ⟨_,ho,rfl⟩ ⟨_,yg,rfl⟩ noFill_tuple_add seq_tuple_add PySem.F.slot_tuple_add PySem.F.entry_tuple_add (PySem.F.args_tuple_add_2 _ _)
   (tuple_addW2 t b vs.toArray ws.toArray n n2 dd OB sl IS (by simpa using hv) (by simpa using hw) (by rw [cB,cB];exact rF)) ⟨ho,yg,?_⟩
  rw [e];exact h2 hw
def bL(n d:Nat):Option Int→Nat
 |none=>d
 |some v=>if v<0 then (v+(n:Int)).toNat else min v.toNat n
theorem IQ(n d:Nat)(hd:d≤n)(o:Option Int):bL n d o≤n:=by
 cases o with
 |none=>exact hd
 |some v=>
  show (if v<0 then (v+(n:Int)).toNat else min v.toNat n)≤n
  by_cases hv:v<0
  ·rw [if_pos hv];omega
  ·rw [if_neg hv];exact Nat.min_le_right _ _
theorem xS(v:Int)(n d:Nat):(if v<0 then max (v+(n:Int)) 0 else min v (n:Int))=((bL n d (some v):Nat):Int):=by
 show (if v<0 then max (v+(n:Int)) 0 else min v (n:Int))=(((if v<0 then (v+(n:Int)).toNat else min v.toNat n):Nat):Int)
 by_cases hv:v<0
 ·simp only [if_pos hv];omega
 ·simp only [if_neg hv];omega
theorem xG(lo hi:Option Int)(n:Nat):Builtin.Slice.sliceAdjust lo hi 1 (n:Int)=(((bL n 0 lo:Nat):Int),((bL n n hi:Nat):Int)):=by
 have h1:¬((1:Int)<0):=by omega
 unfold Builtin.Slice.sliceAdjust;simp only [h1,if_false];refine Prod.ext ?_ ?_
 ·cases lo with
  |none=>rfl
  |some v=>exact xS v n 0
 ·cases hi with
  |none=>rfl
  |some v=>exact xS v n n
theorem yK(i j:Nat):Builtin.Slice.slicePlaces (i:Int) (j:Int) 1=j-i:=by
 unfold Builtin.Slice.slicePlaces;have h1:(1:Int)>0:=by omega
 simp only [h1,if_true,Int.ediv_one]
 split<;>omega
theorem qY{v:Value}{o:Option Int}{Q:Option Int→Shared→Prop}(p:IsPart v o)(h:Q o s):wpAny (model prog w) A (Builtin.Slice.slicePartIndex v) Q E s:=by
 cases p with
 |none=>exact slicePart_none h
 |int i t=>exact slicePart_int h
theorem pN{sl:Addr}{vl vu:Value}{lo hi:Option Int}{n:Nat}{Q:Int×Int×Nat→Shared→Prop}(hs:s.heap.IsSliceOf sl vl vu .none)(pl:IsPart vl lo)(pu:IsPart vu hi)
  (h:Q (((bL n 0 lo:Nat):Int),1,bL n n hi-bL n 0 lo) s):wpAny (model prog w) A (Builtin.Slice.sliceApplied (.ref sl) (pure (n:Int))) Q E s:=by
 obtain ⟨os,wQ,O3,Cu⟩:=id hs;unfold Builtin.Slice.sliceApplied Builtin.Slice.sliceFields;refine wpAny_bind (wpAny_bind (wpAny_field wQ Cu (x:=vl) rfl (wpAny_bind (wpAny_field wQ Cu (x:=vu) rfl (wpAny_bind (wpAny_field wQ Cu (x:= .none) rfl (wpAny_pure ?_)))))));refine wpAny_bind (slicePart_none ?_);show wpAny _ _ (if ((1:Int)==0)=true then _ else _) _ _ s;rw [if_neg (by decide)]
 refine wpAny_bind (qY pl (wpAny_bind (qY pu (wpAny_bind (wpAny_pure ?_)))));show wpAny _ _ (match Builtin.Slice.sliceAdjust lo hi 1 (n:Int) with| (lo,hi)=>pure (lo,(1:Int),Builtin.Slice.slicePlaces lo hi 1)) _ _ s
 rw [xG lo hi n];show wpAny _ _ (pure (((bL n 0 lo:Nat):Int),(1:Int),Builtin.Slice.slicePlaces ((bL n 0 lo:Nat):Int) ((bL n n hi:Nat):Int) 1)) _ _ s;rw [yK];exact wpAny_pure h
theorem C1(xs:Array Value)(i k:Nat):((List.range k).filterMap λ(m:Nat)=>xs[((i:Int)+(m:Int)*1).toNat]?).toArray=((xs.toList.drop i).take k).toArray:=by
 have e:(λ(m:Nat)=>xs[((i:Int)+(m:Int)*1).toNat]?)=λm=>xs[i+m]? :=by
  funext m
  have:((i:Int)+(m:Int)*1).toNat=i+m:=by omega
  rw [this]
 rw [e]
 have:=pick_run xs i k
 rw [List.filterMap_map] at this;have e2:((λx=>xs[x]?)∘λx=>i+x)=λm=>xs[i+m]? :=rfl;rw [e2] at this;rw [this]
theorem nQ{t sl:Addr}{items:Array Value}{vl vu:Value}{lo hi:Option Int}{Q:Value→Shared→Prop}(ht:IsTup s.heap t items)(hs:s.heap.IsSliceOf sl vl vu .none)(pl:IsPart vl lo)(pu:IsPart vu hi)
  (hw:¬(bL items.size 0 lo=0∧bL items.size items.size hi=items.size))
  (h:Q (.ref s.heap.objs.size) {s with heap:=s.heap.push {cls:= .type "tuple",data:= .seq ((items.toList.drop (bL items.size 0 lo)).take (bL items.size items.size hi-bL items.size 0 lo)).toArray}})
  (rF:items.size≤sizeLine):wpAny (model prog w) A (getItem (.ref t) (.ref sl)) Q E s:=by
 have wU:sizeOk (.seq ((items.toList.drop (bL items.size 0 lo)).take (bL items.size items.size hi-bL items.size 0 lo)).toArray):=by
  show ((items.toList.drop (bL items.size 0 lo)).take (bL items.size items.size hi-bL items.size 0 lo)).toArray.size≤sizeLine;rw [cB,b8,dE,gO];omega
 have hj:bL items.size items.size hi≤items.size:=IQ _ _ (br _) hi;obtain ⟨os,wQ,O3,Cu⟩:=id hs;have Uz:s.TypeIs (.ref sl) "slice":=⟨os,wQ,O3⟩;unfold getItem
 try with_reducible refine wpAny_holding ?_
 first|refine wpAny_bind (wpAny_pure ?_) |skip
 refine wpAny_bind (wpAny_sequenceKey ht.typeIs (by decide) ?_)
 refine wpAny_bind (wpAny_callSpecial?_slot (name:=Str.ofString "__getitem__") ht.typeIs PyProof.Rows.slot_tuple_getitem
  (wpAny_call_entry PyProof.Rows.slot_tuple_getitem ht.typeIs entry_tuple_getitem ?_ (args_tuple_getitem _ _)))
 show wpAny _ _ (Builtin.Tuple.tupleItemsOf (.ref t)>>=_) _ _ s;refine wpAny_bind (tupleItemsOf_ ht ?_);refine wpAny_bind (wpAny_typeOf Uz ?_);rw [if_pos (by decide)]
 refine wpAny_bind (pN hs pl pu ?_)
 have LL:¬((((bL items.size 0 lo:Nat):Int)==0&&(1:Int)==1&&(bL items.size items.size hi-bL items.size 0 lo)==items.size)=true):=by
  intro q;rw [rh,rh] at q;have q1:((bL items.size 0 lo:Nat):Int)=0:=eq_of_beq q.1.1;have q2:bL items.size items.size hi-bL items.size 0 lo=items.size:=eq_of_beq q.2;exact hw ⟨by omega,by omega⟩
 show wpAny _ _ (if (((bL items.size 0 lo:Nat):Int)==0&&(1:Int)==1&&(bL items.size items.size hi-bL items.size 0 lo)==items.size)=true then _ else _) _ _ s;rw [if_neg LL,C1]
 first
  |exact wpAny_bind (m:=Builtin.Tuple.tupleExact _) (wpAny_newObj_type (wpAny_pure ⟨_,rfl,wpAny_pure h⟩) wU)
  |exact wpAny_bind (m:=Builtin.Tuple.tupleExact _) (wpAny_newObj_type (wpAny_bind (wpAny_pure (wpAny_pure ⟨_,rfl,wpAny_pure h⟩))) wU)
  |exact wpAny_bind (wpAny_bind (m:=Builtin.Tuple.tupleExact _) (wpAny_newObj_type (wpAny_pure (wpAny_pure ⟨_,rfl,wpAny_pure h⟩)) wU))
  |exact wpAny_bind (wpAny_bind (m:=Builtin.Tuple.tupleExact _) (wpAny_newObj_type (wpAny_pure ⟨_,rfl,wpAny_pure h⟩) wU))
end
end HT
namespace L2
open PySem PySem.Spec PyProof.Rows
abbrev TO:=St→Hp→(Option Int→Hp→Prop)→Prop
def PO(X:Cx)(e:Option Expr)(t:TO):Prop:=
 ∀(pins:List (Addr×Obj))(s:Shared)(σ:St)(H:Hp)(Q:Option Int→Hp→Prop),Inv X pins σ H s→t σ H Q→
  wpAny (model X.prog X.w) X.A (evalPart e X.env) (λu s'=>∃o H',Inv X pins σ H' s'∧IsPart u o∧Q o H') X.xe s
def GH:TO:=λ_ H Q=>Q none H
def MH(t:TE):TO:=λσ H Q=>t σ H λx H1=>∃i,x= .int i∧Q (some i) H1
theorem intsAre_of{ns:List Int}:∀{us:List Value},Vals (ns.map V.int) us→IntsAre us ns:=by
 induction ns with
 |nil=>intro us r;rw [List.map_nil] at r;cases r;exact .nil
 |cons n ns ih=>
  intro us r;rw [iK] at r;cases r with
  |cons r1 r2=>
   obtain ⟨t,e⟩:=r1;subst e;exact .cons n t (ih r2)
section
variable {X:Cx} {e:Expr} {te:TE} {lo hi:Option Expr} {tl th:TO} {pos p2:Pos}
theorem F0:PO X none GH:=by
 intro pins s σ H Q I h;rw [evalPart_none];exact wpAny_pure ⟨none,H,I, .none,h⟩
theorem F1(h:PE X e te):PO X (some e) (MH te):=by
 intro pins s σ H Q I hw;rw [evalPart_some];refine thn (h pins s σ H _ I hw) λu s1 ⟨x,H1,I1,r1,q1⟩=>?_;obtain ⟨i,rfl,q⟩:=q1;obtain ⟨t,rfl⟩:=r1;exact ⟨some i,H1,I1, .int i t,q⟩
def zr(X:Cx)(r:V→Option Int→Option Int→Hp→VK→Prop):Prop:=
 ∀(pins:List (Addr×Obj))(s:Shared)(σ:St)(H:Hp)(x:V)(v vl vu:Value)(lo hi:Option Int)(sl:Addr)(Q:VK),Inv X pins σ H s→RelV x v→s.heap.IsSliceOf sl vl vu .none→IsPart vl lo→IsPart vu hi→r x lo hi H Q→
  ∃T id,typeLookup (.type T) "__getitem__"=pure (some (.builtin id))∧s.TypeIs v T∧wpAny (model X.prog X.w) X.A (getItem v (.ref sl)) (EP X pins σ Q) X.xe s
theorem zr.or{r r':V→Option Int→Option Int→Hp→VK→Prop}(h:zr X r)(h':zr X r'):zr X (λx lo hi H Q=>r x lo hi H Q∨r' x lo hi H Q):=by
 intro pins s σ H x v vl vu lo hi sl Q I rx hs pl pu q
 rcases q with q|q
 ·exact h pins s σ H x v vl vu lo hi sl Q I rx hs pl pu q
 ·exact h' pins s σ H x v vl vu lo hi sl Q I rx hs pl pu q
def X8(r:V→Option Int→Option Int→Hp→VK→Prop)(te:TE)(tl th:TO):TE:=λσ H Q=>te σ H λx H1=>tl σ H1 λl H2=>th σ H2 λu H3=>r x l u H3 Q
theorem vH{r:V→Option Int→Option Int→Hp→VK→Prop}(hr:zr X r)(he:PE X e te)(hl:PO X lo tl)(hu:PO X hi th):PE X (.Subscript e (.Slice lo hi none p2) pos) (X8 r te tl th):=by
 intro pins s σ H Q I h;refine Subscript_ (thn (he pins s σ H _ I h) λv s1 ⟨x,H1,I1,r1,q1⟩=>?_);refine wpAny_Slice (thn (hl pins s1 σ H1 _ I1 q1) λvl s2 ⟨l,H2,I2,pl,q2⟩=>thn (hu pins s2 σ H2 _ I2 q2) λvu s3 ⟨u,H3,I3,pu,q3⟩=>?_);rw [evalPart_none];refine wpAny_pure ?_;have I4:Inv X pins σ H3 {s3 with heap:=s3.heap.push {cls:= .type "slice",data:= .fields #[vl,vu, .none]}}:=I3.kept (t':=s3.toks) λb ob q=>Heap.get?_push_of_some _ q
 obtain ⟨T,id,hT,ht,hg⟩:=hr pins {s3 with heap:=s3.heap.push {cls:= .type "slice",data:= .fields #[vl,vu, .none]}} σ H3 x v vl vu l u s3.heap.objs.size Q I4 r1 (Heap.IsSliceOf.new ..) pl pu q3
 show wpAny (model X.prog X.w) X.A (subscriptTail e (.Slice lo hi none p2) v (.ref s3.heap.objs.size)) (EP X pins σ Q) X.xe {s3 with heap:=s3.heap.push {cls:= .type "slice",data:= .fields #[vl,vu, .none]}}
 exact tail_any (ops:= [.ref s3.heap.objs.size,v]) ht hT hg (by with_unfolding_all rfl)
def qL(xs:List V)(lo hi:Option Int):List V:=(xs.drop (HT.bL xs.length 0 lo)).take (HT.bL xs.length xs.length hi-HT.bL xs.length 0 lo)
theorem oK(xs:List V)(lo hi:Option Int):(qL xs lo hi).length≤xs.length:=by
 unfold qL;rw [b8,dE];omega
def Rl(K:PySem.W.Frag):V→Option Int→Option Int→Hp→VK→Prop:=λx lo hi H Q=>∃a xs,x= .ref a∧fL K H a xs∧
 ¬(HT.bL xs.length 0 lo=0∧HT.bL xs.length xs.length hi=xs.length)∧∀p,H p=none→Q (.ref p) (upd H p (.tup (qL xs lo hi)))
theorem IT:zr X (Rl X.K):=by
 intro pins s σ H x v vl vu lo hi sl Q I rx hs pl pu h;obtain ⟨a,xs,rfl,hx,hw,q⟩:=h;cases rx;obtain ⟨its,r,ht,hz⟩:=I.tuple hx;have hlen:its.toArray.size=xs.length:=by rw [cB];exact r.length.symm
 refine ⟨"tuple",_,PyProof.Rows.slot_tuple_getitem.lookup,ht.typeIs,?_⟩;refine HT.nQ ht hs pl pu (by rw [hlen];exact hw) ?_ (by rw [hlen];exact hz)
 rw [hlen];refine ⟨.ref s.heap.objs.size,_,I.laid (t':=s.toks) (o:= .tup (qL xs lo hi)) (λb ob q=>Heap.get?_push_of_some _ q) (br _) ?_,rfl,q _ (I.hok.fresh (br _))⟩;exact ⟨jV (oK xs lo hi) hz,_,(r.drop (HT.bL xs.length 0 lo)).take (HT.bL xs.length xs.length hi-HT.bL xs.length 0 lo),IsTup.new _ _⟩
def Mp(K:PySem.W.Frag):R2:=λx y H Q=>∃a b xs ys,x= .ref a∧y= .ref b∧fL K H a xs∧fL K H b ys∧xs≠ []∧xs.length+ys.length≤sizeLine∧
 (ys= []→Q (.ref a) H)∧(ys≠ []→∀p,H p=none→Q (.ref p) (upd H p (.tup (xs++ys))))
theorem Vals.tS{xs:List V}{us:List Value}(r:Vals xs us):us= []↔xs= []:=by
 cases r with
 |nil=>simp
 |cons _ _=>simp
theorem FI:OpR X (binaryOp .Add) (Mp X.K):=by
 intro pins s σ H x y v u Q I rx ry h;obtain ⟨a,b,xs,ys,rfl,rfl,ha,hb,hx,hz,q1,q2⟩:=h;cases rx;cases ry;obtain ⟨its,r1,p1,_⟩:=I.tuple ha;obtain ⟨qR,r2,p2,_⟩:=I.tuple hb;refine HT.D9 p1 p2 (λz=>hx (r1.tS.mp z)) (λz=>⟨.ref a,H,I,rfl,q1 (r2.tS.mp z)⟩) (λz=>?_) (by rw [←r1.length,←r2.length];exact hz)
 refine ⟨.ref s.heap.objs.size,_,I.laid (t':=s.toks) (o:= .tup (xs++ys)) (λb ob q=>Heap.get?_push_of_some _ q) (br _) ?_,rfl,q2 (λw=>z (r2.tS.mpr w)) _ (I.hok.fresh (br _))⟩;exact ⟨by rw [cy];exact hz,_,r1.append r2,IsTup.new _ _⟩
end
def nV(n:Nat)(i:Int):Option Nat:=if 0≤i then (if i<n then some i.toNat else none) else if-(n:Int)≤i then some (i+n).toNat else none
def fM{α:Type}(xs:List α)(i:Int):Option α:=(nV xs.length i).bind λj=>xs[j]?
theorem yp{n:Nat}{i:Int}{j:Nat}(h:nV n i=some j):seqIndex? i n=some j∧j<n∧-(n:Int)≤i∧i<n:=by
 unfold nV at h
 by_cases h0:0≤i
 ·rw [if_pos h0] at h
  by_cases h1:i<n
  ·rw [if_pos h1] at h
   have e:i.toNat=j:=Option.some.inj h;exact ⟨by rw [seqIndex_of h0 h1,e],by omega,by omega,h1⟩
  ·rw [if_neg h1] at h;cases h
 ·rw [if_neg h0] at h
  by_cases h1: -(n:Int)≤i
  ·rw [if_pos h1] at h
   have e:(i+n).toNat=j:=Option.some.inj h;exact ⟨by rw [seqIndex_neg (by omega) h1,e],by omega,h1,by omega⟩
  ·rw [if_neg h1] at h;cases h
theorem xH{α:Type}{xs:List α}{i:Int}{v:α}(h:fM xs i=some v):∃j,seqIndex? i xs.length=some j∧xs[j]? =some v∧j<xs.length∧-(xs.length:Int)≤i∧i<xs.length:=by
 unfold fM at h;cases e:nV xs.length i with
 |none=>rw [e] at h;cases h
 |some j=>
  rw [e] at h;obtain ⟨h1,h2,h3,h4⟩:=yp e;exact ⟨j,h1,h,h2,h3,h4⟩
theorem xI{α:Type}{xs:List α}{j:Nat}{v:α}(h:xs[j]? =some v):fM xs (j:Int)=some v:=by
 have hj:j<xs.length:=(fA.mp h).1
 have e:nV xs.length (j:Int)=some j:=by
  unfold nV;rw [if_pos (by omega),if_pos (by omega)];simp
 unfold fM;rw [e];exact h
def xE(b:Expr):Prop:=∀o i,subscripted b false o i=operate [o,i] (getItem o i)
def zp(X:Cx)(r:R2):Prop:=
 ∀(value slice:Expr)(pins:List (Addr×Obj))(s:Shared)(σ:St)(H:Hp)(x y:V)(v u:Value)(Q:VK),Inv X pins σ H s→RelV x v→RelV y u→r x y H Q→
  subscripted slice false v u=operate [v,u] (getItem v u)→wpAny (model X.prog X.w) X.A (subscriptTail value slice v u) (EP X pins σ Q) X.xe s
def GX(X:Cx)(id:String)(r:V→List V→Hp→VK→Prop):Prop:=
 ∀(pins:List (Addr×Obj))(s:Shared)(σ:St)(H:Hp)(x:V)(xs:List V)(v:Value)(us:List Value)(Q:VK),Inv X pins σ H s→RelV x v→Vals xs us→r x xs H Q→
  wpAny (model X.prog X.w) X.A (call (.builtin id) (v::us)) (EP X pins σ Q) X.xe s
section
variable {X:Cx} {a b:Expr} {ta tb:TE} {pos:Pos}
theorem zp.or{r r':R2}(h:zp X r)(h':zp X r'):zp X (λx y H Q=>r x y H Q∨r' x y H Q):=by
 intro value slice pins s σ H x y v u Q I rx ry q hs
 rcases q with q|q
 ·exact h value slice pins s σ H x y v u Q I rx ry q hs
 ·exact h' value slice pins s σ H x y v u Q I rx ry q hs
theorem Mf{r:R2}(hr:zp X r)(ha:PE X a ta)(hb:PE X b tb)(hs:xE b):PE X (.Subscript a b pos) (GI r ta tb):=by
 intro pins s σ H Q I h;exact Subscript_ (D6 ha hb I h λv u s2 x y H2 I2 rx ry q=>hr a b pins s2 σ H2 x y v u Q I2 rx ry q (hs _ _))
def Rf(K:PySem.W.Frag):R2:=λx y H Q=>∃p xs i v,x= .ref p∧y= .int i∧cD K H p xs∧fM xs i=some v∧Q v H
def Rg(K:PySem.W.Frag):R2:=λx y H Q=>∃p xs i v,x= .ref p∧y= .int i∧fL K H p xs∧fM xs i=some v∧Q v H
theorem Fg:zp X (Rf X.K):=by
 intro value slice pins s σ H x y v u Q I rx ry h hs;obtain ⟨p,xs,i,z,rfl,rfl,hq,he,q⟩:=h;cases rx;obtain ⟨t,rfl⟩:=ry;obtain ⟨its,r,pl,hz⟩:=I.list hq;obtain ⟨j,h1,h2,h3,h4,h5⟩:=xH he;obtain ⟨w,ew,AM⟩:=r.get h2;have hl:=r.length;have hn:=j7;have fin:EP X pins σ Q w s:=⟨z,H,I,AM,q⟩
 by_cases h0:0≤i
 ·have hj:i.toNat=j:=by
   rw [seqIndex_of h0 h5] at h1;exact Option.some.inj h1
  exact item_listR pl.isList h0 (by omega) (by rw [hj];simpa using ew) fin hs
 ·have hj:(i+(its.toArray.size:Int)).toNat=j:=by
   rw [seqIndex_neg (by omega) h4] at h1
   rw [cB,←hl];exact Option.some.inj h1
  exact subscriptTail_builtinR (x:=w) pl.isList.typeIs slot_list_getitem.lookup
   (wpAny_getItem_list_neg (Q:=λr s'=>r=w∧EP X pins σ Q r s') pl.isList (by omega) (by rw [cB]<;>omega) (by omega) (by rw [hj];simpa using ew) ⟨rfl,fin⟩) hs
theorem HJ:zp X (Rg X.K):=by
 intro value slice pins s σ H x y v u Q I rx ry h hs;obtain ⟨p,xs,i,z,rfl,rfl,hq,he,q⟩:=h;cases rx;obtain ⟨t,rfl⟩:=ry;obtain ⟨its,r,pl,hz⟩:=I.tuple hq;obtain ⟨j,h1,h2,h3,h4,h5⟩:=xH he;obtain ⟨w,ew,AM⟩:=r.get h2;have hl:=r.length;have hn:=j7;have fin:EP X pins σ Q w s:=⟨z,H,I,AM,q⟩
 exact subscriptTail_builtinR (x:=w) pl.typeIs slot_tuple_getitem.lookup
  (getItem_tuple (j:=j) (Q:=λr s'=>r=w∧EP X pins σ Q r s') pl (by omega) (by omega) (by rw [cB,←hl];exact h1) (by simpa using ew) ⟨rfl,fin⟩) hs
theorem yz(its:List Value)(n j:Nat)(u:Value):Obj.mapSeq (·.setIfInBounds j u) {cls:= .type "list",data:= .seq its.toArray n}={cls:= .type "list",data:= .seq (its.set j u).toArray n}:=by
 simp [Obj.mapSeq]
theorem Inv.lst{pins:List (Addr×Obj)}{σ:St}{H:Hp}{s:Shared}{p:Addr}{xs:List V}(I:Inv X pins σ H s)(h:H p=some (.lst xs)):
  ∃(its:List Value)(n:Nat),Vals xs its∧s.heap.get? p=some {cls:= .type "list",data:= .seq its.toArray n}∧xs.length≤sizeLine:=by
 obtain ⟨z,its,n,r,e⟩:=I.hok p _ h;exact ⟨its,n,r,e,z⟩
theorem Inv.HX{pins:List (Addr×Obj)}{σ:St}{H:Hp}{s:Shared}{p:Addr}{xs ys:List V}{its its':List Value}{n n':Nat}{f:Obj→Obj}(I:Inv X pins σ H s)(h:H p=some (.lst xs))
  (ho:s.heap.get? p=some {cls:= .type "list",data:= .seq its.toArray n}) (hf:f {cls:= .type "list",data:= .seq its.toArray n}={cls:= .type "list",data:= .seq its'.toArray n'}) (r:Vals ys its') (hz:ys.length≤sizeLine) (t:Nat):
  Inv X pins σ (upd H p (.lst ys)) {s with heap:=s.heap.update p f,toks:=t}:=by
 have e:(s.heap.update p f).get? p=some {cls:= .type "list",data:= .seq its'.toArray n'}:=by
  rw [Heap.get?_update_self f ho (by rw [hf]<;>rfl),hf]
 refine I.write (x:=p) (e:=p) (by rw [h];trivial) (.inl rfl) (λb u hb q=>(Heap.get?_update_other _ _ (Ne.symm hb)).trans q) ⟨_,e⟩ ?_
 exact ⟨hz,its',n',r,e⟩
def Mr:V→V→V→Hp→(Hp→Prop)→Prop:=λo i v H Q=>∃p xs k j,o= .ref p∧i= .int k∧H p=some (.lst xs)∧nV xs.length k=some j∧Q (upd H p (.lst (xs.set j v)))
theorem set_list:Jk X Mr:=by
 intro pins s σ H o i v ov iv u Q I ro ri rv h;obtain ⟨p,xs,k,j,rfl,rfl,hp,hj,q⟩:=h;cases ro;obtain ⟨t,rfl⟩:=ri;obtain ⟨its,n,r,ho,hz⟩:=I.lst hp;obtain ⟨h1,h2,h3,h4⟩:=yp hj;have hl:=r.length;have hn:=j7
 have I':Inv X pins σ (upd H p (.lst (xs.set j v))) {s with heap:=s.heap.update p (Obj.mapSeq (·.setIfInBounds j u))}:=
  I.HX hp ho (yz its n j u) (r.set rv j) (by rw [kL];exact hz) s.toks
 by_cases h0:0≤k
 ·have hk:k.toNat=j:=by
   rw [seqIndex_of h0 h4] at h1;exact Option.some.inj h1
  exact PySem.W.ki_setAt ho h0 (by omega) (by rw [cB,←hl];exact h4) (by rw [hk];exact ⟨_,I',q⟩)
 ·have hk:(k+(its.toArray.size:Int)).toNat=j:=by
   rw [seqIndex_neg (by omega) h3] at h1
   rw [cB,←hl];exact Option.some.inj h1
  exact PySem.W.ki_setBack ho (by omega) (by rw [cB,←hl];exact h3) (by omega) (by rw [hk];exact ⟨_,I',q⟩)
theorem uW(lo hi:Option Int)(n:Nat):(sliceBounds lo hi none n).1=((HT.bL n 0 lo:Nat):Int)∧(sliceBounds lo hi none n).2.1=((HT.bL n n hi:Nat):Int)∧(sliceBounds lo hi none n).2.2=1:=by
 refine ⟨?_,?_,rfl⟩
 ·cases lo with
  |none=>simp [sliceBounds,HT.bL]
  |some i=>
   simp only [sliceBounds,HT.bL,Option.getD_none,show (1:Int)>0 by decide,if_true]
   by_cases h:i<0
   ·simp only [h,if_true]<;>omega
   ·simp only [h,if_false]<;>omega
 ·cases hi with
  |none=>simp [sliceBounds,HT.bL]
  |some i=>
   simp only [sliceBounds,HT.bL,Option.getD_none,show (1:Int)>0 by decide,if_true]
   by_cases h:i<0
   ·simp only [h,if_true]<;>omega
   ·simp only [h,if_false]<;>omega
theorem uh(its:List Value)(lo hi:Option Int):slicePick its.toArray lo hi none=((its.drop (HT.bL its.length 0 lo)).take (HT.bL its.length its.length hi-HT.bL its.length 0 lo)).toArray:=by
 obtain ⟨h1,h2,h3⟩:=uW lo hi its.toArray.size;unfold slicePick;rw [h1,h2,h3];simp only [sliceRange_one,pick_run,cB]<;>rfl
def Rk(K:PySem.W.Frag):V→Option Int→Option Int→Hp→VK→Prop:=λx lo hi H Q=>∃a xs,x= .ref a∧cD K H a xs∧∀p,H p=none→Q (.ref p) (upd H p (.lst (qL xs lo hi)))
theorem yV:zr X (Rk X.K):=by
 intro pins s σ H x v vl vu lo hi sl Q I rx hs pl pu h;obtain ⟨a,xs,rfl,hx,q⟩:=h;cases rx;obtain ⟨its,r,ht,hz⟩:=I.list hx;have hlen:=r.length;refine ⟨"list",_,slot_list_getitem.lookup,ht.isList.typeIs,?_⟩;refine wpAny_getItem_list_slice ht.isList hs pl pu .none (by simp) ?_ (by rw [cB]<;>omega)
 rw [uh,←hlen];refine ⟨.ref s.heap.objs.size,_,I.laid (t':=s.toks) (o:= .lst (qL xs lo hi)) (λb ob q=>Heap.get?_push_of_some _ q) (br _) ?_,rfl,q _ (I.hok.fresh (br _))⟩;exact ⟨jV (oK xs lo hi) hz,_,0,(r.drop (HT.bL xs.length 0 lo)).take (HT.bL xs.length xs.length hi-HT.bL xs.length 0 lo),Heap.get?_push_size _ rfl⟩
def gr:V→Bool
 | .bf=>true
 | .bl _=>true
 | .int _=>true
 | .str _=>true
 |_=>false
def tq:V→V→Bool
 | .bf, .bf=>true
 | .bl a, .bl b=>a==b
 | .bl a, .int b=>(if a then 1 else 0)==b
 | .int a, .bl b=>a==(if b then 1 else 0)
 | .int a, .int b=>a==b
 | .str a, .str b=>a==b
 |_,_=>false
theorem Hv{A:Around}{s:Shared}{y x:V}{u v:Value}(ry:RelV y u)(rx:RelV x v)(fy:gr y=true)(fx:gr x=true):SeqAt.EqAt A s u v (tq y x):=by
 cases y with
 |bf=>
  cases ry;cases x with
  |bf=>cases rx;exact SeqAt.EqAt.same _
  |bl b=>cases rx;exact SeqAt.EqAt.none_bool b
  |int b=>obtain ⟨t,rfl⟩:=rx;exact SeqAt.EqAt.none_int b t
  |str b=>obtain ⟨t,rfl⟩:=rx;exact SeqAt.EqAt.none_str b t
  |_=>exact absurd (show false=true from fx) dW
 |bl a=>
  cases ry;cases x with
  |bf=>cases rx;exact SeqAt.EqAt.bool_none a
  |bl b=>cases rx;exact SeqAt.EqAt.bool_bool a b
  |int b=>obtain ⟨t,rfl⟩:=rx;exact SeqAt.EqAt.bool_int a b t
  |str b=>obtain ⟨t,rfl⟩:=rx;exact SeqAt.EqAt.bool_str a b t
  |_=>exact absurd (show false=true from fx) dW
 |int a=>
  obtain ⟨t',rfl⟩:=ry;cases x with
  |bf=>cases rx;exact SeqAt.EqAt.int_none a t'
  |bl b=>cases rx;exact SeqAt.EqAt.int_bool a t' b
  |int b=>obtain ⟨t,rfl⟩:=rx;exact SeqAt.EqAt.int_int a t' b t
  |str b=>obtain ⟨t,rfl⟩:=rx;exact SeqAt.EqAt.int_str a t' b t
  |_=>exact absurd (show false=true from fx) dW
 |str a=>
  obtain ⟨t',rfl⟩:=ry;cases x with
  |bf=>cases rx;exact SeqAt.EqAt.str_none a t'
  |bl b=>cases rx;exact SeqAt.EqAt.str_bool a t' b
  |int b=>obtain ⟨t,rfl⟩:=rx;exact SeqAt.EqAt.str_int a t' b t
  |str b=>obtain ⟨t,rfl⟩:=rx;exact SeqAt.EqAt.str_str a t' b t
  |_=>exact absurd (show false=true from fx) dW
 |_=>exact absurd (show false=true from fy) dW
def mI(x:V)(u:Value):Bool:=match u with
 | .none=>tq .bf x
 | .bool b=>tq (.bl b) x
 | .int i _=>tq (.int i) x
 | .str z _=>tq (.str z) x
 |_=>false
theorem rZ{x y:V}{u:Value}(r:RelV y u)(f:gr y=true):mI x u=tq y x:=by
 cases y with
 |bf=>cases r;rfl
 |bl b=>cases r;rfl
 |int i=>obtain ⟨t,rfl⟩:=r;rfl
 |str z=>obtain ⟨t,rfl⟩:=r;rfl
 |_=>exact absurd (show false=true from f) dW
theorem kZ{x:V}:∀{xs:List V}{us:List Value},Vals xs us→xs.all gr=true→us.any (mI x)=xs.any λy=>tq y x
 |_,_, .nil,_=>rfl
 |y::xs,u::us, .cons r t,f=>by
  rw [List.all_cons,rh] at f;rw [List.any_cons,List.any_cons,rZ r f.1,kZ t f.2]
theorem hZ{A:Around}{s:Shared}{x:V}{v:Value}(rx:RelV x v)(fx:gr x=true):∀{xs:List V}{us:List Value},Vals xs us→xs.all gr=true→∀u∈us,SeqAt.EqAt A s u v (mI x u)
 |_,_, .nil,_=>λu hu=>by cases hu
 |y::xs,u::us, .cons r t,f=>λu' hu=>by
  rw [List.all_cons,rh] at f
  rcases b9.mp hu with rfl|hu
  ·rw [rZ r f.1];exact Hv r rx f.1 fx
  ·exact hZ rx fx t f.2 u' hu
def HI(x:V)(xs:List V):Bool:=xs.any λy=>tq y x
def Mq(K:PySem.W.Frag)(neg:Bool):R2:=λx y H Q=>∃p xs,y= .ref p∧(cD K H p xs∨fL K H p xs)∧gr x=true∧xs.all gr=true∧Q (.bl (if neg then !HI x xs else HI x xs)) H
theorem Ax:OpR X (compareOp .In) (Mq X.K false):=by
 intro pins s σ H x y v u Q I rx ry h;obtain ⟨p,xs,rfl,hq,fx,fs,q⟩:=h;cases ry
 rcases hq with hq|hq
 ·obtain ⟨its,r,pl,hz⟩:=I.list hq
  refine SeqAt.in_listAt (mI x) pl.isList (λw hw=>hZ rx fx r fs w (by simpa using hw)) ⟨.bl _,H,I,rfl,?_⟩
  rw [show its.toArray.any (mI x)=its.any (mI x) by simp,kZ r fs]
  exact q
 ·obtain ⟨its,r,pl,hz⟩:=I.tuple hq
  refine SeqAt.in_tupleAt (mI x) pl (λw hw=>hZ rx fx r fs w (by simpa using hw)) ⟨.bl _,H,I,rfl,?_⟩
  rw [show its.toArray.any (mI x)=its.any (mI x) by simp,kZ r fs]
  exact q
theorem uU:OpR X (compareOp .NotIn) (Mq X.K true):=by
 intro pins s σ H x y v u Q I rx ry h;obtain ⟨p,xs,rfl,hq,fx,fs,q⟩:=h;cases ry
 rcases hq with hq|hq
 ·obtain ⟨its,r,pl,hz⟩:=I.list hq
  refine SeqAt.notIn_listAt (mI x) pl.isList (λw hw=>hZ rx fx r fs w (by simpa using hw)) ⟨.bl _,H,I,rfl,?_⟩
  rw [show its.toArray.any (mI x)=its.any (mI x) by simp,kZ r fs]
  exact q
 ·obtain ⟨its,r,pl,hz⟩:=I.tuple hq
  refine SeqAt.notIn_tupleAt (mI x) pl (λw hw=>hZ rx fx r fs w (by simpa using hw)) ⟨.bl _,H,I,rfl,?_⟩
  rw [show its.toArray.any (mI x)=its.any (mI x) by simp,kZ r fs]
  exact q
theorem uL:cC X (.builtin "len") (λxs H Q=>∃p ys,xs= [.ref p]∧(cD X.K H p ys∨fL X.K H p ys)∧Q (.int ys.length) H):=by
 intro pins s σ H xs us Q I r h;obtain ⟨p,ys,rfl,hq,q⟩:=h;obtain ⟨u,rfl,rx⟩:=vals1 r;cases rx;have hn:=j7
 rcases hq with hq|hq
 ·obtain ⟨its,r',pl,hz⟩:=I.list hq
  have hlen:=r'.length;exact Calls.call_len_list pl.isList (by simp only [cB]<;>omega) ⟨.int ys.length,H,I.tok _,⟨s.toks+1,by rw [cB,hlen]⟩,q⟩
 ·obtain ⟨its,r',pl,hz⟩:=I.tuple hq
  have hlen:=r'.length;exact len_tuple pl (by simp only [cB]<;>omega) ⟨.int ys.length,H,I.tok _,⟨s.toks+1,by rw [cB,hlen]⟩,q⟩
theorem uM:cC X (.type "list") (λxs H Q=>∃p ys,xs= [.ref p]∧(cD X.K H p ys∨fL X.K H p ys)∧∀l,H l=none→Q (.ref l) (upd H l (.lst ys))):=by
 intro pins s σ H xs us Q I r h;obtain ⟨p,ys,rfl,hq,q⟩:=h;obtain ⟨u,rfl,rx⟩:=vals1 r;cases rx
 have fin:∀(its:List Value),Vals ys its→ys.length≤sizeLine→∀(h':Heap)(c':Nat),(∀b o',s.heap.get? b=some o'→h'.get? b=some o')→
   h'.get? s.heap.objs.size=some {cls:= .type "list",dict:=none,data:= .seq its.toArray c',slots:= #[]}→EP X pins σ Q (.ref s.heap.objs.size) {s with heap:=h'}:=λits r' hz h' c' kp e=>
  ⟨.ref s.heap.objs.size,_,I.laid (t':=s.toks) kp (br _) (show cJ X.prog X.w _ h' _ (.lst ys) from ⟨hz,its,c',r',e⟩),rfl,q _ (I.hok.fresh (br _))⟩
 rcases hq with hq|hq
 ·obtain ⟨its,r',pl,hz⟩:=I.list hq
  have hlen:=r'.length;obtain ⟨o,ho,hc,n,hd⟩:=pl.isList;exact call_list_seq p (.inl rfl) ho hc hd (λh' c' kp e=>fin its r' hz h' c' kp e) (by simp only [cB]<;>omega)
 ·obtain ⟨its,r',pl,hz⟩:=I.tuple hq
  have hlen:=r'.length;obtain ⟨o,ho,hc,n,hd⟩:=pl;exact call_list_seq p (.inr rfl) ho hc hd (λh' c' kp e=>fin its r' hz h' c' kp e) (by simp only [cB]<;>omega)
def Je(K:PySem.W.Frag)(T:String)(x:V)(H:Hp):Prop:=match x with
 | .str _=>T="str"
 | .int _=>T="int"
 | .ref p=>(T="list"∧∃xs,cD K H p xs)∨(T="tuple"∧∃o,K.lookup p=some o∧o.cls= .type "tuple"∧o.dict=none)∨
   (T="dict"∧((∃dB,H p=some (.dK dB))∨∃dB,H p=some (.dT dB)))∨(T="set"∧∃S n,H p=some (.set S n))
 |_=>False
theorem B2{pins:List (Addr×Obj)}{σ:St}{H:Hp}{s:Shared}{T:String}{x:V}{v:Value}(I:Inv X pins σ H s)(r:RelV x v)(ty:Je X.K T x H):
  s.TypeIs v T∧∀a,v= .ref a→∃ob,s.heap.get? a=some ob∧ob.dict=none:=by
 cases x with
 |str z=>
  obtain ⟨t,rfl⟩:=r;cases (show T="str" from ty);exact ⟨typeIs_str s z t,λ_ e=>nomatch e⟩
 |int i=>
  obtain ⟨t,rfl⟩:=r;cases (show T="int" from ty);exact ⟨typeIs_int s i t,λ_ e=>nomatch e⟩
 |ref p=>
  cases r
  rcases ty with ⟨rfl,xs,hq⟩ | ⟨rfl,o,hk,hc,hd⟩ | ⟨rfl,hk⟩ | ⟨rfl,S,n,hk⟩
  ·obtain ⟨its,_,pl,_⟩:=I.list hq
   refine ⟨pl.isList.typeIs,λa e=>?_⟩;cases e;obtain ⟨o,n,e,c,hd,_⟩:=pl;exact ⟨o,e,hd⟩
  ·refine ⟨⟨o,I.g6 p o hk,hc⟩,λa e=>?_⟩
   cases e;exact ⟨o,I.g6 _ o hk,hd⟩
  ·have z:∃o,s.heap.get? p=some o∧o.ExactDict:=by
    rcases hk with ⟨dB,hk⟩ | ⟨dB,hk⟩
    ·obtain ⟨_,_,_,_,o,_,_,e,ex,_⟩:=I.hok p _ hk
     exact ⟨o,e,ex⟩
    ·obtain ⟨_,_,_,_,o,_,_,e,ex,_⟩:=I.hok p _ hk
     exact ⟨o,e,ex⟩
   obtain ⟨o,e,ex⟩:=z;refine ⟨⟨o,e,ex.1⟩,λa e2=>?_⟩;cases e2;exact ⟨o,e,ex.2.1⟩
  ·obtain ⟨o,_,_,_,e,ex,_⟩:=I.hok p _ hk
   refine ⟨⟨o,e,ex.1⟩,λa e2=>?_⟩;cases e2;exact ⟨o,e,ex.2.1⟩
 |_=>exact False.elim ty
def RW(K:PySem.W.Frag)(T:String)(r:V→List V→Hp→VK→Prop)(to:TE):TE:=λσ H Q=>to σ H λx H1=>Je K T x H1∧r x [] H1 Q
def X5(K:PySem.W.Frag)(T:String)(r:V→List V→Hp→VK→Prop)(to:TE)(t:TA):TE:=λσ H Q=>to σ H λx H1=>Je K T x H1∧t σ H1 λxs H2=>r x xs H2 Q
variable {o e:Expr} {es:List Expr} {to:TE} {t:TA} {name:Str} {apos bo:Pos} {T id:String} {r:V→List V→Hp→VK→Prop}
theorem Iw(pa:PlainAttrs T)(slot:Slot T name id)(Fb:typeOf (.builtin id)=pure (.type "method_descriptor"))(hm:GX X id r)(ho:PE X o to)
  (eI:attributeBase o name X.env (eval o X.env)=eval o X.env:=by rfl) (dq:(apos.endLine==bo.line)=true:=by rfl):PE X (.Call (.Attribute o name apos) [] [] bo) (RW X.K T r to):=by
 intro pins s σ H Q I h;refine wpAny_Call_method0_late eI dq (thn (ho pins s σ H _ I h) λv s1 ⟨x,H1,I1,r1,ty,q1⟩=>?_);obtain ⟨h1,h2⟩:=B2 I1 r1 ty;exact ⟨T,id,pa,slot,Fb,h1,h2,Calls.callWith_builtin rfl (PySem.evalArgs_none (hm pins s1 σ H1 x [] v [] Q I1 r1 .nil q1))⟩
theorem xc(pa:PlainAttrs T)(slot:Slot T name id)(Fb:typeOf (.builtin id)=pure (.type "method_descriptor"))(hm:GX X id r)(ho:PE X o to)(ha:PA X (e::es) t)
  (eI:attributeBase o name X.env (eval o X.env)=eval o X.env:=by rfl)
  (jz:((backTo bo (starEach (e::es) X.env)).all (λx=>!x.1)&&(backToKw bo (keywordEach [] X.env)).all (λx=>x.1.isSome)
   &&decide ((e::es).length+([]:List Keyword).length+(if ([]:List Keyword).isEmpty then 0 else 1)<30))=true:=by rfl)
  (dq:(apos.endLine==bo.line)=true:=by rfl) (hs:starEach (e::es) X.env=(false,eval e X.env)::starEach es X.env:=by rfl) (e6:(backTo bo (starEach es X.env)).any (·.1)=false:=by rfl):
  PE X (.Call (.Attribute o name apos) (e::es) [] bo) (X5 X.K T r to t):=by
 intro pins s σ H Q I h;refine wpAny_Call_method_late eI jz dq rfl (thn (ho pins s σ H _ I h) λv s1 ⟨x,H1,I1,r1,ty,q1⟩=>?_);obtain ⟨h1,h2⟩:=B2 I1 r1 ty;refine ⟨T,id,pa,slot,Fb,h1,h2,?_⟩;have hA:=ha bo pins s1 σ H1 _ I1 q1;rw [hs] at hA ⊢;refine Calls.callWith_builtin (by show (false|| (backTo bo (starEach es X.env)).any (·.1))=false;rw [e6]<;>rfl) (Calls.evalArgs_plain ?_)
 exact thn hA λus s2 ⟨vs,H2,I2,r2,q2⟩=>hm pins s2 σ H2 x vs v us Q I2 r1 r2 q2
end
def DL(X:Cx)(id:String)(r:V→List V→Hp→VK→Prop):Prop:=
 ∀(pins:List (Addr×Obj))(s:Shared)(σ:St)(H:Hp)(x:V)(xs:List V)(v:Value)(us:List Value)(Q:VK),Inv X pins σ H s→RelV x v→Vals xs us→r x xs H Q→
  wpAny (model X.prog X.w) X.A (call (.builtin id) (v::us)) (EP X pins σ Q) X.xe s
theorem Vals.one:∀{x:V}{us:List Value},Vals [x] us→∃u,us= [u]∧RelV x u
 |_,_, .cons r .nil=>⟨_,rfl,r⟩
theorem Vals.two:∀{x y:V}{us:List Value},Vals [x,y] us→∃u v,us= [u,v]∧RelV x u∧RelV y v
 |_,_,_, .cons r (.cons q .nil)=>⟨_,_,rfl,r,q⟩
theorem Vals.zero:∀{us:List Value},Vals [] us→us= []
 |_, .nil=>rfl
theorem Vals.dropLast{xs:List V}{us:List Value}(h:Vals xs us):Vals xs.dropLast us.dropLast:=by
 induction h with
 |nil=>exact .nil
 |cons r t ih=>
  cases t with
  |nil=>exact .nil
  |cons q t'=>exact .cons r ih
theorem Vals.rep{xs:List V}{us:List Value}(h:Vals xs us):∀k:Nat,Vals (List.replicate k xs).flatten (List.replicate k us).flatten
 |0=> .nil
 |k+1=>by
  rw [uB,uB,vZ,vZ];exact Vals.append h (Vals.rep h k)
theorem xZ{α:Type}(l:List α):l.eraseIdx (l.length-1)=l.dropLast:=by
 induction l with
 |nil=>rfl
 |cons a r ih=>
  cases r with
  |nil=>rfl
  |cons b r=>
   have e:(a::b::r).length-1=((b::r).length-1)+1:=by
    have h1:(a::b::r).length=r.length+2:=rfl;have h2:(b::r).length=r.length+1:=rfl;omega
   rw [e,List.eraseIdx_cons_succ,ih]
   all_goals rfl
theorem foldl_rep(its:List Value):∀(k:Nat)(acc:List Value),
  List.foldl (λx1 x2=>x1++x2) acc.toArray (List.replicate k its.toArray)=(acc++(List.replicate k its).flatten).toArray
 |0,acc=>by simp
 |k+1,acc=>by
  have e:acc.toArray++its.toArray=(acc++its).toArray:=by simp
  have e2:(acc++its)++(List.replicate k its).flatten=acc++(List.replicate (k+1) its).flatten:=by
   rw [uB,vZ,uD]
  rw [←e2,←foldl_rep its k (acc++its),←e,uB,List.foldl_cons]
section
variable {X:Cx} {pins:List (Addr×Obj)} {σ:St} {H:Hp} {s:Shared} {l b:Addr} {xs ys zs:List V}
theorem Inv.Bw{its its':List Value}{n:Nat}{f:Array Value→Array Value}{t':Nat}(I:Inv X pins σ H s)(hH:H l=some (.lst xs))
  (e:s.heap.get? l=some {cls:= .type "list",data:= .seq its.toArray n}) (hf:f its.toArray=its'.toArray) (hv:Vals ys its') (hz:ys.length≤sizeLine):
  Inv X pins σ (upd H l (.lst ys)) {s with heap:=s.heap.update l (Obj.mapSeq f),toks:=t'}:=by
 have q:=PySem.IsL.update e f;rw [hf] at q;refine I.write (x:=l) (e:=l) (by rw [hH];exact trivial) (.inl rfl) (λb' u hb hu=>(Heap.get?_update_other s.heap (Obj.mapSeq f) (Ne.symm hb)).trans hu) ⟨_,q⟩ ?_
 exact ⟨hz,its',_,hv,q⟩
theorem Inv.yu{its:List Value}{t':Nat}(I:Inv X pins σ H s)(hv:Vals ys its)(hz:ys.length≤sizeLine):
  Inv X pins σ (upd H s.heap.objs.size (.lst ys)) {s with heap:=s.heap.push {cls:= .type "list",data:= .seq its.toArray},toks:=t'}:=
 I.laid (λ_ _ q=>Heap.get?_push_of_some _ q) (br _) ⟨hz,its,0,hv,Heap.get?_push_size _ rfl⟩
theorem Inv.fresh(I:Inv X pins σ H s):H s.heap.objs.size=none:=I.hok.fresh (br _)
theorem Inv.mY(I:Inv X pins σ H s)(hH:H l=some (.lst xs)):xs.length≤sizeLine∧∃(its:List Value)(n:Nat),Vals xs its∧xs.length=its.length∧s.heap.get? l=some {cls:= .type "list",data:= .seq its.toArray n}:=by
 obtain ⟨z,its,n,r,e⟩:=I.hok l _ hH;exact ⟨z,its,n,r,r.length,e⟩
theorem vC{n:Nat}(h:n≤sizeLine):Builtin.List.listTooLong n=false:=by
 unfold Builtin.List.listTooLong;exact decide_eq_false (by omega)
end
section
variable {X:Cx}
def Ga:V→List V→Hp→VK→Prop:=λx vs H Q=>∃l xs y,x= .ref l∧vs= [y]∧H l=some (.lst xs)∧xs.length<sizeLine∧Q .bf (upd H l (.lst (xs++ [y])))
theorem nZ:DL X "list.append" Ga:=by
 intro pins s σ H x vs v us Q I rx rv h;obtain ⟨l,xs,y,rfl,rfl,hH,hz,q⟩:=h;cases rx;obtain ⟨u,rfl,ru⟩:=rv.one;obtain ⟨z,its,n,r,hl,e⟩:=I.mY hH;refine call_meets F.slot_list_append ⟨_,e,rfl⟩ F.entry_list_append (F.args_list_append_2 _ _) (PySem.list_append l its.toArray n u (by rw [cB];omega)) ⟨e,?_⟩
 refine ⟨.bf,_,I.Bw (its':=its++ [u]) hH e (by simp) (r.append (.cons ru .nil)) ?_,rfl,q⟩
 rw [cy,uA];omega
def Gb:V→List V→Hp→VK→Prop:=λx vs H Q=>∃l b xs zs,x= .ref l∧vs= [.ref b]∧H l=some (.lst xs)∧H b=some (.lst zs)∧xs.length+zs.length≤sizeLine∧Q .bf (upd H l (.lst (xs++zs)))
theorem An:DL X "list.extend" Gb:=by
 intro pins s σ H x vs v us Q I rx rv h;obtain ⟨l,b,xs,zs,rfl,rfl,hH,hB,hz,q⟩:=h;cases rx;obtain ⟨u,rfl,ru⟩:=rv.one;cases ru;obtain ⟨z,its,n,r,hl,e⟩:=I.mY hH;obtain ⟨z2,qR,n2,r2,UO,e2⟩:=I.mY hB;have rF:its.toArray.size+qR.toArray.size≤sizeLine:=by rw [cB,cB];omega
 have z3:¬(!its.toArray.isEmpty&&Builtin.List.listTooLong (its.toArray.size+qR.toArray.size))=true:=by
  rw [vC rF,Bool.and_false];exact dW
 refine call_meets F.slot_list_extend ⟨_,e,rfl⟩ F.entry_list_extend (F.args_list_extend_2 _ _)
  (AutoSeq1.list_extend_list_list_0 l its.toArray n b qR.toArray n2 z3 (by rw [cB];omega) (by omega)) ⟨e,e2,?_⟩
 refine ⟨.bf,_,I.Bw (its':=its++qR) hH e (by simp) (r.append r2) ?_,rfl,q⟩
 rw [cy];omega
def Ri:V→List V→Hp→VK→Prop:=λx vs H Q=>∃l xs y,x= .ref l∧vs= []∧H l=some (.lst xs)∧xs[xs.length-1]? =some y∧Q y (upd H l (.lst xs.dropLast))
theorem HY:DL X "list.pop" Ri:=by
 intro pins s σ H x vs v us Q I rx rv h;obtain ⟨l,xs,y,rfl,rfl,hH,hy,q⟩:=h;cases rx;have U2:=rv.zero;subst U2;obtain ⟨z,its,n,r,hl,e⟩:=I.mY hH;obtain ⟨u,hu,ru⟩:=r.get hy
 have LP:its.toArray[its.toArray.size-1]? =some u:=by
  show its.toArray[its.length-1]? =some u;rw [←pV,←hl];exact hu
 refine call_meets F.slot_list_pop ⟨_,e,rfl⟩ F.entry_list_pop (F.args_list_pop_1 _) (MeetsSeq.list_pop_last l its.toArray n u LP (by rw [cB];omega)) ⟨e,?_⟩
 refine ⟨y,_,I.Bw (its':=its.dropLast) hH e ?_ r.dropLast ?_,ru,q⟩
 ·show its.toArray.eraseIdxIfInBounds (its.toArray.size-1)=its.dropLast.toArray
  rw [cB,List.eraseIdxIfInBounds_toArray,xZ]
 ·rw [List.length_dropLast]
  omega
def Rb:R2:=λx y H Q=>∃l b xs zs,x= .ref l∧y= .ref b∧H l=some (.lst xs)∧H b=some (.lst zs)∧xs.length+zs.length≤sizeLine∧∀p,H p=none→Q (.ref p) (upd H p (.lst (xs++zs)))
theorem BF:OpR X (binaryOp .Add) Rb:=by
 intro pins s σ H x y v u Q I rx ry h;obtain ⟨l,b,xs,zs,rfl,rfl,hH,hB,hz,q⟩:=h;cases rx;cases ry;obtain ⟨z,its,n,r,hl,e⟩:=I.mY hH;obtain ⟨z2,qR,n2,r2,UO,e2⟩:=I.mY hB;refine PySem.P.add_list e e2 ?_ (by rw [cB,cB];omega)
 have ea:its.toArray++qR.toArray=(its++qR).toArray:=by simp
 rw [ea];exact ⟨.ref _,_,I.yu (t':=s.toks) (r.append r2) (by rw [cy];omega),rfl,q _ I.fresh⟩
def Rj:R2:=λx y H Q=>∃l k xs,x= .ref l∧y= .int k∧H l=some (.lst xs)∧-(2^63)≤k∧k<2^63∧xs.length*k.toNat≤sizeLine∧
 ∀p,H p=none→Q (.ref p) (upd H p (.lst (List.replicate k.toNat xs).flatten))
theorem len_rep{α:Type}(xs:List α)(k:Nat):(List.replicate k xs).flatten.length=k*xs.length:=by
 induction k with
 |zero=>simp
 |succ k ih=>rw [uB,vZ,cy,ih,Nat.succ_mul,Nat.add_comm]
theorem Ir:OpR X (binaryOp .Mult) Rj:=by
 intro pins s σ H x y v u Q I rx ry h;obtain ⟨l,k,xs,rfl,rfl,hH,h1,h2,hz,q⟩:=h;cases rx;obtain ⟨t,rfl⟩:=ry;obtain ⟨z,its,n,r,hl,e⟩:=I.mY hH;have hlen:its.toArray.size*k.toNat≤sizeLine:=by rw [cB,←hl];exact hz
 have OZ:¬its.toArray.size*k.toNat>(2^63-1) / 8:=by
  have:(sizeLine:Nat)≤(2^63-1) / 8:=by decide
  omega
 have ET:¬(!Builtin.List.listFitsIndex k)=true:=by
  rw [fitsIndex_both h1 h2];exact dW
 have z3:¬Builtin.List.listTooLong (its.toArray.size*k.toNat)=true:=by
  rw [vC hlen];exact dW
 have Pe:List.foldl (λx1 x2=>x1++x2) #[] (List.replicate (if its.toArray.isEmpty=true then 0 else k.toNat) its.toArray)=(List.replicate k.toNat its).flatten.toArray:=by
  have f0:∀m:Nat,List.foldl (λx1 x2=>x1++x2) #[] (List.replicate m its.toArray)=(List.replicate m its).flatten.toArray:=λm=>by
   have:=foldl_rep its m []
   rw [kM] at this;exact this
  rw [f0];cases its with
  |nil=>simp
  |cons a r'=>rw [if_neg (by simp)]
 refine wpAny_binaryOp_repeat_ref (T:="list") (U:="int") (by decide) ⟨_,e,rfl⟩ (λs'=>typeIs_int s' k t) noFill_list_mul F.fills_int_mul F.slot_int_rmul repeat_list F.slot_int_index.lookup
  (call_meets F.slot_int_rmul (typeIs_int s k t) F.entry_int_rmul (F.args_int_rmul_2 _ _) (int___rmul___int_list k t l its.toArray n)
   ⟨e,rfl,⟨_,e,rfl⟩,call_meets F.slot_list_mul ⟨_,e,rfl⟩ F.entry_list_mul (F.args_list_mul_2 _ _) (AutoListH.list___mul___list_int_3 l its.toArray n k t ET OZ z3) ⟨e,?_⟩⟩)
 rw [Pe];exact ⟨.ref _,_,I.yu (t':=s.toks) (r.rep k.toNat) (by rw [len_rep,Nat.mul_comm];exact hz),rfl,q _ I.fresh⟩
end
section
variable {prog:Program} {w:World} {A:Around} {E:Value→Shared→Prop} {s:Shared}
end
section
variable {X:Cx}
end
end L2
namespace MR
open PySem PySem.W PySem.Calls PyProof.Rows
theorem ql{P:Params}{h:Heap}:∀(ns:List Int)(vs:List Value),WellAll P h vs (ns.map WData.int)→IntsAre vs ns:=by
 intro ns
 induction ns with
 |nil=>
  intro vs w;rw [List.map_nil] at w;cases w;exact .nil
 |cons n ns ih=>
  intro vs w;rw [iK] at w;cases w with
  |cons a b=>
   cases a;exact .cons _ _ (ih _ b)
theorem AR{l:OpenLaw}{n:Nat}(hn:l.most=some n){P:Params}{h:Heap}{args:List WData}{vals:List Value}
  (Bt:l.row.toRowW.claim.pre args=true) (LN:WellAll P h vals args):
  ∃a vs ns,vals= [Value.ref a]∧args= [WData.list (ns.map WData.int)]∧h.get? a=some {cls:= .type "list",data:= .seq vs.toArray}∧IntsAre vs ns∧ns.length≤n:=by
 have U0:WShape.hasAll [] args [.list .int]=true:=(pre_splitW Bt).1;have hc:l.pre.holds [] {args:=args}=true:=(pre_splitW Bt).2;obtain ⟨d,r,rfl,h1,h2⟩:=hasAllW_cons U0;obtain rfl:=hasAllW_nil h2;obtain ⟨xs,rfl,h3⟩:=hasW_list h1;obtain ⟨ns,rfl⟩:=items_int h3
 have hlen:ns.length≤n:=by
  unfold OpenLaw.pre at hc
  have h4:(WTm.not (.lt (.lit (.int (n:Int))) (.len (.arg 0)))).holds [] {args:= [.list (ns.map .int)]}=true:=by
   have h4:=(holds_andW hc).1;rw [hn] at h4;exact h4
  have h5:=condW_of h4 (w_not (w_lt w_lit (w_len_list (w_arg rfl))));rw [List.length_map] at h5;refine nu λq=>?_;have q':(n:Int)<((ns.length:Nat):Int):=by omega
  first
   | (rw [decide_eq_true q'] at h5;exact absurd h5 (by decide))
   | (simp at h5;omega)
 cases LN with
 |cons w1 w2=>
  cases w2;cases w1 with
  |list ho OX=>exact ⟨_,_,ns,rfl,rfl,ho,ql ns _ OX,hlen⟩
theorem AE(l:OpenLaw)(args:List WData):l.row.toRowW.claim.post args (.bool true) args=true:=
 postW_of (r:=l.row.toRowW) (X:=(true==true))
  (show WShape.has [] (.bool true) .bool=true by first|rfl|decide|simp [WShape.has,WShape.arms,WShape.armsAll])
  (show (WTm.eq .res (.lit (.bool true))).value [] {args:=args,res:=some (.bool true),after:=args}=some (.bool (true==true)) from w_eq_bool (w_res rfl) w_lit) rfl
theorem wj{l:OpenLaw}{n:Nat}{q:Program}{loose:List Str}{XP:(Str→Option Value)→Heap→Prop}{YP:World→Heap→Prop}{d:DefRec}
  (hn:l.most=some n) (zY:d.params.defaults= [])
  (call:∀(w:World)(s₀ s₁:Shared)(mg mb:Str→Option Value)(fa:Addr)(o:Obj)(pm cd doc:Value)(a:Addr)(vs:List Value)(ns:List Int),
   Ground q loose [] XP w s₀ mg mb s₁.heap→YP w s₁.heap→
   s₁.heap.get? fa=some o→o.data= .func (docDef d.name d.params d.body d.scope pm cd doc)→s₁.heap.CodeRec cd d.name→mg d.name=some (.ref fa)→
   s₁.heap.get? a=some {cls:= .type "list",data:= .seq vs.toArray}→IntsAre vs ns→ns.length≤n→s₁.gens= #[]→
   codeAny (model l.prog w) callerA (.call (.ref fa) ⟨[.ref a],[]⟩) (λr s'=>r= .ok (.ret (.bool true))∧OldK s₁.heap s'.heap∧s'.os=s₁.os∧AllBare s'.gens) s₁):
  WalkO q loose XP YP l.row.toRowW d [] (λf vs=>PySem.call f vs):=by
 intro w s₀ s₁ mg mb G Y fa o pm cd doc dV kV ho hd gu hD z4 hg args vals as Bt Yn YF LN YE;obtain rfl:dV= .none:=Dflts.none hD zY;obtain rfl:kV= .none:=Dflts.noKw hD;obtain ⟨a,vs,ns,rfl,rfl,E4,hints,hlen⟩:=AR hn Bt LN;refine enter_call (codeAny_mono (call w s₀ s₁ mg mb fa o pm cd doc a vs ns G Y ho (fd_plain hd) gu z4 E4 hints hlen hg) λr s' hq=>?_);obtain ⟨rfl,h2,h3,h4⟩:=hq;exact ⟨.inl ⟨.bool true, .bool true,[],rfl,λ_=>rfl, .bool true,AE l _,λ_=>⟨List.Pairwise.nil,λ_ hm=>(nomatch hm)⟩⟩,h2,h3,h4⟩
section
variable {prog:Program} {w:World} {A:Around} {E:Value→Shared→Prop} {s:Shared} {K:Frag}
end
end MR
namespace L2
open PySem PySem.Spec PyProof.Rows
theorem kr:∀{vs:List Value}{ns:List Int},IntsAre vs ns→Vals (ns.map V.int) vs
 |_,_, .nil=> .nil
 |_,_, .cons n t h=> .cons ⟨t,rfl⟩ (kr h)
def DM(H:Hp):Prop:=∀b,H b=none∨∃o xs,H b=some (.nP o (.lst xs))
theorem CH{P:Program}{w:World}{K:PySem.W.Frag}{mg mb:Str→Option Value}{CX:p5}{k:Nat}{fa a:Addr}{fd:FuncData}{x:Str}{sp:Sp}{s₁:Shared}{vs:List Value}{ns:List Int}
  (KX:K.In s₁.heap) (tE:s₁.heap.Ns mainGlobals mg) (hb:s₁.heap.Ns builtinsNs mb) (UA:∀x:Str,x≠"__name__"→mb x=bootBuiltins x) (Pb:s₁.heap.NoLimit) (hg:s₁.gens= #[])
  (ha:s₁.heap.get? a=some {cls:= .type "list",data:= .seq vs.toArray}) (hi:IntsAre vs ns) (hl:ns.length≤sizeLine) (hr:cS k callerA)
  (F:∀base:Heap,K.In base→base.Ns mainGlobals mg→FnOk P w K mg base CX k fa fd [x] sp) (Lx:∀(s:Shared)(u:Value),BindsTo s fd ⟨[u],[]⟩ [(x,u)])
  (yh:∀H:Hp,DM H→cD K H a (ns.map V.int)→sp [.ref a] H (λv _=>v= .bl true) λ_ _ _=>False)
  (Lm:∀H e s',CX [] H s₁ (λ_ _ _=>False) e s'→False):
  codeAny (model P w) callerA (.call (.ref fa) ⟨[.ref a],[]⟩) (λr s'=>r= .ok (.ret (.bool true))∧OldK s₁.heap s'.heap∧s'.os=s₁.os∧AllBare s'.gens) s₁:=by
 have rv:=kr hi;have Qa:=hi.length
 have core:∀H:Hp,DM H→cD K H a (ns.map V.int)→gZ P w H s₁.heap→(∀b,H b≠none→b=a)→(H a≠none→K.lookup a=none)→
   codeAny (model P w) callerA (.call (.ref fa) ⟨[.ref a],[]⟩) (λr s'=>r= .ok (.ret (.bool true))∧OldK s₁.heap s'.heap∧s'.os=s₁.os∧AllBare s'.gens) s₁:=by
  intro H hO hS hok hA hK;have xK:∀{b:Addr}{o:Obj},s₁.heap.get? b=some o→H b=none→(oZ s₁.heap H).get? b=some o:=λe n=>Cy e n
  have FA:∀{b:Addr}{o:Obj}{es:Array DictEntry}{ep:Nat},s₁.heap.get? b=some o→o.data= .dict es ep→H b=none:=λ {b o es ep} e d=>by
   cases q:H b with
   |none=>rfl
   |some u=>
    have e':b=a:=hA b (by rw [q];simp)
    subst e';rw [ha] at e;cases e;have d':Data.seq vs.toArray _=Data.dict es ep:=d;cases d'
  have Ic:∀{b:Addr}{m:Str→Option Value},s₁.heap.Ns b m→(oZ s₁.heap H).Ns b m:=λ {b m} ⟨o,es,ep,e,d,r⟩=>⟨o,es,ep,xK e (FA e d),d,r⟩
  have OU:K.In (oZ s₁.heap H):=λb o e=>xK (KX b o e) (by
   cases q:H b with
   |none=>rfl
   |some u=>
    have e':b=a:=hA b (by rw [q];simp)
    subst e';rw [hK (by rw [q];simp)] at e;cases e)
  have hM:Mod K mg (oZ s₁.heap H):=⟨OU,Ic tE,⟨mb,Ic hb,UA⟩,let ⟨mc,h1,h2⟩:=Pb;⟨mc,Ic h1,h2⟩⟩;have e0:Env0 P w K mg (oZ s₁.heap H) callerA [] s₁ H:=⟨rfl,hM,λb o e=>FH e,Nat.le_of_eq (zZ _ _),trivial,λb hb=>absurd (show b∈([]:List Addr) from hb) (by simp),hok, .of_eq hg⟩
  refine codeAny_mono ((F _ OU (Ic tE)).run callerA [] s₁ H ⟨[.ref a],[]⟩ [.ref a] [.ref a] _ _ hr e0 (Lx s₁ (.ref a)) (.cons rfl .nil) (yh H hO hS)) λr s' h=>?_;cases r with
  |error e=>exact (Lm H e s' h).elim
  |ok fl=>
   cases fl with
   |next=>exact False.elim h
   |brk=>exact False.elim h
   |cont=>exact False.elim h
   |ret u=>
    obtain ⟨v,H',os,bare,un,Pj,r',q⟩:=h;have q':v= .bl true:=q;subst q';obtain rfl:u=Value.bool true:=r';refine ⟨rfl,OldK.of_keep λb o e=>?_,os,bare⟩;cases q:H b with
    |none=>exact un.keep b o e q (by intro z;exact absurd (show b∈([]:List Addr) from z) (by simp)) (by simp)
    |some u=>
     rcases hO b with z| ⟨ob,xs,z⟩
     ·rw [q] at z;cases z
     ·have z2:=un.frzs b ob _ z
      obtain ⟨e1,_⟩:=hok b _ z;obtain ⟨e2,_⟩:=Pj b _ z2;rw [e] at e1;cases e1;exact e2
 cases hk:K.lookup a with
 |some o=>
  have e:=KX a o hk;rw [ha] at e;cases e;refine core (λ_=>none) (λ_=> .inl rfl) (.inr ⟨_,vs.toArray,_,hk,rfl,rfl,rfl,by rw [cB,Qa];exact hl,by simpa using rv⟩) (λb u z=>by have z':(none:Option HO)=some u:=z;cases z') (λb z=>absurd rfl z) λz=>absurd rfl z
 |none=>
  refine core (λb=>if b=a then some (.nP {cls:= .type "list",data:= .seq vs.toArray} (.lst (ns.map V.int))) else none) (λb=>?_) (.inl (.inr ⟨{cls:= .type "list",data:= .seq vs.toArray},if_pos rfl⟩)) (λb u z=>?_) (λb z=>?_) λ_=>hk
  ·by_cases hb:b=a
   ·exact .inr ⟨_,_,if_pos hb⟩
   ·exact .inl (if_neg hb)
  ·by_cases hb:b=a
   ·have z':=(if_pos hb).symm.trans z
    cases z';subst hb;exact ⟨ha,by rw [List.length_map];exact hl,vs,_,rv,ha⟩
   ·have z':=(if_neg hb).symm.trans z
    cases z'
  ·by_cases hb:b=a
   ·exact hb
   ·exact absurd (if_neg hb) z
theorem GN{l:PySem.W.OpenLaw}{n k:Nat}{q:Program}{loose:List Str}{XP:(Str→Option Value)→Heap→Prop}{YP:World→Heap→Prop}{d:DefRec}{K:Params→PySem.W.Frag}{CX:World→p5}{sp:World→Sp}{x:Str}
  (hn:l.most=some n) (HF:n≤sizeLine) (zY:d.params.defaults= []) (hr:cS k callerA)
  (hY:∀(w:World)(h:Heap),YP w h→(K w.params).In h)
  (F:∀(w:World)(mg:Str→Option Value)(fa:Addr)(h:Heap),(K w.params).In h→h.Ns mainGlobals mg→mg d.name=some (.ref fa)→
   ∃fd:FuncData,(∀(s:Shared)(u:Value),BindsTo s fd ⟨[u],[]⟩ [(x,u)])∧
    ∀base:Heap,(K w.params).In base→base.Ns mainGlobals mg→FnOk l.prog w (K w.params) mg base (CX w) k fa fd [x] (sp w))
  (yh:∀(w:World)(H:Hp)(a:Addr)(ns:List Int),ns.length≤n→DM H→cD (K w.params) H a (ns.map V.int)→sp w [.ref a] H (λv _=>v= .bl true) λ_ _ _=>False)
  (Lm:∀(w:World)(H:Hp)(s:Shared)(e:Value)(s':Shared),CX w [] H s (λ_ _ _=>False) e s'→False):
  PySem.W.WalkO q loose XP YP l.row.toRowW d [] (λf vs=>PySem.call f vs):=by
 refine MR.wj hn zY λw s₀ s₁ mg mb fa o pm cd doc a vs ns G Y ho hd gu z4 E4 hints hlen hg=>?_;have KX:=hY w _ Y;obtain ⟨fd,hb,hF⟩:=F w mg fa _ KX G.T.g z4;exact CH KX G.T.g G.T.b G.T.builtins G.T.nolimit hg E4 hints (jV hlen HF) hr hF hb (λH hO hS=>yh w H a ns hlen hO hS) λH e s'=>Lm w H s₁ e s'
def inClass(s:Stmt)(j:Nat):Stmt:=match s with
 | .ClassDef _ _ _ body _ _ _ _ _ _ _=>body.getD j (.Pass ⟨0,0,0,0⟩)
 |_=> .Pass ⟨0,0,0,0⟩
def ig(s:Stmt):Arguments:=match s with
 | .FunctionDef _ a _ _ _ _ _ _ _ _=>a
 |_=>{posonlyargs:= [],args:= [],vararg:=none,kwonlyargs:= [],kw_defaults:= [],kwarg:=none,defaults:= []}
def fk(s:Stmt):List Stmt:=match s with
 | .FunctionDef _ _ b _ _ _ _ _ _ _=>b
 |_=> []
def aq(s:Stmt):Scope:=match s with
 | .FunctionDef _ _ _ _ _ _ sc _ _ _=>sc
 |_=>{kind:= .function,names:= [],isGenerator:=false,isCoroutine:=false}
abbrev cP:p5:=λ_ _ _ _ _ _=>False
abbrev E0:XK:=λ_ _ _=>False
theorem AB{X:Cx}:Passes cP X E0:=λ_ _ _ _ _ _ _ h=>h.elim
structure uJ (K:PySem.W.Frag) (x qual:Str) (st:Stmt) (f:Addr) (fd:FuncData):Prop where
 ex:∃(oc:Value)(od:Option Addr)(kV doc pm:Value)(an:Option Addr)(bM ct:Value)(yE:Array (Option Value)),
  fd=PySem.W.fnOf x qual (ig st) (fk st) (aq st) .none kV doc pm an bM ct∧K.lookup f=some ⟨oc,od, .func fd,yE⟩∧PySem.W.codeIn K bM qual=true
 kp:PySem.W.keepIn K (.ref f)=true
section
variable {P:Program} {w:World} {K:PySem.W.Frag} {mg:Str→Option Value} {base:Heap}
theorem uJ.ok{x qual:Str}{st:Stmt}{f:Addr}{fd:FuncData}{N ps:List Str}{k:Nat}{sp:Sp}(F:uJ K x qual st f fd)(S:aL N ps (aq st))(len:∀vs H Q E,sp vs H Q E→vs.length=ps.length)
  (nT:∀(bM:Value)(A:Around)(outer:List Env)(s:Shared)(H:Hp)(vs:List V)(Q:VK)(E:XK),cS k (A.deeper (envOfC qual (aq st) s.heap.objs.size f bM))→sp vs H Q E→
   ∃t,kX (qM cP P w K mg base N qual (aq st) f bM A outer s H E).gK (fk st) t∧t {nx:=λ_ H'=>Q .bf H',rt:=Q} (start N vs) H):FnOk P w K mg base cP (k+1) f fd ps sp:=by
 obtain ⟨oc,od,kV,doc,pm,an,bM,ct,yE,rfl,lk,gu⟩:=F.ex;refine Ld lk gu S len λA outer s H vs Q E hr yh=>?_;obtain ⟨t,h,q⟩:=nT bM A outer s H vs Q E hr yh;exact ⟨t,h.gK,q⟩
theorem uJ.binds{x qual:Str}{st:Stmt}{f:Addr}{fd:FuncData}{ps:List Str}(F:uJ K x qual st f fd)
  (h:∀(kV doc pm:Value)(an:Option Addr)(bM ct:Value)(us:List Value),us.length=ps.length→bindArgs (PySem.W.fnOf x qual (ig st) (fk st) (aq st) .none kV doc pm an bM ct) ⟨us,[]⟩=pure (ps.zip us)):Binds K fd ps []:=by
 obtain ⟨oc,od,kV,doc,pm,an,bM,ct,yE,rfl,lk,gu⟩:=F.ex;exact .all (h kV doc pm an bM ct)
theorem oX{x qual:Str}{st:Stmt}{f:Addr}{oc:Value}{od an:Option Addr}{yE:Array (Option Value)}{kV doc pm bM ct:Value}(l:K.lookup f=some ⟨oc,od, .func (PySem.W.fnOf x qual (ig st) (fk st) (aq st) .none kV doc pm an bM ct),yE⟩)
  (c:PySem.W.codeIn K bM qual=true) (k:PySem.W.keepIn K (.ref f)=true):uJ K x qual st f (PySem.W.fnOf x qual (ig st) (fk st) (aq st) .none kV doc pm an bM ct):=⟨⟨oc,od,kV,doc,pm,an,bM,ct,yE,rfl,l,c⟩,k⟩
end
theorem gy{n:Nat}(h:n≤1000):n<sizeLine:=Nat.lt_of_le_of_lt h (by decide)
section
variable {X:Cx}
theorem pv(i:Nat){x:Str}{pos:Pos}(hN:X.N[i]? =some x:=by rfl)(hv:sC X.env.scope x:=by first|exact Or.inl rfl|exact Or.inr (Or.inl rfl) |exact Or.inr (Or.inr rfl))(hd:(x==("__debug__":Str))=false:=by decide)
  (gu:(x==("__classdict__":Str))=false:=by decide):PE X (.Name x pos) (Kc i):=BH hN hv hd gu
end
theorem cO{A B:Prop}(h:B):if false=true then A else B:=by
 rw [if_neg dW];exact h
theorem ed{A B:Prop}(h:A):if true=true then A else B:=by
 rw [if_pos rfl];exact h
def aH(H H':Hp):Prop:=∀b o,H b=some o→H' b=some o
theorem aH.refl(H:Hp):aH H H:=λ_ _ h=>h
theorem aH.trans{H H1 H2:Hp}(a:aH H H1)(b:aH H1 H2):aH H H2:=λc o h=>b c o (a c o h)
theorem aH.free{H H':Hp}(e:aH H H'){l:Addr}(h:H' l=Option.none):H l=Option.none:=by
 cases q:H l with
 |none=>rfl
 |some o=>
  rw [e l o q] at h;cases h
def gH(env:Env):List (Str×NameKind)→List (Str×Addr)→List (Str×Addr)
 | [],cs=>cs
 | (n,k)::r,cs=>if k==NameKind.free then gH env r ((n,(env.cells.lookup n).getD 0)::cs) else gH env r cs
theorem eY{scope:Scope}{env:Env}(h:∀x∈scope.names,x.2= .free→∃c,env.cells.lookup x.1=some c):closureFor scope env=pure (gH env scope.names []):=by
 simp only [closureFor]
 have go:∀(names:List (Str×NameKind))(cs:List (Str×Addr)),(∀x∈names,x.2= .free→∃c,env.cells.lookup x.1=some c)→
   (forIn names cs λx __s=>if (x.snd==NameKind.free)=true then (do let a ←cellOf env x.fst;pure (ForInStep.yield ((x.fst,a)::__s))) else pure (ForInStep.yield __s))=(pure (gH env names cs):Sem _):=by
  intro names
  induction names with
  |nil=>intro cs _;rfl
  |cons x r ih=>
   intro cs h;obtain ⟨n,k⟩:=x;rw [List.forIn_cons,gH];have hr:=λcs=>ih cs λy hy=>h y (cv _ hy);cases hk:k==NameKind.free with
   |false=>
    simp only [hk,vY,if_false];exact hr cs
   |true=>
    have mM:k= .free:=by simpa using hk
    obtain ⟨c,hc⟩:=h (n,k) b4 mM;simp only at hc;simp only [if_true,cellOf,hc];exact hr _
 rw [go _ _ h];rfl
theorem eX{env:Env}:∀(names:List (Str×NameKind))(cs:List (Str×Addr)),(∀x∈names,x.2= .free→∃c,env.cells.lookup x.1=some c)→(∀x c,cs.lookup x=some c→env.cells.lookup x=some c)→
  ∀x c,(gH env names cs).lookup x=some c→env.cells.lookup x=some c
 | [],cs,_,hc=>hc
 | (n,k)::r,cs,h,hc=>by
  rw [gH]
  split
  ·rename_i hk
   refine eX r _ (λy hy=>h y (cv _ hy)) λx c e=>?_;obtain ⟨c',qj⟩:=h (n,k) b4 (by simpa using hk)
   rw [pW] at e
   split at e
   ·rename_i hx
    have LO:x=n:=by simpa using hx
    subst LO;simp only at qj;rw [qj] at e ⊢;exact e
   ·exact hc x c e
  ·exact eX r cs (λy hy=>h y (cv _ hy)) hc
theorem mh{env:Env}:∀(names:List (Str×NameKind))(cs:List (Str×Addr))(x:Str),((x,NameKind.free)∈names∨∃c,cs.lookup x=some c)→∃c,(gH env names cs).lookup x=some c
 | [],cs,x,h=>by
  rcases h with h|h
  ·cases h
  ·exact h
 | (n,k)::r,cs,x,h=>by
  rw [gH]
  split
  ·rename_i hk
   refine mh r _ x ?_
   by_cases e:x=n
   ·subst e;exact .inr ⟨(env.cells.lookup x).getD 0,by simp [pW]⟩
   ·have ne:(x==n)=false:=by simpa using e
    rcases h with h| ⟨c,h⟩
    ·rcases b9.mp h with z|z
     ·cases z;exact absurd rfl e
     ·exact .inl z
    ·exact .inr ⟨c,by rw [pW,ne];exact h⟩
  ·rename_i hk
   refine mh r cs x ?_
   rcases h with h|h
   ·rcases b9.mp h with z|z
    ·cases z;exact absurd rfl hk
    ·exact .inl z
   ·exact .inr h
def kJ(src:List (Option Nat))(σ:St):St:=src.map λo=>o.bind λi=>(σ[i]?).bind id
def cE(scope:Scope)(XN:List Str):List (Option Nat)→List Str→Prop
 | [],[]=>True
 |none::r,_::n=>cE scope XN r n
 |some i::r,x::n=>XN[i]? =some x∧scope.names.lookup x=some .free∧cE scope XN r n
 |_,_=>False
theorem cE.len{scope:Scope}{XN:List Str}:∀{src:List (Option Nat)}{NC:List Str},cE scope XN src NC→src.length=NC.length
 | [],[],_=>rfl
 |none::r,_::n,h=>by have:=cE.len (src:=r) (NC:=n) h;simp [this]
 |some i::r,_::n,h=>by have:=cE.len (src:=r) (NC:=n) h.2.2;simp [this]
 | [],_::_,h=>h.elim
 |none::_,[],h=>h.elim
 |some _::_,[],h=>h.elim
theorem cE.at{scope:Scope}{XN:List Str}:∀{src:List (Option Nat)}{NC:List Str}{j i:Nat}{x:Str},cE scope XN src NC→src[j]? =some (some i)→NC[j]? =some x→XN[i]? =some x∧scope.names.lookup x=some .free
 | [],[],_,_,_,_,h,_=>by simp at h
 |none::r,_::n,0,_,_,_,h,_=>by simp at h
 |none::r,_::n,j+1,i,x,h,h1,h2=>cE.at (src:=r) (NC:=n) (j:=j) h (by simpa using h1) (by simpa using h2)
 |some k::r,y::n,0,i,x,h,h1,h2=>by
  have e1:k=i:=by simpa using h1
  have e2:y=x:=by simpa using h2
  subst e1 e2;exact ⟨h.1,h.2.1⟩
 |some k::r,_::n,j+1,i,x,h,h1,h2=>cE.at (src:=r) (NC:=n) (j:=j) h.2.2 (by simpa using h1) (by simpa using h2)
 | [],_::_,_,_,_,h,_,_=>h.elim
 |none::_,[],_,_,_,h,_,_=>h.elim
 |some _::_,[],_,_,_,h,_,_=>h.elim
structure bW (X:Cx) (scope:Scope):Prop where
 kind:scope.kind= .function
 names:∀x∈scope.names,x.2= .local→scope.names.lookup x.1=some .local
 nocell:∀x∈scope.names,x.2≠ .cell
 free:∀x∈scope.names,x.2= .free→X.env.kindOf x.1=some .cell∨X.env.kindOf x.1=some .free
theorem gQ{env:Env}:∀(names:List (Str×NameKind))(x:Str),
  (names.map λ(n,k)=>if (k==NameKind.free&&env.scope.kind== .function&&env.kindOf n==some .cell) then (n,NameKind.cell) else (n,k)).lookup x=
   (names.lookup x).map λk=>if (k==NameKind.free&&env.scope.kind== .function&&env.kindOf x==some .cell) then NameKind.cell else k
 | [],_=>rfl
 | (n,k)::r,x=>by
  have ih:=gQ (env:=env) r x;show List.lookup x ((if (k==NameKind.free&&env.scope.kind== .function&&env.kindOf n==some .cell)=true then (n,NameKind.cell) else (n,k))::_)=_;cases hx:x==n with
  |true=>
   have e:x=n:=by simpa using hx
   subst e
   by_cases hc:(k==NameKind.free&&env.scope.kind== .function&&env.kindOf x==some .cell)=true
   ·rw [if_pos hc,pW,pW]
    simp only [hx];show some NameKind.cell=some (if _ then _ else _);rw [if_pos hc]
   ·rw [if_neg hc,pW,pW]
    simp only [hx];show some k=some (if _ then _ else _);rw [if_neg hc]
  |false=>
   by_cases hc:(k==NameKind.free&&env.scope.kind== .function&&env.kindOf n==some .cell)=true
   ·rw [if_pos hc];simp only [pW,hx];exact ih
   ·rw [if_neg hc];simp only [pW,hx];exact ih
theorem mem_lookup{names:List (Str×NameKind)}{x:Str}{k:NameKind}(h:names.lookup x=some k):(x,k)∈names:=PySem.mem_of_lookup h
def bP(X:Cx)(scope:Scope)(NC:List Str)(ex:List Addr)(s:Shared)(H:Hp):Cx:=
 {X with N:=NC,s₀:=s,H₀:=H,env:=compEnvC scope (gH X.env scope.names []) s.heap.objs.size X.env,outer:=X.stack,stack:=X.stack,ex:=ex,fn:=λ_=>false,pn:= [],xe:=λ_ _=>False}
section
variable {X:Cx} {pins:List (Addr×Obj)} {σ:St} {H:Hp} {s:Shared} {scope:Scope} {NC:List Str} {ex:List Addr} {src:List (Option Nat)}
theorem bW.cells(c:bW X scope)(ok:X.Ok):∀x∈scope.names,x.2= .free→∃c,X.env.cells.lookup x.1=some c:=λx hx e=>ok.has x.1 (c.free x hx e)
theorem bW.LZ(c:bW X scope){C:Addr}{x:Str}{k:NameKind}(h:(compEnvC scope (gH X.env scope.names []) C X.env).kindOf x=some k)(hk:k= .cell∨k= .free):scope.names.lookup x=some .free:=by
 have h':(relabel scope X.env).names.lookup x=some k:=h;unfold relabel at h';rw [gQ] at h';cases e:scope.names.lookup x with
 |none=>rw [e] at h';cases h'
 |some k'=>
  have nc:=c.nocell _ (mem_lookup e);rw [e] at h';have h2:(if (k'==NameKind.free&&X.env.scope.kind== .function&&X.env.kindOf x==some .cell) then NameKind.cell else k')=k:=Option.some.inj h'
  by_cases hf:k'= .free
  ·rw [hf]
  ·have hb:(k'==NameKind.free)=false:=by simpa using hf
   rw [hb,uw,uw,if_neg dW] at h2
   rcases hk with z|z
   ·rw [h2] at nc;exact absurd z nc
   ·rw [h2] at hf;exact absurd z hf
theorem Ec(I:Inv X pins σ H s)(c:bW X scope)(hf:∀b∈ex,dY X pins H b)(b0:∀b∈ex,b<s.heap.objs.size):(bP X scope NC ex s H).Ok where
 mod:=I.ok.mod
 kind:=c.kind
 glob:=I.ok.glob
 blt:=I.ok.blt
 above:=br _
 inj:=λx y d h1 h2=>I.ok.inj x y d (eX _ _ (c.cells I.ok) (λ_ _ z=>by cases z) x d h1) (eX _ _ (c.cells I.ok) (λ_ _ z=>by cases z) y d h2)
 has:=λx hx=>mh _ _ x (.inl (mem_lookup (by rcases hx with h|h<;>exact c.LZ h (by simp))))
 cab:=λ_ _ z=>by cases z
 hd:=I.ok.hd
 frames:=I.ok.frames
 stk:= .inl rfl
 exf:=λb hb=>⟨cc (b0 b hb),λx d e=>(hf b hb).2.2.2.2.1 x d (eX _ _ (c.cells I.ok) (λ_ _ z=>by cases z) x d e)⟩
 bs:=I.bs
 bsz:=jV I.ok.bsz I.sz
 noex:=λb o e hb=>by
  rcases (hf b hb).2.2.2.1 with z|z
  ·exact I.ok.noex b o e z
  ·exact absurd (f9 (Heap.lt_size e) (jV I.ok.bsz z)) (fW _)
 exfs:=λb hb z=>(b9.mp (I.xj b z)).elim (hf b hb).2.1 (hf b hb).2.2.1
 funs:=I.stack
 frf:=I.y4
theorem qe{h1:Heap}{tk:Nat}{ob:Obj}(I:Inv X pins σ H s)(c:bW X scope)(dg:cE scope X.N src NC)(hf:∀b∈ex,dY X pins H b)(b0:∀b∈ex,b<s.heap.objs.size)
  (tE:h1.Ns s.heap.objs.size (λ_=>none)) (rE:Heap.SameBut s.heap.objs.size (s.heap.push ob) h1):
  Inv (bP X scope NC ex s H) [] (kJ src σ) H {s with heap:=h1,toks:=tk}:=by
 have old:∀b o,s.heap.get? b=some o→h1.get? b=some o:=λb o e=>rE.extBut b o (cc (Heap.lt_size e)) (Heap.get?_push_of_some _ e);have cl:∀x d,(gH X.env scope.names []).lookup x=some d→X.env.cells.lookup x=some d:=λx d=>eX _ _ (c.cells I.ok) (λ_ _ z=>by cases z) x d
 have cellK:∀d v,s.heap.IsCell d v→h1.IsCell d v:=λd v ⟨o,ho,hd⟩=>⟨o,old d o ho,hd⟩;refine ⟨Ec I c hf b0,rfl,I.bare,Un.kept old,⟨_,tE,λj x v e1 e2 e3=>?_⟩,λx d e=>?_,I.hok.fresh (br _),λx d e=>I.freeC x d (cl x d e),λp hp=>absurd (show p∈([]:List (Addr×Obj)) from hp) (by simp),I.hok.kept old,?_⟩
 ·have iN:(kJ src σ)[j]? =some (some v):=e2
  unfold kJ at iN;rw [eC] at iN;cases ej:src[j]? with
  |none=>rw [ej] at iN;cases iN
  |some o=>
   rw [ej] at iN;cases o with
   |none=>cases iN
   |some i=>
    have e4:(σ[i]?).bind id=some v:=Option.some.inj iN
    have e5:σ[i]? =some (some v):=by
     cases q:σ[i]? with
     |none=>rw [q] at e4;cases e4
     |some z=>rw [q] at e4;exact congrArg some e4
    obtain ⟨hN,LC⟩:=dg.at ej e1;have hk:=c.free _ (mem_lookup LC) rfl;obtain ⟨m,hn,hl⟩:=I.loc;obtain ⟨u,r,l⟩:=hl i x v hN e5 (hk.elim (λz=> .inr (.inl z)) (λz=> .inr (.inr z)));refine ⟨u,r, .inr ⟨?_,?_⟩⟩
    ·show (relabel scope X.env).names.lookup x=_∨(relabel scope X.env).names.lookup x=_
     unfold relabel;rw [gQ,LC]
     by_cases z:(NameKind.free==NameKind.free&&X.env.scope.kind== .function&&X.env.kindOf x==some .cell)=true
     ·left;simp only [Option.map_some,z,if_true]
     ·right;simp only [Option.map_some,z];rfl
    ·obtain ⟨d,hd⟩:=mh (env:=X.env) scope.names [] x (.inl (mem_lookup LC))
     refine ⟨d,hd,?_⟩
     rcases l with ⟨l,_⟩ | ⟨_,d',e,z⟩
     ·exfalso;rcases hk with z|z<;>(rw [l] at z;cases z)
     ·rw [cl x d hd] at e;cases e;exact cellK d _ z
 ·obtain ⟨v,z⟩:=I.cell x d (cl x d e)
  exact ⟨v,cellK d v z⟩
 ·show (kJ src σ).length=NC.length
  unfold kJ;rw [List.length_map];exact dg.len
theorem comp_back{H':Hp}{ay:St}{s':Shared}{h2:Heap}{xf:List (Addr×Obj)}(I:Inv X pins σ H s)(hf:∀b∈ex,dY X pins H b)(J:Inv (bP X scope NC ex s H) xf ay H' s')
  (rE:Heap.SameBut s.heap.objs.size s'.heap h2):Inv X pins σ H' {s' with heap:=h2}:=by
 have up:∀b o,b≠s.heap.objs.size→s'.heap.get? b=some o→h2.get? b=some o:=λb o hb e=>rE.extBut b o hb e;have ne:∀b o,s.heap.get? b=some o→b≠s.heap.objs.size:=λb o e=>cc (Heap.lt_size e);have u:=J.base;refine I.Ko (ch:=ex) (show s'.os=s.os from J.os) ⟨λb o e n hb hx=>up b o (ne b o e) (u.keep b o e n hb hx),λb o e n hb hx=>?_,u.free,λb o e hx=>?_,u.tups,u.frzs,u.tbls⟩ ?_ J.bare λb hb=>?_
 ·obtain ⟨sl,q⟩:=u.slot b o e n hb hx
  exact ⟨sl,up b _ (ne b o e) q⟩
 ·obtain ⟨o',q⟩:=u.there b o e hx
  exact ⟨o',up b o' (ne b o e) q⟩
 ·intro b o e
  have nC:∀b o,H' b=some o→b≠s.heap.objs.size:=λb o e z=>by
   have:=J.free
   rw [z] at e;have e':H' s.heap.objs.size=none:=this;rw [e'] at e;cases e
  refine (J.hok b o e).pP (λd v hd q=>up d v ?_ q) (λ_ q=>q) λ_ _ q=>q
  rcases hd with z|z
  ·rw [z];exact nC b o e
  ·exact nC d _ z
 ·obtain ⟨_,f1,_,f3,f4,f5⟩:=hf b hb
  exact ⟨f3,f1,f4,f5⟩
end
def jg(X:Cx)(ifs:List Expr)(t:TT):Prop:=
 ∀(pins:List (Addr×Obj))(s:Shared)(σ:St)(H:Hp)(Q:Bool→Hp→Prop),Inv X pins σ H s→t σ H Q→
  wpAny (model X.prog X.w) X.A (forIn ifs true λc r=>if r=true then do let ok ←isTrue c X.env (eval c X.env);pure (ForInStep.yield ok) else pure (ForInStep.yield r)) (TP X pins σ Q) X.xe s
def R9:TT:=λ_ H Q=>Q true H
theorem F6{X:Cx}:jg X [] R9:=λ_ _ _ H _ I h=>wpAny_tests_nil ⟨H,I,h⟩
theorem F7{X:Cx}{c:Expr}{t:TT}(h:PT X c t):jg X [c] t:=λpins s σ H Q I q=>wpAny_tests_one (h pins s σ H Q I q)
def Sn(J:It)(g:TG)(tt:TT)(te:TE)(D:Addr)(Q:VK)(σ:St)(H:Hp):Prop:=
 ∃W:Nat→Nat→St→Hp→Prop,(∃m,W 0 m σ H)∧∀i m dX H2,W i m dX H2→
  (J.stop i H2∧Q (.ref D) H2)∨
  (J.go i H2∧∃N:St→Hp→Prop,(∀ay H',N ay H'→∃m',m'<m∧W (i+1) m' ay H')∧∀x H3,J.yld i H2 x H3→g x dX H3 λeF H4=>tt eF H4 λb H5=>
   if b=true then te eF H5 λv H6=>∃ys,H6 D=some (.lst ys)∧ys.length<sizeLine∧N eF (upd H6 D (.lst (ys++ [v]))) else N eF H5)
def I0(wi:TI)(g:TG)(tt:TT)(te:TE)(src:List (Option Nat)):TE:=λσ H Q=>wi σ H λJ H1=>∀D,H1 D=none→Sn J g tt te D Q (kJ src σ) (upd H1 D (.lst []))
section
variable {X:Cx} {elt iter tg:Expr} {ifs:List Expr} {scope:Scope} {pos:Pos} {wi:TI} {g:TG} {tt:TT} {te:TE} {src:List (Option Nat)} {NC:List Str}
theorem qJ{pins:List (Addr×Obj)}{σ:St}{s2:Shared}{H2:Hp}{it:Addr}{fp:List Addr}{tn:Nat→Heap→Prop}{J:It}{RR:Value→Addr→Result→Shared→Prop}{E:Value→Shared→Prop}{Q:VK}
  (hc:X.calm=true) (c:bW X scope) (dg:cE scope X.N src NC) (I2:Inv X pins σ H2 s2) (T:Turn X.prog X.w X.K tg J fp it tn) (kT:tn 0 s2.heap) (f2:∀b∈fp,dY X pins H2 b)
  (hg:∀s H,PG (bP X scope NC fp s H) tg g) (ht:∀s H,jg (bP X scope NC fp s H) ifs tt) (he:∀s H,PE (bP X scope NC fp s H) elt te)
  (hW:∀D,H2 D=none→∃W:Nat→Nat→St→Hp→Prop,(∃m,W 0 m (kJ src σ) (upd H2 D (.lst [])))∧∀i m dX H2,W i m dX H2→
   (J.stop i H2∧Q (.ref D) H2)∨
   (J.go i H2∧∃N:St→Hp→Prop,(∀ay H',N ay H'→∃m',m'<m∧W (i+1) m' ay H')∧∀x H3,J.yld i H2 x H3→g x dX H3 λeF H4=>tt eF H4 λb H5=>
    if b=true then te eF H5 λv H6=>∃ys,H6 D=some (.lst ys)∧ys.length<sizeLine∧N eF (upd H6 D (.lst (ys++ [v]))) else N eF H5))
  (Lp:∀D s3 H3 ay H' s',Inv X pins σ H3 s3→(∀b∈fp,dY X pins H3 b)→Inv (bP X scope NC fp s3 H3) [] ay H' s'→Q (.ref D) H'→RR (.ref D) s3.heap.objs.size (.ok .next) s'):
  wpAny (model X.prog X.w) X.A (newList []) (λacc GD=>wpAny (model X.prog X.w) X.A (newFunctionEnv scope X.env.globals (gH X.env scope.names []) [] X.env.qual none .none (some X.env)) (λiP pQ=>
   codeAny (model X.prog X.w) X.A (.compStart (.ListComp elt [⟨tg,iter,ifs,0⟩] scope pos) 0 (.ref it) acc {iP with scope:=relabel scope X.env}) (RR acc iP.locals) pQ) E GD) E s2:=by
 obtain ⟨W,⟨m0,w0⟩,turn⟩:=hW s2.heap.objs.size I2.fresh;have I3:Inv X pins σ (upd H2 s2.heap.objs.size (.lst [])) {s2 with heap:=s2.heap.push {cls:= .type "list",data:= .seq ([]:List Value).toArray}}:=I2.yu (its:= []) (t':=s2.toks) .nil (cn _)
 have yw:∀b∈fp,b<s2.heap.objs.size:=λb hb=>by
  obtain ⟨o,e,_⟩:=T.obj _ _ kT b hb;exact Heap.lt_size e
 have f3:∀b∈fp,dY X pins (upd H2 s2.heap.objs.size (.lst [])) b:=λb hb=>⟨by rw [aD (cc (yw b hb))];exact (f2 b hb).1,(f2 b hb).2⟩
 refine wpAny_newObj_type ?_
 suffices key:∀s3:Shared,Inv X pins σ (upd H2 s2.heap.objs.size (.lst [])) s3→(∀b o,s2.heap.get? b=some o→s3.heap.get? b=some o)→
   wpAny (model X.prog X.w) X.A (newFunctionEnv scope X.env.globals (gH X.env scope.names []) [] X.env.qual none .none (some X.env)) (λiP pQ=>
    codeAny (model X.prog X.w) X.A (.compStart (.ListComp elt [⟨tg,iter,ifs,0⟩] scope pos) 0 (.ref it) (.ref s2.heap.objs.size) {iP with scope:=relabel scope X.env}) (RR (.ref s2.heap.objs.size) iP.locals) pQ) E s3 from
  key _ I3 λb o e=>Heap.get?_push_of_some _ e
 intro s3 I3 GK;have uj:tn 0 s3.heap:=T.keep _ _ _ kT λb _ o e=>GK b o e
 have tP:∀b∈fp,b<s3.heap.objs.size:=λb hb=>by
  obtain ⟨o,e,_⟩:=T.obj _ _ uj b hb;exact Heap.lt_size e
 generalize OT:upd H2 s2.heap.objs.size (.lst [])=H3 at I3 f3 w0;refine wpAny_newFunctionEnv c.nocell (by intro y hy;simp at hy) (λh1 tE rE=>?_) c.kind
 have I4:=qe (src:=src) (NC:=NC) (ex:=fp) (tk:=s3.toks+([]:List (Str×Value)).length) I3 c dg f3 tP tE rE;have y2:tn 0 h1:=T.keep _ _ _ uj λb hb o e=>rE.extBut b o (cc (tP b hb)) (Heap.get?_push_of_some _ e);generalize hX:bP X scope NC fp s3 H3=XC at I4
 have stat:∀{H':Hp},(∀b∈fp,H' b=none)→∀b∈fp,dY XC [] H' b:=λ {H'} hn b hb=>by
  subst hX;refine ⟨hn b hb,cc (tP b hb),λz=>?_, .inl hb,λx d e=>?_,λp hp=>absurd (show p∈([]:List (Addr×Obj)) from hp) (by simp)⟩
  ·exact (I4.ok.exfs b hb) z
  ·exact (I4.ok.exf b hb).2 x d e
 have loop:codeAny (model X.prog X.w) X.A (.compLoop (.ListComp elt [⟨tg,iter,ifs,0⟩] scope pos) 0 (.ref it) (.ref s2.heap.objs.size) XC.env) (RR (.ref s2.heap.objs.size) s3.heap.objs.size)
   {s3 with heap:=h1,toks:=s3.toks+([]:List (Str×Value)).length}:=by
  refine codeAny_loop rfl (λn s'=>∃i ay H',Inv XC [] ay H' s'∧tn i s'.heap∧(∀b∈fp,H' b=none)∧W i n ay H') (λn s' hI=>?_) m0 ⟨0,_,_,I4,y2,λb hb=>(f3 b hb).1,w0⟩;obtain ⟨i,ay,H',I5,oj,qi,w5⟩:=hI;show wpAny _ X.A ((compTurn (.ListComp elt [⟨tg,iter,ifs,0⟩] scope pos) 0 (.ref it) (.ref s2.heap.objs.size) XC.env).onRaise (λx=>do noteFrame x XC.env;theTreesLotGoes x)) _ _ s'
  refine wpAny_noted ?_;rw [compTurn_list]
  have gK:∀{α:Type}{t:Sem α}{Q:α→Shared→Prop}{E:Value→Shared→Prop}{s:Shared},wpAny (model XC.prog XC.w) XC.A t Q XC.xe s→wpAny (model X.prog X.w) X.A t Q E s:=λ {α t Q E s} h=>by
   subst hX;exact wpAny_mono h (λ_ _ q=>q) λ_ _ f=>f.elim
  have uQ:XC.calm=true:=by subst hX;exact hc
  have eP:XC.prog=X.prog:=by subst hX;rfl
  have ew:XC.w=X.w:=by subst hX;rfl
  have eK:XC.K=X.K:=by subst hX;rfl
  have eA:XC.A=X.A:=by subst hX;rfl
  have EW:PG XC tg g:=by subst hX;exact hg _ _
  have E9:jg XC ifs tt:=by subst hX;exact ht _ _
  have ES:PE XC elt te:=by subst hX;exact he _ _
  refine wpAny_bind (wpAny_standAt (wpAny_bind ?_))
  rcases turn i n ay H' w5 with ⟨stop,qn⟩ | ⟨go,N,hN,step⟩
  ·have hd:=T.done XC eP ew eK uQ i [] s' ay H' (notedBy (model X.prog X.w) X.A XC.env λe s'=>RR (.ref s2.heap.objs.size) s3.heap.objs.size (.error e) s') I5 (stat qi) oj stop
   rw [eA] at hd;refine thn hd λr s6 ⟨hr,I6⟩=>?_;subst hr;refine wpAny_pure ?_;subst hX;exact Lp _ s3 H3 ay H' s6 I3 f3 I6 qn
  ·have hd:=T.item XC eP ew eK uQ i [] s' ay H' (notedBy (model X.prog X.w) X.A XC.env λe s'=>RR (.ref s2.heap.objs.size) s3.heap.objs.size (.error e) s') I5 (stat qi) oj go
   rw [eA] at hd;refine thn hd λr s6 ⟨u,hr,h6⟩=>?_;subst hr;refine wpAny_bind (thn h6 λ_ s7 ⟨x,H7,I7,r7,y7,om,zO⟩=>?_);have zo:=I7.pinned (stat zO) (T.obj _ _ om)
   have again:∀{dH:St}{H8:Hp}{s8:Shared},Inv XC ([]++iX fp s7.heap) dH H8 s8→N dH H8→∃m,m<n∧∃i ay H',Inv XC [] ay H' s8∧tn i s8.heap∧(∀b∈fp,H' b=none)∧W i m ay H':=λ {dH H8 s8} I8 n8=>by
    obtain ⟨m',hm,w8⟩:=hN dH H8 n8;refine ⟨m',hm,i+1,dH,H8,I8.gz,T.keep _ _ _ om λb hb o e=>(I8.pin (b,o) (eW _ (eW _ (cH hb e)))).1,λb hb=>?_,w8⟩;obtain ⟨o,e,d⟩:=T.obj _ _ om b hb;exact (I8.pin (b,o) (eW _ (eW _ (cH hb e)))).2.1
   refine wpAny_bind (gK (thn (EW _ s7 ay H7 x u _ zo r7 (step x H7 y7)) λ_ s8 ⟨dH,H8,I8,q8⟩=>?_));refine wpAny_bind (gK (thn (E9 _ s8 dH H8 _ I8 q8) λb s9 ⟨H9,I9,q9⟩=>?_));cases b with
   |false=>
    rw [if_neg dW] at q9;exact wpAny_pure ⟨by subst hX;rfl,again I9 q9⟩
   |true=>
    rw [if_pos rfl] at q9;refine wpAny_bind (wpAny_bind (gK (thn (ES _ s9 dH H9 _ I9 q9) λy Gk ⟨v,DD,Kg,Mn,ys,hD,hz,Ml⟩=>?_)));refine wpAny_bind (gK (thn (nZ _ Gk dH DD (.ref s2.heap.objs.size) [v] _ [y] (λ_ H'=>N dH H') Kg rfl (.cons Mn .nil) ⟨_,ys,v,rfl,rfl,hD,hz,Ml⟩) λ_ AN ⟨_,DH,zk,_,Mm⟩=>?_));exact wpAny_pure (wpAny_pure ⟨by subst hX;rfl,again zk Mm⟩)
 subst hX;exact codeAny_compStart_list loop (T.self _ 0 _ _ _ y2 loop)
theorem FQ(hc:X.calm=true)(c:bW X scope)(dg:cE scope X.N src NC)(hi:PI X tg iter wi)
  (hg:∀ex s H,PG (bP X scope NC ex s H) tg g) (ht:∀ex s H,jg (bP X scope NC ex s H) ifs tt) (he:∀ex s H,PE (bP X scope NC ex s H) elt te)
  (hs:∀x,foldedSetIterable iter X.env x=pure x:=by intro _;rfl):PE X (.ListComp elt [⟨tg,iter,ifs,0⟩] scope pos) (I0 wi g tt te src):=by
 intro pins s σ H Q I h;rw [eval_ListComp];refine wpAny_comprehension_free (use:=none) rfl hs (eY (c.cells I.ok)) c.kind c.names (thn (hi pins s σ H _ I h) λv s1 h1=>thn h1 λyo s2 h2=>?_);obtain ⟨it,fp,tn,J,H2,rfl,I2,T,kT,f2,hW⟩:=h2;refine qJ (RR:=λacc C=>compPost (model X.prog X.w) X.A X.xe none (EP X pins σ Q) acc C) (Q:=Q) hc c dg I2 T kT f2 (hg fp) (ht fp) (he fp) hW ?_;intro D s3 H3 ay H' s' I3 f3 J' q;obtain ⟨m,hn,_⟩:=J'.loc;exact ⟨m,hn,λh' sb=>⟨.ref D,H',comp_back I3 f3 J' sb,rfl,q⟩⟩
def IZ(wi:TI)(g:TG)(tt:TT)(te:TE)(src:List (Option Nat))(i:Nat):TS:=λD σ H=>I0 wi g tt te src σ H λv H'=>D.nx (σ.set i (some v)) H'
theorem vL{i:Nat}{x:Str}{px gM:Pos}(hc:X.calm=true)(hN:X.N.Nodup)(lF:X.N[i]? =some x)(hx:Loc X.env.scope x)(c:bW X scope)(dg:cE scope X.N src NC)(hi:PI X tg iter wi)
  (hg:∀ex s H,PG (bP X scope NC ex s H) tg g) (ht:∀ex s H,jg (bP X scope NC ex s H) ifs tt) (he:∀ex s H,PE (bP X scope NC ex s H) elt te)
  (j6:swapsWith (.ListComp elt [⟨tg,iter,ifs,0⟩] scope pos) (some (.Name x px)) gM.line X.env=pure true)
  (hf:X.fn x=true∨X.env.scope.names.lookup x=some .local:=by first|exact .inl rfl|exact .inr rfl|assumption)
  (hs:∀x,foldedSetIterable iter X.env x=pure x:=by intro _;rfl):PS X (.Assign [.Name x px] (.ListComp elt [⟨tg,iter,ifs,0⟩] scope pos) gM) (IZ wi g tt te src i):=by
 intro pins s σ H D I h;rw [exec_Assign_Name_used _ _ _ _ j6];refine wpAny_bind (wpAny_standAt (wpAny_bind ?_));show wpAny _ X.A (do let _ ←comprehension (.ListComp elt [⟨tg,iter,ifs,0⟩] scope pos) scope X.env _ (newList []) false (eval iter X.env) (some (assign (.Name x px) X.env))) _ _ s
 refine wpAny_bind (wpAny_mono (wpAny_comprehension_free (use:=some (assign (.Name x px) X.env)) (Q:=λ_ s'=>SP X pins D .next s') rfl hs (eY (c.cells I.ok)) c.kind c.names
  (thn (hi pins s σ H _ I h) λv s1 h1=>thn h1 λyo s2 h2=>?_)) (λ_ s' hq=>wpAny_pure (wpAny_pure hq)) λ_ _ e=>e)
 obtain ⟨it,fp,tn,J,H2,rfl,I2,T,kT,f2,hW⟩:=h2;refine qJ (RR:=λacc C=>compPost (model X.prog X.w) X.A X.xe (some (assign (.Name x px) X.env)) (λ_ s'=>SP X pins D .next s') acc C) (Q:=λv H'=>D.nx (σ.set i (some v)) H') hc c dg I2 T kT f2 (hg fp) (ht fp) (he fp) hW ?_;intro a s3 H3 ay H' s' I3 f3 J' q;obtain ⟨m,hn,_⟩:=J'.loc;have IX:Inv X pins σ H' s':=comp_back I3 f3 J' (.refl ..);show wpAny _ X.A (assign (.Name x px) X.env (.ref a)) _ _ _;have nL:s3.heap.objs.size≠X.env.locals:=Nat.ne_of_gt I3.lt
 have nc:∀y d,X.env.cells.lookup y=some d→d≠s3.heap.objs.size:=λy d e z=>by
  obtain ⟨v,hv⟩:=I3.cell y d e
  have:=hv.lt
  rw [z] at this;exact absurd this (fW _)
 have np:∀p∈X.pn++pins,p.1≠s3.heap.objs.size:=λp hp z=>by
  have:=Heap.lt_size (I3.pin p hp).1
  rw [z] at this;exact absurd this (fW _)
 obtain ⟨oC,es,ep,LM,zX,rC⟩:=id hn;have EJ:H' s3.heap.objs.size=none:=J'.free
 have IP:Inv X ((s3.heap.objs.size,oC)::pins) σ H' s':=IX.jI λp hp=>by
  rcases b9.mp hp with z|z
  ·rw [z]
   exact ⟨LM,EJ,nL,I3.FC (br _),λv w=>by rw [zX] at w;cases w⟩
  ·exact IX.pin p (eW _ z)
 refine wpAny_assign_Name (mE (x:=x) IP hN lF hx (v:= .ref a) rfl (λs5 I5=>?_) hf);have Ll:=(I5.pin (s3.heap.objs.size,oC) (eW _ b4)).1;refine ⟨m,⟨oC,es,ep,Ll,zX,rC⟩,λh6 sb=>?_⟩;have DJ:Inv X pins (σ.set i (some (.ref a))) H' s5:=I5.jI λp hp=>I5.pin p (eW _ (cv _ hp));exact ⟨_,H',DJ.turned (t':=s5.toks) (it:=s3.heap.objs.size) (λb o hb e=>sb.extBut b o hb e) EJ nL (.inr I3.sz) nc np,q⟩
end
section
variable {X:Cx} {pins:List (Addr×Obj)} {σ:St} {H:Hp} {s:Shared} {h':Heap} {fp:List Addr}
theorem Inv.zb{t':Nat}(I:Inv X pins σ H s)(hf:∀b∈fp,dY X pins H b)(k:∀b o,b∉fp→s.heap.get? b=some o→h'.get? b=some o):Inv X pins σ H {s with heap:=h',toks:=t'}:=by
 refine I.step (g':=s.gens) (d':=s.drawn) (ch:=fp) (λb hb=>?_) (λb o _ _ hc e _=>k b o hc e) (λb o _ _ hc e _=>⟨o.slots,k b o hc e⟩) (λ_ _ _ _ n=>n)
  (λb o hc e=>⟨o,k b o hc e⟩) (λ_ _ e=>e) (λ_ _ _ e=>e) (λb ps e=>⟨#[],by rw [e];simp⟩) (λm hm=>?_) (λb u e=>?_) I.bare
 ·obtain ⟨_,f1,_,f3,f4,f5⟩:=hf b hb
  exact ⟨f3,f1,f4,f5⟩
 ·obtain ⟨o,es,ep,ho,r⟩:=hm
  exact ⟨o,es,ep,k _ o (λz=>(hf _ z).2.1 rfl) ho,r⟩
 ·have nf:∀b u,H b=some u→b∉fp:=λb u e z=>by rw [(hf b z).1] at e;cases e
  refine (I.hok b u e).pP (λc v hc q=>k c v ?_ q) (λ_ q=>q) λ_ _ q=>q
  rcases hc with z|z
  ·rw [z];exact nf b u e
  ·exact nf c _ z
theorem Inv.GJ{t':Nat}{t:Addr}{o:HO}(I:Inv X pins σ H s)(hf:∀b∈fp,dY X pins H b)(k:∀b o,b∉fp→s.heap.get? b=some o→h'.get? b=some o)(ht:s.heap.objs.size≤t)
  (new:cJ X.prog X.w (upd H t o) h' t o):Inv X pins σ (upd H t o) {s with heap:=h',toks:=t'}:=by
 have nt:H t=none:=I.hok.fresh ht;have up:∀b u,H b=some u→upd H t o b=some u:=λb u e=>by rw [aD (aT e nt)];exact e
 refine I.step (g':=s.gens) (d':=s.drawn) (ch:=fp) (λb hb=>?_) (λb o _ _ hc e _=>k b o hc e) (λb o _ _ hc e _=>⟨o.slots,k b o hc e⟩) (λb o _ e n=>?_)
  (λb o hc e=>⟨o,k b o hc e⟩) (λb xs e=>up b _ e) (λb _ _ e=>up b _ e) (λb ps e=>⟨#[],by rw [up b _ e];simp⟩) (λm hm=>?_) (λb u e=>?_) I.bare
 ·obtain ⟨_,f1,_,f3,f4,f5⟩:=hf b hb
  exact ⟨f3,f1,f4,f5⟩
 ·rw [aD (cc (f9 (Heap.lt_size e) ht))];exact n
 ·obtain ⟨o,es,ep,ho,r⟩:=hm
  exact ⟨o,es,ep,k _ o (λz=>(hf _ z).2.1 rfl) ho,r⟩
 ·by_cases hb:b=t
  ·subst hb
   rw [aB] at e;cases e;exact new
  ·rw [aD hb] at e
   have nf:∀b u,H b=some u→b∉fp:=λb u e z=>by rw [(hf b z).1] at e;cases e
   refine (I.hok b u e).pP (λc v hc q=>k c v ?_ q) (λb' q=>up b' _ q) λb' _ q=>up b' _ q
   rcases hc with z|z
   ·rw [z];exact nf b u e
   ·exact nf c _ z
end
def Ki(K:PySem.W.Frag)(a:Addr):It:=
 ⟨λi H=>∃xs x,cD K H a xs∧xs[i]? =some x,λi H y H'=>∃t x,y= .ref t∧H t=none∧H'=upd H t (.tup [.int i,x])∧∀xs,cD K H a xs→xs[i]? =some x,λi H=>∃xs,cD K H a xs∧xs.length≤i⟩
theorem yn{h:Heap}{t:Addr}{u v:Value}(e:h.get? t=some {cls:= .type "tuple",data:= .seq #[u,v]}):IsTup h t [u,v].toArray:=⟨_,e,rfl,_,rfl⟩
theorem A3{P:Program}{w:World}{K:PySem.W.Frag}{es:List Expr}{k1}{tp:Pos}(a e it:Addr)(ne:e≠it):
  Turn P w K (.Tuple es k1 tp) (Ki K a) [e,it] e (λi h=>(∃old,IsEnum h e it i old)∧h.IsListIter it a i) where
 mem:=by simp
 obj:=λi h st b hb=>by
  obtain ⟨⟨old,he⟩,o,e2,c,d⟩:=st
  rcases b9.mp hb with z|z
  ·subst z
   exact ⟨_,he,λv w=>by cases w⟩
  ·have z':b=it:=by simpa using z
   subst z';exact ⟨o,e2,λv z=>by rw [d] at z;cases z⟩
 keep:=λi h h' st k=>by
  obtain ⟨⟨old,he⟩,kT⟩:=st;exact ⟨⟨old,k e (by simp) _ he⟩,kT.at λo q=>k it (by simp) o q⟩
 item:=by
  intro X hP hw hK hc i pins s σ H E I hf st hg;subst hP hw hK;obtain ⟨xs,x,hq,hx⟩:=hg;obtain ⟨its,rv,p,hz⟩:=I.list hq;obtain ⟨u,hu,ru⟩:=rv.get hx;obtain ⟨⟨old,he⟩,hit⟩:=st;refine wpAny_pyNext_enum_item he hit p.isList (x:=u) (by simpa using hu) ne λh' Lz EX U1 Yp kk=>?_
  have k2:∀b o,b∉ [e,it]→s.heap.get? b=some o→h'.get? b=some o:=λb o hb q=>kk b o (λz=>hb (by simp [z])) (λz=>hb (by simp [z])) q
  have I1:Inv X pins σ (upd H s.heap.objs.size (.tup [.int i,x])) {s with heap:=h',toks:=s.toks+1}:=
   I.GJ hf k2 (br _) ⟨by show 2≤sizeLine;decide,[.int i s.toks,u], .cons ⟨_,rfl⟩ (.cons ru .nil),yn U1⟩
  refine ⟨_,rfl,wpAny_letOwnedTupleGo_enum Lz λh2 UG sb=>?_⟩
  have lt:∀b∈ [e,it],b<s.heap.objs.size:=λb hb=>by
   rcases b9.mp hb with z|z
   ·rw [z];exact Heap.lt_size he
   ·obtain ⟨o,e2,_⟩:=hit
    have z':b=it:=by simpa using z
    rw [z'];exact Heap.lt_size e2
  have O6:∀b∈ [e,it],dY X pins (upd H s.heap.objs.size (.tup [.int i,x])) b:=λb hb=>⟨by rw [aD (cc (lt b hb))];exact (hf b hb).1,(hf b hb).2⟩
  refine ⟨.ref s.heap.objs.size,_,I1.zb (t':=s.toks+1) O6 (λb o hb q=>sb.extBut b o (λz=>hb (by simp [z])) q),rfl,⟨_,x,rfl,I.hok.fresh (br _),rfl,λys hy=>by rw [I.vz hy hq];exact hx⟩,⟨⟨u,?_⟩,EX.extBut sb.extBut (Ne.symm ne)⟩,λb hb=>(O6 b hb).1⟩
  have z:((i+1:Nat):Int)=(i:Int)+1:=by omega
  rw [z];exact UG
 done:=by
  intro X hP hw hK hc i pins s σ H E I hf st hg;subst hP hw hK;obtain ⟨xs,hq,hx⟩:=hg;obtain ⟨its,rv,p,hz⟩:=I.list hq;have hl:=rv.length;obtain ⟨⟨old,he⟩,hit⟩:=st;exact wpAny_pyNext_enum_end (I.ok.hd hc) he hit p.isList (by simp;omega) λh' eb=>⟨rfl,I.zb (t':=s.toks) hf λb o hb q=>eb b o (λz=>hb (by simp [z])) q⟩
 self:=λ_ _ _ _ _ st h=>by
  obtain ⟨⟨old,he⟩,_⟩:=st;exact wpAny_pyIter_enum he h
section
variable {X:Cx}
def LS(K:PySem.W.Frag)(ta:TA):TI:=λσ H R=>ta σ H λvs H1=>∃a,vs= [.ref a]∧(∃xs,H1 a=some (.lst xs))∧R (Ki K a) H1
theorem FX{a:Expr}{ta:TA}{p pos:Pos}{es:List Expr}{k1}{tp:Pos}(hg:Gl X "enumerate")(hm:X.mg "enumerate"=none)(ha:PA X [a] ta)(hs:starEach [a] X.env= [(false,eval a X.env)]:=by rfl):
  PI X (.Tuple es k1 tp) (.Call (.Name "enumerate" p) [a] [] pos) (LS X.K ta):=by
 intro pins s σ H R I h;refine Call_ (g7 I hg hm boot_enumerate (PyProof.Rows.callWith_type1 (thn (ha pos pins s σ H _ I h) λus s1 ⟨vs,H1,I1,r1,q1⟩=>?_) hs rfl));obtain ⟨l,e,⟨xs,hl⟩,q⟩:=q1;subst e;obtain ⟨u,rfl,ru⟩:=r1.one;cases ru;obtain ⟨z,its,n,rv,hlen,e⟩:=I1.mY hl;refine call_enumerate_1 e λh' he hit rF kk=>?_;refine wpAny_pyIter_enum he ?_;have wO:s1.heap.objs.size+1≠s1.heap.objs.size:=Nat.succ_ne_self _;refine ⟨s1.heap.objs.size+1,[s1.heap.objs.size+1,s1.heap.objs.size],_,_,H1,rfl,I1.kept (t':=s1.toks) kk,A3 l _ _ wO,⟨⟨_,he⟩,hit⟩,λb hb=>?_,q⟩
 have HB:s1.heap.objs.size≤b:=by
  rcases b9.mp hb with z|z
  ·rw [z];exact pY _
  ·have z':b=s1.heap.objs.size:=by simpa using z
   rw [z'];exact br _
 exact I1.EE HB (I1.hok.fresh HB)
end
end L2
namespace Wb
abbrev W:=List (List Nat)
def row(w:W)(p:Nat):List Nat:=w.getD p []
inductive Reach (w:W):Nat→Nat→Prop
 |refl (p):Reach w p p
 |step {p q r}:Reach w p q→r∈row w q→Reach w p r
structure Good (w:W):Prop where
 rng:∀p q,q∈row w p→q<w.length
 irr:∀p,p∉row w p
 nod:∀p,(row w p).Nodup
 sym:∀p q,q∈row w p→p∈row w q
 con:∀p,p<w.length→Reach w 0 p
theorem bG{w:W}{p q:Nat}(h:q∈row w p):p<w.length:=by
 apply Classical.byContradiction;intro hn;unfold row at h;rw [aJ,i9 (by omega)] at h
 simp at h
theorem yQ{w:W}{p:Nat}(h:p<w.length):w[p]? =some (row w p):=by
 unfold row;rw [aJ,bq h];rfl
theorem BQ{w:W}{p:Nat}{r:List Nat}(h:w[p]? =some r):row w p=r:=by
 unfold row;rw [aJ,h];rfl
theorem yR{w:W}{p:Nat}(h:w.length≤p):row w p= []:=by
 unfold row;rw [aJ,i9 h];rfl
theorem Reach.trans{w:W}{p q r:Nat}(h:Reach w p q)(h':Reach w q r):Reach w p r:=by
 induction h' with
 |refl=>exact h
 |step _ hr ih=>exact .step ih hr
theorem Reach.symm{w:W}(hs:∀p q,q∈row w p→p∈row w q){p q:Nat}(h:Reach w p q):Reach w q p:=by
 induction h with
 |refl=>exact .refl _
 |step _ hr ih=>exact (Reach.step (.refl _) (hs _ _ hr)).trans ih
theorem Reach.mono{w w':W}(hm:∀p q,q∈row w p→q∈row w' p){p q:Nat}(h:Reach w p q):Reach w' p q:=by
 induction h with
 |refl=>exact .refl _
 |step _ hr ih=>exact .step ih (hm _ _ hr)
def ins{α:Type}(xs:List α)(i:Nat)(x:α):List α:=xs.take i++x::xs.drop i
theorem qk{α:Type}(xs:List α)(i:Nat)(x:α):(ins xs i x).Perm (x::xs):=by
 unfold ins;have h:= @List.perm_middle _ x (xs.take i) (xs.drop i);rw [jT] at h;exact h
theorem Ft{α:Type}{xs:List α}{i:Nat}{x a:α}:a∈ins xs i x↔a=x∨a∈xs:=by
 rw [(qk xs i x).mem_iff,b9]
theorem Aq{α:Type}{xs:List α}{i:Nat}{x:α}(h:xs.Nodup)(hx:x∉xs):(ins xs i x).Nodup:=by
 rw [(qk xs i x).nodup_iff,gf];exact ⟨hx,h⟩
theorem yk{α:Type}(xs:List α)(i:Nat)(x:α):(ins xs i x).length=xs.length+1:=by
 rw [(qk xs i x).length_eq];rfl
theorem good_ren{w w':W}{ord:Nat→Nat}(g:Good w)(hl:w'.length=w.length)(into:∀p,p<w.length→ord p<w.length)
  (inj:∀p q,p<w.length→q<w.length→ord p=ord q→p=q) (Ds:∀y,y<w.length→∃p,p<w.length∧ord p=y)
  (JS:∀p,p<w.length→(row w' (ord p)).Perm ((row w p).map ord)):Good w':=by
 have mem:∀p q,p<w.length→(q∈row w' (ord p)↔∃a,a∈row w p∧ord a=q):=λp q hp=>by
  rw [(JS p hp).mem_iff,bx]
 have reach:∀{p q},Reach w p q→Reach w' (ord p) (ord q):=λ {p q} h=>by
  induction h with
  |refl=>exact .refl _
  |step _ hr ih=>exact .step ih ((mem _ _ (bG hr)).mpr ⟨_,hr,rfl⟩)
 refine ⟨λy q hy=>?_,λy hy=>?_,λy=>?_,λy q hy=>?_,λy hy=>?_⟩
 ·obtain ⟨p,hp,rfl⟩:=Ds y (by have:=bG hy;omega)
  obtain ⟨a,ha,rfl⟩:=(mem p q hp).mp hy;rw [hl];exact into a (g.rng _ _ ha)
 ·obtain ⟨p,hp,rfl⟩:=Ds y (by have:=bG hy;omega)
  obtain ⟨a,ha,e⟩:=(mem p _ hp).mp hy
  have:=inj a p (g.rng _ _ ha) hp e
  subst this;exact g.irr _ ha
 ·by_cases hy:y<w.length
  ·obtain ⟨p,hp,rfl⟩:=Ds y hy
   rw [(JS p hp).nodup_iff];unfold List.Nodup;rw [jb];refine List.Pairwise.imp_of_mem ?_ (g.nod p);intro a b ha hb ne e;exact ne (inj a b (g.rng _ _ ha) (g.rng _ _ hb) e)
  ·rw [yR (by omega)];exact kN
 ·obtain ⟨p,hp,rfl⟩:=Ds y (by have:=bG hy;omega)
  obtain ⟨a,ha,rfl⟩:=(mem p q hp).mp hy;exact (mem a _ (g.rng _ _ ha)).mpr ⟨p,g.sym _ _ ha,rfl⟩
 ·rw [hl] at hy
  obtain ⟨p,hp,rfl⟩:=Ds y hy;obtain ⟨z,hz,e0⟩:=Ds 0 (by omega)
  have h1:=reach (((g.con z hz).symm g.sym).trans (g.con p hp));rw [e0] at h1;exact h1
def af(l:List Nat)(x:Nat):Nat:=l.getD ((l.idxOf x+1)%l.length) 0
def aY(w:W)(d:Nat×Nat):Nat×Nat:=(d.2,af (row w d.2) d.1)
def aK(w:W)(d:Nat×Nat):Prop:=d.2∈row w d.1
theorem ko{l:List Nat}{x:Nat}(h:x∈l):l[(l.idxOf x+1)%l.length]? =some (af l x):=by
 have hp:0<l.length:=zh h;unfold af;rw [aJ,bq (je _ hp)];rfl
theorem ba{l:List Nat}{x:Nat}(h:x∈l):af l x∈l:=f7 (ko h)
theorem Fv{a b n:Nat}(ha:a<n)(hb:b<n)(e:(a+1)%n=(b+1)%n):a=b:=by
 by_cases h1:a+1=n
 ·by_cases h2:b+1=n
  ·omega
  ·rw [h1,oH,eV (by omega)] at e;omega
 ·by_cases h2:b+1=n
  ·rw [h2,oH,eV (by omega)] at e;omega
  ·rw [eV (by omega),eV (by omega)] at e;omega
theorem cM{l:List Nat}{x y:Nat}(nd:l.Nodup)(hx:x∈l)(hy:y∈l)(e:af l x=af l y):x=y:=by
 have hp:0<l.length:=zh hx;have h1:=ko hx;have h2:=ko hy;rw [e] at h1;have lx:=eu.mpr hx;have ly:=eu.mpr hy;obtain ⟨a1,b1⟩:=fA.mp h1;obtain ⟨a2,b2⟩:=fA.mp h2;have q:=(List.getElem_inj nd).mp (b1.trans b2.symm);have q2:=Fv lx ly q;have e1:=fH lx;have e2:=fH ly;rw [←e1,←e2];simp only [q2]
theorem e7{w:W}{d:Nat×Nat}(g:Good w)(h:aK w d):aK w (aY w d):=ba (g.sym _ _ h)
theorem jF{w:W}{d e:Nat×Nat}(g:Good w)(h:aK w d)(h':aK w e)(q:aY w d=aY w e):d=e:=by
 have e2:d.2=e.2:=congrArg Prod.fst q;have e1:af (row w d.2) d.1=af (row w e.2) e.1:=congrArg Prod.snd q;rw [←e2] at e1;have h1:d.1∈row w d.2:=g.sym _ _ h;have h2:e.1∈row w d.2:=by rw [e2];exact g.sym _ _ h'
 exact Prod.ext (cM (g.nod _) h1 h2 e1) e2
def aI(w:W):List (Nat×Nat):=(List.range w.length).flatMap λp=>(row w p).map λq=>(p,q)
theorem bI{w:W}{d:Nat×Nat}:d∈aI w↔aK w d:=by
 unfold aI aK;rw [pX]
 constructor
 ·rintro ⟨p,_,h⟩
  obtain ⟨q,hq,rfl⟩:=bx.mp h;exact hq
 ·intro h
  exact ⟨d.1,cg.mpr (bG h),bx.mpr ⟨d.2,h,rfl⟩⟩
theorem aX{α:Type} [DecidableEq α]:∀{l m:List α},l.Nodup→(∀x∈l,x∈m)→l.length≤m.length
 | [],_,_,_=>cn _
 |a::r,m,nd,h=>by
  have jD:=gf.mp nd;have am:=h a b4;have ih:=aX (l:=r) (m:=m.erase a) jD.2 λx hx=>(List.mem_erase_of_ne (λ(e:x=a)=>jD.1 (by rw [←e];exact hx))).mpr (h x (cv _ hx))
  rw [List.length_erase_of_mem am] at ih
  have:=zh am
  simp only [eU];omega
theorem dA{w:W}(g:Good w)(p:Nat):(row w p).length≤w.length:=by
 have:=aX (m:=List.range w.length) (g.nod p) λx hx=>cg.mpr (g.rng _ _ hx)
 simpa using this
theorem vg{α β:Type}{f:α→List β}{k:Nat}:∀{l:List α},(∀x∈l,(f x).length≤k)→(l.flatMap f).length≤l.length*k
 | [],_=>by simp
 |a::r,h=>by
  have ih:=vg (f:=f) (k:=k) (l:=r) λx hx=>h x (cv _ hx)
  have:=h a b4
  rw [jc,cy,eU,Nat.succ_mul];omega
theorem zz{w:W}(g:Good w):(aI w).length≤w.length*w.length:=by
 have:=vg (f:=λp=>(row w p).map λq=>(p,q)) (k:=w.length) (l:=List.range w.length) λx _=>by rw [List.length_map];exact dA g x
 rw [gd] at this;exact this
theorem qI{w:W}(g:Good w){S:Nat→Prop}(h0:S 0)(hc:∀p q,S p→q∈row w p→S q):∀p,p<w.length→S p:=λp hp=>by
 have:∀{a b},Reach w a b→S a→S b:=λ {a b} h ha=>by
  induction h with
  |refl=>exact ha
  |step _ hr ih=>exact hc _ _ ih hr
 exact this (g.con p hp) h0
def lexLe(a b:Nat×Nat):Prop:=a.1<b.1∨(a.1=b.1∧a.2≤b.2)
theorem CK{a b:Nat×Nat}(h:lexLe a b)(h':lexLe b a):a=b:=by
 unfold lexLe at h h';exact Prod.ext (by omega) (by omega)
def cU(rows:Nat→List Nat)(n:Nat):List (Nat×Nat):=(List.range n).flatMap λp=>((rows p).filter λq=>decide (p<q)).map λq=>(p,q)
theorem lK{α β:Type}{R:β→β→Prop}{f:α→List β}:∀{l:List α},(∀x∈l,(f x).Pairwise R)→l.Pairwise (λa b=>∀x∈f a,∀y∈f b,R x y)→(l.flatMap f).Pairwise R
 | [],_,_=>List.Pairwise.nil
 |a::r,h,p=>by
  have p':=List.pairwise_cons.mp p;rw [jc,List.pairwise_append];refine ⟨h a b4,lK (λx hx=>h x (cv _ hx)) p'.2,λx hx y hy=>?_⟩;obtain ⟨b,hb,LP⟩:=pX.mp hy;exact p'.1 b hb x hx y LP
end Wb
namespace L2
open PySem PySem.Spec PyProof.Rows
section
variable {X:Cx}
theorem Vals.ins{x:V}{u:Value}(r:RelV x u){xs:List V}{us:List Value}(i:Nat)(h:Vals xs us):Vals (Wb.ins xs i x) (Wb.ins us i u):=(h.take i).append (.cons r (h.drop i))
def Gd:V→List V→Hp→VK→Prop:=λx vs H Q=>∃l xs i y,x= .ref l∧vs= [.int i,y]∧H l=some (.lst xs)∧0≤i∧i≤xs.length∧xs.length<sizeLine∧Q .bf (upd H l (.lst (Wb.ins xs i.toNat y)))
theorem Ao:DL X "list.insert" Gd:=by
 intro pins s σ H x vs v us Q I rx rv h;obtain ⟨l,xs,i,y,rfl,rfl,hH,h0,h1,hz,q⟩:=h;cases rx;obtain ⟨u1,u2,rfl,⟨t,rfl⟩,ru⟩:=rv.two;obtain ⟨z,its,n,r,hl,e⟩:=I.mY hH;have b0:=j7
 have ET:¬(!Builtin.List.listFitsIndex i)=true:=by
  rw [fitsIndex_both (by omega) (by omega)]
  exact dW
 refine call_meets F.slot_list_insert ⟨_,e,rfl⟩ F.entry_list_insert (F.args_list_insert_3 _ _ _) (AutoSeq1.list_insert_list_int_val_1 l its.toArray n i t u2 ET (by rw [cB];omega)) ⟨e,?_⟩
 refine ⟨.bf,_,I.Bw (its':=Wb.ins its i.toNat u2) hH e ?_ (r.ins ru i.toNat) ?_,rfl,q⟩
 ·have hi:¬i<0:=by omega
  have hm:min i.toNat its.length=i.toNat:=by omega
  simp only [hi,if_false,cB,hm];apply Array.toList_inj.mp;unfold Wb.ins;simp;exact List.take_of_length_le (by rw [dE];omega)
 ·rw [Wb.yk];omega
def IL(K:PySem.W.Frag):V→List V→Hp→VK→Prop:=λx vs H Q=>∃(l:Addr)(xs:List V)(y:V)(j:Nat)(z:V),x= .ref l∧vs= [y]∧H l=some (.lst xs)∧gr y=true∧xs.all gr=true∧xs[j]? =some z∧tq z y=true∧
 (∀(m:Nat) z,m<j→xs[m]? =some z→tq z y=false)∧Q (.int j) H
theorem CQ:DL X "list.index" (IL X.K):=by
 intro pins s σ H x vs v us Q I rx rv h;obtain ⟨l,xs,y,j,z,rfl,rfl,hH,fy,fs,hz,ez,LL,q⟩:=h;cases rx;obtain ⟨u,rfl,ru⟩:=rv.one;obtain ⟨rF,its,n,r,hl,e⟩:=I.mY hH;obtain ⟨w,hw,AM⟩:=r.get hz
 have hj:j<its.toArray.size:=by
  obtain ⟨h1,_⟩:=fA.mp hw;simpa using h1
 have flat:∀(m:Nat) z,xs[m]? =some z→gr z=true:=λm z h=>(List.all_eq_true.mp fs) z (f7 h)
 have U4:its.toArray[j]=w:=by
  obtain ⟨h1,h2⟩:=fA.mp hw;simpa using h2
 have b0:=j7
 have O9:j<xs.length:=by
  obtain ⟨h1,_⟩:=fA.mp hz;exact h1
 refine call_meets F.slot_list_index ⟨_,e,rfl⟩ F.entry_list_index (F.args_list_index_2 _ _) (SeqAt.list_indexAt l its.toArray n none #[] u (mI y) j hj (by omega) ?_ ?_) ⟨e,λw hw=>hZ ru fy r fs w (by simpa using hw),?_⟩
 ·rw [U4,rZ AM (flat j z hz)];exact ez
 ·intro m hm LJ
  have yf:m<its.length:=by simpa using hm
  obtain ⟨zm,LR⟩:∃zm,xs[m]? =some zm:=⟨_,bq (by omega)⟩
  obtain ⟨wm,U5,XQ⟩:=r.get LR
  have Ug:its.toArray[m]=wm:=by
   obtain ⟨h1,h2⟩:=fA.mp U5;simpa using h2
  rw [Ug,rZ XQ (flat m zm LR)];exact LL m zm LJ LR
 ·exact ⟨.int j,H,I.tok _,⟨_,rfl⟩,q⟩
end
mutual
inductive Dp (K:PySem.W.Frag) (H:Hp):V→PyData→Prop
 |bf:Dp K H .bf .none
 |bl (b:Bool):Dp K H (.bl b) (.bool b)
 |int (i:Int):Dp K H (.int i) (.int i)
 |str (x:Str) (h:PyData.strOk x=true):Dp K H (.str x) (.str x)
 |lst {a:Addr} {xs:List V} {ds:List PyData}:cD K H a xs→eG K H xs ds→Dp K H (.ref a) (.list ds)
 |tup {a:Addr} {xs:List V} {ds:List PyData}:fL K H a xs→eG K H xs ds→Dp K H (.ref a) (.tuple ds)
inductive eG (K:PySem.W.Frag) (H:Hp):List V→List PyData→Prop
 |nil:eG K H [] []
 |cons {v:V} {vs:List V} {d:PyData} {ds:List PyData}:Dp K H v d→eG K H vs ds→eG K H (v::vs) (d::ds)
end
section
variable {X:Cx} {pins:List (Addr×Obj)} {σ:St} {H:Hp} {s:Shared}
mutual
theorem Dp.reads(I:Inv X pins σ H s):∀{v:V}{d:PyData}{u:Value},Dp X.K H v d→RelV v u→(∃as,Reads s.heap u d as)∧d.canLay0=true
 |_,_,_, .bf,r=>by cases r;exact ⟨⟨_, .none⟩,rfl⟩
 |_,_,_, .bl b,r=>by cases r;exact ⟨⟨_, .bool b⟩,rfl⟩
 |_,_,_, .int i,r=>by obtain ⟨t,rfl⟩:=r;exact ⟨⟨_, .int i t⟩,rfl⟩
 |_,_,_, .str x h,r=>by obtain ⟨t,rfl⟩:=r;exact ⟨⟨_, .str x t⟩,by simpa [PyData.canLay0] using h⟩
 |_,_,_, .lst h a,r=>by
  cases r;obtain ⟨its,rv,pl,hz⟩:=I.list h;obtain ⟨⟨as,ra⟩,c⟩:=eG.reads I a rv;obtain ⟨o,ho,hc,n,hd⟩:=pl.isList;exact ⟨⟨_, .list ho hc hd (by simpa using ra)⟩,by simpa [PyData.canLay0] using c⟩
 |_,_,_, .tup h a,r=>by
  cases r;obtain ⟨its,rv,pl,hz⟩:=I.tuple h;obtain ⟨⟨as,ra⟩,c⟩:=eG.reads I a rv;obtain ⟨o,ho,hc,n,hd⟩:=pl;exact ⟨⟨_, .tuple ho hc hd (by simpa using ra)⟩,by simpa [PyData.canLay0] using c⟩
theorem eG.reads(I:Inv X pins σ H s):∀{vs:List V}{ds:List PyData}{us:List Value},eG X.K H vs ds→Vals vs us→(∃as,ReadsAll s.heap us ds as)∧PyData.canLayAll0 ds=true
 |_,_,_, .nil, .nil=>⟨⟨_, .nil⟩,by simp [PyData.canLayAll0]⟩
 |_,_,_, .cons a as, .cons r rs=>by
  obtain ⟨⟨x,h1⟩,c1⟩:=Dp.reads I a r;obtain ⟨⟨y,h2⟩,c2⟩:=eG.reads I as rs;exact ⟨⟨_, .cons h1 h2⟩,by simp [PyData.canLayAll0,c1,c2]⟩
end
end
section
variable {X:Cx}
def Rc(K:PySem.W.Frag):R2:=λx y H Q=>∃d e,Dp K H x d∧Dp K H y e∧d.depth≤64∧Q (.bl (PyData.eqv d e)) H
def Rh(K:PySem.W.Frag):R2:=λx y H Q=>∃d e,Dp K H x d∧Dp K H y e∧d.depth≤64∧Q (.bl (!PyData.eqv d e)) H
theorem Ik(hu:X.A.units+64<cLine):OpR X (compareOp .Eq) (Rc X.K):=by
 intro pins s σ H x y v u Q I rx ry h;obtain ⟨d,e,hd,he,hz,q⟩:=h;obtain ⟨⟨as,r1⟩,c1⟩:=hd.reads I rx;obtain ⟨⟨bs,r2⟩,c2⟩:=he.reads I ry;exact SeqAt.compareEq_reads r1 r2 c1 c2 (by have:=Nat.min_le_left d.depth e.depth;omega) ⟨.bl _,H,I,rfl,q⟩
theorem Ip(hu:X.A.units+64<cLine):OpR X (compareOp .NotEq) (Rh X.K):=by
 intro pins s σ H x y v u Q I rx ry h;obtain ⟨d,e,hd,he,hz,q⟩:=h;obtain ⟨⟨as,r1⟩,c1⟩:=hd.reads I rx;obtain ⟨⟨bs,r2⟩,c2⟩:=he.reads I ry;exact SeqAt.compareNe_reads r1 r2 c1 c2 (by have:=Nat.min_le_left d.depth e.depth;omega) ⟨.bl _,H,I,rfl,q⟩
end
def nD(n:Nat):PyData:= .int n
def m7(r:List Nat):PyData:= .list (r.map nD)
theorem iS{α:Type}{f:α→PyData}(hf:∀a b,PyData.eqv (f a) (f b)=true↔a=b):∀xs ys:List α,PyData.eqvAll (xs.map f) (ys.map f)=true↔xs=ys
 | [],[]=>by simp [PyData.eqvAll]
 | [],_::_=>by simp [PyData.eqvAll]
 |_::_,[]=>by simp [PyData.eqvAll]
 |a::xs,b::ys=>by
  have ih:=iS hf xs ys;simp [PyData.eqvAll,hf,ih]
theorem Hx(a b:Nat):PyData.eqv (nD a) (nD b)=true↔a=b:=by
 simp [nD,PyData.eqv];omega
theorem vf(a b:List Nat):PyData.eqv (m7 a) (m7 b)=true↔a=b:=by
 unfold m7;rw [PyData.eqv];exact iS Hx a b
theorem gD{α:Type}{f:α→PyData}{k:Nat}(hf:∀a,(f a).depth≤k):∀xs:List α,PyData.depthAll (xs.map f)≤k
 | []=>by simp [PyData.depthAll]
 |a::xs=>by
  have:=hf a
  have ih:=gD hf xs;simp [PyData.depthAll];omega
theorem lu(a:List Nat):(m7 a).depth≤2:=by
 unfold m7;rw [PyData.depth]
 have:=gD (f:=nD) (k:=1) (λn=>by simp [nD,PyData.depth]) a
 omega
end L2
namespace L2
open PySem PySem.Spec PyProof.Rows
theorem Vals.of_get:∀{xs:List V}{us:List Value},xs.length=us.length→(∀(k:Nat) x u,xs[k]? =some x→us[k]? =some u→RelV x u)→Vals xs us
 | [],[],_,_=> .nil
 | [],_::_,h,_=>by simp at h
 |_::_,[],h,_=>by simp at h
 |x::xs,u::us,h,r=> .cons (r 0 x u rfl rfl) (Vals.of_get (by simpa using h) λk y w h1 h2=>r (k+1) y w (by simpa using h1) (by simpa using h2))
section
variable {X:Cx}
theorem wo:cC X (.builtin "isinstance") (λxs H Q=>∃(x:V)(n:String)(t:Value)(b:Bool),xs= [x, .ty n]∧iO X.K H x t∧PySem.W.kitOne X.K t (.type n)=some b∧Q (.bl b) H):=by
 intro pins s σ H xs us Q I rv h;obtain ⟨x,n,t,b,rfl,ty,e,q⟩:=h;obtain ⟨u1,u2,rfl,r1,r2⟩:=rv.two;cases r2;exact Ac I r1 ty e λtk=>⟨.bl b,H,I.tok _,rfl,q⟩
theorem uN:cC X (.builtin "sorted") (λxs H Q=>∃(p:Addr)(ns:List Int),xs= [.ref p]∧cD X.K H p (ns.map V.int)∧ns.length<64∧∀(q:Addr)(ms:List Int),H q=none→ms.Perm ns→ms.Pairwise (·≤·)→Q (.ref q) (upd H q (.lst (ms.map V.int)))):=by
 intro pins s σ H xs us Q I rv h;obtain ⟨p,ns,rfl,hp,hz,q⟩:=h;obtain ⟨u,rfl,ru⟩:=rv.one;cases ru;obtain ⟨its,r,pl,_⟩:=I.list hp;have hl:=r.length;rw [List.length_map] at hl;refine sorted_ints pl.isList (intsAre_of r) (by omega) λout ms hI E5 hs=>?_
 obtain ⟨e,he⟩:=sortedAll_at s.heap its out;have fr:H (s.heap.objs.size+1)=none:=I.hok.fresh (pY _);have EY:=E5.length_eq;have dq:64≤sizeLine:=by decide
 refine ⟨.ref (s.heap.objs.size+1),_,I.laid (t':=s.toks) (λb o hb=>sortedAll_old hb) (pY _) (o:= .lst (ms.map V.int)) ⟨by rw [List.length_map];omega,out.toList,e,kr hI,by simpa using he⟩,rfl,q _ ms fr E5 hs⟩
end
theorem lj(elt t0 i0 t1 i1:Expr)(f0 f1:List Expr)(scope:Scope)(pos:Pos)(it acc:Value)(env:Env):
  compTurn (.ListComp elt [⟨t0,i0,f0,0⟩,⟨t1,i1,f1,0⟩] scope pos) 0 it acc env=(do
   standAt i0.pos
   match ←pyNext it with
   |none=>pure (.done .next)
   |some v=>
    letOwnedTupleGo t0 it v
    assign t0 env v
    let ok ←forIn f0 true λc r=>if r=true then do let ok ←isTrue c env (eval c env);pure (ForInStep.yield ok) else pure (ForInStep.yield r)
    if ok=true then
     let x ←eval i1 env
     standAt i1.pos
     let x ←foldedSetIterable i1 env x
     let wV ←holding [x] (pyIter x)
     let _ ←runOwn (.compStart (.ListComp elt [⟨t0,i0,f0,0⟩,⟨t1,i1,f1,0⟩] scope pos) 1 wV acc env) env
     again (.compLoop (.ListComp elt [⟨t0,i0,f0,0⟩,⟨t1,i1,f1,0⟩] scope pos) 0 it acc env)
    else again (.compLoop (.ListComp elt [⟨t0,i0,f0,0⟩,⟨t1,i1,f1,0⟩] scope pos) 0 it acc env)):=by rfl
theorem sV(elt t0 i0 t1 i1:Expr)(f0 f1:List Expr)(scope:Scope)(pos:Pos)(it acc:Value)(env:Env):
  compTurn (.ListComp elt [⟨t0,i0,f0,0⟩,⟨t1,i1,f1,0⟩] scope pos) 1 it acc env=(do
   standAt i1.pos
   match ←pyNext it with
   |none=>pure (.done .next)
   |some v=>
    letOwnedTupleGo t1 it v
    assign t1 env v
    let ok ←forIn f1 true λc r=>if r=true then do let ok ←isTrue c env (eval c env);pure (ForInStep.yield ok) else pure (ForInStep.yield r)
    if ok=true then
     (do let _ ←call (.builtin "list.append") [acc,←eval elt env])
     again (.compLoop (.ListComp elt [⟨t0,i0,f0,0⟩,⟨t1,i1,f1,0⟩] scope pos) 1 it acc env)
    else again (.compLoop (.ListComp elt [⟨t0,i0,f0,0⟩,⟨t1,i1,f1,0⟩] scope pos) 1 it acc env)):=by rfl
section
variable {X XC:Cx} {elt i0 t0 i1 t1:Expr} {f0 f1:List Expr} {scope:Scope} {pos:Pos} {wi cx:TI} {g g1:TG} {tt b6:TT} {te:TE} {src:List (Option Nat)} {NC:List Str}
theorem rz{it acc:Value}{env:Env}{R:Result→Shared→Prop}{s:Shared}{A:Around}
  (h0:codeAny (model X.prog X.w) A (.compLoop (.ListComp elt [⟨t0,i0,f0,0⟩,⟨t1,i1,f1,0⟩] scope pos) 1 it acc env) R s)
  (hp:∀(Q:Value→Shared→Prop)(E:Value→Shared→Prop),Q it s→wpAny (model X.prog X.w) A (pyIter it) Q E s):
  codeAny (model X.prog X.w) A (.compStart (.ListComp elt [⟨t0,i0,f0,0⟩,⟨t1,i1,f1,0⟩] scope pos) 1 it acc env) R s:=by
 refine codeAny_of_tree ?_;show wpAny _ _ ((compStart (.ListComp elt [⟨t0,i0,f0,0⟩,⟨t1,i1,f1,0⟩] scope pos) 1 it acc env).onRaise (λx=>do noteFrame x env;standAt theWindowsPlace)) _ _ s
 refine wpAny_notedAt ?_;unfold compStart;show wpAny _ _ (ask>>=_) _ _ s;refine wpAny_bind (wpAny_askSetting (wpAny_ite ?_))
 split
 ·first
   |exact wpAny_bind (wpAny_pure (wpAny_pure ⟨rfl,h0⟩))
   |exact wpAny_pure ⟨rfl,h0⟩
 ·refine wpAny_bind (wpAny_rule ?_)
  show wpAny _ _ (standAt i1.pos>>=_) _ _ s;exact wpAny_bind (wpAny_standAt (wpAny_bind (hp _ _ (wpAny_pure ⟨rfl,h0⟩))))
theorem qK{pins:List (Addr×Obj)}{s:Shared}{σ:St}{H:Hp}{it D:Addr}{fp:List Addr}{tn:Nat→Heap→Prop}{J:It}{R:Result→Shared→Prop}{N:St→Hp→Prop}
  (z7:XC.xe=λ_ _=>False) (hc:XC.calm=true) (I:Inv XC pins σ H s) (T:Turn XC.prog XC.w XC.K t1 J fp it tn) (st:tn 0 s.heap) (f2:∀b∈fp,dY XC pins H b)
  (hg:PG XC t1 g1) (ht:jg XC f1 b6) (he:PE XC elt te)
  (hW:∃W:Nat→Nat→St→Hp→Prop,(∃m,W 0 m σ H)∧∀i m dX H2,W i m dX H2→(J.stop i H2∧N dX H2)∨
   (J.go i H2∧∃N1:St→Hp→Prop,(∀ay H',N1 ay H'→∃m',m'<m∧W (i+1) m' ay H')∧∀x H3,J.yld i H2 x H3→g1 x dX H3 λeF H4=>b6 eF H4 λb H5=>
    if b=true then te eF H5 λv H6=>∃ys,H6 D=some (.lst ys)∧ys.length<sizeLine∧N1 eF (upd H6 D (.lst (ys++ [v]))) else N1 eF H5))
  (hR:∀ay H' s',Inv XC pins ay H' s'→N ay H'→R (.ok .next) s'):
  codeAny (model XC.prog XC.w) XC.A (.compStart (.ListComp elt [⟨t0,i0,f0,0⟩,⟨t1,i1,f1,0⟩] scope pos) 1 (.ref it) (.ref D) XC.env) R s:=by
 obtain ⟨W,⟨m0,w0⟩,turn⟩:=hW
 have gK:∀{α:Type}{t:Sem α}{Q:α→Shared→Prop}{E:Value→Shared→Prop}{s:Shared},wpAny (model XC.prog XC.w) XC.A t Q XC.xe s→wpAny (model XC.prog XC.w) XC.A t Q E s:=λ {α t Q E s} h=>
  wpAny_mono h (λ_ _ q=>q) λ_ _ f=>by rw [z7] at f;exact f.elim
 have stat:∀{H':Hp},(∀b∈fp,H' b=none)→∀b∈fp,dY XC pins H' b:=λhn b hb=>⟨hn b hb,(f2 b hb).2⟩
 have loop:codeAny (model XC.prog XC.w) XC.A (.compLoop (.ListComp elt [⟨t0,i0,f0,0⟩,⟨t1,i1,f1,0⟩] scope pos) 1 (.ref it) (.ref D) XC.env) R s:=by
  refine codeAny_loop rfl (λn s'=>∃i ay H',Inv XC pins ay H' s'∧tn i s'.heap∧(∀b∈fp,H' b=none)∧W i n ay H') (λn s' hI=>?_) m0 ⟨0,σ,H,I,st,λb hb=>(f2 b hb).1,w0⟩;obtain ⟨i,ay,H',I5,oj,qi,w5⟩:=hI;show wpAny _ XC.A ((compTurn (.ListComp elt [⟨t0,i0,f0,0⟩,⟨t1,i1,f1,0⟩] scope pos) 1 (.ref it) (.ref D) XC.env).onRaise (λx=>do noteFrame x XC.env;theTreesLotGoes x)) _ _ s'
  refine wpAny_noted ?_;rw [sV];refine wpAny_bind (wpAny_standAt (wpAny_bind ?_))
  rcases turn i n ay H' w5 with ⟨stop,qn⟩ | ⟨go,N1,hN,step⟩
  ·refine thn (T.done XC rfl rfl rfl hc i pins s' ay H' _ I5 (stat qi) oj stop) λr s6 ⟨hr,I6⟩=>?_
   subst hr;exact wpAny_pure (hR ay H' s6 I6 qn)
  ·refine thn (T.item XC rfl rfl rfl hc i pins s' ay H' _ I5 (stat qi) oj go) λr s6 ⟨u,hr,h6⟩=>?_
   subst hr;refine wpAny_bind (thn h6 λ_ s7 ⟨x,H7,I7,r7,y7,om,zO⟩=>?_);have zo:=I7.pinned (stat zO) (T.obj _ _ om)
   have nextT:∀{dH:St}{H8:Hp}{s8:Shared},Inv XC (pins++iX fp s7.heap) dH H8 s8→N1 dH H8→∃m,m<n∧∃i ay H',Inv XC pins ay H' s8∧tn i s8.heap∧(∀b∈fp,H' b=none)∧W i m ay H':=λ {dH H8 s8} I8 n8=>by
    obtain ⟨m',hm,w8⟩:=hN dH H8 n8;refine ⟨m',hm,i+1,dH,H8,I8.gz,T.keep _ _ _ om λb hb o e=>(I8.pin (b,o) (eW _ (eW _ (cH hb e)))).1,λb hb=>?_,w8⟩;obtain ⟨o,e,d⟩:=T.obj _ _ om b hb;exact (I8.pin (b,o) (eW _ (eW _ (cH hb e)))).2.1
   refine wpAny_bind (gK (thn (hg _ s7 ay H7 x u _ zo r7 (step x H7 y7)) λ_ s8 ⟨dH,H8,I8,q8⟩=>?_));refine wpAny_bind (gK (thn (ht _ s8 dH H8 _ I8 q8) λb s9 ⟨H9,I9,q9⟩=>?_));cases b with
   |false=>
    rw [if_neg dW] at q9;exact wpAny_pure ⟨rfl,nextT I9 q9⟩
   |true=>
    rw [if_pos rfl] at q9;refine wpAny_bind (wpAny_bind (gK (thn (he _ s9 dH H9 _ I9 q9) λy Gk ⟨v,DD,Kg,Mn,ys,hD,hz,Ml⟩=>?_)));refine wpAny_bind (gK (thn (nZ _ Gk dH DD (.ref D) [v] _ [y] (λ_ H'=>N1 dH H') Kg rfl (.cons Mn .nil) ⟨_,ys,v,rfl,rfl,hD,hz,Ml⟩) λ_ AN ⟨_,DH,zk,_,Mm⟩=>?_));exact wpAny_pure (wpAny_pure ⟨rfl,nextT zk Mm⟩)
 exact rz (X:=XC) loop λQ E q=>T.self _ 0 _ _ _ st q
def X6(g1:TG)(b6:TT)(te:TE)(D:Addr)(J:It)(N:St→Hp→Prop):St→Hp→Prop:=λσ H=>
 ∃W:Nat→Nat→St→Hp→Prop,(∃m,W 0 m σ H)∧∀i m dX H2,W i m dX H2→(J.stop i H2∧N dX H2)∨
  (J.go i H2∧∃N1:St→Hp→Prop,(∀ay H',N1 ay H'→∃m',m'<m∧W (i+1) m' ay H')∧∀x H3,J.yld i H2 x H3→g1 x dX H3 λeF H4=>b6 eF H4 λb H5=>
   if b=true then te eF H5 λv H6=>∃ys,H6 D=some (.lst ys)∧ys.length<sizeLine∧N1 eF (upd H6 D (.lst (ys++ [v]))) else N1 eF H5)
def Kb(g:TG)(tt:TT)(cx:TI)(g1:TG)(b6:TT)(te:TE)(D:Addr)(J:It)(Q:VK)(σ:St)(H:Hp):Prop:=
 ∃W:Nat→Nat→St→Hp→Prop,(∃m,W 0 m σ H)∧∀i m dX H2,W i m dX H2→
  (J.stop i H2∧Q (.ref D) H2)∨
  (J.go i H2∧∃N:St→Hp→Prop,(∀ay H',N ay H'→∃m',m'<m∧W (i+1) m' ay H')∧∀x H3,J.yld i H2 x H3→g x dX H3 λeF H4=>tt eF H4 λb H5=>
   if b=true then cx eF H5 λJ1 H6=>X6 g1 b6 te D J1 N eF H6 else N eF H5)
def BZ(wi:TI)(g:TG)(tt:TT)(cx:TI)(g1:TG)(b6:TT)(te:TE)(src:List (Option Nat)):TE:=λσ H Q=>wi σ H λJ H1=>∀D,H1 D=none→Kb g tt cx g1 b6 te D J Q (kJ src σ) (upd H1 D (.lst []))
theorem IB(hc:X.calm=true)(c:bW X scope)(dg:cE scope X.N src NC)(hi:PI X t0 i0 wi)
  (hg:∀ex s H,PG (bP X scope NC ex s H) t0 g) (ht:∀ex s H,jg (bP X scope NC ex s H) f0 tt) (mK:∀ex s H,PI (bP X scope NC ex s H) t1 i1 cx) (tB:∀ex s H,PG (bP X scope NC ex s H) t1 g1)
  (tF:∀ex s H,jg (bP X scope NC ex s H) f1 b6) (he:∀ex s H,PE (bP X scope NC ex s H) elt te)
  (hs:∀x,foldedSetIterable i0 X.env x=pure x:=by intro _;rfl) (pb:∀env x,foldedSetIterable i1 env x=pure x:=by intro _ _;rfl):
  PE X (.ListComp elt [⟨t0,i0,f0,0⟩,⟨t1,i1,f1,0⟩] scope pos) (BZ wi g tt cx g1 b6 te src):=by
 intro pins s σ H Q I h;rw [eval_ListComp];refine wpAny_comprehension_free (use:=none) rfl hs (eY (c.cells I.ok)) c.kind c.names (thn (hi pins s σ H _ I h) λv s1 h1=>thn h1 λyo s2 h2=>?_);obtain ⟨it,fp,tn,J,H2,rfl,I2,T,kT,f2,hW⟩:=h2;obtain ⟨W,⟨m0,w0⟩,turn⟩:=hW s2.heap.objs.size I2.fresh;have I3:Inv X pins σ (upd H2 s2.heap.objs.size (.lst [])) {s2 with heap:=s2.heap.push {cls:= .type "list",data:= .seq ([]:List Value).toArray}}:=I2.yu (its:= []) (t':=s2.toks) .nil (cn _)
 have yw:∀b∈fp,b<s2.heap.objs.size:=λb hb=>by
  obtain ⟨o,e,_⟩:=T.obj _ _ kT b hb;exact Heap.lt_size e
 have f3:∀b∈fp,dY X pins (upd H2 s2.heap.objs.size (.lst [])) b:=λb hb=>⟨by rw [aD (cc (yw b hb))];exact (f2 b hb).1,(f2 b hb).2⟩
 refine wpAny_newObj_type ?_
 suffices key:∀s3:Shared,Inv X pins σ (upd H2 s2.heap.objs.size (.lst [])) s3→(∀b o,s2.heap.get? b=some o→s3.heap.get? b=some o)→
   wpAny (model X.prog X.w) X.A (newFunctionEnv scope X.env.globals (gH X.env scope.names []) [] X.env.qual none .none (some X.env)) (λiP pQ=>
    codeAny (model X.prog X.w) X.A (.compStart (.ListComp elt [⟨t0,i0,f0,0⟩,⟨t1,i1,f1,0⟩] scope pos) 0 (.ref it) (.ref s2.heap.objs.size) {iP with scope:=relabel scope X.env}) (compPost (model X.prog X.w) X.A X.xe none (EP X pins σ Q) (.ref s2.heap.objs.size) iP.locals) pQ) X.xe s3 from
  key _ I3 λb o e=>Heap.get?_push_of_some _ e
 intro s3 I3 GK;have uj:tn 0 s3.heap:=T.keep _ _ _ kT λb _ o e=>GK b o e
 have tP:∀b∈fp,b<s3.heap.objs.size:=λb hb=>by
  obtain ⟨o,e,_⟩:=T.obj _ _ uj b hb;exact Heap.lt_size e
 generalize OT:upd H2 s2.heap.objs.size (.lst [])=H3 at I3 f3 w0;refine wpAny_newFunctionEnv c.nocell (by intro y hy;simp at hy) (λh1 tE rE=>?_) c.kind
 have I4:=qe (src:=src) (NC:=NC) (ex:=fp) (tk:=s3.toks+([]:List (Str×Value)).length) I3 c dg f3 tP tE rE;have y2:tn 0 h1:=T.keep _ _ _ uj λb hb o e=>rE.extBut b o (cc (tP b hb)) (Heap.get?_push_of_some _ e);generalize hX:bP X scope NC fp s3 H3=XC at I4
 have stat:∀{H':Hp},(∀b∈fp,H' b=none)→∀b∈fp,dY XC [] H' b:=λ {H'} hn b hb=>by
  subst hX;refine ⟨hn b hb,cc (tP b hb),λz=>?_, .inl hb,λx d e=>?_,λp hp=>absurd (show p∈([]:List (Addr×Obj)) from hp) (by simp)⟩
  ·exact (I4.ok.exfs b hb) z
  ·exact (I4.ok.exf b hb).2 x d e
 have uQ:XC.calm=true:=by subst hX;exact hc
 have eP:XC.prog=X.prog:=by subst hX;rfl
 have ew:XC.w=X.w:=by subst hX;rfl
 have eK:XC.K=X.K:=by subst hX;rfl
 have eA:XC.A=X.A:=by subst hX;rfl
 have z7:XC.xe=λ_ _=>False:=by subst hX;rfl
 have EW:PG XC t0 g:=by subst hX;exact hg _ _ _
 have E9:jg XC f0 tt:=by subst hX;exact ht _ _ _
 have LG:PI XC t1 i1 cx:=by subst hX;exact mK _ _ _
 have EV:PG XC t1 g1:=by subst hX;exact tB _ _ _
 have E8:jg XC f1 b6:=by subst hX;exact tF _ _ _
 have ES:PE XC elt te:=by subst hX;exact he _ _ _
 have gK:∀{α:Type}{t:Sem α}{Q:α→Shared→Prop}{E:Value→Shared→Prop}{s:Shared},wpAny (model XC.prog XC.w) XC.A t Q XC.xe s→wpAny (model X.prog X.w) X.A t Q E s:=λ {α t Q E s} h=>by
  rw [←eP,←ew,←eA];exact wpAny_mono h (λ_ _ q=>q) λ_ _ f=>by rw [z7] at f;exact f.elim
 have loop:codeAny (model X.prog X.w) X.A (.compLoop (.ListComp elt [⟨t0,i0,f0,0⟩,⟨t1,i1,f1,0⟩] scope pos) 0 (.ref it) (.ref s2.heap.objs.size) XC.env) (compPost (model X.prog X.w) X.A X.xe none (EP X pins σ Q) (.ref s2.heap.objs.size) s3.heap.objs.size)
   {s3 with heap:=h1,toks:=s3.toks+([]:List (Str×Value)).length}:=by
  refine codeAny_loop rfl (λn s'=>∃i ay H',Inv XC [] ay H' s'∧tn i s'.heap∧(∀b∈fp,H' b=none)∧W i n ay H') (λn s' hI=>?_) m0 ⟨0,_,_,I4,y2,λb hb=>(f3 b hb).1,w0⟩;obtain ⟨i,ay,H',I5,oj,qi,w5⟩:=hI;show wpAny _ X.A ((compTurn (.ListComp elt [⟨t0,i0,f0,0⟩,⟨t1,i1,f1,0⟩] scope pos) 0 (.ref it) (.ref s2.heap.objs.size) XC.env).onRaise (λx=>do noteFrame x XC.env;theTreesLotGoes x)) _ _ s'
  refine wpAny_noted ?_;rw [lj];refine wpAny_bind (wpAny_standAt (wpAny_bind ?_))
  rcases turn i n ay H' w5 with ⟨stop,qn⟩ | ⟨go,N,hN,step⟩
  ·have hd:=T.done XC eP ew eK uQ i [] s' ay H' (notedBy (model X.prog X.w) X.A XC.env λe s'=>compPost (model X.prog X.w) X.A X.xe none (EP X pins σ Q) (.ref s2.heap.objs.size) s3.heap.objs.size (.error e) s') I5 (stat qi) oj stop
   rw [eA] at hd;refine thn hd λr s6 ⟨hr,I6⟩=>?_;subst hr;refine wpAny_pure ?_;subst hX;obtain ⟨m,hn,_⟩:=I6.loc;exact ⟨m,hn,λh' sb=>⟨.ref s2.heap.objs.size,H',comp_back I3 f3 I6 sb,rfl,qn⟩⟩
  ·have hd:=T.item XC eP ew eK uQ i [] s' ay H' (notedBy (model X.prog X.w) X.A XC.env λe s'=>compPost (model X.prog X.w) X.A X.xe none (EP X pins σ Q) (.ref s2.heap.objs.size) s3.heap.objs.size (.error e) s') I5 (stat qi) oj go
   rw [eA] at hd;refine thn hd λr s6 ⟨u,hr,h6⟩=>?_;subst hr;refine wpAny_bind (thn h6 λ_ s7 ⟨x,H7,I7,r7,y7,om,zO⟩=>?_);have zo:=I7.pinned (stat zO) (T.obj _ _ om)
   have nextT:∀{dH:St}{H8:Hp}{s8:Shared},Inv XC ([]++iX fp s7.heap) dH H8 s8→N dH H8→∃m,m<n∧∃i ay H',Inv XC [] ay H' s8∧tn i s8.heap∧(∀b∈fp,H' b=none)∧W i m ay H':=λ {dH H8 s8} I8 n8=>by
    obtain ⟨m',hm,w8⟩:=hN dH H8 n8;refine ⟨m',hm,i+1,dH,H8,I8.gz,T.keep _ _ _ om λb hb o e=>(I8.pin (b,o) (eW _ (eW _ (cH hb e)))).1,λb hb=>?_,w8⟩;obtain ⟨o,e,d⟩:=T.obj _ _ om b hb;exact (I8.pin (b,o) (eW _ (eW _ (cH hb e)))).2.1
   refine wpAny_bind (gK (thn (EW _ s7 ay H7 x u _ zo r7 (step x H7 y7)) λ_ s8 ⟨dH,H8,I8,q8⟩=>?_));refine wpAny_bind (gK (thn (E9 _ s8 dH H8 _ I8 q8) λb s9 ⟨H9,I9,q9⟩=>?_));cases b with
   |false=>
    rw [if_neg dW] at q9;exact wpAny_pure ⟨by subst hX;rfl,nextT I9 q9⟩
   |true=>
    rw [if_pos rfl] at q9;refine wpAny_bind (gK (thn (LG _ s9 dH H9 _ I9 q9) λv1 Gk Lj=>?_));refine wpAny_bind (wpAny_standAt (wpAny_bind (wpAny_of_eq (pb _ v1) (wpAny_bind (wpAny_holding (gK (thn Lj λyo AN Lk=>?_)))))));obtain ⟨wV,Uj,Ya,J1,DH,rfl,zk,T1,GB,K8,uS⟩:=Lk;refine wpAny_bind (wpAny_runOwn ?_);have tr:∀(cd:Code)(R:Result→Shared→Prop),codeAny (model XC.prog XC.w) XC.A cd R AN→codeAny (model X.prog X.w) X.A cd R AN:=λcd R h=>by rw [eP,ew,eA] at h;exact h
    exact tr _ _ (qK z7 uQ zk T1 GB K8 EV E8 ES uS λay H' s' Kh L3=>wpAny_pure ⟨by subst hX;rfl,nextT Kh L3⟩)
 subst hX;exact codeAny_compStart_list loop (T.self _ 0 _ _ _ y2 loop)
end
end L2
namespace KS
open PySem PySem.W PyProof.Rows
def ev{α:Type}(lt:Nat→Nat→Bool):KasT α→α
 | .ret a=>a
 | .ask i j k=>ev lt (k (lt i j))
theorem jx{α β:Type}(lt:Nat→Nat→Bool)(f:α→KasT β):∀t:KasT α,ev lt (t.bind f)=ev lt (f (ev lt t))
 | .ret _=>rfl
 | .ask i j k=>jx lt f (k (lt i j))
structure Ord (lt:Nat→Nat→Bool):Prop where
 irr:∀a,lt a a=false
 neg:∀a b c,lt a c=true→lt a b=true∨lt b c=true
 tr:∀a b c,lt a b=true→lt b c=true→lt a c=true
section
variable {lt:Nat→Nat→Bool} (O:Ord lt)
def Le(lt:Nat→Nat→Bool)(a b:Nat):Prop:=lt b a=false
include O
theorem Ord.as{a b:Nat}(h:lt a b=true):Le lt a b:=by
 unfold Le;cases q:lt b a with
 |false=>rfl
 |true=>have:=O.tr _ _ _ h q;rw [O.irr] at this;cases this
theorem Ord.fj{a b c:Nat}(h:Le lt a b)(h':Le lt b c):Le lt a c:=by
 unfold Le at*;cases q:lt c a with
 |false=>rfl
 |true=>rcases O.neg _ b _ q with z|z
        ·rw [h'] at z;cases z
        ·rw [h] at z;cases z
theorem Ord.rf(a:Nat):Le lt a a:=O.irr a
omit O
def P(p:Array Nat)(i:Nat):Nat:=p.getD i 0
theorem xD{p q:Array Nat}{i j:Nat}(h:p[i]? =q[j]?):P p i=P q j:=by unfold P;rw [q0,q0,h]
def pZ(lt:Nat→Nat→Bool)(p:Array Nat)(k:Nat):Prop:=∀i j,i≤j→j<k→Le lt (P p i) (P p j)
def so(lt:Nat→Nat→Bool)(p:Array Nat)(k:Nat):Prop:=∀i j,i≤j→j<k→Le lt (P p j) (P p i)
theorem qa{p:Array Nat}{i j:Nat}(hj:j≤p.size)(k:Nat):P (kas_rev p i j) k=if i≤k∧k<j then P p (i+j-1-k) else P p k:=by
 have e:=getElem?_mirror_all (xs:=p) (i:=i) hj k;unfold kas_rev
 split
 ·rename_i h;rw [if_pos h] at e;exact xD e
 ·rename_i h;rw [if_neg h] at e;exact xD e
theorem e9(p:Array Nat)(i j:Nat):(kas_rev p i j).Perm p:=mirror_perm _ _ _ _
theorem qB(p:Array Nat)(i j:Nat):(kas_rev p i j).size=p.size:=mirror_size _ _ _ _
include O
theorem DX{p:Array Nat}:pZ lt p 1:=λi j h1 h2=>by
 have e:i=j:=by omega
 subst e;exact O.rf _
theorem wg{p:Array Nat}:∀(f n:Nat),1≤n→pZ lt p n→pZ lt p (ev lt (kas_asc p f n))∧n≤ev lt (kas_asc p f n)∧ev lt (kas_asc p f n)≤n+f∧
  (ev lt (kas_asc p f n)<n+f→lt (P p (ev lt (kas_asc p f n))) (P p (ev lt (kas_asc p f n)-1))=true)
 |0,n,h1,h=>⟨h,br _,br _,λz=>absurd z (fW _)⟩
 |f+1,n,h1,h=>by
  have e:ev lt (kas_asc p (f+1) n)=ev lt (if lt (P p n) (P p (n-1))=true then KasT.ret n else kas_asc p f (n+1)):=rfl;rw [e];cases c:lt (P p n) (P p (n-1)) with
  |true=>
   rw [if_pos rfl];exact ⟨h,br _,by show n≤_;omega,λ_=>c⟩
  |false=>
   rw [if_neg dW]
   have up:pZ lt p (n+1):=λi j h2 h3=>by
    by_cases hj:j<n
    ·exact h i j h2 hj
    ·by_cases hi:i=j
     ·subst hi;exact O.rf _
     ·have:j=n:=by omega
      subst this;exact O.fj (h i (j-1) (by omega) (by omega)) c
   obtain ⟨a,b,d,e⟩:=wg f (n+1) (by omega) up
   exact ⟨a,by omega,by omega,λz=>e (by omega)⟩
theorem rX:∀(f:Nat)(p:Array Nat)(n q:Nat),1≤n→q+1≤n→n+f≤p.size→so lt p n→(∀i,n-(q+1)≤i→i<n→Le lt (P p i) (P p (n-1)))→
  ∃p' n' q',ev lt (kas_desc f p n q)=(p',n',q')∧p'.Perm p∧n≤n'∧n'≤n+f∧q'+1≤n'∧so lt p' n'∧(∀i,n'-(q'+1)≤i→i<n'→Le lt (P p' i) (P p' (n'-1)))
 |0,p,n,q,h1,hq,hz,h,he=>⟨p,n,q,rfl, .refl _,br _,br _,hq,h,he⟩
 |f+1,p,n,q,h1,hq,hz,h,he=>by
  have e:ev lt (kas_desc (f+1) p n q)=ev lt (if lt (P p n) (P p (n-1))=true then (if q>0 then kas_desc f (kas_rev p (n-(q+1)) n) (n+1) 0 else kas_desc f p (n+1) 0)
    else KasT.ask (P p (n-1)) (P p n) λd=>if d=true then KasT.ret (p,n,q) else kas_desc f p (n+1) (q+1)):=rfl
  rw [e];cases c:lt (P p n) (P p (n-1)) with
  |true=>
   rw [if_pos rfl]
   have up:so lt p (n+1):=λi j h2 h3=>by
    by_cases hj:j<n
    ·exact h i j h2 hj
    ·by_cases hi:i=j
     ·subst hi;exact O.rf _
     ·have:j=n:=by omega
      subst this;exact O.fj (O.as c) (h i (j-1) (by omega) (by omega))
   by_cases Pm:q>0
   ·rw [if_pos Pm]
    have hk:∀i,i<n+1→Le lt (P (kas_rev p (n-(q+1)) n) i) (P p i)∧Le lt (P p i) (P (kas_rev p (n-(q+1)) n) i):=λi hi=>by
     rw [qa (by omega)]
     split
     ·rename_i hh
      have a1:=he i hh.1 hh.2;have a2:=he (n-(q+1)+n-1-i) (by omega) (by omega)
      have b1:=h i (n-1) (by omega) (by omega)
      have b2:=h (n-(q+1)+n-1-i) (n-1) (by omega) (by omega)
      exact ⟨O.fj a2 b1,O.fj a1 b2⟩
     ·exact ⟨O.rf _,O.rf _⟩
    have MK:so lt (kas_rev p (n-(q+1)) n) (n+1):=λi j h2 h3=>O.fj (hk j h3).1 (O.fj (up i j h2 h3) (hk i (by omega)).2)
    obtain ⟨p',n',q',e',a,b,d,g,w,v⟩:=rX f (kas_rev p (n-(q+1)) n) (n+1) 0 (by omega) (by omega) (by rw [qB];omega) MK (λi h2 h3=>by
     have:i=n+1-1:=by omega
     rw [this];exact O.rf _)
    exact ⟨p',n',q',e',a.trans (e9 _ _ _),by omega,by omega,g,w,v⟩
   ·rw [if_neg Pm]
    obtain ⟨p',n',q',e',a,b,d,g,w,v⟩:=rX f p (n+1) 0 (by omega) (by omega) (by omega) up (λi h2 h3=>by
     have:i=n+1-1:=by omega
     rw [this];exact O.rf _)
    exact ⟨p',n',q',e',a,by omega,by omega,g,w,v⟩
  |false=>
   rw [if_neg dW];have e2:ev lt (KasT.ask (P p (n-1)) (P p n) λd=>if d=true then KasT.ret (p,n,q) else kas_desc f p (n+1) (q+1))=ev lt (if lt (P p (n-1)) (P p n)=true then KasT.ret (p,n,q) else kas_desc f p (n+1) (q+1)):=rfl;rw [e2];cases c2:lt (P p (n-1)) (P p n) with
   |true=>
    rw [if_pos rfl];exact ⟨p,n,q,rfl, .refl _,br _,by omega,hq,h,he⟩
   |false=>
    rw [if_neg dW]
    have up:so lt p (n+1):=λi j h2 h3=>by
     by_cases hj:j<n
     ·exact h i j h2 hj
     ·by_cases hi:i=j
      ·subst hi;exact O.rf _
      ·have:j=n:=by omega
       subst this;exact O.fj c2 (h i (j-1) (by omega) (by omega))
    obtain ⟨p',n',q',e',a,b,d,g,w,v⟩:=rX f p (n+1) (q+1) (by omega) (by omega) (by omega) up (λi h2 h3=>by
     show Le lt (P p i) (P p n)
     by_cases hi:i=n
     ·subst hi;exact O.rf _
     ·exact O.fj (he i (by omega) (by omega)) c)
    exact ⟨p',n',q',e',a,by omega,by omega,g,w,v⟩
theorem Gg{p:Array Nat}{n:Nat}(hz:n≤p.size)(h:so lt p n):pZ lt (kas_rev p 0 n) n:=λi j h2 h3=>by
 rw [qa hz,qa hz,if_pos ⟨cn _,by omega⟩,if_pos ⟨cn _,h3⟩]
 exact h _ _ (by omega) (by omega)
theorem y6{p:Array Nat}{n nrem:Nat}(h1:1≤n)(hn:n≤nrem)(hz:nrem≤p.size)(h:so lt p n):
  ∃m p',ev lt (kas_tail3 n nrem p)=(m,p')∧p'.Perm p∧1≤m∧m≤nrem∧pZ lt p' m:=by
 unfold kas_tail3;rw [jx];obtain ⟨a,b,c,_⟩:=wg O (p:=kas_rev p 0 n) (nrem-n) n h1 (Gg O (by omega) h)
 exact ⟨_,_,rfl,e9 _ _ _,by omega,by omega,a⟩
theorem oN{p:Array Nat}{n nrem:Nat}(h1:1≤n)(hn:n<nrem)(hz:nrem≤p.size)(h:so lt p (n+1)):
  ∃m p',ev lt (kas_descPart n nrem p)=(m,p')∧p'.Perm p∧1≤m∧m≤nrem∧pZ lt p' m:=by
 unfold kas_descPart;rw [jx]
 obtain ⟨p',n',q',e',a,b,d,g,w,v⟩:=rX O (nrem-(n+1)) p (n+1) 0 (by omega) (by omega) (by omega) h (λi h2 h3=>by
  have:i=n+1-1:=by omega
  rw [this];exact O.rf _)
 rw [e'];dsimp only;have LQ:p'.size=p.size:=a.size_eq
 by_cases hq:q'>0
 ·rw [if_pos hq]
  have hk:∀i,i<n'→Le lt (P (kas_rev p' (n'-(q'+1)) n') i) (P p' i)∧Le lt (P p' i) (P (kas_rev p' (n'-(q'+1)) n') i):=λi hi=>by
   rw [qa (by omega)]
   split
   ·rename_i hh
    have a1:=v i hh.1 hh.2;have a2:=v (n'-(q'+1)+n'-1-i) (by omega) (by omega)
    have b1:=w i (n'-1) (by omega) (by omega)
    have b2:=w (n'-(q'+1)+n'-1-i) (n'-1) (by omega) (by omega)
    exact ⟨O.fj a2 b1,O.fj a1 b2⟩
   ·exact ⟨O.rf _,O.rf _⟩
  have MK:so lt (kas_rev p' (n'-(q'+1)) n') n':=λi j h2 h3=>O.fj (hk j h3).1 (O.fj (w i j h2 h3) (hk i (by omega)).2)
  obtain ⟨m,p2,e2,a2,b2,c2,d2⟩:=y6 O (n:=n') (nrem:=nrem) (p:=kas_rev p' (n'-(q'+1)) n') (by omega) (by omega) (by rw [qB];omega) MK
  exact ⟨m,p2,e2,a2.trans ((e9 _ _ _).trans a),b2,c2,d2⟩
 ·rw [if_neg hq]
  obtain ⟨m,p2,e2,a2,b2,c2,d2⟩:=y6 O (n:=n') (nrem:=nrem) (p:=p') (by omega) (by omega) (by omega) w
  exact ⟨m,p2,e2,a2.trans a,b2,c2,d2⟩
theorem Cc{p:Array Nat}{nrem:Nat}(hn:1≤nrem)(hz:nrem≤p.size):∃m p',ev lt (kas_count nrem p)=(m,p')∧p'.Perm p∧1≤m∧m≤nrem∧pZ lt p' m:=by
 unfold kas_count;rw [jx];obtain ⟨a,b,c,d⟩:=wg O (p:=p) (nrem-1) 1 (br _) (DX O);generalize ev lt (kas_asc p (nrem-1) 1)=n at a b c d
 by_cases Pf:n=nrem
 ·rw [if_pos (by simpa using Pf)]
  exact ⟨_,_,rfl, .refl _,by omega,by omega,a⟩
 ·rw [if_neg (by simpa using Pf)]
  have b0:=d (by omega)
  by_cases h2:n>1
  ·rw [if_pos h2]
   have e:ev lt (KasT.ask (P p 0) (P p (n-1)) λc=>if c=true then KasT.ret (n,p) else kas_descPart n nrem (kas_rev p 0 n))=ev lt (if lt (P p 0) (P p (n-1))=true then KasT.ret (n,p) else kas_descPart n nrem (kas_rev p 0 n)):=rfl;show ∃m p',ev lt (KasT.ask (P p 0) (P p (n-1)) λc=>if c=true then KasT.ret (n,p) else kas_descPart n nrem (kas_rev p 0 n))=(m,p')∧_;rw [e];cases hc:lt (P p 0) (P p (n-1)) with
   |true=>
    rw [if_pos rfl];exact ⟨_,_,rfl, .refl _,by omega,by omega,a⟩
   |false=>
    rw [if_neg dW];have Jm:∀i j,i<n→j<n→Le lt (P p i) (P p j):=λi j hi hj=>O.fj (a i (n-1) (by omega) (by omega)) (O.fj hc (a 0 j (by omega) hj))
    have ds:so lt (kas_rev p 0 n) (n+1):=λi j h3 h4=>by
     rw [qa (by omega),qa (by omega)]
     by_cases hj:j<n
     ·rw [if_pos ⟨cn _,hj⟩,if_pos ⟨cn _,by omega⟩]
      exact Jm _ _ (by omega) (by omega)
     ·have UM:j=n:=by omega
      subst UM;rw [if_neg (by omega)]
      by_cases hi:i<j
      ·rw [if_pos ⟨cn _,hi⟩]
       exact O.fj (O.as b0) (Jm _ _ (by omega) (by omega))
      ·rw [if_neg (by omega)]
       have:i=j:=by omega
       subst this;exact O.rf _
    obtain ⟨m,p2,e2,a2,b2,c2,d2⟩:=oN O (n:=n) (nrem:=nrem) (p:=kas_rev p 0 n) (by omega) (by omega) (by rw [qB];omega) ds
    exact ⟨m,p2,e2,a2.trans (e9 _ _ _),b2,c2,d2⟩
  ·rw [if_neg h2]
   have h1:n=1:=by omega
   subst h1
   have ds:so lt p (1+1):=λi j h3 h4=>by
    by_cases hi:i=j
    ·subst hi;exact O.rf _
    ·have hj:j=1:=by omega
     have lF:i=0:=by omega
     subst hj lF;exact O.as b0
   exact oN O (n:=1) (nrem:=nrem) (p:=p) (by omega) (by omega) hz ds
theorem qz{p:Array Nat}{k:Nat}(h:pZ lt p k):∀(f l r:Nat),r≤l+f→l≤r→r≤k→(∀i,i<l→Le lt (P p i) (P p k))→(∀i,r≤i→i<k→lt (P p k) (P p i)=true)→
  ev lt (kas_place p k f l r)≤k∧(∀i,i<ev lt (kas_place p k f l r)→Le lt (P p i) (P p k))∧(∀i,ev lt (kas_place p k f l r)≤i→i<k→lt (P p k) (P p i)=true)
 |0,l,r,h1,h2,h3,h4,h5=>by
  have e:l=r:=by omega
  subst e;exact ⟨h3,h4,h5⟩
 |f+1,l,r,h1,h2,h3,h4,h5=>by
  by_cases Pc:l≥r
  ·have e:ev lt (kas_place p k (f+1) l r)=l:=by
    show ev lt (if l≥r then KasT.ret l else _)=l;rw [if_pos Pc];rfl
   have e2:l=r:=by omega
   rw [e];subst e2;exact ⟨h3,h4,h5⟩
  ·have e:ev lt (kas_place p k (f+1) l r)=ev lt (if lt (P p k) (P p ((l+r) / 2))=true then kas_place p k f l ((l+r) / 2) else kas_place p k f ((l+r) / 2+1) r):=by
    show ev lt (if l≥r then KasT.ret l else _)=_;rw [if_neg Pc];rfl
   rw [e];cases c:lt (P p k) (P p ((l+r) / 2)) with
   |true=>
    rw [if_pos rfl];refine qz h f l ((l+r) / 2) (by omega) (by omega) (by omega) h4 λi hi hk=>?_
    rcases O.neg _ (P p i) _ c with z|z
    ·exact z
    ·have:=h ((l+r) / 2) i hi hk
     unfold Le at this;rw [this] at z;cases z
   |false=>
    rw [if_neg dW];exact qz h f ((l+r) / 2+1) r (by omega) (by omega) h3 (λi hi=>O.fj (h i ((l+r) / 2) (by omega) (by omega)) c) h5
theorem Be:∀(f:Nat)(p:Array Nat)(k:Nat),k+f≤p.size→pZ lt p k→∃p',ev lt (kas_bin f p k)=p'∧p'.Perm p∧pZ lt p' (k+f)
 |0,p,k,_,h=>⟨p,rfl, .refl _,h⟩
 |f+1,p,k,hz,h=>by
  have e:ev lt (kas_bin (f+1) p k)=ev lt (kas_bin f (bubble p k (k-ev lt (kas_place p k k 0 k))) (k+1)):=by
   show ev lt ((kas_place p k k 0 k).bind λl=>kas_bin f (bubble p k (k-l)) (k+1))=_;rw [jx]
  rw [e];obtain ⟨a,b,c⟩:=qz O h k 0 k (by omega) (cn _) (br _) (λi hi=>absurd hi (Nat.not_lt_zero _)) (λi h1 h2=>absurd h2 (by omega))
  generalize ev lt (kas_place p k k 0 k)=l at a b c
  have hb:∀x,P (bubble p k (k-l)) x=if x=l then P p k else if l<x∧x≤k then P p (x-1) else P p x:=λx=>by
   have q:=getElem?_bubble (xs:=p) (src:=k) (by omega) (k-l) (by omega) x
   have e1:k-(k-l)=l:=by omega
   rw [e1] at q
   split
   ·rename_i hh;rw [if_pos hh] at q;exact xD q
   ·rename_i hh
    rw [if_neg hh] at q
    split
    ·rename_i h2;rw [if_pos h2] at q;exact xD q
    ·rename_i h2;rw [if_neg h2] at q;exact xD q
  have up:pZ lt (bubble p k (k-l)) (k+1):=λi j h1 h2=>by
   rw [hb,hb]
   by_cases e1:i=l
   ·rw [if_pos e1]
    by_cases e2:j=l
    ·rw [if_pos e2];exact O.rf _
    ·rw [if_neg e2,if_pos ⟨by omega,by omega⟩]
     exact O.as (c (j-1) (by omega) (by omega))
   ·rw [if_neg e1]
    by_cases e2:j=l
    ·rw [if_pos e2,if_neg (by omega)]
     exact b i (by omega)
    ·rw [if_neg e2]
     by_cases e3:l<i
     ·rw [if_pos ⟨e3,by omega⟩,if_pos ⟨by omega,by omega⟩]
      exact h _ _ (by omega) (by omega)
     ·rw [if_neg (by omega)]
      by_cases e4:l<j
      ·rw [if_pos ⟨e4,by omega⟩]
       exact h _ _ (by omega) (by omega)
      ·rw [if_neg (by omega)]
       exact h _ _ h1 (by omega)
  obtain ⟨p',e',a',b'⟩:=Be f (bubble p k (k-l)) (k+1) (by rw [bubble_size];omega) up
  exact ⟨p',e',a'.trans (bubble_perm _ _ _),by rw [show k+(f+1)=k+1+f by omega];exact b'⟩
theorem Gp{n:Nat}(hn:1≤n):∃p,ev lt (kas_sort n)=p∧p.toList.Perm (List.range n)∧p.toList.Pairwise (Le lt):=by
 have pw:∀p:Array Nat,p.size=n→pZ lt p n→p.toList.Pairwise (Le lt):=λp hz h=>by
  rw [List.pairwise_iff_getElem];intro i j hi hj rD;have lF:i<p.size:=by simpa using hi
  have O9:j<p.size:=by simpa using hj
  have q:=h i j (by omega) (by omega)
  unfold P at q;simpa [Array.getD,lF,O9] using q
 unfold kas_sort;rw [jx];obtain ⟨m,p',e',a,b,c,d⟩:=Cc O (p:=List.toArray (List.range n)) hn (by simp)
 rw [e'];dsimp only;have LQ:p'.size=n:=by rw [a.size_eq];simp
 have pl:p'.toList.Perm (List.range n):=by simpa using A6.mp a
 by_cases hm:m<n
 ·rw [if_pos hm]
  obtain ⟨p2,e2,a2,b2⟩:=Be O (n-max m 1) p' (max m 1) (by omega) (by rw [show max m 1=m by omega];exact d)
  refine ⟨p2,e2,(A6.mp a2).trans pl,pw p2 (by rw [a2.size_eq,LQ]) ?_⟩
  rw [show max m 1+(n-max m 1)=n by omega] at b2
  exact b2
 ·rw [if_neg hm]
  have:m=n:=by omega
  subst this;exact ⟨p',rfl,pl,pw p' LQ d⟩
end
def fB{α:Type}(n:Nat)(Q:α→Prop):KasT α→Prop
 | .ret a=>Q a
 | .ask i j k=>i<n∧j<n∧∀b,fB n Q (k b)
theorem gm{α:Type}{n:Nat}{Q Q':α→Prop}(h:∀a,Q a→Q' a):∀t:KasT α,fB n Q t→fB n Q' t
 | .ret a,z=>h a z
 | .ask _ _ k,z=>⟨z.1,z.2.1,λb=>gm h (k b) (z.2.2 b)⟩
theorem allI_bind{α β:Type}{n:Nat}{Q:β→Prop}{f:α→KasT β}:∀t:KasT α,fB n (λa=>fB n Q (f a)) t→fB n Q (t.bind f)
 | .ret _,z=>z
 | .ask _ _ k,z=>⟨z.1,z.2.1,λb=>allI_bind (k b) (z.2.2 b)⟩
def mG(n:Nat)(p:Array Nat):Prop:=0<n∧∀x∈p.toList,x<n
theorem mG.at{n:Nat}{p:Array Nat}(h:mG n p)(i:Nat):p.getD i 0<n:=by
 rw [q0];cases q:p[i]? with
 |none=>exact h.1
 |some x=>
  refine h.2 x ?_;rw [←pV] at q;exact f7 q
theorem mG.perm{n:Nat}{p q:Array Nat}(h:mG n p)(hp:q.Perm p):mG n q:=⟨h.1,λx hx=>h.2 x ((A6.mp hp).mem_iff.mp hx)⟩
theorem sF{n:Nat}{p:Array Nat}(h:mG n p):∀f m,fB n (λ_=>True) (kas_asc p f m)
 |0,_=>trivial
 |f+1,m=>⟨h.at _,h.at _,λb=>by cases b with|true=>exact trivial|false=>exact sF h f (m+1)⟩
theorem mm{n:Nat}:∀(f:Nat)(p:Array Nat)(m q:Nat),mG n p→fB n (λr=>mG n r.1) (kas_desc f p m q)
 |0,p,m,q,h=>h
 |f+1,p,m,q,h=>⟨h.at _,h.at _,λb=>by
  cases b with
  |true=>
   show fB n _ (if q>0 then kas_desc f (kas_rev p (m-(q+1)) m) (m+1) 0 else kas_desc f p (m+1) 0)
   split
   ·exact mm f _ _ _ (h.perm (e9 _ _ _))
   ·exact mm f _ _ _ h
  |false=>
   refine ⟨h.at _,h.at _,λd=>?_⟩;cases d with
   |true=>exact h
   |false=>exact mm f _ _ _ h⟩
theorem vO{n:Nat}{p:Array Nat}(h:mG n p)(m nrem:Nat):fB n (λr=>mG n r.2) (kas_tail3 m nrem p):=
 allI_bind _ (gm (λ_ _=>h.perm (e9 _ _ _)) _ (sF (h.perm (e9 _ _ _)) _ _))
theorem mV{n:Nat}{p:Array Nat}(h:mG n p)(m nrem:Nat):fB n (λr=>mG n r.2) (kas_descPart m nrem p):=
 allI_bind _ (gm (λr hr=>by
  show fB n _ (if r.2.2>0 then _ else _)
  split
  ·exact vO (hr.perm (e9 _ _ _)) _ _
  ·exact vO hr _ _) _ (mm _ _ _ _ h))
theorem zx{n:Nat}{p:Array Nat}(h:mG n p)(nrem:Nat):fB n (λr=>mG n r.2) (kas_count nrem p):=
 allI_bind _ (gm (λm _=>by
  show fB n _ (if (m==nrem)=true then _ else _)
  split
  ·exact h
  ·split
   ·refine ⟨h.at _,h.at _,λb=>?_⟩
    cases b with
    |true=>exact h
    |false=>exact mV (h.perm (e9 _ _ _)) _ _
   ·exact mV h _ _) _ (sF h _ _))
theorem oe{n:Nat}{p:Array Nat}(h:mG n p)(k:Nat):∀f l r,fB n (λ_=>True) (kas_place p k f l r)
 |0,_,_=>trivial
 |f+1,l,r=>by
  show fB n _ (if l≥r then _ else _)
  split
  ·exact trivial
  ·refine ⟨h.at _,h.at _,λb=>?_⟩
   cases b with
   |true=>exact oe h k f _ _
   |false=>exact oe h k f _ _
theorem xN{n:Nat}:∀(f:Nat)(p:Array Nat)(k:Nat),mG n p→fB n (λ_=>True) (kas_bin f p k)
 |0,_,_,_=>trivial
 |f+1,p,k,h=>allI_bind _ (gm (λl _=>xN f _ _ (h.perm (bubble_perm _ _ _))) _ (oe h k _ _ _))
theorem C9{n:Nat}(hn:0<n):fB n (λ_=>True) (kas_sort n):=
 allI_bind _ (gm (λr hr=>by
  show fB n _ (if r.1<n then _ else _)
  split
  ·exact xN _ _ _ hr
  ·exact trivial) _ (zx (n:=n) (p:=List.toArray (List.range n)) ⟨hn,λx hx=>cg.mp (by simpa using hx)⟩ n))
theorem GO{α:Type}{cmp:Nat→Nat→(Bool→Shared→Prop)→Shared→Prop}{lt:Nat→Nat→Bool}{s:Shared}{Q:α→Shared→Prop}{n:Nat}
  (hc:∀i j (C:Bool→Shared→Prop),i<n→j<n→C (lt i j) s→cmp i j C s):∀t:KasT α,fB n (λ_=>True) t→Q (ev lt t) s→t.kasWp cmp Q s
 | .ret _,_,h=>h
 | .ask i j k,z,h=>hc i j _ z.1 z.2.1 (GO hc (k (lt i j)) (z.2.2 _) h)
section
variable {prog:Program} {w:World} {A:Around} {E:Value→Shared→Prop} {s:Shared}
theorem yX{a:Addr}{vs:List Value}{n:Nat}{G:PySem.Fin→Shared→Prop}(ho:s.heap.get? a=some (seqObj "list" vs.toArray n))(h2:vs.length<2)
  (h:G (.done (.ret .none)) {s with heap:=sortedHeap s.heap a vs vs.toArray}):wpAny (model prog w) A (Builtin.«list.sort» ⟨[.ref a],[]⟩) G E s:=by
 rw [list_sort_plain];have la:a<s.heap.objs.size:=Heap.lt_size ho;refine wpAny_bind (listItems_at ho rfl (wpAny_bind (listUpdate_at ho rfl ?_)));obtain ⟨e1,nU⟩:∃k,(s.heap.update a (Obj.mapSeq λ_=> #[])).get? a=some (seqObj "list" #[] k):=⟨_,get?_update_seq ho (λ_=> #[])⟩;refine wpAny_bind (seqEpoch_at nU rfl (wpAny_bind (wpAny_newTuple (wpAny_bind (wpAny_newList (wpAny_holding ?_))))));have HG:(((s.heap.update a (Obj.mapSeq λ_=> #[])).push (seqObj "tuple" vs.toArray 0)).push (seqObj "list" #[] 0)).get? a=some (seqObj "list" #[] e1):=Heap.get?_push_of_some _ (Heap.get?_push_of_some _ nU);show wpAny (model prog w) A _ G E {s with heap:=((s.heap.update a (Obj.mapSeq λ_=> #[])).push (seqObj "tuple" vs.toArray 0)).push (seqObj "list" #[] 0)}
 dsimp only;have lz:vs.toArray.size<2:=by simpa using h2
 rw [if_pos lz,if_pos lz];refine wpAny_bind (wpAny_pure ?_);rw [StateT.run_pure];refine wpAny_bind (wpAny_pure ?_);dsimp only
 have ez:(arrOf (SortSt.mk' general' (vs.toArray.zip vs.toArray) #[] 7 none)).map (·.2)=vs.toArray:=by
  show (vs.toArray.zip vs.toArray).map (·.2)=vs.toArray;apply Array.toList_inj.mp;simp [List.map_snd_zip]
 refine wpAny_bind (seqEpoch_at HG rfl (wpAny_bind (listUpdate_at HG rfl ?_ (hsz2:=by rw [ez];rw [sizeLine_eq];omega))))
 simp only [bne_self_eq_false,vY,if_false];have h':=h;unfold sortedHeap at h';rw [ez];exact wpAny_pure h'
theorem uX{l:Addr}{vs:List Value}{G:Value→Shared→Prop}(hl:s.heap.IsList l vs.toArray)(h2:vs.length<2)(h:G (.ref (s.heap.objs.size+1)) {s with heap:=sortedAll s.heap vs vs.toArray}):
  wpAny (model prog w) A (call (.builtin "sorted") [.ref l]) G E s:=by
 refine Calls.call_function_entry kind_sorted plain_sorted entry_sorted (args_sorted1 (.ref l)) ?_;unfold Builtin.«sorted»;have l2:vs.length≤sizeLine:=by rw [sizeLine_eq];omega
 refine wpAny_bind (m:=checkCount "sorted" 1 1 _) (wpAny_pure (wpAny_bind (collect_list hl (wpAny_bind (wpAny_newList ?_ l2)) l2)));have z1:((s.heap.push (seqObj "list" #[] 0)).update s.heap.objs.size (Obj.mapSeq (·++vs.toArray))).objs.size=s.heap.objs.size+1:=by rw [Heap.size_update,size_push']
 have z2:(((s.heap.push (seqObj "list" #[] 0)).update s.heap.objs.size (Obj.mapSeq (·++vs.toArray))).push (seqObj "list" vs.toArray 0)).get? (s.heap.objs.size+1)=some (seqObj "list" vs.toArray 0):=by
  rw [←z1];exact Heap.get?_push_size _ rfl
 show wpAny (model prog w) _ _ _ E {s with heap:=((s.heap.push (seqObj "list" #[] 0)).update s.heap.objs.size (Obj.mapSeq (·++vs.toArray))).push (seqObj "list" vs.toArray 0)}
 rw [z1];exact wpAny_bind (wpAny_holding (wpAny_call_entry slot_list_sort ⟨_,z2,rfl⟩ entry_list_sort (yX z2 h2 ⟨_,rfl,wpAny_pure ⟨_,rfl,h⟩⟩) (args_list_sort _)))
end
end KS
namespace L2
open PySem PySem.Spec PyProof.Rows
section
variable {X:Cx} {pins:List (Addr×Obj)} {σ:St} {H:Hp} {s:Shared} {h':Heap}
theorem Inv.L0{t':Nat}{t:Addr}{o:HO}(I:Inv X pins σ H s)(k:∀b o,b≠X.env.locals→s.heap.get? b=some o→h'.get? b=some o)(ns:∀m,s.heap.Ns X.env.locals m→h'.Ns X.env.locals m)
  (ht:s.heap.get? t=none) (nt:H t=none) (new:cJ X.prog X.w (upd H t o) h' t o):Inv X pins σ (upd H t o) {s with heap:=h',toks:=t'}:=by
 have up:∀b u,H b=some u→upd H t o b=some u:=λb u e=>by rw [aD (aT e nt)];exact e
 have nL:∀b u,H b=some u→b≠X.env.locals:=λb u e z=>by rw [z,I.free] at e;cases e
 refine I.step (g':=s.gens) (d':=s.drawn) (ch:= []) (λb hb=>by cases hb) (λb o hb _ _ e _=>k b o hb e) (λb o hb _ _ e _=>⟨o.slots,k b o hb e⟩) (λb o _ e n=>?_)
  (λb o _ e=>?_) (λb xs e=>up b _ e) (λb _ _ e=>up b _ e) (λb ps e=>⟨#[],by rw [up b _ e];simp⟩) ns (λb u e=>?_) I.bare
 ·rw [aD (λz=>by rw [z,ht] at e;cases e)];exact n
 ·by_cases hb:b=X.env.locals
  ·obtain ⟨m,hm,_⟩:=I.loc
   obtain ⟨o',_,_,ik,_⟩:=ns m hm;rw [hb];exact ⟨o',ik⟩
  ·exact ⟨o,k b o hb e⟩
 ·by_cases hb:b=t
  ·subst hb
   rw [aB] at e;cases e;exact new
  ·rw [aD hb] at e
   refine (I.hok b u e).pP (λc v hc q=>k c v ?_ q) (λb' q=>up b' _ q) λb' _ q=>up b' _ q
   rcases hc with z|z
   ·rw [z];exact nL b u e
   ·exact nL c _ z
end
def Az(k:Nat×Nat):List V:= [.int (k.1:Nat), .int (k.2:Nat)]
def B8(H:Hp)(L:List (Addr×(Nat×Nat))):Prop:=∀p∈L,H p.1=some (.tup (Az p.2))
def iu(a b:Nat×Nat):Bool:=if a.1=b.1 then decide (a.2<b.2) else decide (a.1<b.1)
theorem qs(x y:Nat×Nat):iu x y=true↔x.1<y.1∨(x.1=y.1∧x.2<y.2):=by
 unfold iu
 by_cases e:x.1=y.1
 ·rw [if_pos e,decide_eq_true_iff]
  omega
 ·rw [if_neg e,decide_eq_true_iff]
  omega
theorem CI(x y z:Nat×Nat)(h:iu x z=true):iu x y=true∨iu y z=true:=by
 rw [qs] at*;rw [qs];omega
theorem Fp(x y z:Nat×Nat)(h:iu x y=true)(h':iu y z=true):iu x z=true:=by
 rw [qs] at*;omega
theorem CJ(L:List (Addr×(Nat×Nat))):KS.Ord λi j=>iu (L.getD i (0,(0,0))).2 (L.getD j (0,(0,0))).2 where
 irr:=λa=>by unfold iu;rw [if_pos rfl];simp
 neg:=λa b c h=>CI _ _ _ h
 tr:=λa b c h h'=>Fp _ _ _ h h'
theorem Fo{a b:Nat×Nat}(h:iu b a=false):Wb.lexLe a b:=by
 unfold iu at h;unfold Wb.lexLe
 by_cases e:b.1=a.1
 ·rw [if_pos e] at h
  have:=of_decide_eq_false h
  right;omega
 ·rw [if_neg e] at h
  have:=of_decide_eq_false h
  left;omega
theorem HM{prog:Program}{w:World}{A:Around}{E:Value→Shared→Prop}{s:Shared}{x y:Addr}{a1 a2 b1 b2:Int}{t1 t2 u1 u2:Tok}{C:Bool→Shared→Prop}
  (hx:IsTup s.heap x [.int a1 t1, .int a2 t2].toArray) (hy:IsTup s.heap y [.int b1 u1, .int b2 u2].toArray)
  (h:C (if a1=b1 then decide (a2<b2) else decide (a1<b1)) s):wpAny (model prog w) A (keyLt' (tuples' true) (.ref x) (.ref y)) C E s:=by
 obtain ⟨ox,UT,_,nx,dx⟩:=hx;obtain ⟨oy,UU,_,ny,dy⟩:=hy;refine PySem.W.kat_lt UT dx UU dy ?_;refine PySem.W.kat_cons (SeqAt.EqAt.int_int a1 t1 b1 u1 prog w _ _ ?_)
 by_cases e1:a1=b1
 ·rw [if_pos e1] at h
  rw [show (a1==b1)=true by simpa using e1]
  refine PySem.W.kat_yes (PySem.W.kat_cons (SeqAt.EqAt.int_int a2 t2 b2 u2 prog w _ _ ?_))
  by_cases e2:a2=b2
  ·rw [show (a2==b2)=true by simpa using e2]
   refine PySem.W.kat_yes (PySem.W.kat_nil ?_);rw [show decide (a2<b2)=false by simp;omega] at h
   simpa using h
  ·rw [show (a2==b2)=false by simpa using e2]
   refine PySem.W.kat_no (PySem.W.kat_one _ _ ?_);exact lt_int h
 ·rw [if_neg e1] at h
  rw [show (a1==b1)=false by simpa using e1]
  exact PySem.W.kat_no (oneLt_int h)
section
variable {X:Cx}
theorem zP{α:Type}{L:List α}{d:α}{π:List Nat}(h:π.Perm (List.range L.length)):(π.map λi=>L.getD i d).Perm L:=by
 have e:(List.range L.length).map (λi=>L.getD i d)=L:=by
  apply List.ext_getElem?;intro i;rw [eC]
  by_cases hi:i<L.length
  ·rw [bq (by simpa using hi),bq hi]
   simp [hi]
  ·rw [i9 (by simp;omega),i9 (by omega)];rfl
 have:=h.map (λi=>L.getD i d)
 rw [e] at this;exact this
theorem um:∀{as:List Addr}{us:List Value},Vals (as.map V.ref) us→us=as.map Value.ref
 | [],_, .nil=>rfl
 |a::as,_, .cons r t=>by cases r;rw [um t];rfl
theorem uc:∀as:List Addr,Vals (as.map V.ref) (as.map Value.ref)
 | []=> .nil
 |a::as=> .cons rfl (uc as)
theorem Ig{P:Program}{w:World}{H:Hp}{h:Heap}{a:Addr}{o:HO}(x:cJ P w H h a o):∃u,h.get? a=some u:=by
 induction o with
 |lst xs=>obtain ⟨_,_,_,_,e⟩:=x;exact ⟨_,e⟩
 |tup xs=>obtain ⟨_,_,_,ob,e,_⟩:=x;exact ⟨_,e⟩
 |dK dB=>obtain ⟨_,_,_,_,ob,_,_,e,_⟩:=x;exact ⟨_,e⟩
 |dT dB=>obtain ⟨_,_,_,_,ob,_,_,e,_⟩:=x;exact ⟨_,e⟩
 |set S n=>obtain ⟨ob,_,_,_,e,_⟩:=x;exact ⟨_,e⟩
 |ins C dx fs=>obtain ⟨_,_,_,e,_⟩:=x;exact ⟨_,e⟩
 |own y=>exact x
 |xd fs=>obtain ⟨_,⟨od,_,_,e,_⟩,_⟩:=x;exact ⟨_,e⟩
 |rng lo hi=>obtain ⟨_,_,_,e⟩:=x;exact ⟨_,e⟩
 |nP ob u ih=>exact ⟨_,x.1⟩
 |y8 ps=>exact ⟨_,x⟩
 |met f y=>exact ⟨_,x⟩
 |ext φ=>exact x.2.1
theorem vF{pins:List (Addr×Obj)}{σ:St}{H:Hp}{s:Shared}{a:Addr}{k:Nat×Nat}(I:Inv X pins σ H s)(h:H a=some (.tup (Az k))):
  ∃t u,IsTup s.heap a [.int (k.1:Nat) t, .int (k.2:Nat) u].toArray:=by
 obtain ⟨its,r,p,_⟩:=I.tuple (fL.of h);obtain ⟨u1,u2,rfl,⟨t,rfl⟩,⟨u,rfl⟩⟩:=Vals.two r;exact ⟨t,u,p⟩
theorem uO(hu:X.A.units+64<cLine):cC X (.builtin "sorted") (λxs H Q=>∃(p:Addr)(L:List (Addr×(Nat×Nat))),xs= [.ref p]∧cD X.K H p (L.map λe=>V.ref e.1)∧B8 H L∧L.length<64∧
  ∀(q:Addr)(M:List (Addr×(Nat×Nat))),H q=none→M.Perm L→(M.map (·.2)).Pairwise Wb.lexLe→Q (.ref q) (upd H q (.lst (M.map λe=>V.ref e.1)))):=by
 intro pins s σ H xs us Q I rv h;obtain ⟨p,L,rfl,hp,hL,hz,q⟩:=h;obtain ⟨u,rfl,ru⟩:=rv.one;cases ru;obtain ⟨its,r,pl,_⟩:=I.list hp;have hl:=r.length;rw [List.length_map] at hl;have dq:64≤sizeLine:=by decide
 have ei:its=L.map λe=>Value.ref e.1:=by
  have:=um (as:=L.map (·.1)) (us:=its) (by rw [fI];exact r)
  rw [this,fI];rfl
 by_cases h2:L.length<2
 ·refine KS.uX pl.isList (by omega) ?_
  obtain ⟨e,he⟩:=sortedAll_at s.heap its its.toArray;have fr:H (s.heap.objs.size+1)=none:=I.hok.fresh (pY _);refine ⟨.ref (s.heap.objs.size+1),_,I.laid (t':=s.toks) (λb o hb=>sortedAll_old hb) (pY _) (o:= .lst (L.map λe=>V.ref e.1)) ⟨by rw [List.length_map];omega,its,e,r,he⟩,rfl,q _ L fr (.refl _) ?_⟩
  match L,h2 with
  | [],_=>exact .nil
  | [_],_=>exact List.pairwise_singleton _ _
 ·obtain ⟨m,F⟩:=I.fr
  have N:=CT (g:=X.base) (h:=s.heap) (L:=X.env.locals);refine PySem.W.kat_sorted F N pl.isList (by omega) (by omega) λD e1 h' F' N' hD=>?_
  have kept:∀b o,b≠X.env.locals→s.heap.get? b=some o→h'.get? b=some o:=λb o hb e=>by
   cases qb:X.base.get? b with
   |some u=>
    have:=I.bk b u qb
    rw [e] at this;cases this;exact F'.keep b _ qb
   |none=>exact (N' (b,o) (cv _ (j8 hb qb e))).1
  have nL:∀b u,H b=some u→b≠X.env.locals:=λb u e z=>by rw [z,I.free] at e;cases e
  have A2:∀i,i<L.length→∃t u,its.getD i Value.none= .ref (L.getD i (0,(0,0))).1∧IsTup h' (L.getD i (0,(0,0))).1 [.int ((L.getD i (0,(0,0))).2.1:Nat) t, .int ((L.getD i (0,(0,0))).2.2:Nat) u].toArray:=λi hi=>by
   have hm:L.getD i (0,(0,0))∈L:=by
    rw [aJ,bq hi];exact nv hi
   obtain ⟨t,u,o,ho,hc,n,hd⟩:=vF I (hL _ hm);refine ⟨t,u,?_,o,kept _ _ (nL _ _ (hL _ hm)) ho,hc,n,hd⟩;rw [ei,aJ,eC,aJ,bq hi];rfl
  have tups:PySem.W.KatTups h' its (L.map λe=>Value.int (e.2.1:Nat) 0)∨∃fs:List Value,PySem.W.KatTups h' its fs∧fs.length=L.length∧∀v∈fs,∃i t,v= .int i t:=by
   right
   have go:∀(M:List (Addr×(Nat×Nat))),(∀e∈M,e∈L)→∃fs:List Value,PySem.W.KatTups h' (M.map λe=>Value.ref e.1) fs∧fs.length=M.length∧∀v∈fs,∃i t,v= .int i t:=by
    intro M
    induction M with
    |nil=>exact λ_=>⟨[],PySem.W.KatTups.nil,rfl,λv hv=>by cases hv⟩
    |cons e M ih=>
     intro hM;obtain ⟨fs,a,b,c⟩:=ih λx hx=>hM x (cv _ hx);have he:=hL e (hM e b4);obtain ⟨t,u,o,ho,hc,n,hd⟩:=vF I he;refine ⟨.int (e.2.1:Nat) t::fs,PySem.W.KatTups.cons (kept _ _ (nL _ _ he) ho) hc hd rfl a,by simp [b],λv hv=>?_⟩
     rcases b9.mp hv with z|z
     ·exact ⟨_,_,z⟩
     ·exact c v z
   rw [ei];exact go L λ_ h=>h
  obtain ⟨fs,kt,kl,ki⟩:=tups.elim (λz=>⟨_,z,by simp,λv hv=>by obtain ⟨e,_,rfl⟩:=bx.mp hv;exact ⟨_,_,rfl⟩⟩) id
  refine PySem.W.kat_kind (T:= .type "int") kt (by omega) (λv hv=>by obtain ⟨i,t,rfl⟩:=ki v hv;exact .now) (by decide) ?_
  have hb:(Value.type "int" !=Value.type "tuple")=true:=by decide
  rw [hb];have hn:its.length=L.length:=by omega
  rw [hn];obtain ⟨π,Uh,pp,ps⟩:=KS.Gp (CJ L) (n:=L.length) (by omega)
  refine KS.GO (lt:=λi j=>iu (L.getD i (0,(0,0))).2 (L.getD j (0,(0,0))).2) (n:=L.length) (λi j C hi hj hC=>?_) _ (KS.C9 (by omega)) ?_
  ·obtain ⟨t1,t2,g1,k1⟩:=A2 i hi
   obtain ⟨u1,u2,g2,k2⟩:=A2 j hj;unfold PySem.W.kas_ask;rw [g1,g2];refine HM k1 k2 ?_
   have e:(if ((L.getD i (0,(0,0))).2.1:Int)=((L.getD j (0,(0,0))).2.1:Int) then decide (((L.getD i (0,(0,0))).2.2:Int)<((L.getD j (0,(0,0))).2.2:Int)) else decide (((L.getD i (0,(0,0))).2.1:Int)<((L.getD j (0,(0,0))).2.1:Int)))
     =iu (L.getD i (0,(0,0))).2 (L.getD j (0,(0,0))).2:=by
    unfold iu;simp only [Int.ofNat_inj,Int.ofNat_lt]
   rw [e];exact hC
  ·show PySem.W.KasFin _ _ _ _ _ _ _ _
   rw [Uh];refine PySem.W.KasFin.intro F' N' (.head λp hp=>cc (hD p hp)) λh2 c F2 N2=>?_
   have LY:∀b o,b≠X.env.locals→s.heap.get? b=some o→h2.get? b=some o:=λb o hb e=>by
    cases qb:X.base.get? b with
    |some u=>
     have:=I.bk b u qb
     rw [e] at this;cases this;exact F2.keep b _ qb
    |none=>exact (N2 (b,o) (cv _ (j8 hb qb e))).1
   obtain ⟨_,OQ,Ut⟩:=N' (D,seqObj "list" #[] e1) b4
   have OS:s.heap.get? D=none:=by
    cases qd:s.heap.get? D with
    |none=>rfl
    |some o=>exact absurd (hD (D,o) (j8 OQ Ut qd)) (fW _)
   have OP:H D=none:=by
    cases qd:H D with
    |none=>rfl
    |some o=>exact absurd OQ (λ_=>by
      obtain ⟨o',ik⟩:=Ig (I.hok D o qd);rw [OS] at ik;cases ik)
   have Xb:∀m',s.heap.Ns X.env.locals m'→h2.Ns X.env.locals m':=λm' yf=>by
    rw [yf.eq_nsMap,←F.ns.eq_nsMap];exact F2.ns
   have OV:(π.toList.map λi=>L.getD i (0,(0,0))).Perm L:=zP pp;have OR:=(N2 (D,_) b4).1;refine ⟨.ref D,_,I.L0 (t':=s.toks) LY Xb OS OP (o:= .lst ((π.toList.map λi=>L.getD i (0,(0,0))).map λe=>V.ref e.1)) ⟨by rw [List.length_map,OV.length_eq];omega,(π.toList.map λi=>its.getD i Value.none),c,?_,OR⟩,rfl,q D _ OP OV ?_⟩
   ·have e:(π.toList.map λi=>its.getD i Value.none)=((π.toList.map λi=>L.getD i (0,(0,0))).map (·.1)).map Value.ref:=by
     rw [fI,fI];refine vV λi hi=>?_;obtain ⟨_,_,g,_⟩:=A2 i (cg.mp (pp.mem_iff.mp hi));exact g
    rw [e,show (λe:Addr×(Nat×Nat)=>V.ref e.1)=V.ref∘(·.1) from rfl,←fI];exact uc _
   ·rw [fI,jb]
    exact ps.imp λhle=>Fo hle
end
end L2
set_option maxHeartbeats 4000000
namespace L2
open PySem
theorem bW.of{X:Cx}{scope:Scope}(sc:Scope)(e:X.env.scope=sc)(k:scope.kind= .function)(a:∀x∈scope.names,x.2= .local→scope.names.lookup x.1=some .local)(b:∀x∈scope.names,x.2≠ .cell)
  (c:∀x∈scope.names,x.2= .free→sc.names.lookup x.1=some .cell∨sc.names.lookup x.1=some .free):bW X scope:=⟨k,a,b,λx hx hf=>by rw [←e] at c;exact c x hx hf⟩
structure fK (K:PySem.W.Frag) (mg:Str→Option Value) (x:Str) (st:Stmt) (ps:List Str) where
 f:Addr
 fd:FuncData
 F:uJ K x x st f fd
 b:Binds K fd ps []
 m:mg x=some (.ref f)
theorem aV{H:Hp}{p:Addr}(h:H p=none)(o:HO):aH H (upd H p o):=λb u q=>by rw [aD (aT q h)];exact q
theorem small{n:Nat}(h:n≤1000):n≤sizeLine:=oG (gy h)
end L2
namespace PySem.SetTable
def mQ(xs:Array Nat):Prop:=∀i j (hj:j<xs.size),i<j→xs[i]! <xs[j]!
theorem EH{xs:Array Nat}{i d:Nat}(h:i<xs.size):xs.getD i d=xs[i]! :=by
 simp [Array.getD,h]
theorem tx{xs:Array Nat}(R:mQ xs)(j:Nat):∀(fuel lo hi:Nat),hi-lo≤fuel→lo≤hi→hi≤xs.size→(∀i,i<lo→xs[i]! <j)→(∀i,hi≤i→i<xs.size→j≤xs[i]!)→
  lo≤below.go xs j fuel lo hi∧below.go xs j fuel lo hi≤hi∧(∀i,i<below.go xs j fuel lo hi→xs[i]! <j)∧∀i,below.go xs j fuel lo hi≤i→i<xs.size→j≤xs[i]!
 |0,lo,hi,h1,h2,h3,a,b=>by
  have:lo=hi:=by omega
  subst this;rw [below.go];exact ⟨br _,br _,a,b⟩
 |fuel+1,lo,hi,h1,h2,h3,a,b=>by
  rw [below.go]
  by_cases c:lo<hi
  ·rw [if_pos c]
   have hm:(lo+hi) / 2<xs.size:=by omega
   dsimp only;rw [EH hm]
   by_cases d:xs[(lo+hi) / 2]! <j
   ·rw [if_pos d]
    have:=tx R j fuel ((lo+hi) / 2+1) hi (by omega) (by omega) h3 (λi lF=>by
     by_cases e:i=(lo+hi) / 2
     ·rw [e];exact d
     ·have:=R i ((lo+hi) / 2) hm (by omega);omega) b
    exact ⟨by omega,this.2.1,this.2.2⟩
   ·rw [if_neg d]
    have:=tx R j fuel lo ((lo+hi) / 2) (by omega) (by omega) (by omega) a (λi h4 h5=>by
     by_cases e:i=(lo+hi) / 2
     ·rw [e];omega
     ·have:=R ((lo+hi) / 2) i h5 (by omega);omega)
    exact ⟨this.1,by omega,this.2.2⟩
  ·rw [if_neg c]
   have:lo=hi:=by omega
   subst this;exact ⟨br _,br _,a,b⟩
theorem gG{xs:Array Nat}(R:mQ xs)(j:Nat):below xs j≤xs.size∧(∀i,i<below xs j→xs[i]! <j)∧∀i,below xs j≤i→i<xs.size→j≤xs[i]! :=by
 have:=tx R j xs.size 0 xs.size (by omega) (cn _) (br _) (λi h=>by omega) (λi h1 h2=>by omega)
 exact ⟨this.2.1,this.2.2⟩
theorem below_at{xs:Array Nat}(R:mQ xs){i j:Nat}(h:xs[i]? =some j):below xs j=i:=by
 obtain ⟨hi,e⟩:=zf.mp h;have e':xs[i]! =j:=by simp [hi,e]
 obtain ⟨b1,b2,b3⟩:=gG R j;apply Nat.le_antisymm
 ·apply Classical.byContradiction
  intro c
  have:=b2 i (by omega)
  omega
 ·apply Classical.byContradiction
  intro c;have h1:=b3 (below xs j) (br _) (by omega)
  have h2:=R (below xs j) i hi (by omega)
  omega
theorem AS{t:SetTable}(R:mQ t.place){i j:Nat}(h:t.place[i]? =some j):t.slot j= .live i:=by
 unfold slot;rw [below_at R h];simp [h]
theorem yW{t:SetTable}(R:mQ t.place)(hd:t.dummies= #[]){j:Nat}(h:∀i:Nat,t.place[i]? ≠some j):t.slot j= .empty:=by
 unfold slot
 have h1:(t.place[below t.place j]? ==some j)=false:=by
  rw [beq_eq_false_iff_ne];exact h _
 dsimp only;rw [if_neg (by rw [h1];exact dW)]
 unfold has;rw [hd];rfl
def kP(mask:Nat)(p:Probe):Probe:=
 if p.more>0 then {p with j:=p.j+1,more:=p.more-1} else
 let (i,perturb):=leap mask p.i p.perturb
 {p with j:=i,more:=runEnd mask i-i,i,perturb}
def rQ(mask:Nat)(h:Int):Probe:={j:=bits h%(mask+1),more:=runEnd mask (bits h%(mask+1))-bits h%(mask+1),i:=bits h%(mask+1),perturb:=bits h,dummy:=none}
theorem Dq(t:SetTable)(h:Int):t.probeStart h=rQ t.mask h:=rfl
def uY(mask:Nat)(h:Int):Nat→Probe
 |0=>rQ mask h
 |k+1=>kP mask (uY mask h k)
def bZ(mask:Nat)(h:Int)(k:Nat):Nat:=(uY mask h k).j
theorem D7(h:Int):bits h<2^64:=by
 unfold bits;have h1:0≤h%(2^64:Int):=Int.emod_nonneg _ (by decide)
 have h2:h%(2^64:Int)<2^64:=Int.emod_lt_of_pos _ (by decide)
 omega
def dh(mask:Nat)(i p:Nat):Nat→Nat×Nat
 |0=>(i,p)
 |r+1=>leap mask (dh mask i p r).1 (dh mask i p r).2
theorem jl(mask i p:Nat):∀r,(dh mask i p r).2=p / 32^r
 |0=>by simp [dh]
 |r+1=>by
  show (dh mask i p r).2 / 32=_;rw [jl mask i p r,Nat.div_div_eq_div_mul,Nat.pow_succ]
def HS(mask:Nat)(i:Nat):Nat:=(i*5+1)%(mask+1)
def iV(mask:Nat)(i:Nat):Nat→Nat
 |0=>i
 |r+1=>HS mask (iV mask i r)
theorem jC(mask i:Nat)(a:Nat):∀b,iV mask i (a+b)=iV mask (iV mask i a) b
 |0=>rfl
 |b+1=>by
  show HS mask (iV mask i (a+b))=_;rw [jC mask i a b];rfl
theorem qD{mask i p r0:Nat}(h:(dh mask i p r0).2=0):∀r,dh mask i p (r0+r)=(iV mask (dh mask i p r0).1 r,0)
 |0=>by rw [Nat.add_zero,iV];exact Prod.ext rfl h
 |r+1=>by
  show leap mask (dh mask i p (r0+r)).1 (dh mask i p (r0+r)).2=_;rw [qD h r];unfold leap;simp [iV,HS]
def sr(mask:Nat):Prop:=mask=7∨mask=31∨mask=127∨mask=511
def Mb(mask:Nat):Nat→Nat→List Nat
 |_,0=> []
 |i,n+1=>i::Mb mask (HS mask i) n
theorem yA{mask s:Nat}:∀{i n:Nat},s∈Mb mask i n→∃r,r<n∧iV mask i r=s
 |i,0,h=>by cases h
 |i,n+1,h=>by
  rcases b9.mp h with rfl|h
  ·exact ⟨0,by omega,rfl⟩
  ·obtain ⟨r,hr,e⟩:=yA h
   refine ⟨r+1,by omega,?_⟩
   have:=jC mask i 1 r
   rw [show 1+r=r+1 by omega] at this
   rw [this];exact e
theorem Mc{mask:Nat}(h:sr mask):(∀s,s≤mask→∃r,r≤mask∧iV mask 0 r=s)∧iV mask 0 (mask+1)=0:=by
 have key:∀m,(List.range (m+1)).all (λs=>(Mb m 0 (m+1)).contains s)=true→∀s,s≤m→∃r,r≤m∧iV m 0 r=s:=λm hm s hs=>by
  have:=List.all_eq_true.mp hm s (cg.mpr (by omega))
  obtain ⟨r,hr,e⟩:=yA (List.contains_iff_mem.mp this);exact ⟨r,by omega,e⟩
 rcases h with rfl|rfl|rfl|rfl
 ·exact ⟨key 7 (by decide+kernel),by decide+kernel⟩
 ·exact ⟨key 31 (by decide+kernel),by decide+kernel⟩
 ·exact ⟨key 127 (by decide+kernel),by decide+kernel⟩
 ·exact ⟨key 511 (by decide+kernel),by decide+kernel⟩
theorem cover{mask:Nat}(h:sr mask){i s:Nat}(hi:i≤mask)(hs:s≤mask):∃r,r≤mask∧iV mask i r=s:=by
 obtain ⟨o,per⟩:=Mc h;obtain ⟨a,ha,rfl⟩:=o i hi;obtain ⟨b,hb,rfl⟩:=o s hs
 by_cases c:a≤b
 ·refine ⟨b-a,by omega,?_⟩
  rw [←jC,show a+(b-a)=b by omega]
 ·refine ⟨mask+1-a+b,by omega,?_⟩
  rw [←jC,show a+(mask+1-a+b)=mask+1+b by omega,jC,per]
def cw(mask:Nat)(p:Probe):Nat→Probe
 |0=>p
 |k+1=>kP mask (cw mask p k)
theorem jv(mask:Nat)(p:Probe)(a:Nat):∀b,cw mask p (a+b)=cw mask (cw mask p a) b
 |0=>rfl
 |b+1=>by
  show kP mask (cw mask p (a+b))=_;rw [jv mask p a b];rfl
theorem mD(mask:Nat)(h:Int):∀k,uY mask h k=cw mask (rQ mask h) k
 |0=>rfl
 |k+1=>by
  show kP mask _=kP mask _;rw [mD mask h k]
theorem qc(mask:Nat)(p:Probe):∀c,c≤p.more→cw mask p c={p with j:=p.j+c,more:=p.more-c}
 |0,_=>rfl
 |c+1,hc=>by
  show kP mask (cw mask p c)=_;rw [qc mask p c (by omega)]
  unfold kP;rw [if_pos (by show p.more-c>0;omega)]
  show ({p with j:=p.j+c+1,more:=p.more-c-1}:Probe)={p with j:=p.j+(c+1),more:=p.more-(c+1)}
  rw [show p.more-c-1=p.more-(c+1) by omega,show p.j+c+1=p.j+(c+1) by omega]
def IW(mask:Nat)(p:Probe)(ip:Nat×Nat):Probe:={p with j:=ip.1,more:=runEnd mask ip.1-ip.1,i:=ip.1,perturb:=ip.2}
theorem more_le(mask i:Nat):runEnd mask i-i≤9:=by
 unfold runEnd
 split<;>omega
theorem nG(mask:Nat)(p:Probe):cw mask p (p.more+1)=IW mask p (leap mask p.i p.perturb):=by
 show kP mask (cw mask p p.more)=_;rw [qc mask p p.more (br _)];unfold kP;rw [if_neg (by show ¬p.more-p.more>0;omega)]
 rfl
theorem sD(mask:Nat)(p:Probe):∀r,∃k,k≤p.more+1+10*r∧cw mask p k=IW mask p (dh mask p.i p.perturb (r+1))
 |0=>⟨p.more+1,by omega,nG mask p⟩
 |r+1=>by
  obtain ⟨k,hk,e⟩:=sD mask p r;have h9:=more_le mask (dh mask p.i p.perturb (r+1)).1;refine ⟨k+((runEnd mask (dh mask p.i p.perturb (r+1)).1-(dh mask p.i p.perturb (r+1)).1)+1),by omega,?_⟩
  rw [jv,e];exact nG mask (IW mask p (dh mask p.i p.perturb (r+1)))
theorem yS(mask i p:Nat)(r:Nat):(dh mask i p (r+1)).1≤mask:=by
 show (((dh mask i p r).1*5+1+(dh mask i p r).2 / 32)%(mask+1))≤mask
 have:=je ((dh mask i p r).1*5+1+(dh mask i p r).2 / 32) (show 0<mask+1 by omega)
 omega
theorem BS{mask i:Nat}(h:i≤mask):i+(runEnd mask i-i)≤mask:=by
 unfold runEnd
 split<;>omega
structure rq (mask:Nat) (p:Probe):Prop where
 le:p.j+p.more≤mask
 more:p.more≤9
 per:p.perturb<2^64
 dum:p.dummy=none
theorem rq.kP{mask:Nat}{p:Probe}(o:rq mask p):rq mask (kP mask p):=by
 unfold SetTable.kP
 split
 ·next h=>exact ⟨by show p.j+1+(p.more-1)≤mask;have:=o.le;omega,by show p.more-1≤9;have:=o.more;omega,o.per,o.dum⟩
 ·refine ⟨BS (by have:=je (p.i*5+1+p.perturb / 32) (show 0<mask+1 by omega);show (p.i*5+1+p.perturb / 32)%(mask+1)≤mask;omega),more_le _ _,?_,o.dum⟩
  show p.perturb / 32<2^64
  have:=o.per
  omega
theorem rq.start(mask:Nat)(h:Int):rq mask (rQ mask h):=⟨BS (mask:=mask) (i:=bits h%(mask+1)) (by have:=je (bits h) (show 0<mask+1 by omega);omega),more_le _ _,D7 h,rfl⟩
theorem rq.cw{mask:Nat}{p:Probe}(o:rq mask p):∀k,rq mask (cw mask p k)
 |0=>o
 |k+1=>(o.cw k).kP
theorem meets{mask:Nat}(f:sr mask){p:Probe}(o:rq mask p){s:Nat}(hs:s≤mask):∃k,k<10*turns mask∧(cw mask p k).j=s:=by
 have z:(dh mask p.i p.perturb 13).2=0:=by
  rw [jl];exact Nat.div_eq_of_lt (f9 o.per (by decide))
 obtain ⟨r,hr,e⟩:=cover f (yS mask p.i p.perturb 12) hs;obtain ⟨k,hk,e2⟩:=sD mask p (12+r);refine ⟨k,?_,?_⟩
 ·have:=o.more
  unfold turns;omega
 ·rw [e2]
  show (dh mask p.i p.perturb (12+r+1)).1=s;rw [show 12+r+1=13+r by omega,qD z]
  exact e
theorem vK{t:SetTable}(R:mQ t.place)(hd:t.dummies= #[])(hashAt:Nat→Int)(h:Int):∀(K fuel:Nat)(p:Probe),p.dummy=none→K<fuel→(∀i:Nat,t.place[i]? ≠some (cw t.mask p K).j)→
  ∃k0,k0≤K∧(∀k',k'<k0→∃i:Nat,t.place[i]? =some (cw t.mask p k').j∧hashAt i≠h)∧
   (((∀i:Nat,t.place[i]? ≠some (cw t.mask p k0).j)∧probe.go t hashAt h fuel p=some (.empty (cw t.mask p k0).j none))∨
    (∃i:Nat,t.place[i]? =some (cw t.mask p k0).j∧hashAt i=h∧probe.go t hashAt h fuel p=some (.candidate (cw t.mask p k0).j i (cw t.mask p (k0+1)))))
 |K,0,p,_,hK,_=>by omega
 |K,fuel+1,p,dn,hK,he=>by
  by_cases c:∃i:Nat,t.place[i]? =some p.j
  ·obtain ⟨i,hi⟩:=c
   have sl:=AS R hi
   by_cases c2:hashAt i=h
   ·refine ⟨0,cn _,λk' h'=>by omega, .inr ⟨i,hi,c2,?_⟩⟩
    rw [probe.go,sl];dsimp only;rw [if_pos (by simpa using c2)]
    rfl
   ·cases K with
    |zero=>exact absurd hi (he i)
    |succ K=>
     have T4:(kP t.mask p).dummy=none:=by
      unfold kP
      split<;>exact dn
     have e1:∀k,cw t.mask (kP t.mask p) k=cw t.mask p (k+1):=λk=>by
      have:=jv t.mask p 1 k
      rw [show 1+k=k+1 by omega] at this
      exact this.symm
     obtain ⟨k0,YB,a,b⟩:=vK R hd hashAt h K fuel (kP t.mask p) T4 (by omega) (by rw [e1];exact he)
     have eg:probe.go t hashAt h (fuel+1) p=probe.go t hashAt h fuel (kP t.mask p):=by
      rw [probe.go,sl];dsimp only;rw [if_neg (by simpa using c2)]
      rfl
     refine ⟨k0+1,by omega,λk' h'=>?_,?_⟩
     ·cases k' with
      |zero=>exact ⟨i,hi,c2⟩
      |succ k'=>
       have:=a k' (by omega)
       rw [e1] at this;exact this
     ·rw [e1,e1] at b
      rw [eg];exact b
  ·have c:∀i:Nat,t.place[i]? ≠some p.j:=λi hi=>c ⟨i,hi⟩
   refine ⟨0,cn _,λk' h'=>by omega, .inl ⟨c,?_⟩⟩
   rw [probe.go,yW R hd c];dsimp only;rw [dn];rfl
structure TOk (t:SetTable) (hs:List Int):Prop where
 few:sr t.mask
 dum:t.dummies= #[]
 rise:mQ t.place
 size:t.place.size=hs.length
 le:∀(i j:Nat),t.place[i]? =some j→j≤t.mask
 room:t.place.size≤t.mask
 path:∀(i:Nat)(h:Int),hs[i]? =some h→∃k,t.place[i]? =some (bZ t.mask h k)∧∀k',k'<k→∃i':Nat,t.place[i']? =some (bZ t.mask h k')
theorem xi(mask:Nat)(h:Int)(k:Nat):bZ mask h k≤mask:=by
 unfold bZ;rw [mD]
 have:=((rq.start mask h).cw k).le
 omega
theorem TOk.empty{t:SetTable}{hs:List Int}(T:TOk t hs):∃s,s≤t.mask∧∀i:Nat,t.place[i]? ≠some s:=by
 apply Classical.byContradiction;intro c
 have all:∀s∈List.range (t.mask+1),s∈t.place.toList:=λs hs=>by
  apply Classical.byContradiction;intro n;refine c ⟨s,by have:=cg.mp hs;omega,λi hi=>n ?_⟩
  rw [←pV] at hi;exact f7 hi
 have:=Wb.aX me all
 rw [gd,gO] at this
 have:=T.room
 omega
theorem TOk.probe{t:SetTable}{hs:List Int}(T:TOk t hs)(hashAt:Nat→Int)(h:Int)(k:Nat):
  ∃k0,k≤k0∧(∀k',k≤k'→k'<k0→∃i:Nat,t.place[i]? =some (bZ t.mask h k')∧hashAt i≠h)∧
   (((∀i:Nat,t.place[i]? ≠some (bZ t.mask h k0))∧t.probe hashAt h (uY t.mask h k)=some (.empty (bZ t.mask h k0) none))∨
    (∃i:Nat,t.place[i]? =some (bZ t.mask h k0)∧hashAt i=h∧t.probe hashAt h (uY t.mask h k)=some (.candidate (bZ t.mask h k0) i (uY t.mask h (k0+1))))):=by
 obtain ⟨s,wR,he⟩:=T.empty;have o:=(rq.start t.mask h).cw k;rw [←mD] at o;obtain ⟨K,hK,eK⟩:=meets T.few o wR;have e1:∀c,cw t.mask (uY t.mask h k) c=uY t.mask h (k+c):=λc=>by rw [mD,mD,←jv]
 obtain ⟨k0,h0,a,b⟩:=vK T.rise T.dum hashAt h K (10*turns t.mask) (uY t.mask h k) o.dum hK (by rw [eK];exact he)
 refine ⟨k+k0,by omega,λk' h1 h2=>?_,?_⟩
 ·have:=a (k'-k) (by omega)
  rw [e1,show k+(k'-k)=k' by omega] at this
  exact this
 ·rw [e1,e1] at b
  exact b
theorem jj{α:Type}{xs:Array α}{p:Nat}(x:α)(hp:p≤xs.size)(i:Nat):(insertAt xs p x)[i]? =if i<p then xs[i]? else if i=p then some x else xs[i-1]? :=by
 rw [←pV,SetTable.toList_insertAt];have lt:(xs.toList.take p).length=p:=by rw [b8,gO];omega
 by_cases c:i<p
 ·rw [if_pos c,dP (by omega),nk c,pV]
 ·rw [if_neg c]
  by_cases d:i=p
  ·subst d
   rw [if_pos rfl,fG (by omega),lt,kO];rfl
  ·rw [if_neg d,fG (by omega),lt]
   obtain ⟨m,hm⟩:∃m,i-p=m+1:=⟨i-p-1,by omega⟩
   rw [hm,uy,uC,pV]
   congr 1;omega
theorem fP{α:Type}(xs:Array α)(p:Nat)(x:α):(insertAt xs p x).size=xs.size+1:=by
 rw [←gO,(SetTable.insertAt_perm xs p x).length_eq];simp
theorem hU{xs:Array Nat}{i j:Nat}(h:xs[i]? =some j):xs[i]! =j:=by
 obtain ⟨hi,e⟩:=zf.mp h;simp [hi,e]
theorem C7{xs:Array Nat}(R:mQ xs){j:Nat}(h:∀i:Nat,xs[i]? ≠some j):mQ (insertAt xs (below xs j) j):=by
 obtain ⟨b1,b2,b3⟩:=gG R j;have g:=jj (xs:=xs) j b1;intro a b hb wL;rw [fP] at hb
 have val:∀i,i<xs.size+1→∃v,(insertAt xs (below xs j) j)[i]? =some v∧((i<below xs j∧xs[i]? =some v)∨(i=below xs j∧v=j)∨(below xs j<i∧xs[i-1]? =some v)):=λi hi=>by
  rw [g i]
  by_cases c:i<below xs j
  ·rw [if_pos c,rb (by omega)]
   exact ⟨_,rfl, .inl ⟨c,rfl⟩⟩
  ·rw [if_neg c]
   by_cases d:i=below xs j
   ·rw [if_pos d];exact ⟨j,rfl, .inr (.inl ⟨d,rfl⟩)⟩
   ·rw [if_neg d,rb (by omega)]
    exact ⟨_,rfl, .inr (.inr ⟨by omega,rfl⟩)⟩
 obtain ⟨va,ha,ca⟩:=val a (by omega)
 obtain ⟨vb,HB,cb⟩:=val b (by omega)
 rw [hU ha,hU HB];have lo:∀i v,i<below xs j→xs[i]? =some v→v<j:=λi v h1 h2=>by have:=b2 i h1;rw [hU h2] at this;exact this
 have hi:∀i v,below xs j≤i→xs[i]? =some v→j<v:=λi v h1 h2=>by
  have:=b3 i h1 (zf.mp h2).1
  rw [hU h2] at this
  have:v≠j:=λz=>h i (by rw [h2,z])
  omega
 have mid:∀i k v u,xs[i]? =some v→xs[k]? =some u→i<k→v<u:=λi k v u h1 h2 h3=>by
  have:=R i k (zf.mp h2).1 h3
  rw [hU h1,hU h2] at this;exact this
 rcases ca with ⟨a1,a2⟩ | ⟨a1,rfl⟩ | ⟨a1,a2⟩
 ·rcases cb with ⟨c1,c2⟩ | ⟨c1,rfl⟩ | ⟨c1,c2⟩
  ·exact mid _ _ _ _ a2 c2 wL
  ·exact lo _ _ a1 a2
  ·have:=lo _ _ a1 a2;have:=hi (b-1) _ (by omega) c2;omega
 ·rcases cb with ⟨c1,c2⟩ | ⟨c1,rfl⟩ | ⟨c1,c2⟩
  ·omega
  ·omega
  ·exact hi (b-1) _ (by omega) c2
 ·rcases cb with ⟨c1,c2⟩ | ⟨c1,rfl⟩ | ⟨c1,c2⟩
  ·omega
  ·omega
  ·exact mid _ _ _ _ a2 c2 (by omega)
theorem F8{xs:Array Nat}(R:mQ xs){j s:Nat}:(∃i:Nat,(insertAt xs (below xs j) j)[i]? =some s)↔s=j∨∃i:Nat,xs[i]? =some s:=by
 obtain ⟨b1,_,_⟩:=gG R j;have g:=jj (xs:=xs) j b1
 constructor
 ·rintro ⟨i,h⟩
  rw [g i] at h
  split at h
  ·exact .inr ⟨i,h⟩
  ·split at h
   ·exact .inl (Option.some.inj h).symm
   ·exact .inr ⟨_,h⟩
 ·rintro (rfl| ⟨i,h⟩)
  ·exact ⟨below xs s,by rw [g,if_neg (by omega),if_pos rfl]⟩
  ·by_cases c:i<below xs j
   ·exact ⟨i,by rw [g,if_pos c];exact h⟩
   ·exact ⟨i+1,by rw [g,if_neg (by omega),if_neg (by omega)];exact h⟩
theorem TOk.put{t:SetTable}{hs:List Int}(T:TOk t hs){h:Int}{k:Nat}(he:∀i:Nat,t.place[i]? ≠some (bZ t.mask h k))(hp:∀k',k'<k→∃i:Nat,t.place[i]? =some (bZ t.mask h k'))(room:t.place.size+1≤t.mask):
  (t.put (bZ t.mask h k)).2=below t.place (bZ t.mask h k)∧below t.place (bZ t.mask h k)≤hs.length∧
  TOk (t.put (bZ t.mask h k)).1 (hs.take (below t.place (bZ t.mask h k))++h::hs.drop (below t.place (bZ t.mask h k))):=by
 obtain ⟨b1,b2,b3⟩:=gG T.rise (bZ t.mask h k);have g:=jj (xs:=t.place) (bZ t.mask h k) b1;have sz:=T.size;have pm:=λs=>F8 (s:=s) (j:=bZ t.mask h k) T.rise;refine ⟨rfl,by omega,T.few,?_,C7 T.rise he,?_,?_,?_,?_⟩
 ·show (if has t.dummies _=true then _ else t.dummies)= #[]
  rw [T.dum];rfl
 ·show (insertAt t.place _ _).size=_
  rw [fP,cy,b8,eU,dE];omega
 ·intro i j hj
  have hj:(insertAt t.place (below t.place (bZ t.mask h k)) (bZ t.mask h k))[i]? =some j:=hj
  rcases (pm j).mp ⟨i,hj⟩ with rfl| ⟨i',h'⟩
  ·exact xi _ _ _
  ·exact T.le _ _ h'
 ·show (insertAt t.place _ _).size≤_
  rw [fP];exact room
 ·intro i h' hi
  show ∃k1,(insertAt t.place (below t.place (bZ t.mask h k)) (bZ t.mask h k))[i]? =some (bZ t.mask h' k1)∧∀k',k'<k1→∃i':Nat,(insertAt t.place (below t.place (bZ t.mask h k)) (bZ t.mask h k))[i']? =some (bZ t.mask h' k');have lt:(hs.take (below t.place (bZ t.mask h k))).length=below t.place (bZ t.mask h k):=by rw [b8];omega
  by_cases c:i<below t.place (bZ t.mask h k)
  ·rw [dP (by omega),nk c] at hi
   obtain ⟨k1,e1,e2⟩:=T.path i h' hi;exact ⟨k1,by rw [g,if_pos c];exact e1,λk' mM=>(pm _).mpr (.inr (e2 k' mM))⟩
  ·rw [fG (by omega),lt] at hi
   by_cases d:i=below t.place (bZ t.mask h k)
   ·rw [d,kO] at hi
    cases (Option.some.inj hi);exact ⟨k,by rw [d,g,if_neg (by omega),if_pos rfl],λk' mM=>(pm _).mpr (.inr (hp k' mM))⟩
   ·obtain ⟨m,hm⟩:∃m,i-below t.place (bZ t.mask h k)=m+1:=⟨i-below t.place (bZ t.mask h k)-1,by omega⟩
    rw [hm,uy,uC] at hi;obtain ⟨k1,e1,e2⟩:=T.path _ h' hi;refine ⟨k1,?_,λk' mM=>(pm _).mpr (.inr (e2 k' mM))⟩;rw [g,if_neg c,if_neg d,show i-1=below t.place (bZ t.mask h k)+m by omega]
    exact e1
theorem qU(mask i p:Nat):∀r,dh mask i p (r+1)=dh mask (leap mask i p).1 (leap mask i p).2 r
 |0=>rfl
 |r+1=>by
  show leap mask (dh mask i p (r+1)).1 (dh mask i p (r+1)).2=_;rw [qU mask i p r];rfl
def Own(o:Array (Option Nat))(s:Nat):Prop:=(o.getD s (some 0)).isNone=false
theorem tu{mask:Nat}(owner:Array (Option Nat)):∀(fuel:Nat)(p:Probe),p.j=p.i→p.more=runEnd mask p.i-p.i→p.i≤runEnd mask p.i→(∃r,r<fuel∧¬Own owner (dh mask p.i p.perturb r).1)→
  ∃k0,layClean.free mask owner fuel p.i p.perturb=some (cw mask p k0).j∧¬Own owner (cw mask p k0).j∧∀k',k'<k0→Own owner (cw mask p k').j
 |0,p,_,_,_,⟨r,hr,_⟩=>by omega
 |fuel+1,p,e1,e2,e3,⟨r,hr,he⟩=>by
  have run:∀c,c≤p.more→(cw mask p c).j=p.i+c:=λc hc=>by rw [qc mask p c hc];show p.j+c=_;rw [e1]
  cases hf:(List.range (runEnd mask p.i+1-p.i)).find? λk=>(owner.getD (p.i+k) (some 0)).isNone with
  |some k=>
   obtain ⟨h1,as,bs,h2,h3⟩:=List.find?_eq_some_iff_append.mp hf;have hk:k<runEnd mask p.i+1-p.i:=cg.mp (by rw [h2];simp)
   have YH:as.length=k:=by
    have hl:as.length<(List.range (runEnd mask p.i+1-p.i)).length:=by rw [h2];simp
    have:=zj (n:=runEnd mask p.i+1-p.i) (i:=as.length) (by simpa using hl)
    rw [h2,fG (br _),kO] at this;exact (Option.some.inj this).symm
   refine ⟨k,?_,?_,λk' mM=>?_⟩
   ·rw [layClean.free,hf,run k (by omega)]
   ·rw [run k (by omega)]
    unfold Own;rw [h1];exact Bool.noConfusion
   ·rw [run k' (by omega)]
    have hm:k'∈as:=by
     have:=zj (n:=runEnd mask p.i+1-p.i) (i:=k') (by omega)
     rw [h2,dP (by omega)] at this
     exact f7 this
    have:=h3 k' hm
    unfold Own;exact Bool.not_eq_true' _▸this
  |none=>
   have all:=List.find?_eq_none.mp hf
   have own:∀c,c≤p.more→Own owner (p.i+c):=λc hc=>by
    have:=all c (cg.mpr (by omega))
    unfold Own;exact ur.mpr this
   cases r with
   |zero=>exact absurd (own 0 (cn _)) he
   |succ r=>
    have lp:=nG mask p
    obtain ⟨k0,a,b,c⟩:=tu owner fuel (IW mask p (leap mask p.i p.perturb)) rfl rfl (by
     show (leap mask p.i p.perturb).1≤runEnd mask (leap mask p.i p.perturb).1;unfold runEnd;split<;>omega) ⟨r,by omega,by rw [qU] at he;exact he⟩
    rw [←lp] at a b c;have e4:∀k,cw mask (cw mask p (p.more+1)) k=cw mask p (p.more+1+k):=λk=>(jv mask p (p.more+1) k).symm;refine ⟨p.more+1+k0,?_,?_,λk' mM=>?_⟩
    ·rw [layClean.free,hf,←e4,←a,lp];rfl
    ·rw [←e4];exact b
    ·by_cases d:k'≤p.more
     ·rw [run k' d];exact own k' d
     ·have:=c (k'-(p.more+1)) (by omega)
      rw [e4,show p.more+1+(k'-(p.more+1))=k' by omega] at this
      exact this
structure Laid (mask:Nat) (hs:List Int) (owner:Array (Option Nat)) (ss:List Nat):Prop where
 size:owner.size=mask+1
 len:ss.length=hs.length
 nd:ss.Nodup
 le:∀s∈ss,s≤mask
 get:∀s,s≤mask→∀k,owner.getD s (some 0)=some k↔ss[k]? =some s
 path:∀(k:Nat)(h:Int),hs[k]? =some h→∃c,ss[k]? =some (bZ mask h c)∧∀c',c'<c→bZ mask h c'∈ss
theorem Laid.own{mask:Nat}{hs:List Int}{owner:Array (Option Nat)}{ss:List Nat}(L:Laid mask hs owner ss){s:Nat}(h:s≤mask):Own owner s↔s∈ss:=by
 unfold Own
 constructor
 ·intro e
  cases o:owner.getD s (some 0) with
  |none=>rw [o] at e;cases e
  |some k=>exact f7 ((L.get s h k).mp o)
 ·intro e
  obtain ⟨k,hk⟩:=zi e;rw [(L.get s h k).mpr hk];rfl
theorem Ae{mask:Nat}(f:sr mask){hs:List Int}{owner:Array (Option Nat)}{ss:List Nat}(L:Laid mask hs owner ss)(room:hs.length≤mask)(h:Int):
  ∃j,layClean.free mask owner (turns mask) (bits h%(mask+1)) (bits h)=some j∧Laid mask (hs++ [h]) (owner.setIfInBounds j (some hs.length)) (ss++ [j]):=by
 have o:=rq.start mask h
 obtain ⟨s,pb,j5⟩:∃s,s≤mask∧s∉ss:=by
  apply Classical.byContradiction;intro c
  have all:∀s∈List.range (mask+1),s∈ss:=λs hs=>by
   apply Classical.byContradiction;intro n;exact c ⟨s,by have:=cg.mp hs;omega,n⟩
  have:=Wb.aX me all
  rw [gd,L.len] at this;omega
 have z:(dh mask (rQ mask h).i (rQ mask h).perturb 13).2=0:=by
  rw [jl];exact Nat.div_eq_of_lt (f9 o.per (by decide))
 obtain ⟨r,hr,e⟩:=cover f (yS mask (rQ mask h).i (rQ mask h).perturb 12) pb
 have hi:(rQ mask h).i≤mask:=by
  have:=je (bits h) (show 0<mask+1 by omega)
  show bits h%(mask+1)≤mask;omega
 obtain ⟨k0,a,b,c⟩:=tu owner (turns mask) (rQ mask h) rfl rfl (by unfold runEnd;split<;>omega) ⟨13+r,by unfold turns;omega,by
  rw [qD z];show ¬Own owner (iV mask _ r);rw [e,L.own pb];exact j5⟩
 have sl:∀k,(cw mask (rQ mask h) k).j=bZ mask h k:=λk=>by unfold bZ;rw [mD]
 rw [sl] at a b;have hle:=xi mask h k0;rw [L.own hle] at b;refine ⟨bZ mask h k0,a,?_,?_,?_,?_,?_,?_⟩
 ·rw [Array.size_setIfInBounds];exact L.size
 ·rw [cy,cy,L.len];rfl
 ·exact fg.mpr ⟨L.nd,by simp,λx hx y hy z=>b (by rw [←ja.mp hy,←z];exact hx)⟩
 ·intro x hx
  rcases dF.mp hx with hx|hx
  ·exact L.le x hx
  ·rw [ja.mp hx];exact hle
 ·intro x hx k
  have e1:(owner.setIfInBounds (bZ mask h k0) (some hs.length)).getD x (some 0)=if bZ mask h k0=x then some hs.length else owner.getD x (some 0):=by
   rw [q0,q0,Array.getElem?_setIfInBounds]
   by_cases d:bZ mask h k0=x
   ·rw [if_pos d,if_pos d,if_pos (by rw [L.size];omega)];rfl
   ·rw [if_neg d,if_neg d]
  rw [e1]
  by_cases d:bZ mask h k0=x
  ·rw [if_pos d]
   constructor
   ·intro e
    cases (Option.some.inj e);rw [←L.len,fG (br _),kO,←d];rfl
   ·intro e
    by_cases q:k<ss.length
    ·rw [dP q] at e
     exact absurd (by rw [d];exact f7 e) b
    ·have:k<(ss++ [bZ mask h k0]).length:=(fA.mp e).1
     rw [cy] at this
     have:k<ss.length+1:=this
     rw [show k=ss.length by omega,L.len]
  ·rw [if_neg d,L.get x hx k]
   constructor
   ·intro e
    rw [dP (fA.mp e).1];exact e
   ·intro e
    by_cases q:k<ss.length
    ·rw [dP q] at e;exact e
    ·have:k<(ss++ [bZ mask h k0]).length:=(fA.mp e).1
     rw [cy] at this
     have:k<ss.length+1:=this
     rw [show k=ss.length by omega,fG (br _),kO] at e
     exact absurd (Option.some.inj e) d
 ·intro k h' hk
  by_cases q:k<hs.length
  ·rw [dP q] at hk
   obtain ⟨c1,e1,e2⟩:=L.path k h' hk;exact ⟨c1,by rw [dP (by rw [L.len];exact q)];exact e1,λc' qj=>fo _ (e2 c' qj)⟩
  ·have:k<(hs++ [h]).length:=(fA.mp hk).1
   rw [cy] at this
   have:k<hs.length+1:=this
   have ek:k=hs.length:=by omega
   subst ek;rw [fG (br _),kO] at hk;cases (Option.some.inj hk);refine ⟨k0,by rw [←L.len,fG (br _),kO];rfl,λc' qj=>fo _ ?_⟩
   have:=c c' qj
   rw [sl] at this;exact (L.own (xi _ _ _)).mp this
theorem Af(mask:Nat):Laid mask [] (Array.replicate (mask+1) none) [] where
 size:=by simp
 len:=rfl
 nd:=kN
 le:=λs h=>by cases h
 get:=λs hs k=>by
  rw [q0,Array.getElem?_replicate,if_pos (by omega)]
  simp
 path:=λk h e=>by cases e
def vv(mask:Nat)(acc:Option (Array (Option Nat)×Nat))(h:Int):Option (Array (Option Nat)×Nat):=do
 let (owner,k) ←acc
 let j ←layClean.free mask owner (turns mask) (bits h%(mask+1)) (bits h)
 pure (owner.setIfInBounds j (some k),k+1)
theorem vw{mask:Nat}(f:sr mask):∀(rest done:List Int)(owner:Array (Option Nat))(ss:List Nat),Laid mask done owner ss→done.length+rest.length≤mask+1→
  ∃pC Mx,rest.foldl (vv mask) (some (owner,done.length))=some (pC,done.length+rest.length)∧Laid mask (done++rest) pC Mx
 | [],done,owner,ss,L,_=>⟨owner,ss,rfl,by rw [nz];exact L⟩
 |h::rest,done,owner,ss,L,hl=>by
  rw [eU] at hl;obtain ⟨j,e,L'⟩:=Ae f L (by omega) h
  have ef:vv mask (some (owner,done.length)) h=some (owner.setIfInBounds j (some done.length),done.length+1):=by
   unfold vv;simp [e]
  obtain ⟨pC,Mx,e2,L2⟩:=vw f rest (done++ [h]) _ _ L' (by rw [cy];show done.length+1+rest.length≤_;omega)
  refine ⟨pC,Mx,?_,by rw [uD] at L2;exact L2⟩
  rw [List.foldl_cons,ef];rw [cy] at e2;have e2:rest.foldl (vv mask) (some (owner.setIfInBounds j (some done.length),done.length+1))=some (pC,done.length+1+rest.length):=e2;rw [e2,eU]
  congr 2;omega
theorem wW{mask:Nat}(f:sr mask)(hs:List Int)(room:hs.length≤mask+1):∃owner ss,layClean mask hs.toArray=some owner∧Laid mask hs owner ss:=by
 obtain ⟨owner,ss,e,L⟩:=vw f hs [] _ _ (Af mask) (by simpa using room)
 refine ⟨owner,ss,?_,by simpa using L⟩
 have:layClean mask hs.toArray=(hs.foldl (vv mask) (some (Array.replicate (mask+1) none,0))).map (·.1):=by
  unfold layClean;rw [List.foldl_toArray];rfl
 have e:hs.foldl (vv mask) (some (Array.replicate (mask+1) none,0))=some (owner,[].length+hs.length):=e;rw [this,e];rfl
def cZ(mask:Nat)(owner:Array (Option Nat)):List (Nat×Nat):=(List.range (mask+1)).filterMap λj=>(owner.getD j none).map (j,·)
theorem CO{mask:Nat}{hs:List Int}{owner:Array (Option Nat)}{ss:List Nat}(L:Laid mask hs owner ss){j k:Nat}:(j,k)∈cZ mask owner↔ss[k]? =some j:=by
 unfold cZ;rw [zq100]
 have dflt:∀s,s≤mask→owner.getD s none=owner.getD s (some 0):=λs hs=>by
  rw [q0,q0,rb (by rw [L.size];omega)];rfl
 constructor
 ·rintro ⟨s,wR,e⟩
  have wR:=cg.mp wR;rw [dflt s (by omega)] at e
  cases o:owner.getD s (some 0) with
  |none=>rw [o] at e;cases e
  |some k'=>
   rw [o] at e;have e:=Option.some.inj e;have e1:s=j:=(Prod.mk.inj e).1;have e2:k'=k:=(Prod.mk.inj e).2;rw [←e1,←e2];exact (L.get s (by omega) k').mp o
 ·intro e
  have hj:=L.le j (f7 e);refine ⟨j,cg.mpr (by omega),?_⟩
  rw [dflt j hj,(L.get j hj k).mpr e];rfl
theorem Ak(mask:Nat)(owner:Array (Option Nat)):((cZ mask owner).map (·.1)).Pairwise (·<·):=by
 unfold cZ;rw [jb,List.pairwise_filterMap];refine List.pairwise_lt_range.imp λ {a b} h x hx y hy=>?_;cases oa:owner.getD a none with
 |none=>rw [oa] at hx;cases hx
 |some ka=>
  cases ob:owner.getD b none with
  |none=>rw [ob] at hy;cases hy
  |some kb=>
   rw [oa] at hx;rw [ob] at hy;cases (Option.some.inj hx);cases (Option.some.inj hy);exact h
theorem Fj{mask:Nat}(f:sr mask)(hs:List Int)(room:hs.length≤mask)(finger moves:Nat)(led plain:Bool):
  ∃t order,laid mask finger moves led plain hs.toArray=some (t,order)∧t.mask=mask∧t.led=led∧t.plain=plain∧t.moves=moves∧order.toList.Perm (List.range hs.length)∧TOk t (order.toList.map λk=>hs.getD k 0):=by
 obtain ⟨owner,ss,e,L⟩:=wW f hs (by omega)
 have lm:=λ {j k:Nat}=>CO (j:=j) (k:=k) L;have ri:=Ak mask owner
 have uT:((cZ mask owner).map (·.2)).Nodup:=by
  rw [zg,jb];rw [jb] at ri;refine ri.imp_of_mem λ {a b} ha hb wL z=>?_;obtain ⟨aj,ak⟩:=a;obtain ⟨bj,bk⟩:=b;have h1:=lm.mp ha;have h2:=lm.mp hb;have z:ak=bk:=z;rw [z,h2] at h1
  have:=Option.some.inj h1
  have wL:aj<bj:=wL;omega
 have perm:((cZ mask owner).map (·.2)).Perm (List.range hs.length):=by
  refine (B3 uT me).mpr λk=>?_;rw [bx,cg]
  constructor
  ·rintro ⟨⟨j,k'⟩,h,rfl⟩
   have:=(fA.mp (lm.mp h)).1
   rw [L.len] at this;exact this
  ·intro hk
   have mM:k<ss.length:=by rw [L.len];exact hk
   exact ⟨(ss[k],k),lm.mpr (bq mM),rfl⟩
 have ll:(cZ mask owner).length=hs.length:=by
  have:=perm.length_eq
  simpa using this
 refine ⟨{mask,place:=((cZ mask owner).map (·.1)).toArray,dummies:= #[],finger,led,moves,plain},((cZ mask owner).map (·.2)).toArray,?_,rfl,rfl,rfl,rfl,by simpa using perm,?_⟩
 ·unfold laid
  rw [e];rfl
 have FW:∀(i j:Nat),((cZ mask owner).map (·.1)).toArray[i]? =some j↔∃k,(cZ mask owner)[i]? =some (j,k):=λi j=>by
  rw [List.getElem?_toArray,eC];cases o:(cZ mask owner)[i]? with
  |none=>simp
  |some x=>
   obtain ⟨a,b⟩:=x;simp
 have CB:∀s,s∈ss→∃i:Nat,((cZ mask owner).map (·.1)).toArray[i]? =some s:=λs wR=>by
  obtain ⟨k,hk⟩:=zi wR;obtain ⟨i,hi⟩:=zi (lm.mpr hk);exact ⟨i,(FW i s).mpr ⟨k,hi⟩⟩
 refine ⟨f,rfl,?_,?_,?_,?_,?_⟩
 ·intro a b hb wL
  have hb:b<((cZ mask owner).map (·.1)).length:=by simpa using hb
  have:=List.pairwise_iff_getElem.mp ri a b (by omega) hb wL
  simp [show a<(cZ mask owner).length by simpa using (show a<((cZ mask owner).map (·.1)).length by omega),show b<(cZ mask owner).length by simpa using hb]
  simpa using this
 ·simp
 ·intro i j h
  obtain ⟨k,hk⟩:=(FW i j).mp h;exact L.le j (f7 (lm.mp (f7 hk)))
 ·show ((cZ mask owner).map (·.1)).toArray.size≤mask
  simp [ll];exact room
 ·intro i h' hi
  rw [eC] at hi;cases o:(cZ mask owner)[i]? with
  |none=>
   have:(((cZ mask owner).map (·.2)).toArray.toList)[i]? =none:=by simp [o]
   rw [this] at hi;cases hi
  |some x=>
   obtain ⟨j,k⟩:=x;have e1:(((cZ mask owner).map (·.2)).toArray.toList)[i]? =some k:=by simp [o]
   rw [e1] at hi;have sk:=lm.mp (f7 o);have hk:k<hs.length:=by rw [←L.len];exact (fA.mp sk).1
   have eh:hs[k]? =some h':=by
    rw [←Option.some.inj hi];show _=some (hs.getD k 0);rw [aJ,bq hk];rfl
   obtain ⟨c,p1,p2⟩:=L.path k h' eh;rw [sk] at p1;refine ⟨c,(FW i _).mpr ⟨k,by rw [o,Option.some.inj p1]⟩,λc' qj=>CB _ (p2 c' qj)⟩
end PySem.SetTable
namespace PySem
open SetTable PyProof.Rows
def eE(w:World):Bool:=w.params.followText "set-order"
structure fY (bt:Bool) (o:Obj) (es:Array (Int×Value)) (ep:Nat) (t:SetTable):Prop where
 ex:o.ExactSet
 dat:o.data= .set es ep t
 tok:TOk t (es.toList.map (·.1))
 pl:t.plain=true
 ld:t.led= !bt
 few:5*es.size<3*t.mask
theorem TOk.fits{t:SetTable}{hs:List Int}(T:TOk t hs):t.fits hs.length=true:=by
 simp only [SetTable.fits,SetTable.fill,T.dum,T.size,rh,beq_iff_eq,decide_eq_true_eq,true_and]
 have:=T.room
 rw [T.size] at this;simpa using this
theorem fY.fits{w:Bool}{o:Obj}{es:Array (Int×Value)}{ep:Nat}{t:SetTable}(S:fY w o es ep t):t.fits es.size=true:=by
 have:=TOk.fits S.tok
 simpa using this
theorem Cp{mask n:Nat}(f:sr mask)(h:5*n<3*mask):n+1≤mask:=by
 rcases f with rfl|rfl|rfl|rfl<;>omega
theorem Ai{t:SetTable}{es:Array (Int×Value)}(T:TOk t (es.toList.map (·.1)))(few:5*es.size<3*t.mask)(h:Int)(x:Value):
  ∃p t',layNew t es h x=(SetTable.insertAt es p (h,x),t',false,false)∧TOk t' ((SetTable.insertAt es p (h,x)).toList.map (·.1))∧t'.mask=t.mask∧t'.plain=t.plain∧t'.led=t.led:=by
 obtain ⟨k0,_,a,b⟩:=TOk.probe T (λ_=>h+1) h 0;obtain ⟨b1,b2⟩:=b.resolve_right (λ⟨i,_,c,_⟩=>by have c:h+1=h:=c;omega)
 have fs:t.freeSlot h=some (bZ t.mask h k0,false):=by
  unfold SetTable.freeSlot;rw [Dq,show rQ t.mask h=uY t.mask h 0 from rfl,b2];rfl
 have sz:t.place.size=es.size:=by rw [T.size];simp
 obtain ⟨p1,p2,p3⟩:=TOk.put T (h:=h) (k:=k0) b1 (λk' mM=>let ⟨i,hi,_⟩:=a k' (cn _) mM;⟨i,hi⟩) (by rw [sz];exact Cp T.few few)
 have e:(SetTable.insertAt es (below t.place (bZ t.mask h k0)) (h,x)).toList.map (·.1)=(es.toList.map (·.1)).take (below t.place (bZ t.mask h k0))++h::(es.toList.map (·.1)).drop (below t.place (bZ t.mask h k0)):=by
  rw [SetTable.toList_insertAt];simp
 rw [←e] at p3;refine ⟨below t.place (bZ t.mask h k0),(t.put (bZ t.mask h k0)).1,?_,p3,rfl,rfl,rfl⟩
 have ft:(t.put (bZ t.mask h k0)).1.fits (SetTable.insertAt es (below t.place (bZ t.mask h k0)) (h,x)).size=true:=by
  have:=TOk.fits p3
  rw [List.length_map,gO] at this;exact this
 unfold layNew;rw [fs];show (SetTable.insertAt es (t.put (bZ t.mask h k0)).2 (h,x),(t.put (bZ t.mask h k0)).1.orStandIn (SetTable.insertAt es (t.put (bZ t.mask h k0)).2 (h,x)).size,false,!(t.put (bZ t.mask h k0)).1.fits (SetTable.insertAt es (t.put (bZ t.mask h k0)).2 (h,x)).size)=_;rw [p1];unfold SetTable.orStandIn;rw [if_pos ft,ft];rfl
theorem zQ{mask n:Nat}(f:sr mask)(h1:3*mask≤5*n)(h2:5*(n-1)<3*mask)(h3:n≤306):sr (sizeAbove (grown n)-1)∧5*n<3*(sizeAbove (grown n)-1)∧n≤sizeAbove (grown n)-1∧sizeAbove (grown n)≤512:=by
 rcases f with rfl|rfl|rfl|rfl
 ·have:n=5:=by omega
  subst this;exact ⟨.inr (.inl rfl),by decide,by decide,by decide⟩
 ·have:n=19:=by omega
  subst this;exact ⟨.inr (.inr (.inl rfl)),by decide,by decide,by decide⟩
 ·have:n=77:=by omega
  subst this;exact ⟨.inr (.inr (.inr rfl)),by decide,by decide,by decide⟩
 ·omega
theorem AG{t:SetTable}{es:Array (Int×Value)}(T:TOk t (es.toList.map (·.1)))(full:t.tooFull=true)(near:5*(es.size-1)<3*t.mask)(small:es.size≤306):
  ∃t' order,t.relaid (es.map (·.1)) (grown es.size)=some (t',order)∧order.toList.Perm (List.range es.size)∧(order.filterMap (es[·]?)).toList.Perm es.toList∧(order.filterMap (es[·]?)).size=es.size∧
   TOk t' ((order.filterMap (es[·]?)).toList.map (·.1))∧t'.plain=t.plain∧t'.led=t.led∧5*es.size<3*t'.mask∧sizeAbove (grown es.size)≤512:=by
 have sz:t.place.size=es.size:=by rw [T.size];simp
 have f1:3*t.mask≤5*es.size:=by
  unfold SetTable.tooFull SetTable.fill at full;rw [T.dum,sz] at full;simp at full;omega
 obtain ⟨g1,g2,g3,g4⟩:=zQ T.few f1 near small;obtain ⟨t',order,e,em,el,ep,_,pm,tk⟩:=Fj g1 (es.toList.map (·.1)) (by simpa using g3) t.finger (t.movedTo (sizeAbove (grown es.size)-1)) t.led t.plain
 rw [List.length_map,gO] at pm
 have pf:(order.filterMap (es[·]?)).toList.Perm es.toList:=by
  rw [Array.toList_filterMap];exact (pm.filterMap _).trans (by rw [filterMap_getElem?_range])
 have sf:(order.filterMap (es[·]?)).size=es.size:=by rw [←gO,pf.length_eq,gO]
 refine ⟨t',order,?_,pm,pf,sf,?_,ep,el,by rw [em];exact g2,g4⟩
 ·unfold SetTable.relaid
  rw [show es.map (·.1)=(es.toList.map (·.1)).toArray by apply Array.toList_inj.mp;simp]
  exact e
 ·have:(order.filterMap (es[·]?)).toList.map (·.1)=order.toList.map λk=>(es.toList.map (·.1)).getD k 0:=by
   rw [Array.toList_filterMap];have lt:∀k∈order.toList,k<es.size:=λk hk=>cg.mp (pm.mem_iff.mp hk);generalize order.toList=l at lt
   induction l with
   |nil=>rfl
   |cons k l ih=>
    have hk:=lt k (b4 ..);rw [List.filterMap_cons_some (b:=es[k]) (by simp [hk]),iK,iK,ih λj hj=>lt j (cv _ hj)]
    simp [hk]
  rw [this];exact tk
theorem xh{t:SetTable}{es:Array (Int×Value)}(T:TOk t (es.toList.map (·.1)))(full:t.tooFull=true)(near:5*(es.size-1)<3*t.mask)(small:es.size≤306):
  ∃ji t',relayAll t es (grown es.size)=(ji,t',false)∧ji.toList.Perm es.toList∧TOk t' (ji.toList.map (·.1))∧t'.plain=t.plain∧t'.led=t.led∧5*es.size<3*t'.mask:=by
 obtain ⟨t',order,e,pm,pf,sf,tk,h1,h2,h3,_⟩:=AG T full near small;refine ⟨_,t',?_,pf,tk,h1,h2,h3⟩;unfold relayAll;rw [e];dsimp only;have c:coversAll order es.size=true:=List.isPerm_iff.mpr pm
 have ft:t'.fits (order.filterMap (es[·]?)).size=true:=by
  have:=TOk.fits tk
  rw [List.length_map,gO] at this;exact this
 rw [c,ft];rfl
end PySem
set_option maxHeartbeats 1000000
namespace PySem
open SetTable PyProof.Rows
section
variable {prog:Program} {w:World} {A:Around} {E:Value→Shared→Prop} {s:Shared}
theorem qX{h:Heap}{a:Addr}{o:Obj}{es:Array (Int×Value)}{ep:Nat}{t:SetTable}(ho:h.get? a=some o)(hd:o.data= .set es ep t)(ji:Array (Int×Value))(t':SetTable):
  (h.update a (Obj.putSet ji t')).get? a=some {o with data:= .set ji (ep+1) t'}:=by
 have:=Heap.get?_update_self (Obj.putSet ji t') ho (by rw [putSet_of ji t' hd];rfl)
 rw [putSet_of ji t' hd] at this;exact this
theorem xm{a:Addr}{o:Obj}{es:Array (Int×Value)}{ep:Nat}{t:SetTable}{k:Int}{x:Value}{Q:Bool→Shared→Prop}(ho:s.heap.get? a=some o)(S:fY (eE w) o es ep t)(O4:ElemsOf (intKind prog w) es.toList)
  (Br:(intKind prog w).is k x=true) (room:es.size≤305)
  (hm:(∃e∈es.toList,(intKind prog w).is k e.2=true)→Q false s)
  (hn:¬(∃e∈es.toList,(intKind prog w).is k e.2=true)→∀h' o' ji zI t',Heap.SameBut a s.heap h'→h'.get? a=some o'→fY (eE w) o' ji zI t'→ji.toList.Perm (es.toList++ [((intKind prog w).hash k,x)])→Q true {s with heap:=h'}):
  wpAny (model prog w) A (setAddHashed a x ((intKind prog w).hash k)) Q E s:=by
 have hd:=S.dat;have hf:=S.fits;obtain ⟨tk,rfl⟩:=Value.isInt_shape Br;have Pp:(Value.int k tk).scannable=true:=rfl;have hb:es.size<scanBound:=by show es.size<4096;omega
 unfold setAddHashed setAddHashedIn;refine wpAny_holding (wpAny_bind (wpAny_setState_of ho hd hf ?_));dsimp only;rw [byScan_of Pp hb O4];simp only [↓reduceIte];unfold setAddByScan;refine wpAny_bind ?_;refine wpAny_bind (wpAny_rule ?_);refine wpAny_bind (wpAny_setScan_of Br ho hd hf O4 ?_);cases hr:List.findIdx? (λe=>(intKind prog w).is k e.2) es.toList with
 |some j=>
  dsimp only;obtain ⟨hj,UY,_⟩:=List.findIdx?_eq_some_iff_getElem.mp hr;exact wpAny_pure (wpAny_pure (hm ⟨es.toList[j],nv hj,UY⟩))
 |none=>
  dsimp only
  have nm:¬∃e∈es.toList,(intKind prog w).is k e.2=true:=by
   rintro ⟨e,he,hp⟩
   have:=List.findIdx?_eq_none_iff.mp hr e he
   rw [hp] at this;exact Bool.noConfusion this
  obtain ⟨p,t1,eL,T1,m1,p1,l1⟩:=Ai S.tok S.few ((intKind prog w).hash k) (.int k tk);rw [eL];dsimp only;refine wpAny_bind (wpAny_pure ?_);rw [show t1.plain=true by rw [p1];exact S.pl]
  simp only [↓reduceIte];refine wpAny_bind ?_;rw [hashByValue_scannable 8 Pp];refine wpAny_pure ?_;simp only [plainKind, ↓reduceIte];have kU:(SetTable.insertAt es p ((intKind prog w).hash k,Value.int k tk)).size=es.size+1:=SetTable.fP ..;have FZ:=SetTable.insertAt_perm es p ((intKind prog w).hash k,Value.int k tk);rw [Array.toList_push] at FZ;refine wpAny_bind (wpAny_storeSet_of ho hd ?_ (by rw [kU];refine fits_of_scanBound ?_;show es.size+1<4096;omega))
  have nU:=qX ho hd (SetTable.insertAt es p ((intKind prog w).hash k,Value.int k tk)) t1;have Ru:=Heap.SameBut.update s.heap a (Obj.putSet (SetTable.insertAt es p ((intKind prog w).hash k,Value.int k tk)) t1)
  by_cases full:t1.tooFull=true
  ·rw [full]
   simp only [Bool.not_false,Bool.and_true, ↓reduceIte];obtain ⟨EC,t2,eR,yL,T2,p2,l2,f2⟩:=xh T1 full (by rw [kU,m1];have:=S.few;omega) (by rw [kU];omega)
   rw [eR];dsimp only;have RT:EC.size=es.size+1:=by rw [←gO,yL.length_eq,gO,kU]
   refine wpAny_bind (wpAny_pure ?_);refine wpAny_bind (wpAny_storeSet_of nU rfl ?_ (by rw [RT];refine fits_of_scanBound ?_;show es.size+1<4096;omega))
   have yg:=qX nU rfl EC t2;refine wpAny_pure (wpAny_pure (hn nm _ _ EC _ t2 (Ru.trans (Heap.SameBut.update _ a _)) yg ⟨S.ex,rfl,T2,by rw [p2,p1];exact S.pl,by rw [l2,l1];exact S.ld,by rw [RT];rw [kU] at f2;exact f2⟩ (yL.trans FZ)))
  ·have ff:t1.tooFull=false:=by simpa using full
   rw [ff];simp only [Bool.not_false,Bool.and_false,vY, ↓reduceIte];refine wpAny_pure (wpAny_pure (hn nm _ _ _ _ t1 Ru nU ⟨S.ex,rfl,T1,by rw [p1];exact S.pl,by rw [l1];exact S.ld,?_⟩ FZ))
   unfold SetTable.tooFull SetTable.fill at ff;rw [T1.dum,T1.size] at ff;simp at ff;omega
theorem sU{Q₁:Value→Shared→Prop}
  (h:Q₁ (.ref s.heap.objs.size) {s with heap:=s.heap.push {cls:= .type "set",dict:=none,data:= .set #[] 0 (.fresh 0 0 (!eE w))}}):
  codeAny (model prog w) A (.call (.builtin "set.__new__") ⟨[.type "set"],[]⟩) (wants Q₁ E) s:=by
 refine codeAny_of_tree ?_;show wpAny _ A.in1 (do checkBuiltinCall "set.__new__" ⟨[.type "set"],[]⟩;again (.builtin "set.__new__" ⟨[.type "set"],[]⟩)) _ _ s
 refine wpAny_bind (wpAny_of_eq F.newCall_set_0 (wpAny_pure ⟨plainId_quiet F.plain_set_new _,codeAny_builtin F.entry_set_new ?_⟩));rw [Around.under_plainId F.plain_set_new _];unfold Builtin.«set.__new__» Builtin.Frozenset.newClass;have Pq:=sub_set_self;obtain ⟨hp,g,d,tk,os⟩:=s;dsimp only
 wp_walk
 refine wpAny_askSetting (wpAny_pure ?_);dsimp only;simp only [newObj];refine wpAny_bind (wpAny_alloc (wpAny_pure ?_));exact wpAny_pure h
theorem wq{Q:Value→Shared→Prop}
  (h:Q (.ref s.heap.objs.size) {s with heap:=s.heap.push {cls:= .type "set",dict:=none,data:= .set #[] 0 (.fresh 0 0 (!eE w))}}):
  wpAny (model prog w) A (call (.type "set") []) Q E s:=by
 obtain ⟨c,tl,Yo⟩:=F.called_set.mro;have UP:=F.called_set.made;have Pq:=F.called_set.sub;refine wpAny_call (codeAny_of_tree ?_);show wpAny _ _ (callAny (.type "set") _) _ _ _;refine wpAny_pure ⟨Code.quiet_builtin _ (by decide+kernel),codeAny_builtin F.entry_type_call ?_⟩
 rw [Around.under_plain (weight_type_call_type "set" [] []) rfl];have h1:=F.called_set.notType;have h2:=F.called_set.canCreate;have YA:=F.typeCall_set_0
 repeat (any_goals (first|assumption|wp_step))
 refine codeAny_mono (sU (E:=E) (Q₁:=λobj s₁=>obj= .ref s.heap.objs.size∧s₁={s with heap:=s.heap.push {cls:= .type "set",dict:=none,data:= .set #[] 0 (.fresh 0 0 (!eE w))}}) ⟨rfl,rfl⟩) λr s₁ hr=>?_
 cases r with
 |error e=>exact hr
 |ok fl=>
  cases fl with
  |ret obj=>
   obtain ⟨rfl,rfl⟩:=hr;have hS:(s.heap.push {cls:= .type "set",dict:=none,data:= .set #[] 0 (.fresh 0 0 (!eE w))}).get? s.heap.objs.size=some {cls:= .type "set",dict:=none,data:= .set #[] 0 (.fresh 0 0 (!eE w))}:=Heap.get?_push_size _ rfl;have hT:Shared.TypeIs {s with heap:=s.heap.push {cls:= .type "set",dict:=none,data:= .set #[] 0 (.fresh 0 0 (!eE w))}} (.ref s.heap.objs.size) "set":=⟨_,hS,rfl⟩
   have YD:=F.called_set.init.lookup;have Yz:=F.called_set.init.bind (.ref s.heap.objs.size)
   repeat (any_goals (first|assumption|wp_step))
   refine codeAny_mono (codeAny_call_builtin (R:=wants (λr BY=>r= .none∧Q (.ref s.heap.objs.size) BY) E) F.called_set.init.plain F.entry_set_init (check_set_init hT ?_)) λRp BY z5=>?_
   ·unfold Builtin.«set.__init__» noKeywords
    wp_walk
    exact ⟨rfl,h⟩
   ·cases Rp with
    |error e=>exact z5
    |ok Lc=>
     cases Lc with
     |ret r=>
      obtain ⟨rfl,hq⟩:=z5
      repeat (any_goals (first|assumption|wp_step))
     |_=>exact z5.elim
  |_=>exact hr.elim
theorem fY.new(w:World):fY (eE w) {cls:= .type "set",dict:=none,data:= .set #[] 0 (.fresh 0 0 (!eE w))} #[] 0 (.fresh 0 0 (!eE w)) where
 ex:=⟨rfl,rfl,rfl⟩
 dat:=rfl
 tok:=⟨.inl rfl,rfl,λi j hj=>by simp [SetTable.fresh] at hj,rfl,λi j h=>by simp [SetTable.fresh] at h,by simp [SetTable.fresh],λi h e=>by simp at e⟩
 pl:=rfl
 ld:=rfl
 few:=by simp [SetTable.fresh]
end
namespace F
theorem rB:entryFor table "set.__iter__"=some Builtin.«frozenset.__iter__»:=
 entryFor_alias (id':="frozenset.__iter__") (by kernel_rfl) rfl (by decide+kernel) (by kernel_rfl)
theorem gX:Manifest.owners.lookup (String.ofList ['r','o','t','a','r','e','t','i','_','t','e','s'].reverse)=some Manifest.sig_set_iterator:=by kernel_rfl
theorem bE:Slot "set_iterator" "__next__" "set_iterator.__next__":=
 .of (owner:="set_iterator") (n:="__next__") (by rw [typeLookup_type,builtinLookup_eq_fast];kernel_rfl) (by decide+kernel) (by decide+kernel) (by decide+kernel)
  (by first|exact .inl (by decide+kernel) |exact .inr (by decide+kernel)) (by rw [isSubtype_type];kernel_rfl)
theorem fm:entryFor table "set_iterator.__next__"=some Builtin.«set_iterator.__next__»:=entryFor_of_tree (by kernel_rfl)
theorem fe(a:Value):argsOk "set_iterator.__next__" ⟨[a],[]⟩:=by
 unfold argsOk;rw [signature?_of (id:="set_iterator.__next__") (n:= ['_','_','t','x','e','n','_','_']) (o:= ['r','o','t','a','r','e','t','i','_','t','e','s']) (by kernel_rfl) gX];kernel_rfl
theorem fE:Slot "set_iterator" "__iter__" "set_iterator.__iter__":=
 .of (owner:="set_iterator") (n:="__iter__") (by rw [typeLookup_type,builtinLookup_eq_fast];kernel_rfl) (by decide+kernel) (by decide+kernel) (by decide+kernel)
  (by first|exact .inl (by decide+kernel) |exact .inr (by decide+kernel)) (by rw [isSubtype_type];kernel_rfl)
theorem jh:entryFor table "set_iterator.__iter__"=some Builtin.«dict_keyiterator.__iter__»:=
 entryFor_alias (id':="dict_keyiterator.__iter__") (by kernel_rfl) rfl (by decide+kernel) (by kernel_rfl)
theorem iM(a:Value):argsOk "set_iterator.__iter__" ⟨[a],[]⟩:=by
 unfold argsOk;rw [signature?_of (id:="set_iterator.__iter__") (n:= ['_','_','r','e','t','i','_','_']) (o:= ['r','o','t','a','r','e','t','i','_','t','e','s']) (by kernel_rfl) gX];kernel_rfl
end F
theorem qS{α:Type}:∀(l:List α)(i:Nat)(h:i<l.length),(l[i]::l.eraseIdx i).Perm l
 |y::l,0,_=> .refl _
 |y::l,i+1,h=>by
  have:=qS l i (by simpa using h)
  simp only [List.getElem_cons_succ,List.eraseIdx_cons_succ];exact (List.Perm.swap ..).trans (this.cons y)
theorem yJ{α:Type}(next:Nat→Nat):∀(fuel k:Nat)(left:List α)(out:Array α),left.length≤fuel→(pickOrder.go next fuel k left out).toList.Perm (out.toList++left)
 |0,k,left,out,h=>by
  have:left= []:=B6.mp (by omega)
  subst this;simp [pickOrder.go]
 |fuel+1,k,[],out,h=>by
  simp [pickOrder.go]
 |fuel+1,k,y::left,out,h=>by
  have lt:next k%(y::left).length<(y::left).length:=je _ (by simp)
  unfold pickOrder.go;rw [bq lt];dsimp only;refine (yJ next fuel (k+1) _ _ (by rw [List.length_eraseIdx_of_lt lt];simp at h ⊢;omega)).trans ?_
  rw [Array.toList_push,uD];refine List.Perm.append_left _ ?_;exact qS _ _ lt
def eN(w:World)(a:Addr)(ep:Nat)(es:Array (Int×Value)):Array (Int×Value):=if eE w=true then pickOrder (w.params.setOrder a ep) es else es
theorem t7(w:World)(a:Addr)(ep:Nat)(es:Array (Int×Value)):(eN w a ep es).toList.Perm es.toList:=by
 unfold eN
 split
 ·unfold pickOrder
  simpa using yJ (w.params.setOrder a ep) es.size 0 es.toList #[] (by simp)
 ·exact .refl _
theorem iw(w:World)(a:Addr)(ep:Nat)(es:Array (Int×Value)):(eN w a ep es).size=es.size:=by
 rw [←gO,(t7 w a ep es).length_eq,gO]
def df(w:World)(t:SetTable)(i:Nat):Nat:=if eE w=true then 0 else if i=0 then 0 else t.place[i-1]! +1
section
variable {prog:Program} {w:World} {A:Around} {E:Value→Shared→Prop} {s:Shared}
theorem xM{t:SetTable}{hs:List Int}(T:TOk t hs)(hb:eE w=false){i:Nat}(hi:i≤hs.length):below t.place (df w t i)=i:=by
 have sz:=T.size;obtain ⟨b1,b2,b3⟩:=gG T.rise (df w t i);unfold df at*;rw [if_neg (by rw [hb];exact dW)] at*
 by_cases z:i=0
 ·rw [if_pos z] at*
  rcases Nat.eq_zero_or_pos (below t.place 0) with h|h
  ·rw [h,z]
  ·exact absurd (b2 0 h) (Nat.not_lt_zero _)
 ·rw [if_neg z] at*
  generalize below t.place (t.place[i-1]! +1)=b at*
  rcases Nat.lt_trichotomy b i with h|h|h
  ·have:=b3 (i-1) (by omega) (by omega)
   omega
  ·exact h
  ·have:=b2 i h
   have:=T.rise (i-1) i (by omega) (by omega)
   omega
theorem jS{a:Addr}{o:Obj}{es:Array (Int×Value)}{ep:Nat}{t:SetTable}{i:Nat}{Q:Option (Value×Nat)→Shared→Prop}(ho:s.heap.get? a=some o)(S:fY (eE w) o es ep t)(hi:i≤es.size)
  (h:Q (((eN w a ep es)[i]?).map λe=>(e.2,df w t (i+1))) s):wpAny (model prog w) A (setNext a (df w t i) i ep) Q E s:=by
 have hd:=S.dat;have hf:=S.fits;unfold setNext;refine wpAny_bind (wpAny_setState_of ho hd hf ?_);dsimp only;unfold setsByText;refine wpAny_bind (wpAny_bind (wpAny_askSetting (wpAny_pure ?_)));cases hb:eE w with
 |true=>
  refine wpAny_ite_true (decide_eq_true (show w.params.followText "set-order"=true from hb)) ?_;rw [if_neg (by simp)]
  unfold setWalk setsByText;refine wpAny_bind (wpAny_bind (wpAny_setState_of ho hd hf ?_));dsimp only;refine wpAny_bind (wpAny_bind (wpAny_askSetting (wpAny_pure ?_)));refine wpAny_ite_true (decide_eq_true (show w.params.followText "set-order"=true from hb)) ?_;refine wpAny_bind (wpAny_askSetting (wpAny_pure (wpAny_pure ?_)));unfold eN df at h;rw [if_pos hb,if_pos hb] at h;unfold df;rw [if_pos hb];exact h
 |false=>
  refine wpAny_ite_false (decide_eq_false (show ¬w.params.followText "set-order"=true from by rw [show w.params.followText "set-order"=false from hb];exact dW)) ?_
  refine wpAny_ite_false ?_ ?_
  ·refine decide_eq_false ?_
   show ¬((!t.plain&&decide (es.size>1))=true);rw [S.pl];simp
  refine wpAny_bind ?_;show wpAny _ _ (if (!t.led&& !es.isEmpty)=true then _ else _) _ _ _;rw [if_neg (by rw [S.ld,hb];simp)]
  refine wpAny_pure ?_;have bn:=xM (w:=w) S.tok hb (i:=i) (by simpa using hi)
  rw [bn];refine wpAny_pure ?_;have sz:t.place.size=es.size:=by rw [S.tok.size];simp
  unfold eN at h;rw [if_neg (by rw [hb];exact dW)] at h
  by_cases lt:i<es.size
  ·have lp:i<t.place.size:=by omega
   rw [rb lt] at h ⊢;rw [rb lp];dsimp only
   have e:df w t (i+1)=t.place[i]+1:=by
    unfold df;rw [if_neg (by rw [hb];exact dW),if_neg (by omega)]
    simp [lp]
   rw [Option.map_some,e] at h;exact h
  ·rw [xq (by omega)] at h ⊢
   exact h
end
def gk(w:World)(h:Heap)(I a:Addr)(t:SetTable)(i n ep:Nat):Prop:=
 ∃o,h.get? I=some o∧o.cls= .type "set_iterator"∧o.data= .fields #[.int (df w t i:Nat) 0, .int i 0, .ref a, .int n 0, .int ep 0]
section
variable {prog:Program} {w:World} {A:Around} {E:Value→Shared→Prop} {s:Shared}
theorem gk.typeIs{I a:Addr}{t:SetTable}{i n ep:Nat}(x:gk w s.heap I a t i n ep):s.TypeIs (.ref I) "set_iterator":=let ⟨o,ho,hc,_⟩:=x;⟨o,ho,hc⟩
theorem pR{a:Addr}{o:Obj}{es:Array (Int×Value)}{ep:Nat}{t:SetTable}{Q:Value→Shared→Prop}(ho:s.heap.get? a=some o)(S:fY (eE w) o es ep t)
  (hQ:Q (.ref s.heap.objs.size) {s with heap:=s.heap.push {cls:= .type "set_iterator",data:= .fields #[.int (df w t 0:Nat) 0, .int (0:Nat) 0, .ref a, .int es.size 0, .int ep 0]}}):
  wpAny (model prog w) A (pyIter (.ref a)) Q E s:=by
 have hd:=S.dat;have hf:=S.fits;have hT:s.TypeIs (.ref a) "set":=⟨o,ho,S.ex.1⟩;refine wpAny_pyIter_slot hT F.slot_set_iter (wpAny_call_entry F.slot_set_iter hT F.rB ?_ (F.args_set_iter_1 _));unfold Builtin.«frozenset.__iter__» Builtin.Frozenset.slot0 slotArgs;simp only [List.isEmpty_nil,Bool.not_true,vY, ↓reduceIte,bind_assoc,iI,bne_self_eq_false];unfold Builtin.Frozenset.addrOf Builtin.Frozenset.sizeOf;refine wpAny_bind (wpAny_pure ?_)
 try dsimp only
 refine wpAny_bind (wpAny_pure ?_);refine wpAny_bind (wpAny_bind (wpAny_setEntries_of ho hd hf (wpAny_pure ?_)));unfold setDrawn setsByText;refine wpAny_bind (wpAny_bind (wpAny_setState_of ho hd hf ?_));dsimp only;refine wpAny_bind (wpAny_bind (wpAny_askSetting (wpAny_pure ?_)));refine wpAny_pure ?_;refine wpAny_ite_false ?_ ?_
 ·refine decide_eq_false ?_
  show ¬((!w.params.followText "set-order"&&(!t.plain&&decide (es.size>1)))=true);rw [S.pl];simp
 refine wpAny_bind (wpAny_pure ?_);refine wpAny_bind ?_;unfold setEpoch;refine wpAny_bind (wpAny_setState_of ho hd hf (wpAny_pure ?_));refine wpAny_bind (wpAny_newObj_type (wpAny_pure ⟨_,rfl,"set_iterator",_,⟨_,Heap.get?_push_size _ rfl,rfl⟩,F.bE.lookup,?_⟩));have e:df w t 0=0:=by unfold df;simp
 rw [e] at hQ;exact hQ
theorem pS{I a:Addr}{o:Obj}{es:Array (Int×Value)}{ep:Nat}{t:SetTable}{i:Nat}{x:Int×Value}{Q:Option Value→Shared→Prop}(hit:gk w s.heap I a t i es.size ep)(ho:s.heap.get? a=some o)(S:fY (eE w) o es ep t)
  (hx:(eN w a ep es)[i]? =some x) (hQ:∀h',gk w h' I a t (i+1) es.size ep→Heap.SameBut I s.heap h'→Q (some x.2) {s with heap:=h'}):wpAny (model prog w) A (pyNext (.ref I)) Q E s:=by
 obtain ⟨oi,CA,hc,hd⟩:=id hit
 have hi:i<es.size:=by
  have:=(zf.mp hx).1
  rwa [iw] at this
 unfold pyNext
 refine wpAny_bind (wpAny_attempt (wpAny_callSpecial?_slot (name:=Str.ofString "__next__") hit.typeIs F.bE
  (wpAny_call_entry F.bE hit.typeIs F.fm ?_ (F.fe _))))
 unfold Builtin.«set_iterator.__next__»;refine wpAny_bind (m:=slotArgs "__next__" 0 _) (wpAny_pure ?_);refine wpAny_bind (wpAny_fieldsOf CA hd ?_);dsimp only;refine wpAny_bind (wpAny_setEntries_of ho S.dat S.fits ?_);rw [if_neg (by simp)]
 refine wpAny_bind ?_;rw [v7,v7,v7];refine jS ho S (oG hi) ?_;rw [hx];dsimp only [Option.map_some];refine wpAny_bind (wpAny_setField CA hd (by simp) ?_)
 have nU:=Heap.get?_update_self (Obj.mapFields (·.setIfInBounds 0 (rawInt (df w t (i+1):Nat)))) CA (Obj.isFreed_of_fields (Obj.data_mapFields hd _));have EO:=Obj.data_mapFields hd (·.setIfInBounds 0 (rawInt (df w t (i+1):Nat)));refine wpAny_bind (wpAny_setField nU EO (by simp) ?_)
 have yg:=Heap.get?_update_self (Obj.mapFields (·.setIfInBounds 1 (rawInt ((i:Int)+1)))) nU (Obj.isFreed_of_fields (Obj.data_mapFields EO _));refine wpAny_pure ⟨_,rfl,wpAny_pure (hQ _ ⟨_,yg,?_,?_⟩ ((Heap.SameBut.update ..).trans (Heap.SameBut.update ..)))⟩
 ·exact (Obj.cls_mapFields ..).trans ((Obj.cls_mapFields ..).trans hc)
 ·rw [Obj.data_mapFields EO];simp [rawInt]
theorem kW{I a:Addr}{o:Obj}{es:Array (Int×Value)}{ep:Nat}{t:SetTable}{Q:Option Value→Shared→Prop}(hh:A.handled=none)(hit:gk w s.heap I a t es.size es.size ep)(ho:s.heap.get? a=some o)(S:fY (eE w) o es ep t)
  (hQ:∀h',Heap.ExtBut I s.heap h'→Q none {s with heap:=h'}):wpAny (model prog w) A (pyNext (.ref I)) Q E s:=by
 obtain ⟨oi,CA,hc,hd⟩:=id hit;unfold pyNext
 refine wpAny_bind (wpAny_attempt (wpAny_callSpecial?_slot (name:=Str.ofString "__next__") hit.typeIs F.bE
  (wpAny_call_entry F.bE hit.typeIs F.fm ?_ (F.fe _))))
 unfold Builtin.«set_iterator.__next__»;refine wpAny_bind (m:=slotArgs "__next__" 0 _) (wpAny_pure ?_);refine wpAny_bind (wpAny_fieldsOf CA hd ?_);dsimp only;refine wpAny_bind (wpAny_setEntries_of ho S.dat S.fits ?_);rw [if_neg (by simp)]
 refine wpAny_bind ?_;rw [v7,v7,v7];refine jS ho S (br _) ?_;rw [xq (by rw [iw];exact br _)]
 dsimp only [Option.map_none];refine wpAny_bind (wpAny_setField CA hd (by simp) ?_)
 show wpAny _ _ (newExc (.type "StopIteration") []>>=_) _ _ _;refine wpAny_bind ?_;simp only [newExc,newTuple];refine wpAny_bind (wpAny_newObj_type ?_ (by size_fits))
 refine wpAny_bind (m:=firstArgMember _ _) (wpAny_of_eq (a:=Value.none) (by first|rfl| (simp only [firstArgMember];rfl)) ?_)
 refine wpAny_newObj_type ?_ (by size_fits)
 simp only [raiseNew];refine wpAny_bind (wpAny_handled ?_);rw [show A.in1.handled=none from hh];refine wpAny_bind (wpAny_pure (wpAny_throw ?_));refine wpAny_bind (wpAny_isInstance (T:="StopIteration") (b:=true) ⟨_,Heap.get?_push_size _ rfl,rfl⟩ isSubtype_stop ?_);exact wpAny_pure (hQ _ (((Heap.SameBut.update ..).extBut.push _).push _))
theorem Walks.sets(hh:A.handled=none)(I a:Addr)(wO:a≠I){o:Obj}{es:Array (Int×Value)}{ep:Nat}{t:SetTable}(S:fY (eE w) o es ep t):
  Walks prog w A I [I,a] [I] es.size (λi v=>∃x,(eN w a ep es)[i]? =some x∧v=x.2) (λi h=>gk w h I a t i es.size ep∧h.get? a=some o) where
 sub:=λb hb=>by simp at hb;simp [hb]
 frame:=λi h h' st hk=>⟨let ⟨oi,ho,r⟩:=st.1;⟨oi,hk I (by simp) _ ho,r⟩,hk a (by simp) _ st.2⟩
 item:=λi s Q E hi st hQ=>by
  have hx:(eN w a ep es)[i]? =some ((eN w a ep es)[i]'(by rw [iw];exact hi)):=rb _
  refine pS st.1 st.2 S hx λh' EX wR=>?_;exact hQ _ h' s.toks ⟨_,hx,rfl⟩ ⟨EX,(wR.2 a wO).trans st.2⟩ λb o hb e=>wR.extBut b o (λh=>hb (by simp [h])) e
 done:=λs Q E st hQ=>kW hh st.1 st.2 S λh' Lz=>hQ h' s.toks λb o hb e=>Lz b o (λh=>hb (by simp [h])) e
 self:=λi s Q E st hQ=>by
  refine wpAny_pyIter_slot st.1.typeIs F.fE (wpAny_call_entry F.fE st.1.typeIs F.jh ?_ (F.iM _));unfold Builtin.«dict_keyiterator.__iter__»;refine wpAny_bind (m:=slotArgs "__iter__" 0 _) (wpAny_pure ?_);exact wpAny_pure ⟨_,rfl,"set_iterator",_,st.1.typeIs,F.bE.lookup,hQ⟩
end
section
variable {prog:Program} {w:World} {A:Around} {E:Value→Shared→Prop} {s:Shared}
theorem oE{a:Addr}{o:Obj}{es:Array (Int×Value)}{ep:Nat}{t:SetTable}{Q:List Value→Shared→Prop}(hh:A.handled=none)(ho:s.heap.get? a=some o)(S:fY (eE w) o es ep t)
  (hQ:∀h' tk,s.heap.objs.size<h'.objs.size→(∀b o,s.heap.get? b=some o→h'.get? b=some o)→Q ((eN w a ep es).toList.map (·.2)) {s with heap:=h',toks:=tk}) (hn:es.size≤sizeLine:=by size_fits):
  wpAny (model prog w) A (collect (.ref a)) Q E s:=by
 have ha:a<s.heap.objs.size:=Heap.lt_size ho;unfold collect;refine wpAny_bind (wpAny_runValue (codeAny_builtin F.entry_proto_collect ?_));rw [Around.under_plainId F.plain_proto_collect _];show wpAny _ A.in1 (newList []>>=λl=>again (.builtin "list.__iadd__" ⟨[l, .ref a],[]⟩)) _ _ s;refine wpAny_bind (wpAny_newObj_type ?_);refine wpAny_pure ⟨plainId_quiet F.plain_list_iadd _,codeAny_builtin F.entry_list_iadd ?_⟩;rw [Around.under_plainId F.plain_list_iadd _];have nU:(s.heap.push {cls:= .type "list",data:= .seq ([]:List Value).toArray}).get? a=some o:=Heap.get?_push_of_some _ ho;show wpAny _ A.in1 (Builtin.List.listExtendWith (.ref s.heap.objs.size) (.ref a) (.ref s.heap.objs.size)) _ _ {s with heap:=s.heap.push {cls:= .type "list",data:= .seq ([]:List Value).toArray}}
 unfold Builtin.List.listExtendWith;have hT:Shared.TypeIs {s with heap:=s.heap.push {cls:= .type "list",data:= .seq ([]:List Value).toArray}} (.ref a) "set":=⟨o,nU,S.ex.1⟩
 refine wpAny_bind (wpAny_typeOf hT ?_);have h1:Builtin.List.listSameRef (.ref s.heap.objs.size) (.ref a)=false:=by simp [Builtin.List.listSameRef,Nat.ne_of_gt ha]
 have h2:(Value.type "set"==Value.type "list")=false:=by decide
 have h3:(Value.type "set"==Value.type "tuple")=false:=by decide
 simp only [h1,h2,h3,Bool.or_false,vY,if_false];refine wpAny_bind (pR nU S ?_);generalize hI:(s.heap.push {cls:= .type "list",data:= .seq ([]:List Value).toArray}).objs.size=I;have Ln:I=s.heap.objs.size+1:=by rw [←hI,size_push']
 have Uw:a≠I:=by rw [Ln];exact cc (Nat.lt_succ_of_lt ha)
 have HA:s.heap.objs.size≠I:=by rw [Ln];exact cc (uu _)
 have OW:s.heap.objs.size≠a:=Nat.ne_of_gt ha;have Lq:((s.heap.push {cls:= .type "list",data:= .seq ([]:List Value).toArray}).push {cls:= .type "set_iterator",data:= .fields #[.int (df w t 0:Nat) 0, .int (0:Nat) 0, .ref a, .int es.size 0, .int ep 0]}).get? s.heap.objs.size=some {cls:= .type "list",data:= .seq ([]:List Value).toArray}:=Heap.get?_push_of_some _ (Heap.get?_push_size _ rfl);have Cr:((s.heap.push {cls:= .type "list",data:= .seq ([]:List Value).toArray}).push {cls:= .type "set_iterator",data:= .fields #[.int (df w t 0:Nat) 0, .int (0:Nat) 0, .ref a, .int es.size 0, .int ep 0]}).get? I=some {cls:= .type "set_iterator",data:= .fields #[.int (df w t 0:Nat) 0, .int (0:Nat) 0, .ref a, .int es.size 0, .int ep 0]}:=by rw [←hI];exact Heap.get?_push_size _ rfl
 have Lu:((s.heap.push {cls:= .type "list",data:= .seq ([]:List Value).toArray}).push {cls:= .type "set_iterator",data:= .fields #[.int (df w t 0:Nat) 0, .int (0:Nat) 0, .ref a, .int es.size 0, .int ep 0]}).get? a=some o:=Heap.get?_push_of_some _ nU;have JZ:∀b o,s.heap.get? b=some o→((s.heap.push {cls:= .type "list",data:= .seq ([]:List Value).toArray}).push {cls:= .type "set_iterator",data:= .fields #[.int (df w t 0:Nat) 0, .int (0:Nat) 0, .ref a, .int es.size 0, .int ep 0]}).get? b=some o:=λb o e=>Heap.get?_push_of_some _ (Heap.get?_push_of_some _ e);generalize ((s.heap.push {cls:= .type "list",data:= .seq ([]:List Value).toArray}).push {cls:= .type "set_iterator",data:= .fields #[.int (df w t 0:Nat) 0, .int (0:Nat) 0, .ref a, .int es.size 0, .int ep 0]})=h2 at Lq Cr Lu JZ ⊢;have Ls:Shared.TypeIs {s with heap:=h2} (.ref a) "set":=⟨o,Lu,S.ex.1⟩
 refine wpAny_bind (wpAny_holding ?_);unfold Builtin.List.listLengthHint;refine wpAny_bind (wpAny_specialOf Ls F.slot_set_len.lookup ?_)
 (generalize Cw:("set.__len__":String)=HH;(fail_if_success (clear Cw HH));wp_delta;rw [show splitId HH=some ("set","__len__") from by subst Cw;decide+kernel];subst Cw)
 refine wpAny_bind (wpAny_isInstance (b:=true) Ls sub_set_self ?_);dsimp only;refine wpAny_ite_false (by decide) ?_
 refine wpAny_ite_true (by decide+kernel) ?_
 refine wpAny_bind (wpAny_typeOf Ls ?_);refine wpAny_pure ?_;refine wpAny_ite_true (by decide+kernel) ?_
 refine wpAny_bind (wpAny_rule ?_);refine wpAny_bind ?_;show wpAny _ A.in1 (updateSeq s.heap.objs.size (·.push .none)>>=λ_=>updateSeq s.heap.objs.size (·.pop)) _ _ _;refine wpAny_bind (wpAny_updateSeq Lq rfl ?_);have wK:=Heap.get?_update_self (Obj.mapSeq (·.push Value.none)) Lq rfl;refine wpAny_updateSeq wK rfl ?_;have Lr:=Heap.get?_update_self (Obj.mapSeq (·.pop)) wK rfl
 have CW:∀b o,b≠s.heap.objs.size→h2.get? b=some o→
   ((h2.update s.heap.objs.size (Obj.mapSeq (·.push Value.none))).update s.heap.objs.size (Obj.mapSeq (·.pop))).get? b=some o:=
  λb o hb e=>(Heap.get?_update_other _ _ (Ne.symm hb)).trans ((Heap.get?_update_other _ _ (Ne.symm hb)).trans e)
 have W:=(Walks.sets (prog:=prog) (A:=A.in1) hh I a Uw S).toS;have ne1:s.heap.objs.size∉ [I,a]:=by simp [HA,OW]
 refine wpAny_pure ⟨plainId_quiet F.plain_extend_loop _,codeAny_extend_loopS W hn _ ne1 _ es.size 0 _ _ _ rfl (cn _)
  ⟨⟨_,CW _ _ (Ne.symm HA) Cr,rfl,rfl⟩,CW _ _ (Ne.symm OW) Lu⟩ Lr (ItemsOf.nil _) λs' b5 c' hm wJ oY=>?_⟩
 show wpAny _ A (load s.heap.objs.size>>=_) _ _ s';refine wpAny_bind (wpAny_load wJ ?_)
 have ji:s'={s with heap:=s'.heap,toks:=s'.toks}:=by
  obtain ⟨kQ,g',d',YM,Md⟩:=s';obtain ⟨_,hg,hd,wQ,_⟩:=hm;have hg:g'=s.gens:=hg;have hd:d'=s.drawn:=hd;have wQ:Md=s.os:=wQ;subst hg hd wQ;rfl
 have ea:b5.toList=(eN w a ep es).toList.map (·.2):=by
  refine List.ext_getElem? λj=>?_;rw [pV,eC,pV];have sz:b5.size=(eN w a ep es).size:=by rw [oY.1,iw]
  by_cases lt:j<b5.size
  ·obtain ⟨x,hx,hv⟩:=oY.2 j b5[j] (rb lt)
   rw [hx,rb lt,hv];rfl
  ·rw [xq (by omega),xq (by omega)];rfl
 rw [ji];show wpAny _ _ (pure b5.toList) Q E _;rw [ea];refine wpAny_pure (hQ _ _ (Heap.lt_size wJ) λb o e=>?_);have hb:=Heap.lt_size e;have b1:b≠s.heap.objs.size:=cc hb;have b2:b≠I:=by rw [Ln];exact cc (Nat.lt_succ_of_lt hb)
 exact hm.heap b o (by simp [b1,b2]) (CW b o b1 (JZ b o e))
theorem tH{vs us:List Value}(p:us.Perm vs):∀{ns:List Int},IntsAre vs ns→∃ms,IntsAre us ms∧ms.Perm ns:=by
 induction p with
 |nil=>intro ns h;exact ⟨ns,h, .refl _⟩
 |cons x _ ih=>
  intro ns h;cases h with
  |cons n t h=>
   obtain ⟨ms,a,b⟩:=ih h;exact ⟨n::ms, .cons n t a,b.cons n⟩
 |swap x y l=>
  intro ns h;cases h with
  |cons n t h=>
   cases h with
   |cons m u h=>exact ⟨_, .cons m u (.cons n t h), .swap ..⟩
 |trans _ _ U7 U8=>
  intro ns h;obtain ⟨ms,a,b⟩:=U8 h;obtain ⟨ls,c,d⟩:=U7 a;exact ⟨ls,c,d.trans b⟩
theorem yY{a:Addr}{o:Obj}{es:Array (Int×Value)}{ep:Nat}{t:SetTable}{ns:List Int}{Q:Value→Shared→Prop}(hh:A.handled=none)(ho:s.heap.get? a=some o)(S:fY (eE w) o es ep t)(hI:IntsAre (es.toList.map (·.2)) ns)(Uq:es.size<64)
  (h:∀h' tk q (out:Array Value) (e:Nat) (ms:List Int),(∀b o,s.heap.get? b=some o→h'.get? b=some o)→s.heap.objs.size≤q→h'.get? q=some {cls:= .type "list",data:= .seq out e}→IntsAre out.toList ms→ms.Perm ns→ms.Pairwise (·≤·)→Q (.ref q) {s with heap:=h',toks:=tk}):
  wpAny (model prog w) A (call (.builtin "sorted") [.ref a]) Q E s:=by
 have pm:=(t7 w a ep es).map (λe:Int×Value=>e.2);obtain ⟨L4,i1,i2⟩:∃L4,IntsAre ((eN w a ep es).toList.map (·.2)) L4∧L4.Perm ns:=tH pm hI;have sz:((eN w a ep es).toList.map (·.2)).length=es.size:=by rw [List.length_map,gO,iw]
 refine Calls.call_function_entry kind_sorted plain_sorted entry_sorted (args_sorted1 _) ?_;unfold Builtin.«sorted»;refine wpAny_bind (m:=checkCount "sorted" 1 1 _) (wpAny_pure ?_);have line:64≤sizeLine:=by decide
 refine wpAny_bind (oE hh ho S (λh1 MJ kR QQ=>?_) (by omega))
 refine wpAny_bind (wpAny_newList ?_ (by rw [sz];omega))
 have E3:(h1.push (seqObj "list" ((eN w a ep es).toList.map (·.2)).toArray 0)).get? h1.objs.size=some (seqObj "list" ((eN w a ep es).toList.map (·.2)).toArray 0):=Heap.get?_push_size _ rfl;refine wpAny_bind (wpAny_holding (wpAny_call_entry slot_list_sort ⟨_,E3,rfl⟩ entry_list_sort (list_sort_tree E3 i1 (by rw [sz];exact Uq) λout ms a1 a2 a3=>⟨_,rfl,?_⟩) (args_list_sort _)))
 obtain ⟨e1,nU⟩:∃e1,((h1.push (seqObj "list" ((eN w a ep es).toList.map (·.2)).toArray 0)).update h1.objs.size (Obj.mapSeq λ_=> #[])).get? h1.objs.size=some (seqObj "list" #[] e1):=⟨_,get?_update_seq E3 (λ_=> #[])⟩;have rF:((h1.push (seqObj "list" ((eN w a ep es).toList.map (·.2)).toArray 0)).update h1.objs.size (Obj.mapSeq λ_=> #[])).objs.size=h1.objs.size+1:=by rw [Heap.size_update,size_push']
 have HG:((((h1.push (seqObj "list" ((eN w a ep es).toList.map (·.2)).toArray 0)).update h1.objs.size (Obj.mapSeq λ_=> #[])).push (seqObj "tuple" ((eN w a ep es).toList.map (·.2)).toArray 0)).push (seqObj "list" #[] 0)).get? h1.objs.size=some (seqObj "list" #[] e1):=
  Heap.get?_push_of_some _ (Heap.get?_push_of_some _ nU)
 have O5:=get?_update_seq HG (λ_=>out);refine wpAny_pure ⟨_,rfl,h _ _ h1.objs.size out _ ms (λb o e=>?_) (oG kR) O5 a1 (a2.trans i2) a3⟩;have eb:=QQ b o e;have nb:b≠h1.objs.size:=cc (Heap.lt_size eb);show ((((((h1.push (seqObj "list" ((eN w a ep es).toList.map (·.2)).toArray 0)).update h1.objs.size (Obj.mapSeq λ_=> #[])).push (seqObj "tuple" ((eN w a ep es).toList.map (·.2)).toArray 0)).push (seqObj "list" #[] 0)).update h1.objs.size (Obj.mapSeq λ_=>out))).get? b=some o;rw [Heap.get?_update_ne _ _ _ _ nb];refine Heap.get?_push_of_some _ (Heap.get?_push_of_some _ ?_);rw [Heap.get?_update_ne _ _ _ _ nb];exact Heap.get?_push_of_some _ eb
end
end PySem
set_option maxHeartbeats 4000000
namespace L2
open PySem PySem.Spec PyProof.Rows
inductive FV where
 |int (i:Int) |bl (b:Bool)
inductive XD where
 |J4 (b:Bool) (ps:List (Int×Int)) |J3 (ks:List (Int×Int)) (vs:List FV)
inductive D where
 |bf|bl (b:Bool) |int (i:Int) |str (x:Str) |lst (l:List D) |tup (l:List D) |jR (ns:List Int) |rng (lo hi:Int) |obj (a:Addr) |eT (w:List (List Nat)) |set (b:Bool) (l:List Int) |x (k:XD)
structure DC where
 K:PySem.W.Frag
 C:Addr
def ae(n:Nat):D:= .int n
def ao(r:List Nat):D:= .lst (r.map ae)
def aN(w:List (List Nat)):D:= .lst (w.map ao)
def qF(es:Array (Int×Value))(ns:List Int):Prop:=(∀e∈es.toList,∃k t,e=(hashInt k,Value.int k t))∧ns.Nodup∧∃ms,IntsAre (es.toList.map (·.2)) ms∧ms.Perm ns
def fc(b:Bool)(a:Addr)(ns:List Int)(h:Heap):Prop:=∃o es ep t,h.get? a=some o∧fY b o es ep t∧qF es ns
def CY(p:Int×Int):Int:=reduceHash (Builtin.Tuple.tupleHashOf [hashInt p.1,hashInt p.2])
inductive xC (H:Hp):List (Int×Addr)→List (Int×Int)→Prop
 |nil:xC H [] []
 |cons {a:Addr} {p:Int×Int} {es:List (Int×Addr)} {ps:List (Int×Int)}:H a=some (.tup [.int p.1, .int p.2])→xC H es ps→xC H ((CY p,a)::es) (p::ps)
theorem xC.mono{H H':Hp}(s:aH H H'):∀{es:List (Int×Addr)}{ps:List (Int×Int)},xC H es ps→xC H' es ps
 |_,_, .nil=> .nil
 |_,_, .cons h t=> .cons (s _ _ h) (t.mono s)
def Kl(b:Bool)(a:Addr)(es:List (Int×Addr))(h:Heap):Prop:=∃o eA ep t,h.get? a=some o∧fY b o eA ep t∧eA.toList.Perm (es.map λe=>(e.1,Value.ref e.2))
def Sm:FV→Value→Prop
 | .int i,v=>∃t,v= .int i t
 | .bl b,v=>v= .bool b
inductive GU:List DictEntry→List (Int×Addr)→List FV→Prop
 |nil:GU [] [] []
 |cons {e:DictEntry} {l:List DictEntry} {h:Int} {a:Addr} {v:FV} {es:List (Int×Addr)} {vs:List FV}:e.hash=h→e.key= .ref a→Sm v e.val→GU l es vs→GU (e::l) ((h,a)::es) (v::vs)
def Kk(a:Addr)(es:List (Int×Addr))(vs:List FV)(h:Heap):Prop:=∃o eA ep,h.get? a=some o∧o.ExactDict∧o.data= .dict eA ep∧GU eA.toList es vs
def DS(H:Hp)(a:Addr)(φ:Heap→Prop):XD→Prop
 | .J4 b ps=>ps.Nodup∧∃es,φ=Kl b a es∧xC H es ps
 | .J3 ks vs=>ks.Nodup∧∃es,φ=Kk a es vs∧xC H es ks
theorem DS.mono{H H':Hp}(s:aH H H'){a:Addr}{φ:Heap→Prop}:∀{k:XD},DS H a φ k→DS H' a φ k
 | .J4 _ _,⟨n,es,e,p⟩=>⟨n,es,e,p.mono s⟩
 | .J3 _ _,⟨n,es,e,p⟩=>⟨n,es,e,p.mono s⟩
mutual
inductive Dv (Z:DC) (H:Hp):V→D→Prop
 |bf:Dv Z H .bf .bf
 |bl (b:Bool):Dv Z H (.bl b) (.bl b)
 |int (i:Int):Dv Z H (.int i) (.int i)
 |str (x:Str) (h:PyData.strOk x=true):Dv Z H (.str x) (.str x)
 |lst {a:Addr} {xs:List V} {ds:List D}:H a=some (.lst xs)→au Z H xs ds→Dv Z H (.ref a) (.lst ds)
 |tup {a:Addr} {xs:List V} {ds:List D}:H a=some (.tup xs)→au Z H xs ds→Dv Z H (.ref a) (.tup ds)
 |obj (a:Addr):Dv Z H (.ref a) (.obj a)
 |rng {a:Addr} {lo hi:Int}:H a=some (.rng lo hi)→Dv Z H (.ref a) (.rng lo hi)
 |jR {a:Addr} {ns:List Int}:cD Z.K H a (ns.map V.int)→ns.length≤63→Dv Z H (.ref a) (.jR ns)
 |eT {p dx R:Addr} {w:List (List Nat)}:H p=some (.ins Z.C dx [("rows", .ref R)])→Dv Z H (.ref R) (aN w)→Wb.Good w→1≤w.length→w.length≤14→Dv Z H (.ref p) (.eT w)
 |set {a:Addr} {b:Bool} {ns:List Int}:H a=some (.ext (fc b a ns))→Dv Z H (.ref a) (.set b ns)
 |x {a:Addr} {φ:Heap→Prop} {k:XD}:H a=some (.ext φ)→DS H a φ k→Dv Z H (.ref a) (.x k)
inductive au (Z:DC) (H:Hp):List V→List D→Prop
 |nil:au Z H [] []
 |cons {v:V} {vs:List V} {d:D} {ds:List D}:Dv Z H v d→au Z H vs ds→au Z H (v::vs) (d::ds)
end
theorem cD.mono{K:PySem.W.Frag}{H H':Hp}{a:Addr}{xs:List V}(s:aH H H')(h:cD K H a xs):cD K H' a xs:=by
 rcases h with (h| ⟨o,h⟩) |h
 ·exact .inl (.inl (s _ _ h))
 ·exact .inl (.inr ⟨o,s _ _ h⟩)
 ·exact .inr h
section
variable {Z:DC} {H H' G G':Hp}
theorem Dv.ofInt{v:V}{i:Int}(h:Dv Z H v (.int i)):v= .int i:=by cases h;rfl
theorem Dv.kc{v:V}{ds:List D}(h:Dv Z H v (.lst ds)):∃a xs,v= .ref a∧H a=some (.lst xs)∧au Z H xs ds:=by cases h with|lst h e=>exact ⟨_,_,rfl,h,e⟩
theorem Dv.tV{v:V}{ds:List D}(h:Dv Z H v (.tup ds)):∃a xs,v= .ref a∧H a=some (.tup xs)∧au Z H xs ds:=by cases h with|tup h e=>exact ⟨_,_,rfl,h,e⟩
theorem Dv.FF{v:V}{ns:List Int}(h:Dv Z H v (.jR ns)):∃a,v= .ref a∧cD Z.K H a (ns.map V.int)∧ns.length≤63:=by cases h with|jR h z=>exact ⟨_,rfl,h,z⟩
theorem au.L5{vs:List V}(h:au Z H vs []):vs= []:=by cases h;rfl
theorem au.BC{vs:List V}{d:D}{ds:List D}(h:au Z H vs (d::ds)):∃v us,vs=v::us∧Dv Z H v d∧au Z H us ds:=by cases h with|cons a b=>exact ⟨_,_,rfl,a,b⟩
theorem au.ofOne{vs:List V}{d:D}(h:au Z H vs [d]):∃v,vs= [v]∧Dv Z H v d:=by
 obtain ⟨v,us,rfl,a,b⟩:=h.BC;rw [b.L5];exact ⟨v,rfl,a⟩
theorem au.FG{vs:List V}{d e:D}(h:au Z H vs [d,e]):∃v u,vs= [v,u]∧Dv Z H v d∧Dv Z H u e:=by
 obtain ⟨v,us,rfl,a,b⟩:=h.BC;obtain ⟨u,rfl,c⟩:=b.ofOne;exact ⟨v,u,rfl,a,c⟩
mutual
theorem Dv.mono(s:aH H H'):∀{v:V}{d:D},Dv Z H v d→Dv Z H' v d
 |_,_, .bf=> .bf
 |_,_, .bl b=> .bl b
 |_,_, .int i=> .int i
 |_,_, .str x h=> .str x h
 |_,_, .lst h a=> .lst (s _ _ h) (au.mono s a)
 |_,_, .tup h a=> .tup (s _ _ h) (au.mono s a)
 |_,_, .obj a=> .obj a
 |_,_, .rng h=> .rng (s _ _ h)
 |_,_, .jR h z=> .jR (h.mono s) z
 |_,_, .eT h r g a b=> .eT (s _ _ h) (Dv.mono s r) g a b
 |_,_, .set h=> .set (s _ _ h)
 |_,_, .x h k=> .x (s _ _ h) (k.mono s)
theorem au.mono(s:aH H H'):∀{vs:List V}{ds:List D},au Z H vs ds→au Z H' vs ds
 |_,_, .nil=> .nil
 |_,_, .cons a as=> .cons (Dv.mono s a) (au.mono s as)
end
theorem au.length:∀{vs:List V}{ds:List D},au Z H vs ds→vs.length=ds.length
 |_,_, .nil=>rfl
 |_,_, .cons _ as=>congrArg (·+1) as.length
theorem au.get:∀{vs:List V}{ds:List D}{i:Nat}{d:D},au Z H vs ds→ds[i]? =some d→∃v,vs[i]? =some v∧Dv Z H v d
 |_,_,_,_, .nil,e=>by simp at e
 |_,_,0,_, .cons a as,e=>by simp at e;subst e;exact ⟨_,rfl,a⟩
 |_,_,i+1,d, .cons a as,e=>by
  obtain ⟨v,h1,h2⟩:=au.get (i:=i) (d:=d) as (by simpa using e)
  exact ⟨v,by simpa using h1,h2⟩
theorem au.Bq:∀{vs:List V}{ds:List D}{i:Nat}{v:V},au Z H vs ds→vs[i]? =some v→∃d,ds[i]? =some d∧Dv Z H v d
 |_,_,_,_, .nil,e=>by simp at e
 |_,_,0,_, .cons a as,e=>by simp at e;subst e;exact ⟨_,rfl,a⟩
 |_,_,i+1,d, .cons a as,e=>by
  obtain ⟨v,h1,h2⟩:=au.Bq (i:=i) (v:=d) as (by simpa using e)
  exact ⟨v,by simpa using h1,h2⟩
theorem au.append:∀{vs us:List V}{ds es:List D},au Z H vs ds→au Z H us es→au Z H (vs++us) (ds++es)
 |_,_,_,_, .nil,b=>b
 |_,_,_,_, .cons a as,b=> .cons a (as.append b)
theorem au.take:∀{vs:List V}{ds:List D}(n:Nat),au Z H vs ds→au Z H (vs.take n) (ds.take n)
 |_,_,0,_=>by simpa using au.nil
 |_,_,n+1, .nil=>by simpa using au.nil
 |_,_,n+1, .cons a as=>by simpa using au.cons a (as.take n)
theorem au.drop:∀{vs:List V}{ds:List D}(n:Nat),au Z H vs ds→au Z H (vs.drop n) (ds.drop n)
 |_,_,0,h=>h
 |_,_,n+1, .nil=>by simpa using au.nil
 |_,_,n+1, .cons a as=>by simpa using as.drop n
theorem au.set{v:V}{d:D}(h:Dv Z H v d):∀{vs:List V}{ds:List D}(n:Nat),au Z H vs ds→au Z H (vs.set n v) (ds.set n d)
 |_,_,_, .nil=> .nil
 |_,_,0, .cons a as=> .cons h as
 |_,_,n+1, .cons a as=> .cons a (au.set h n as)
theorem au.rev:∀{vs:List V}{ds:List D},au Z H vs ds→au Z H vs.reverse ds.reverse
 |_,_, .nil=> .nil
 |_,_, .cons a as=>by
  rw [List.reverse_cons,List.reverse_cons];exact as.rev.append (.cons a .nil)
theorem au.ints:∀(ns:List Int),au Z H (ns.map V.int) (ns.map D.int)
 | []=> .nil
 |n::ns=> .cons (.int n) (au.ints ns)
theorem au.snoc{vs:List V}{ds:List D}{v:V}{d:D}(a:au Z H vs ds)(b:Dv Z H v d):au Z H (vs++ [v]) (ds++ [d]):=a.append (.cons b .nil)
structure Ext (G H G' H':Hp):Prop where
 gg:aH G G'
 sub:aH G' H'
 hh:aH H H'
 off:∀b,H b≠none→G b=none→G' b=none
theorem Ext.refl(s:aH G H):Ext G H G H:=⟨.refl _,s, .refl _,λ_ _ h=>h⟩
theorem Ext.trans{G1 H1 G2 H2:Hp}(a:Ext G H G1 H1)(b:Ext G1 H1 G2 H2):Ext G H G2 H2:=
 ⟨a.gg.trans b.gg,b.sub,a.hh.trans b.hh,λx h g=>b.off x (λz=>by
  cases e:H x with
  |none=>exact h e
  |some o=>rw [a.hh x o e] at z;cases z) (a.off x h g)⟩
theorem Ext.new{p:Addr}{o:HO}(s:aH G H)(h:H p=none):Ext G H (upd G p o) (upd H p o):=by
 have hg:G p=none:=s.free h;refine ⟨aV hg o,λb u e=>?_,aV h o,λb hb hg=>?_⟩
 ·by_cases z:b=p
  ·subst z;rw [aB] at e ⊢;exact e
  ·rw [aD z] at e ⊢;exact s b u e
 ·have:b≠p:=λz=>hb (by rw [z];exact h)
  rw [aD this];exact hg
end
abbrev DN:=List (Option D)
structure cR (Z:DC) (G:Hp) (σ:St) (ρ:DN):Prop where
 len:ρ.length=σ.length
 at_:∀(i:Nat)(d:D),ρ[i]? =some (some d)→∃v,σ[i]? =some (some v)∧Dv Z G v d
section
variable {Z:DC} {G G' H H':Hp} {σ:St} {ρ:DN}
theorem cR.mono(e:cR Z G σ ρ)(s:aH G G'):cR Z G' σ ρ:=⟨e.len,λi d h=>let ⟨v,a,b⟩:=e.at_ i d h;⟨v,a,b.mono s⟩⟩
theorem cR.set{i:Nat}{v:V}{d:D}(e:cR Z G σ ρ)(h:Dv Z G v d):cR Z G (σ.set i (some v)) (ρ.set i (some d)):=by
 refine ⟨by rw [kL,kL];exact e.len,λj c hj=>?_⟩
 by_cases z:i=j
 ·subst z
  by_cases hi:i<ρ.length
  ·rw [pU hi] at hj
   cases hj;exact ⟨v,by rw [pU (by rw [←e.len];exact hi)],h⟩
  ·rw [B4 (nu hi)] at hj
   rw [i9 (nu hi)] at hj;cases hj
 ·rw [vU z] at hj ⊢
  exact e.at_ j c hj
end
abbrev bh:=DN→(D→Prop)→Prop
abbrev cW:=DN→(Bool→Prop)→Prop
abbrev ib:=DN→(List D→Prop)→Prop
abbrev fJ:=D→D→(D→Prop)→Prop
abbrev dj:=D→DN→(DN→Prop)→Prop
abbrev gE:=DN→(List D→Prop)→Prop
def cY(Z:DC)(t:bh):TE:=λσ H Q=>∃(G:Hp)(ρ:DN)(P:D→Prop),aH G H∧cR Z G σ ρ∧t ρ P∧∀d,P d→∀v G' H',Ext G H G' H'→Dv Z G' v d→Q v H'
def liftT(Z:DC)(t:cW):TT:=λσ H Q=>∃(G:Hp)(ρ:DN)(P:Bool→Prop),aH G H∧cR Z G σ ρ∧t ρ P∧∀b,P b→∀G' H',Ext G H G' H'→Q b H'
def Aj(Z:DC)(t:ib):TA:=λσ H Q=>∃(G:Hp)(ρ:DN)(P:List D→Prop),aH G H∧cR Z G σ ρ∧t ρ P∧∀ds,P ds→∀vs G' H',Ext G H G' H'→au Z G' vs ds→Q vs H'
def bS(Z:DC)(r:fJ):R2:=λx y H Q=>∃(G:Hp)(a b:D)(P:D→Prop),aH G H∧Dv Z G x a∧Dv Z G y b∧r a b P∧∀d,P d→∀v G' H',Ext G H G' H'→Dv Z G' v d→Q v H'
def gP(Z:DC)(r:List D→(D→Prop)→Prop):List V→Hp→VK→Prop:=λvs H Q=>∃(G:Hp)(ds:List D)(P:D→Prop),aH G H∧au Z G vs ds∧r ds P∧∀d,P d→∀v G' H',Ext G H G' H'→Dv Z G' v d→Q v H'
abbrev cV:=List D→(D→Prop)→Prop
def aS(Z:DC)(sd:cV):Sp:=λvs H Q _=>gP Z sd vs H Q
def DE(Z:DC)(X:Cx)(e:Expr)(t:bh):Prop:=PE X e (cY Z t)
def DT(Z:DC)(X:Cx)(e:Expr)(t:cW):Prop:=PT X e (liftT Z t)
def DA(Z:DC)(X:Cx)(es:List Expr)(t:ib):Prop:=PA X es (Aj Z t)
theorem PE.imp{X:Cx}{e:Expr}{t t':TE}(h:PE X e t)(f:∀σ H Q,t' σ H Q→t σ H Q):PE X e t':=λpins s σ H Q I q=>h pins s σ H Q I (f _ _ _ q)
theorem PT.imp{X:Cx}{e:Expr}{t t':TT}(h:PT X e t)(f:∀σ H Q,t' σ H Q→t σ H Q):PT X e t':=λpins s σ H Q I q=>h pins s σ H Q I (f _ _ _ q)
theorem PW.imp{X:Cx}{e:Expr}{t t':TT}(h:PW X e t)(f:∀σ H Q,t' σ H Q→t σ H Q):PW X e t':=λwh pins s σ H Q I q=>h wh pins s σ H Q I (f _ _ _ q)
theorem PA.imp{X:Cx}{es:List Expr}{t t':TA}(h:PA X es t)(f:∀σ H Q,t' σ H Q→t σ H Q):PA X es t':=λpos pins s σ H Q I q=>h pos pins s σ H Q I (f _ _ _ q)
theorem OpR.imp{X:Cx}{f:Value→Value→Sem Value}{r r':R2}(h:OpR X f r)(g:∀x y H Q,r' x y H Q→r x y H Q):OpR X f r':=λpins s σ H x y v u Q I a b q=>h pins s σ H x y v u Q I a b (g _ _ _ _ q)
theorem cC.imp{X:Cx}{f:Value}{r r':List V→Hp→VK→Prop}(h:cC X f r)(g:∀xs H Q,r' xs H Q→r xs H Q):cC X f r':=λpins s σ H xs us Q I a q=>h pins s σ H xs us Q I a (g _ _ _ q)
def JK(i:Nat):bh:=λρ P=>∃d,ρ[i]? =some (some d)∧P d
def dC(d:D):bh:=λ_ P=>P d
section
variable {Z:DC} {X:Cx}
theorem aa(i:Nat){x:Str}{pos:Pos}(hN:X.N[i]? =some x:=by rfl)(hv:sC X.env.scope x:=by first|exact Or.inl rfl|exact Or.inr (Or.inl rfl) |exact Or.inr (Or.inr rfl))(hd:(x==("__debug__":Str))=false:=by decide)
  (gu:(x==("__classdict__":Str))=false:=by decide):DE Z X (.Name x pos) (JK i):=
 (BH hN hv hd gu).imp λσ H Q ⟨G,ρ,P,s,e,⟨d,hd,p⟩,q⟩=>let ⟨v,hv,dv⟩:=e.at_ i d hd;⟨v,hv,q d p v G H (.refl s) dv⟩
theorem av{i j pos}:DE Z X (.Constant (.int i) j pos) (dC (.int i)):=IA.imp λσ H Q ⟨G,ρ,P,s,e,p,q⟩=>q _ p _ G H (.refl s) (.int i)
theorem lq{b j pos}:DE Z X (.Constant (.bool b) j pos) (dC (.bl b)):=Me.imp λσ H Q ⟨G,ρ,P,s,e,p,q⟩=>q _ p _ G H (.refl s) (.bl b)
theorem fu{j pos}:DE Z X (.Constant .none j pos) (dC .bf):=IC.imp λσ H Q ⟨G,ρ,P,s,e,p,q⟩=>q _ p _ G H (.refl s) .bf
theorem oM{x j pos}(h:PyData.strOk x=true:=by decide+kernel):DE Z X (.Constant (.str x) j pos) (dC (.str x)):=IF.imp λσ H Q ⟨G,ρ,P,s,e,p,q⟩=>q _ p _ G H (.refl s) (.str x h)
theorem Ci{x:Str}{i:Int}{pos:Pos}(hg:Gl X x)(hm:∃tk,X.mg x=some (.int i tk))(hd:(x==("__debug__":Str))=false:=by decide):DE Z X (.Name x pos) (dC (.int i)):=by
 obtain ⟨tk,hm⟩:=hm;exact (FP hg hm (v:= .int i) ⟨tk,rfl⟩ hd).imp λσ H Q ⟨G,ρ,P,s,e,p,q⟩=>q _ p _ G H (.refl s) (.int i)
def Ce(r:fJ)(ta tb:bh):bh:=λρ P=>ta ρ λa=>tb ρ λb=>r a b P
variable {a b c:Expr} {ta tb tc:bh} {pos:Pos}
theorem wX{r:fJ}:∀σ H Q,cY Z (Ce r ta tb) σ H Q→GI (bS Z r) (cY Z ta) (cY Z tb) σ H Q:=by
 rintro σ H Q ⟨G,ρ,P,s,e,h,q⟩;refine ⟨G,ρ,_,s,e,h,λa ha v G1 H1 x1 dv=>?_⟩;refine ⟨G1,ρ,_,x1.sub,e.mono x1.gg,ha,λb hb u G2 H2 x2 du=>?_⟩;exact ⟨G2,a,b,P,x2.sub,dv.mono x2.gg,du,hb,λd hd v' G' H' x3 wF=>q d hd v' G' H' ((x1.trans x2).trans x3) wF⟩
theorem az{op:Operator}{r:fJ}(ho:OpR X (binaryOp op) (bS Z r))(ha:DE Z X a ta)(hb:DE Z X b tb):DE Z X (.BinOp a op b pos) (Ce r ta tb):=(FT ho ha hb).imp wX
theorem Bh{op:CmpOp}{r:fJ}(ho:OpR X (compareOp op) (bS Z r))(ha:DE Z X a ta)(hb:DE Z X b tb)(hm:behindInMarks op b=false):DE Z X (.Compare a [op] [b] pos) (Ce r ta tb):=(FO ho ha hb hm).imp wX
def wA(t:bh):cW:=λρ P=>t ρ λd=>∃k,d= .bl k∧P k
theorem vy{t:bh}:∀σ H Q,liftT Z (wA t) σ H Q→AY (cY Z t) σ H Q:=by
 rintro σ H Q ⟨G,ρ,P,s,e,h,q⟩;refine ⟨G,ρ,_,s,e,h,?_⟩;rintro _ ⟨k,rfl,p⟩ v G1 H1 x1 dv;cases dv;exact ⟨k,rfl,q k p G1 H1 x1⟩
theorem aU{op:CmpOp}{r:fJ}(ho:OpR X (compareOp op) (bS Z r))(ha:DE Z X a ta)(hb:DE Z X b tb)(hm:behindInMarks op b=false):DT Z X (.Compare a [op] [b] pos) (wA (Ce r ta tb)):=
 (F5 ho ha hb hm).imp λσ H Q h=>by
  obtain h:=vy σ H Q h;exact wX σ H _ h
def wz(r r':fJ)(ta tb tc:bh):bh:=λρ P=>ta ρ λx=>tb ρ λy=>r x y λz=>∃k,z= .bl k∧(if k=true then tc ρ λw'=>r' y w' P else P (.bl false))
theorem tL{r r':fJ}:∀σ H Q,cY Z (wz r r' ta tb tc) σ H Q→xl (bS Z r) (bS Z r') (cY Z ta) (cY Z tb) (cY Z tc) σ H Q:=by
 rintro σ H Q ⟨G,ρ,P,s,e,h,q⟩;refine ⟨G,ρ,_,s,e,h,λa ha v G1 H1 x1 dv=>?_⟩;refine ⟨G1,ρ,_,x1.sub,e.mono x1.gg,ha,λb hb u G2 H2 x2 du=>?_⟩;refine ⟨G2,a,b,_,x2.sub,dv.mono x2.gg,du,hb,?_⟩;rintro _ ⟨k,rfl,hk⟩ v' G3 H3 x3 wF;cases wF;refine ⟨k,rfl,?_⟩;have x:=(x1.trans x2).trans x3;cases k with
 |false=>exact cO (q _ hk _ G3 H3 x (.bl false))
 |true=>
  refine ed ⟨G3,ρ,_,x3.sub,e.mono x.gg,hk,λc hc w' G4 H4 x4 dw=>?_⟩;exact ⟨G4,b,c,P,x4.sub,(du.mono x3.gg).mono x4.gg,dw,hc,λd hd Yd G' H' x5 d5=>q d hd Yd G' H' ((x.trans x4).trans x5) d5⟩
theorem Cg{op n9:CmpOp}{r r':fJ}(ho:OpR X (compareOp op) (bS Z r))(ik:OpR X (compareOp n9) (bS Z r'))(ha:DE Z X a ta)(hb:DE Z X b tb)(hc:DE Z X c tc)
  (hm:lastMarks [op,n9] [b,c]=false:=by with_unfolding_all rfl):DE Z X (.Compare a [op,n9] [b,c] pos) (wz r r' ta tb tc):=(CZ ho ik ha hb hc hm).imp tL
theorem Cn{op n9:CmpOp}{r r':fJ}(ho:OpR X (compareOp op) (bS Z r))(ik:OpR X (compareOp n9) (bS Z r'))(ha:DE Z X a ta)(hb:DE Z X b tb)(hc:DE Z X c tc)
  (hm:lastMarks [op,n9] [b,c]=false:=by with_unfolding_all rfl):DT Z X (.Compare a [op,n9] [b,c] pos) (wA (wz r r' ta tb tc)):=
 (C4 ho ik ha hb hc hm).imp λσ H Q h=>by
  obtain h:=vy σ H Q h;exact tL σ H _ h
def vP:D→Bool
 | .bf=>false
 | .bl b=>b
 | .int i=>i !=0
 | .str x=>x.length !=0
 | .lst l=>!l.isEmpty
 | .tup l=>!l.isEmpty
 | .jR l=>!l.isEmpty
 | .rng lo hi=>decide (lo<hi)
 | .obj _=>true
 | .eT _=>true
 | .set _ l=>!l.isEmpty
 | .x _=>true
def PB:D→Bool
 | .bl _=>true
 | .int _=>true
 | .lst _=>true
 | .tup _=>true
 | .bf=>true
 |_=>false
def Od(t:bh):cW:=λρ P=>t ρ λd=>PB d=true∧P (vP d)
theorem qP{G:Hp}{vs:List V}{ds:List D}(h:au Z G vs ds):vs.isEmpty=ds.isEmpty:=by cases h<;>rfl
theorem j0(ha:DE Z X a ta)(he:∀whole,isTrue a X.env whole=(do let v ←whole;standAt a.pos;holding [v] (truthy v)):=by intro _;rfl):DT Z X a (Od ta):=by
 refine (C5 ha he).imp ?_;rintro σ H Q ⟨G,ρ,P,s,e,h,q⟩;refine ⟨G,ρ,_,s,e,h,?_⟩;rintro d ⟨hd,p⟩ v G1 H1 x1 dv;refine ⟨vP d,?_,q _ p G1 H1 x1⟩;cases dv with
 |bf=>rfl
 |bl b=>rfl
 |int i=>rfl
 |lst h a=>exact .inl ⟨_,cD.of (x1.sub _ _ h),by rw [qP a];rfl⟩
 |tup h a=>exact .inr (.inl ⟨_,fL.of (x1.sub _ _ h),by rw [qP a];rfl⟩)
 |_=>cases hd
def NU(t u:cW):cW:=λρ P=>t ρ λc=>if c=true then u ρ P else P false
def TK(t u:cW):cW:=λρ P=>t ρ λc=>if c=true then P true else u ρ P
def N8(t:cW):cW:=λρ P=>t ρ λc=>P (!c)
variable {tA xk:cW} {rest:List Expr}
def DW(Z:DC)(X:Cx)(e:Expr)(t:cW):Prop:=PW X e (liftT Z t)
theorem DW.dt{e:Expr}{t:cW}(h:DW Z X e t):DT Z X e t:=PW.pt h
theorem oS(ha:DT Z X a tA):DW Z X (.BoolOp .And [a] pos) tA:=F9 ha
theorem mx(ha:DT Z X a tA):DW Z X (.BoolOp .Or [a] pos) tA:=IK ha
theorem rY(ha:DT Z X a tA)(hb:DW Z X (.BoolOp .And (b::rest) pos) xk):DW Z X (.BoolOp .And (a::b::rest) pos) (NU tA xk):=by
 refine (IJ ha hb).imp ?_;rintro σ H Q ⟨G,ρ,P,s,e,h,q⟩;refine ⟨G,ρ,_,s,e,h,λc hc G1 H1 x1=>?_⟩;cases c with
 |true=>exact ed ⟨G1,ρ,P,x1.sub,e.mono x1.gg,hc,λb hb G2 H2 x2=>q b hb G2 H2 (x1.trans x2)⟩
 |false=>exact cO (q _ hc G1 H1 x1)
theorem nN(ha:DT Z X a tA)(hb:DW Z X (.BoolOp .Or (b::rest) pos) xk):DW Z X (.BoolOp .Or (a::b::rest) pos) (TK tA xk):=by
 refine (Mi ha hb).imp ?_;rintro σ H Q ⟨G,ρ,P,s,e,h,q⟩;refine ⟨G,ρ,_,s,e,h,λc hc G1 H1 x1=>?_⟩;cases c with
 |false=>exact cO ⟨G1,ρ,P,x1.sub,e.mono x1.gg,hc,λb hb G2 H2 x2=>q b hb G2 H2 (x1.trans x2)⟩
 |true=>exact ed (q _ hc G1 H1 x1)
theorem mw(ha:DT Z X a tA):DT Z X (.UnaryOp .Not a pos) (N8 tA):=by
 refine (II ha).imp ?_;rintro σ H Q ⟨G,ρ,P,s,e,h,q⟩;exact ⟨G,ρ,_,s,e,h,λc hc G1 H1 x1=>q _ hc G1 H1 x1⟩
def KO(ta tb:bh):bh:=λρ P=>ta ρ λx=>∃c,x= .bl c∧if c=true then tb ρ P else P (.bl false)
def KW(ta:bh):bh:=λρ P=>ta ρ λx=>∃c,x= .bl c∧P (.bl (!c))
theorem Hq{op}(h:DE Z X a ta):DE Z X (.BoolOp op [a] pos) ta:=IE h
theorem Bg(ha:DE Z X a ta)(hb:DE Z X (.BoolOp .And (b::rest) pos) tb):DE Z X (.BoolOp .And (a::b::rest) pos) (KO ta tb):=by
 refine (Iv ha hb).imp ?_;rintro σ H Q ⟨G,ρ,P,s,e,h,q⟩;refine ⟨G,ρ,_,s,e,h,?_⟩;rintro _ ⟨c,rfl,hc⟩ v G1 H1 x1 dv;cases dv;refine ⟨c,rfl,?_⟩;cases c with
 |true=>exact ed ⟨G1,ρ,P,x1.sub,e.mono x1.gg,hc,λb hb v G2 H2 x2 d2=>q b hb v G2 H2 (x1.trans x2) d2⟩
 |false=>exact cO (q _ hc _ G1 H1 x1 (.bl false))
theorem Ho(ha:DE Z X a ta):DE Z X (.UnaryOp .Not a pos) (KW ta):=by
 refine (ID ha).imp ?_;rintro σ H Q ⟨G,ρ,P,s,e,h,q⟩;refine ⟨G,ρ,_,s,e,h,?_⟩;rintro _ ⟨c,rfl,hc⟩ v G1 H1 x1 dv;cases dv;exact ⟨c,rfl,q _ hc _ G1 H1 x1 (.bl _)⟩
def u6:ib:=λ_ P=>P []
def KP(ta:bh)(t:ib):ib:=λρ P=>ta ρ λx=>t ρ λxs=>P (x::xs)
variable {es:List Expr} {t:ib} {e:Expr}
theorem ag:DA Z X [] u6:=ke.imp λσ H Q ⟨G,ρ,P,s,e,p,q⟩=>q _ p _ G H (.refl s) .nil
theorem ab(ha:DE Z X e ta)(hr:DA Z X es t)(hs:starEach (e::es) X.env=(false,eval e X.env)::starEach es X.env:=by rfl):DA Z X (e::es) (KP ta t):=by
 refine (fS ha hr hs).imp ?_;rintro σ H Q ⟨G,ρ,P,s,e,h,q⟩;refine ⟨G,ρ,_,s,e,h,λa ha v G1 H1 x1 dv=>?_⟩;exact ⟨G1,ρ,_,x1.sub,e.mono x1.gg,ha,λds hd vs G2 H2 x2 bz=>q _ hd _ G2 H2 (x1.trans x2) (.cons (dv.mono x2.gg) bz)⟩
def Oe(t:ib):bh:=λρ P=>t ρ λxs=>xs.length≤sizeLine∧P (.tup xs)
def N5(t:ib):bh:=λρ P=>t ρ λxs=>xs.length≤sizeLine∧P (.lst xs)
theorem fv{x1}(h:DA Z X es t):DE Z X (.Tuple es x1 pos) (Oe t):=by
 refine (IG h).imp ?_;rintro σ H Q ⟨G,ρ,P,s,e,h,q⟩;refine ⟨G,ρ,_,s,e,h,?_⟩;rintro ds ⟨hl,hp⟩ vs G1 H1 x1 bz;exact ⟨by rw [bz.length];exact hl,λp kQ=>q _ hp _ _ _ (x1.trans (.new x1.sub kQ)) (.tup aB (bz.mono (aV (x1.sub.free kQ) _)))⟩
theorem dZ(h:DA Z X es t):DE Z X (.List es pos) (N5 t):=by
 refine (BG h).imp ?_;rintro σ H Q ⟨G,ρ,P,s,e,h,q⟩;refine ⟨G,ρ,_,s,e,h,?_⟩;rintro ds ⟨hl,hp⟩ vs G1 H1 x1 bz;exact ⟨by rw [bz.length];exact hl,λp kQ=>q _ hp _ _ _ (x1.trans (.new x1.sub kQ)) (.lst aB (bz.mono (aV (x1.sub.free kQ) _)))⟩
def sX(r:List D→(D→Prop)→Prop)(t:ib):bh:=λρ P=>t ρ λds=>r ds P
theorem qt{r:List D→(D→Prop)→Prop}:∀σ H Q,cY Z (sX r t) σ H Q→Aj Z t σ H λvs H1=>gP Z r vs H1 Q:=by
 rintro σ H Q ⟨G,ρ,P,s,e,h,q⟩;exact ⟨G,ρ,_,s,e,h,λds hd vs G1 H1 x1 bz=>⟨G1,ds,P,x1.sub,bz,hd,λd hp v G2 H2 x2 dv=>q d hp v G2 H2 (x1.trans x2) dv⟩⟩
theorem Eo{sd:cV}{k:Nat}{f:Addr}{fd:FuncData}{ps:List Str}{x:Str}{p:Pos}(F:FnOk X.prog X.w X.K X.mg X.base cP k f fd ps (aS Z sd))(hr:cS k X.A)(hg:Gl X x)(hm:X.mg x=some (.ref f))(hk:PySem.W.keepIn X.K (.ref f)=true)(hb:Binds X.K fd ps [])
  (ha:DA Z X (e::es) t) (lE:(x==("__debug__":Str))=false:=by decide) (he:starEach (e::es) X.env=(false,eval e X.env)::starEach es X.env:=by rfl) (g5:(backTo pos (starEach es X.env)).any (·.1)=false:=by rfl):
  DE Z X (.Call (.Name x p) (e::es) [] pos) (sX sd t):=
 (FN F hr hg hm hk hb .nil AB ha lE he g5).imp λσ H Q h=>by
  have h:=qt σ H Q h;obtain ⟨G,ρ,P,s,e,h,q⟩:=h;exact ⟨G,ρ,P,s,e,h,λds hd vs G1 H1 x1 bz=>by show aS Z sd (vs++ []) H1 Q E0;rw [nz];exact q ds hd vs G1 H1 x1 bz⟩
theorem ax{id:String}{x:Str}{p:Pos}{r:List D→(D→Prop)→Prop}(hc:cC X (.builtin id) (gP Z r))(hg:Gl X x)(hm:X.mg x=none)(hv:bootBuiltins x=some (.builtin id))(ha:DA Z X (e::es) t)(hn:x≠"__name__":=by decide)(lE:(x==("__debug__":Str))=false:=by decide)
  (he:starEach (e::es) X.env=(false,eval e X.env)::starEach es X.env:=by rfl) (g5:(backTo pos (starEach es X.env)).any (·.1)=false:=by rfl):
  DE Z X (.Call (.Name x p) (e::es) [] pos) (sX r t):=(vG hc hg hm hv ha hn lE he g5).imp qt
theorem nI{T:String}{x:Str}{p:Pos}{r:List D→(D→Prop)→Prop}(hc:cC X (.type T) (gP Z r))(hg:Gl X x)(hm:X.mg x=none)(hv:bootBuiltins x=some (.type T))(ha:DA Z X (e::es) t)(hn:x≠"__name__":=by decide)(lE:(x==("__debug__":Str))=false:=by decide)
  (he:starEach (e::es) X.env=(false,eval e X.env)::starEach es X.env:=by rfl) (g5:(backTo pos (starEach es X.env)).any (·.1)=false:=by rfl):
  DE Z X (.Call (.Name x p) (e::es) [] pos) (sX r t):=(AD hc hg hm hv ha hn lE he g5).imp qt
end
end L2
namespace L2
open PySem PySem.Spec PyProof.Rows
section
variable {Z:DC} {X:Cx}
def JE:fJ:=λx y P=>match x,y with
 | .int i, .int j=>P (.int (i+j))
 | .lst a, .lst b=>a.length+b.length≤sizeLine∧P (.lst (a++b))
 | .tup a, .tup b=>a≠ []∧a.length+b.length≤sizeLine∧b≠ []∧P (.tup (a++b))
 |_,_=>False
def dI(c:Int→Int→Prop)(g:Int→Int→Int):fJ:=λx y P=>match x,y with
 | .int i, .int j=>c i j∧P (.int (g i j))
 |_,_=>False
def KQ(g:Int→Int→Int):fJ:=λx y P=>match x,y with
 | .int i, .int j=>P (.int (g i j))
 |_,_=>False
def Oc:fJ:=KQ λi j=>i-j
def JJ:fJ:=λx y P=>match x,y with
 | .int i, .int j=>A9 i j∧P (.int (i*j))
 | .lst a, .int k=> -(2^63)≤k∧k<2^63∧a.length*k.toNat≤sizeLine∧P (.lst (List.replicate k.toNat a).flatten)
 |_,_=>False
def NX:fJ:=dI Ji λi j=>i / j
def N6:fJ:=dI (λ_ j=>0<j) λi j=>i%j
def Oa:fJ:=dI Jj λi j=>i^j.toNat
theorem wY{f:Value→Value→Sem Value}{c:Int→Int→Prop}{g:Int→Int→Int}(h:OpR X f (rI c λi j=> .int (g i j))):OpR X f (bS Z (dI c g)):=by
 refine h.imp ?_;rintro x y H Q ⟨G,a,b,P,s,da,db,hr,q⟩;unfold dI at hr
 split at hr
 ·exact ⟨_,_,da.ofInt,db.ofInt,hr.1,q _ hr.2 _ G H (.refl s) (.int _)⟩
 ·exact hr.elim
theorem HV{f:Value→Value→Sem Value}{g:Int→Int→Int}(h:OpR X f (uV λi j=> .int (g i j))):OpR X f (bS Z (KQ g)):=by
 refine h.imp ?_;rintro x y H Q ⟨G,a,b,P,s,da,db,hr,q⟩;unfold KQ at hr
 split at hr
 ·exact ⟨_,_,da.ofInt,db.ofInt,q _ hr _ G H (.refl s) (.int _)⟩
 ·exact hr.elim
theorem j9:OpR X (binaryOp .Sub) (bS Z Oc):=HV Iu
theorem e8:OpR X (binaryOp .FloorDiv) (bS Z NX):=wY FJ
theorem b7:OpR X (binaryOp .Mod) (bS Z N6):=wY Im
theorem BA:OpR X (binaryOp .Pow) (bS Z Oa):=wY Iq
theorem bC(e:X.K=Z.K:=by rfl):OpR X (binaryOp .Add) (bS Z JE):=by
 refine (Ij.or (BF.or (FI))).imp ?_;rintro x y H Q ⟨G,a,b,P,s,da,db,hr,q⟩;unfold JE at hr
 split at hr
 ·exact .inl ⟨_,_,da.ofInt,db.ofInt,q _ hr _ G H (.refl s) (.int _)⟩
 ·obtain ⟨a1,MN,rfl,h1,e1⟩:=da.kc
  obtain ⟨a2,Sb,rfl,h2,e2⟩:=db.kc;obtain ⟨hz,hp⟩:=hr;refine .inr (.inl ⟨_,_,_,_,rfl,rfl,s _ _ h1,s _ _ h2,by rw [e1.length,e2.length];exact hz,λp hn=>?_⟩)
  exact q _ hp _ _ _ (.new s hn) (.lst aB ((e1.append e2).mono (aV (s.free hn) _)))
 ·obtain ⟨a1,MN,rfl,h1,e1⟩:=da.tV
  obtain ⟨a2,Sb,rfl,h2,e2⟩:=db.tV;obtain ⟨h0,hz,Um,hp⟩:=hr;refine .inr (.inr ⟨_,_,_,_,rfl,rfl,fL.of (s _ _ h1),fL.of (s _ _ h2),?_,by rw [e1.length,e2.length];exact hz,?_⟩)
  ·rintro rfl;cases e1;exact h0 rfl
  ·refine ⟨?_,λ_ p hn=>q _ hp _ _ _ (.new s hn) (.tup aB ((e1.append e2).mono (aV (s.free hn) _)))⟩
   rintro rfl;cases e2;exact (Um rfl).elim
 ·exact hr.elim
theorem au.rep{G:Hp}{vs:List V}{ds:List D}(h:au Z G vs ds):∀k:Nat,au Z G (List.replicate k vs).flatten (List.replicate k ds).flatten
 |0=> .nil
 |k+1=>by rw [uB,uB,vZ,vZ];exact h.append (au.rep h k)
theorem r8:OpR X (binaryOp .Mult) (bS Z JJ):=by
 refine (Io.or Ir).imp ?_;rintro x y H Q ⟨G,a,b,P,s,da,db,hr,q⟩;unfold JJ at hr
 split at hr
 ·exact .inl ⟨_,_,da.ofInt,db.ofInt,hr.1,q _ hr.2 _ G H (.refl s) (.int _)⟩
 ·obtain ⟨a1,MN,rfl,h1,e1⟩:=da.kc
  obtain ⟨h0,h9,hz,hp⟩:=hr;refine .inr ⟨_,_,_,rfl,db.ofInt,s _ _ h1,h0,h9,by rw [e1.length];exact hz,λp hn=>?_⟩
  exact q _ hp _ _ _ (.new s hn) (.lst aB ((e1.rep _).mono (aV (s.free hn) _)))
 ·exact hr.elim
mutual
def D.py:D→Option PyData
 | .bf=>some .none
 | .bl b=>some (.bool b)
 | .int i=>some (.int i)
 | .str x=>some (.str x)
 | .lst l=>(fw l).map PyData.list
 | .tup l=>(fw l).map PyData.tuple
 | .jR _=>none
 | .rng _ _=>none
 | .obj _=>none
 | .eT _=>none
 | .set _ _=>none
 | .x _=>none
def fw:List D→Option (List PyData)
 | []=>some []
 |d::ds=>(D.py d).bind λa=>(fw ds).map λas=>a::as
end
mutual
theorem Dv.dp{K:PySem.W.Frag}{G:Hp}:∀{v:V}{d:D}{e:PyData},Dv Z G v d→d.py=some e→Dp K G v e
 |_,_,_, .bf,h=>by simp [D.py] at h;subst h;exact .bf
 |_,_,_, .bl b,h=>by simp [D.py] at h;subst h;exact .bl b
 |_,_,_, .int i,h=>by simp [D.py] at h;subst h;exact .int i
 |_,_,_, .str x k,h=>by simp [D.py] at h;subst h;exact .str x k
 |_,_,_, .lst a as,h=>by
  simp [D.py] at h;obtain ⟨l,h1,rfl⟩:=h;exact .lst (cD.of a) (au.dp as h1)
 |_,_,_, .tup a as,h=>by
  simp [D.py] at h;obtain ⟨l,h1,rfl⟩:=h;exact .tup (fL.of a) (au.dp as h1)
 |_,_,_, .jR _ _,h=>by simp [D.py] at h
 |_,_,_, .rng _,h=>by simp [D.py] at h
 |_,_,_, .obj _,h=>by simp [D.py] at h
 |_,_,_, .eT _ _ _ _ _,h=>by simp [D.py] at h
 |_,_,_, .set _,h=>by simp [D.py] at h
 |_,_,_, .x _ _,h=>by simp [D.py] at h
theorem au.dp{K:PySem.W.Frag}{G:Hp}:∀{vs:List V}{ds:List D}{es:List PyData},au Z G vs ds→fw ds=some es→eG K G vs es
 |_,_,_, .nil,h=>by simp [fw] at h;subst h;exact .nil
 |_,_,_, .cons (d:=d) (ds:=ds) a as,h=>by
  rw [fw] at h;cases h1:d.py with
  |none=>rw [h1] at h;cases h
  |some x=>
   rw [h1] at h;cases h2:fw ds with
   |none=>rw [h2] at h;cases h
   |some y=>rw [h2] at h;cases h;exact .cons (Dv.dp a h1) (au.dp as h2)
end
theorem fL.mono{K:PySem.W.Frag}{H H':Hp}{a:Addr}{xs:List V}(s:aH H H')(h:fL K H a xs):fL K H' a xs:=by
 rcases h with (h| ⟨o,h⟩) |h
 ·exact .inl (.inl (s _ _ h))
 ·exact .inl (.inr ⟨o,s _ _ h⟩)
 ·exact .inr h
mutual
theorem Dp.mono{K:PySem.W.Frag}{G H:Hp}(s:aH G H):∀{v:V}{d:PyData},Dp K G v d→Dp K H v d
 |_,_, .bf=> .bf
 |_,_, .bl b=> .bl b
 |_,_, .int i=> .int i
 |_,_, .str x h=> .str x h
 |_,_, .lst h a=> .lst (h.mono s) (eG.mono s a)
 |_,_, .tup h a=> .tup (h.mono s) (eG.mono s a)
theorem eG.mono{K:PySem.W.Frag}{G H:Hp}(s:aH G H):∀{vs:List V}{ds:List PyData},eG K G vs ds→eG K H vs ds
 |_,_, .nil=> .nil
 |_,_, .cons a as=> .cons (Dp.mono s a) (eG.mono s as)
end
def JF(neg:Bool):fJ:=λx y P=>∃a b,x.py=some a∧y.py=some b∧a.depth≤64∧P (.bl (if neg then !PyData.eqv a b else PyData.eqv a b))
abbrev Hh:fJ:=JF false
abbrev Hk:fJ:=JF true
theorem n5(hu:X.A.units+64<cLine):OpR X (compareOp .Eq) (bS Z Hh):=by
 refine (Ik hu).imp ?_;rintro x y H Q ⟨G,a,b,P,s,da,db,⟨c,d,h1,h2,h3,hp⟩,q⟩;exact ⟨c,d,(da.dp h1).mono s,(db.dp h2).mono s,h3,q _ hp _ G H (.refl s) (.bl _)⟩
theorem qw(hu:X.A.units+64<cLine):OpR X (compareOp .NotEq) (bS Z Hk):=by
 refine (Ip hu).imp ?_;rintro x y H Q ⟨G,a,b,P,s,da,db,⟨c,d,h1,h2,h3,hp⟩,q⟩;exact ⟨c,d,(da.dp h1).mono s,(db.dp h2).mono s,h3,q _ hp _ G H (.refl s) (.bl _)⟩
theorem sZ{i j:Int}{P:D→Prop}(h:P (.bl (decide (i=j)))):Hh (.int i) (.int j) P:=⟨.int i, .int j,rfl,rfl,by simp [PyData.depth],by
 have:PyData.eqv (.int i) (.int j)=decide (i=j):=by
  rw [PyData.eqv]
  by_cases z:i=j<;>simp [z]
 simpa [this] using h⟩
def u5(p:Int→Int→Bool):fJ:=λx y P=>match x,y with
 | .int i, .int j=>P (.bl (p i j))
 |_,_=>False
theorem pk{f:Value→Value→Sem Value}{p:Int→Int→Bool}(h:OpR X f (uV λi j=> .bl (p i j))):OpR X f (bS Z (u5 p)):=by
 refine h.imp ?_;rintro x y H Q ⟨G,a,b,P,s,da,db,hr,q⟩;unfold u5 at hr
 split at hr
 ·exact ⟨_,_,da.ofInt,db.ofInt,q _ hr _ G H (.refl s) (.bl _)⟩
 ·exact hr.elim
end
end L2
namespace L2
open PySem PySem.Spec PyProof.Rows
section
variable {Z:DC} {X:Cx}
abbrev TJ:fJ:=u5 λi j=>decide (i<j)
abbrev TH:fJ:=u5 λi j=>decide (i≤j)
abbrev TF:fJ:=u5 λi j=>decide (j<i)
abbrev TC:fJ:=u5 λi j=>decide (j≤i)
theorem tU:OpR X (compareOp .Lt) (bS Z TJ):=pk Ma
theorem Au:OpR X (compareOp .LtE) (bS Z TH):=pk L9
theorem As:OpR X (compareOp .Gt) (bS Z TF):=pk L8
theorem FE:OpR X (compareOp .GtE) (bS Z TC):=pk L7
def Ab:D→Bool
 | .bf=>true
 |_=>false
def Ef(neg:Bool):fJ:=λx y P=>match y with
 | .bf=>P (.bl (if neg then !Ab x else Ab x))
 |_=>False
theorem vq{G:Hp}{v:V}{d:D}(h:Dv Z G v d):decide (v= .bf)=Ab d:=by cases h<;>rfl
theorem tT:OpR X (compareOp .Is) (bS Z (Ef false)):=by
 refine Il.imp ?_;rintro x y H Q ⟨G,a,b,P,s,da,db,hr,q⟩;cases db<;>first|exact hr.elim|skip
 exact ⟨rfl,by rw [vq da];exact q _ hr _ G H (.refl s) (.bl _)⟩
theorem CV:OpR X (compareOp .IsNot) (bS Z (Ef true)):=by
 refine FK.imp ?_;rintro x y H Q ⟨G,a,b,P,s,da,db,hr,q⟩;cases db<;>first|exact hr.elim|skip
 exact ⟨rfl,by rw [vq da];exact q _ hr _ G H (.refl s) (.bl _)⟩
def fi:D→Bool
 | .bf=>true
 | .bl _=>true
 | .int _=>true
 | .str _=>true
 |_=>false
def iR:D→D→Bool
 | .bf, .bf=>true
 | .bl a, .bl b=>a==b
 | .bl a, .int b=>(if a then 1 else 0)==b
 | .int a, .bl b=>a==(if b then 1 else 0)
 | .int a, .int b=>a==b
 | .str a, .str b=>a==b
 |_,_=>false
def inD(x:D)(l:List D):Bool:=l.any λy=>iR y x
theorem oV{G:Hp}{v:V}{d:D}(h:Dv Z G v d):gr v=fi d:=by cases h<;>rfl
theorem iT{G:Hp}:∀{vs:List V}{ds:List D},au Z G vs ds→vs.all gr=ds.all fi
 |_,_, .nil=>rfl
 |_,_, .cons a as=>by rw [List.all_cons,List.all_cons,oV a,iT as]
theorem wH{G:Hp}{v u:V}{d e:D}(h:Dv Z G v d)(k:Dv Z G u e):tq v u=iR d e:=by cases h<;>cases k<;>rfl
theorem z8{G:Hp}{v:V}{d:D}(h:Dv Z G v d):∀{vs:List V}{ds:List D},au Z G vs ds→HI v vs=inD d ds
 |_,_, .nil=>rfl
 |_,_, .cons a as=>by
  unfold HI inD;rw [List.any_cons,List.any_cons,wH a h];exact congrArg _ (z8 h as)
def Hi(neg:Bool):fJ:=λx y P=>match y with
 | .lst l=>fi x=true∧l.all fi=true∧P (.bl (if neg then !inD x l else inD x l))
 | .tup l=>fi x=true∧l.all fi=true∧P (.bl (if neg then !inD x l else inD x l))
 |_=>False
theorem Ge{neg:Bool}:∀x y H Q,bS Z (Hi neg) x y H Q→Mq X.K neg x y H Q:=by
 rintro x y H Q ⟨G,a,b,P,s,da,db,hr,q⟩;cases db<;>first|exact hr.elim|skip
 ·rename_i p xs ds h e
  obtain ⟨h1,h2,hp⟩:=hr;refine ⟨p,xs,rfl, .inl (cD.of (s _ _ h)),by rw [oV da];exact h1,by rw [iT e];exact h2,?_⟩
  rw [z8 da e];exact q _ hp _ G H (.refl s) (.bl _)
 ·rename_i p xs ds h e
  obtain ⟨h1,h2,hp⟩:=hr;refine ⟨p,xs,rfl, .inr (fL.of (s _ _ h)),by rw [oV da];exact h1,by rw [iT e];exact h2,?_⟩
  rw [z8 da e];exact q _ hp _ G H (.refl s) (.bl _)
theorem n6:OpR X (compareOp .In) (bS Z (Hi false)):=Ax.imp Ge
theorem vD:OpR X (compareOp .NotIn) (bS Z (Hi true)):=uU.imp Ge
def N4:fJ:=λx y P=>match x,y with
 | .lst l, .int i=>∃d,fM l i=some d∧P d
 | .tup l, .int i=>∃d,fM l i=some d∧P d
 | .jR l, .int i=>∃n,fM l i=some n∧P (.int n)
 |_,_=>False
theorem Bb{G:Hp}{vs:List V}{ds:List D}{i:Int}{d:D}(h:au Z G vs ds)(e:fM ds i=some d):∃v,fM vs i=some v∧Dv Z G v d:=by
 unfold fM at e ⊢;rw [h.length];cases z:nV ds.length i with
 |none=>rw [z] at e;cases e
 |some j=>rw [z] at e;exact h.get e
theorem DY{α β:Type}(f:α→β)(l:List α)(i:Int):fM (l.map f) i=(fM l i).map f:=by
 unfold fM;rw [List.length_map];cases nV l.length i with
 |none=>rfl
 |some j=>show (l.map f)[j]? =_;rw [eC];rfl
variable {a b c e:Expr} {ta tb tc te:bh} {pos:Pos}
theorem bD(ha:DE Z X a ta)(hb:DE Z X b tb)(eK:X.K=Z.K:=by rfl)(hs:xE b:=by exact λ_ _=>rfl):DE Z X (.Subscript a b pos) (Ce N4 ta tb):=by
 refine (Mf (Fg.or HJ) ha hb hs).imp λσ H Q h=>?_;obtain ⟨G,ρ,P,s,e,h,q⟩:=wX σ H Q h;refine ⟨G,ρ,P,s,e,h,λd hd v G1 H1 x1 dv=>?_⟩;obtain ⟨G',aC,P',s',e',h',q'⟩:=q d hd v G1 H1 x1 dv;refine ⟨G',aC,P',s',e',h',λd2 hd2 v2 G2 H2 x2 zF=>?_⟩;obtain ⟨G,a,b,P,s,da,db,hr,q⟩:=q' d2 hd2 v2 G2 H2 x2 zF;unfold N4 at hr
 split at hr
 ·obtain ⟨d,h1,hp⟩:=hr
  obtain ⟨_,_,rfl,h,e⟩:=da.kc;obtain ⟨v,hv,dv⟩:=Bb e h1;exact .inl ⟨_,_,_,v,rfl,db.ofInt,cD.of (s _ _ h),hv,q _ hp _ G _ (.refl s) dv⟩
 ·obtain ⟨d,h1,hp⟩:=hr
  obtain ⟨_,_,rfl,h,e⟩:=da.tV;obtain ⟨v,hv,dv⟩:=Bb e h1;exact .inr ⟨_,_,_,v,rfl,db.ofInt,fL.of (s _ _ h),hv,q _ hp _ G _ (.refl s) dv⟩
 rotate_left
 ·exact hr.elim
 ·obtain ⟨d,h1,hp⟩:=hr
  obtain ⟨_,rfl,h,_⟩:=da.FF;refine .inl ⟨_,_,_, .int d,rfl,db.ofInt,by rw [eK];exact h.mono s,by rw [DY,h1];rfl,q _ hp _ G _ (.refl s) (.int d)⟩
def cutD{α:Type}(xs:List α)(lo hi:Option Int):List α:=(xs.drop (HT.bL xs.length 0 lo)).take (HT.bL xs.length xs.length hi-HT.bL xs.length 0 lo)
theorem wy{G:Hp}{vs:List V}{ds:List D}(h:au Z G vs ds)(lo hi:Option Int):au Z G (qL vs lo hi) (cutD ds lo hi):=by
 unfold qL cutD;rw [h.length];exact (h.drop _).take _
theorem u3{α β:Type}(f:α→β)(l:List α)(lo hi:Option Int):cutD (l.map f) lo hi=(cutD l lo hi).map f:=by
 unfold cutD;rw [List.length_map,jd,jU]
abbrev xA:=DN→(Option Int→Prop)→Prop
def Ek:xA:=λ_ P=>P none
def KY(t:bh):xA:=λρ P=>t ρ λd=>match d with
 | .int i=>P (some i)
 |_=>False
def L1(Z:DC)(t:xA):TO:=λσ H Q=>∃(G:Hp)(ρ:DN)(P:Option Int→Prop),aH G H∧cR Z G σ ρ∧t ρ P∧∀o,P o→∀G' H',Ext G H G' H'→Q o H'
def DO(Z:DC)(X:Cx)(e:Option Expr)(t:xA):Prop:=PO X e (L1 Z t)
theorem PO.imp{e:Option Expr}{t t':TO}(h:PO X e t)(f:∀σ H Q,t' σ H Q→t σ H Q):PO X e t':=λpins s σ H Q I q=>h pins s σ H Q I (f _ _ _ q)
theorem bN:DO Z X none Ek:=F0.imp λσ H Q ⟨G,ρ,P,s,e,p,q⟩=>q _ p G H (.refl s)
theorem bp(h:DE Z X e te):DO Z X (some e) (KY te):=by
 refine (F1 h).imp ?_;rintro σ H Q ⟨G,ρ,P,s,e,h,q⟩;refine ⟨G,ρ,_,s,e,h,λd hd v G1 H1 x1 dv=>?_⟩;cases dv<;>first|exact hd.elim|skip
 exact ⟨_,rfl,q _ hd G1 H1 x1⟩
def TL(te:bh)(tl th:xA):bh:=λρ P=>te ρ λx=>tl ρ λlo=>th ρ λhi=>match x with
 | .lst l=>P (.lst (cutD l lo hi))
 | .tup l=>¬(HT.bL l.length 0 lo=0∧HT.bL l.length l.length hi=l.length)∧P (.tup (cutD l lo hi))
 | .jR l=>P (.lst ((cutD l lo hi).map D.int))
 |_=>False
variable {lo hi:Option Expr} {tl th:xA} {p2:Pos}
theorem bg(he:DE Z X e te)(hl:DO Z X lo tl)(hu:DO Z X hi th)(eK:X.K=Z.K:=by rfl):DE Z X (.Subscript e (.Slice lo hi none p2) pos) (TL te tl th):=by
 refine (vH (yV.or IT) he hl hu).imp ?_;rintro σ H Q ⟨G,ρ,P,s,en,h,q⟩;refine ⟨G,ρ,_,s,en,h,λd hd v G1 H1 x1 dv=>?_⟩;refine ⟨G1,ρ,_,x1.sub,en.mono x1.gg,hd,λl hl G2 H2 x2=>?_⟩;refine ⟨G2,ρ,_,x2.sub,(en.mono x1.gg).mono x2.gg,hl,λu hu G3 H3 x3=>?_⟩;have x:=(x1.trans x2).trans x3;have dv:=(dv.mono x2.gg).mono x3.gg;cases dv<;>first|exact hu.elim|skip
 ·rename_i h e
  exact .inl ⟨_,_,rfl,cD.of (x3.sub _ _ h),λp hn=>q _ hu _ _ _ (x.trans (.new x3.sub hn)) (.lst aB ((wy e l u).mono (aV (x3.sub.free hn) _)))⟩
 ·rename_i h e
  refine .inr ⟨_,_,rfl,fL.of (x3.sub _ _ h),by rw [e.length];exact hu.1,λp hn=>q _ hu.2 _ _ _ (x.trans (.new x3.sub hn)) (.tup aB ((wy e l u).mono (aV (x3.sub.free hn) _)))⟩
 ·rename_i h _
  refine .inl ⟨_,_,rfl,by rw [eK];exact h.mono x3.sub,λp hn=>q _ hu _ _ _ (x.trans (.new x3.sub hn)) (.lst aB ?_)⟩
  show au Z _ (cutD _ l u) _;rw [u3];exact .ints _
def xJ:cV:=λds P=>match ds with
 | [.lst l]=>P (.int l.length)
 | [.tup l]=>P (.int l.length)
 | [.jR l]=>P (.int l.length)
 |_=>False
theorem aP(eK:X.K=Z.K:=by rfl):cC X (.builtin "len") (gP Z xJ):=by
 refine uL.imp ?_;rintro xs H Q ⟨G,ds,P,s,dv,hr,q⟩;unfold xJ at hr
 split at hr
 ·obtain ⟨_,rfl,a⟩:=dv.ofOne
  obtain ⟨_,_,rfl,h,e⟩:=a.kc;exact ⟨_,_,rfl, .inl (cD.of (s _ _ h)),by rw [e.length];exact q _ hr _ G H (.refl s) (.int _)⟩
 ·obtain ⟨_,rfl,a⟩:=dv.ofOne
  obtain ⟨_,_,rfl,h,e⟩:=a.tV;exact ⟨_,_,rfl, .inr (fL.of (s _ _ h)),by rw [e.length];exact q _ hr _ G H (.refl s) (.int _)⟩
 ·obtain ⟨_,rfl,a⟩:=dv.ofOne
  obtain ⟨_,rfl,h,_⟩:=a.FF;exact ⟨_,_,rfl, .inl (by rw [eK];exact h.mono s),by rw [List.length_map];exact q _ hr _ G H (.refl s) (.int _)⟩
 ·exact hr.elim
def D3:cV:=λds P=>match ds with
 | [.lst l]=>P (.lst l)
 | [.tup l]=>P (.lst l)
 |_=>False
theorem sQ:cC X (.type "list") (gP Z D3):=by
 refine uM.imp ?_;rintro xs H Q ⟨G,ds,P,s,dv,hr,q⟩;unfold D3 at hr
 split at hr
 ·obtain ⟨_,rfl,a⟩:=dv.ofOne
  obtain ⟨_,_,rfl,h,e⟩:=a.kc;exact ⟨_,_,rfl, .inl (cD.of (s _ _ h)),λp hn=>q _ hr _ _ _ (.new s hn) (.lst aB (e.mono (aV (s.free hn) _)))⟩
 ·obtain ⟨_,rfl,a⟩:=dv.ofOne
  obtain ⟨_,_,rfl,h,e⟩:=a.tV;exact ⟨_,_,rfl, .inr (fL.of (s _ _ h)),λp hn=>q _ hr _ _ _ (.new s hn) (.lst aB (e.mono (aV (s.free hn) _)))⟩
 ·exact hr.elim
def Yj:cV:=λds P=>match ds with
 | [.int i]=>P (.int i)
 | [.bl b]=>P (.int (if b then 1 else 0))
 |_=>False
def Py:String→D→Bool
 |"int", .int _=>true
 |"int", .bl _=>true
 |"bool", .bl _=>true
 |"list", .lst _=>true
 |"tuple", .tup _=>true
 |_,_=>false
def L6(n:String):Bool:=n=="int"||n=="bool"||n=="list"||n=="tuple"
def JY:D→Bool
 | .bf=>true
 | .bl _=>true
 | .int _=>true
 | .str _=>true
 | .lst _=>true
 | .tup _=>true
 |_=>false
def N3(n:String)(t:bh):bh:=λρ P=>t ρ λd=>JY d=true∧P (.bl (Py n d))
theorem HQ{K:PySem.W.Frag}{H:Hp}{v:V}{d:D}{n:String}(hn:L6 n=true)(hd:JY d=true)(h:Dv Z H v d):∃t,iO K H v t∧PySem.W.kitOne K t (.type n)=some (Py n d):=by
 unfold L6 at hn;rw [Bool.or_eq_true,Bool.or_eq_true,Bool.or_eq_true,beq_iff_eq,beq_iff_eq,beq_iff_eq,beq_iff_eq] at hn;cases h with
 |bf=>refine ⟨_, .bf,?_⟩;rcases hn with ((rfl|rfl) |rfl) |rfl<;>kernel_rfl
 |bl b=>refine ⟨_, .bl b,?_⟩;rcases hn with ((rfl|rfl) |rfl) |rfl<;>kernel_rfl
 |int b=>refine ⟨_, .int b,?_⟩;rcases hn with ((rfl|rfl) |rfl) |rfl<;>kernel_rfl
 |str b=>refine ⟨_, .str b,?_⟩;rcases hn with ((rfl|rfl) |rfl) |rfl<;>kernel_rfl
 |lst h a=>refine ⟨_, .lst h,?_⟩;rcases hn with ((rfl|rfl) |rfl) |rfl<;>kernel_rfl
 |tup h a=>refine ⟨_, .tup h,?_⟩;rcases hn with ((rfl|rfl) |rfl) |rfl<;>kernel_rfl
 |_=>cases hd
end
section
variable {Z:DC} {X:Cx} {a b c e:Expr} {ta tb tc te:bh} {pos:Pos}
theorem Bi(n:String){x:Str}{p p':Pos}(ha:DE Z X a ta)(hg:Gl X "isinstance")(hm:X.mg "isinstance"=none)(UK:Gl X x)(yf:X.mg x=none)(hv:bootBuiltins x=some (.type n))(ok:L6 n=true:=by decide)
  (hn:x≠"__name__":=by decide) (hd:(x==("__debug__":Str))=false:=by decide) (hs:starEach [a, .Name x p'] X.env=(false,eval a X.env)::starEach [.Name x p'] X.env:=by rfl)
  (g5:(backTo pos (starEach [.Name x p'] X.env)).any (·.1)=false:=by rfl) (j5:starEach [.Name x p'] X.env=(false,eval (.Name x p') X.env)::starEach [] X.env:=by rfl):
  DE Z X (.Call (.Name "isinstance" p) [a, .Name x p'] [] pos) (N3 n ta):=by
 have hb:PE X (.Name x p') (tC (.ty n)):=FL UK yf hv rfl hn hd;refine (vG wo hg hm (by decide+kernel) (fS ha (fS hb ke j5) hs) (by decide) (by decide) hs g5).imp ?_
 rintro σ H Q ⟨G,ρ,P,s,e,h,q⟩;refine ⟨G,ρ,_,s,e,h,?_⟩;rintro d ⟨hk,hp⟩ v G1 H1 x1 dv;obtain ⟨t,ht,mM⟩:=HQ (K:=X.K) (H:=H1) ok hk (dv.mono x1.sub);exact ⟨v,n,t,_,rfl,ht,mM,q _ hp _ G1 H1 x1 (.bl _)⟩
def lG(Z:DC)(g:dj):TG:=λv σ H Q=>∃(G:Hp)(ρ:DN)(d:D)(P:DN→Prop),aH G H∧cR Z G σ ρ∧Dv Z G v d∧g d ρ P∧∀aC,P aC→∀ay,cR Z G ay aC→Q ay H
def DG(Z:DC)(X:Cx)(e:Expr)(g:dj):Prop:=PG X e (lG Z g)
theorem PG.imp{e:Expr}{t t':TG}(h:PG X e t)(f:∀v σ H Q,t' v σ H Q→t v σ H Q):PG X e t':=λpins s σ H v u Q I r q=>h pins s σ H v u Q I r (f _ _ _ _ q)
def rV(i:Nat):dj:=λd ρ P=>P (ρ.set i (some d))
theorem bQ(i:Nat){x:Str}(hN:X.N.Nodup)(hi:X.N[i]? =some x:=by rfl)(hx:Loc X.env.scope x:=by exact Or.inl rfl)(hf:X.fn x=true∨X.env.scope.names.lookup x=some .local:=by first|exact .inl rfl|exact .inr rfl|assumption):DG Z X (.Name x pos) (rV i):=
 (yH hN hi hx hf).imp λv σ H Q ⟨G,ρ,d,P,s,e,dv,h,q⟩=>q _ h _ (e.set dv)
abbrev kv:=List D→DN→(DN→Prop)→Prop
def HU(Z:DC)(g:kv):uK:=λvs σ H Q=>∃(G:Hp)(ρ:DN)(ds:List D)(P:DN→Prop),aH G H∧cR Z G σ ρ∧au Z G vs ds∧g ds ρ P∧∀aC,P aC→∀ay,cR Z G ay aC→Q ay H
def GV(Z:DC)(X:Cx)(es:List Expr)(g:kv):Prop:=we X es (HU Z g)
theorem we.imp{es:List Expr}{t t':uK}(h:we X es t)(f:∀v σ H Q,t' v σ H Q→t v σ H Q):we X es t':=λpins s σ H v u Q I r q=>h pins s σ H v u Q I r (f _ _ _ _ q)
def Er:kv:=λds ρ P=>ds= []∧P ρ
def Bk(g:dj)(gs:kv):kv:=λds ρ P=>match ds with
 |d::r=>g d ρ λaC=>gs r aC P
 | []=>False
theorem xW:GV Z X [] Er:=yI.imp λv σ H Q ⟨G,ρ,ds,P,s,e,dv,⟨h,p⟩,q⟩=>by
 subst h;cases dv;exact ⟨rfl,q _ p _ e⟩
theorem mn{es:List Expr}{g:dj}{gs:kv}(h1:DG Z X e g)(h2:GV Z X es gs)(hs:(assignEach (e::es) X.env).map (·.2)=assign e X.env::(assignEach es X.env).map (·.2):=by rfl):GV Z X (e::es) (Bk g gs):=by
 refine (vI h1 h2 hs).imp ?_;rintro v σ H Q ⟨G,ρ,ds,P,s,e,dv,h,q⟩;cases dv with
 |nil=>exact h.elim
 |cons a as=>
  refine ⟨_,_,rfl,G,ρ,_,_,s,e,a,h,λaC hp ay e'=>?_⟩;exact ⟨G,aC,_,P,s,e',as,hp,q⟩
def Es(n:Nat)(gs:kv):dj:=λd ρ P=>match d with
 | .tup l=>l.length=n∧gs l ρ P
 |_=>False
theorem Bl(n:Nat){es:List Expr}{k:Nat}{gs:kv}(hc:X.calm=true)(h:GV Z X es gs)(hn:(assignEach es X.env).length=n:=by rfl)(mN:(assignEach es X.env).findIdx? (·.1)=none:=by rfl):DG Z X (.Tuple es k pos) (Es n gs):=by
 refine (BJ hc h hn mN).imp ?_;rintro v σ H Q ⟨G,ρ,d,P,s,e,dv,h,q⟩;cases dv<;>first|exact h.elim|skip
 rename_i a xs ds ha es
 exact ⟨a,xs,rfl,fL.of (s _ _ ha),by rw [es.length];exact h.1,G,ρ,_,P,s,e,es,h.2,q⟩
def su(Z:DC)(G:Hp)(J:It)(ds:List D):Prop:=∀G2 H2,aH G G2→aH G2 H2→∀i:Nat,(i<ds.length→J.go i H2)∧(ds.length≤i→J.stop i H2)∧
 ∀x H',i<ds.length→J.yld i H2 x H'→∃G3 d,Ext G2 H2 G3 H'∧ds[i]? =some d∧Dv Z G3 x d
def nX(Z:DC)(wi:gE):TI:=λσ H R=>∃(G:Hp)(ρ:DN)(P:List D→Prop),aH G H∧cR Z G σ ρ∧wi ρ P∧∀ds,P ds→∀J G' H',Ext G H G' H'→su Z G' J ds→R J H'
def DI(Z:DC)(X:Cx)(tg e:Expr)(wi:gE):Prop:=PI X tg e (nX Z wi)
theorem PI.imp{tg e:Expr}{t t':TI}(h:PI X tg e t)(f:∀σ H Q,t' σ H Q→t σ H Q):PI X tg e t':=λpins s σ H Q I q=>h pins s σ H Q I (f _ _ _ q)
def K4(t:bh):gE:=λρ P=>t ρ λd=>match d with
 | .lst l=>P l
 |_=>False
theorem Ff{K:PySem.W.Frag}{G:Hp}{a:Addr}{xs:List V}{ds:List D}(h:G a=some (.lst xs))(e:au Z G xs ds):su Z G (Kj K a) ds:=by
 intro G2 H2 s1 s2 i;have h2:=cD.of (K:=K) (s2 _ _ (s1 _ _ h));have l:=e.length;refine ⟨λhi=>⟨xs,xs[i],h2,bq (by omega)⟩,λhi=>⟨xs,h2,by omega⟩,?_⟩
 rintro x H' hi ⟨rfl,hx⟩;obtain ⟨d,hd,dv⟩:=e.Bq (hx _ h2);exact ⟨G2,d, .refl s2,hd,dv.mono s1⟩
theorem bU{tg:Expr}(h:DE Z X e te):DI Z X tg e (K4 te):=by
 refine (FY h).imp ?_;rintro σ H Q ⟨G,ρ,P,s,en,h,q⟩;refine ⟨G,ρ,_,s,en,h,λd hd v G1 H1 x1 dv=>?_⟩;cases dv<;>first|exact hd.elim|skip
 rename_i ha e
 exact ⟨_,rfl,⟨_,cD.of (x1.sub _ _ ha)⟩,q _ hd _ G1 H1 x1 (Ff ha e)⟩
def di(lo:Int)(n:Nat):List D:=(List.range n).map λ(k:Nat)=>D.int (lo+(k:Int))
theorem qT{lo:Int}{n i:Nat}(h:i<n):(di lo n)[i]? =some (.int (lo+i)):=by
 unfold di;rw [eC,zj h];rfl
theorem my{G:Hp}(lo:Int)(n:Nat):su Z G (DK lo n) (di lo n):=by
 intro G2 H2 s1 s2 i;have l:(di lo n).length=n:=by unfold di;simp
 rw [l];refine ⟨λhi=>hi,λhi=>hi,?_⟩;rintro x H' hi ⟨rfl,rfl⟩;exact ⟨G2,_, .refl s2,qT hi, .int _⟩
def JL(t:ib):gE:=λρ P=>t ρ λds=>match ds with
 | [.int j]=>(-(2^62)≤j∧j<2^62)∧P (di 0 j.toNat)
 |_=>False
def JM(t:ib):gE:=λρ P=>t ρ λds=>match ds with
 | [.int i, .int j]=>(-(2^62)≤i∧i<2^62∧-(2^62)≤j∧j<2^62)∧P (di i (j-i).toNat)
 |_=>False
variable {t:ib}
theorem nJ{tg:Expr}{p:Pos}(hg:Gl X "range")(hm:X.mg "range"=none)(ha:DA Z X [a] t)(hs:starEach [a] X.env= [(false,eval a X.env)]:=by rfl):DI Z X tg (.Call (.Name "range" p) [a] [] pos) (JL t):=by
 refine (t9 hg hm ha hs).imp ?_;rintro σ H Q ⟨G,ρ,P,s,en,h,q⟩;refine ⟨G,ρ,_,s,en,h,λds hd vs G1 H1 x1 dv=>?_⟩
 split at hd
 ·obtain ⟨_,rfl,a⟩:=dv.ofOne
  exact ⟨_,by rw [a.ofInt],hd.1.1,hd.1.2,q _ hd.2 _ G1 H1 x1 (my 0 _)⟩
 ·exact hd.elim
theorem zA{tg:Expr}{p:Pos}(hg:Gl X "range")(hm:X.mg "range"=none)(ha:DA Z X [a,b] t)(hs:starEach [a,b] X.env= [(false,eval a X.env),(false,eval b X.env)]:=by rfl)(j5:starEach [b] X.env= [(false,eval b X.env)]:=by rfl):DI Z X tg (.Call (.Name "range" p) [a,b] [] pos) (JM t):=by
 refine (ua hg hm ha hs j5).imp ?_;rintro σ H Q ⟨G,ρ,P,s,en,h,q⟩;refine ⟨G,ρ,_,s,en,h,λds hd vs G1 H1 x1 dv=>?_⟩
 split at hd
 ·obtain ⟨u1,u2,rfl,da,db⟩:=dv.FG
  exact ⟨_,_,by rw [da.ofInt,db.ofInt],hd.1,q _ hd.2 _ G1 H1 x1 (my _ _)⟩
 ·exact hd.elim
def gn(l:List D):List D:=l.mapIdx λi x=> .tup [.int (i:Int),x]
def Hs(t:ib):gE:=λρ P=>t ρ λds=>match ds with
 | [.lst l]=>P (gn l)
 |_=>False
theorem Fe{K:PySem.W.Frag}{G:Hp}{a:Addr}{xs:List V}{ds:List D}(h:G a=some (.lst xs))(e:au Z G xs ds):su Z G (Ki K a) (gn ds):=by
 intro G2 H2 s1 s2 i;have h2:=cD.of (K:=K) (s2 _ _ (s1 _ _ h));have l:=e.length;rw [show (gn ds).length=ds.length by unfold gn;simp]
 refine ⟨λhi=>⟨xs,xs[i],h2,bq (by omega)⟩,λhi=>⟨xs,h2,by omega⟩,?_⟩
 rintro x H' hi ⟨t,y,rfl,ht,rfl,hx⟩;obtain ⟨d,hd,dv⟩:=e.Bq (hx _ h2);refine ⟨_,_, .new s2 ht,by unfold gn;rw [List.getElem?_mapIdx,hd];rfl,?_⟩
 exact .tup aB (.cons (.int _) (.cons ((dv.mono s1).mono (aV (s2.free ht) _)) .nil))
theorem gI{p:Pos}{es:List Expr}{k1}{tp:Pos}(hg:Gl X "enumerate")(hm:X.mg "enumerate"=none)(ha:DA Z X [a] t)(hs:starEach [a] X.env= [(false,eval a X.env)]:=by rfl):DI Z X (.Tuple es k1 tp) (.Call (.Name "enumerate" p) [a] [] pos) (Hs t):=by
 refine (FX hg hm ha hs).imp ?_;rintro σ H Q ⟨G,ρ,P,s,en,h,q⟩;refine ⟨G,ρ,_,s,en,h,λds hd vs G1 H1 x1 dv=>?_⟩
 split at hd
 ·obtain ⟨_,rfl,a⟩:=dv.ofOne
  obtain ⟨_,_,rfl,h,e⟩:=a.kc;exact ⟨_,rfl,⟨_,x1.sub _ _ h⟩,q _ hd _ G1 H1 x1 (Fe h e)⟩
 ·exact hd.elim
def ui(src:List (Option Nat))(ρ:DN):DN:=src.map λo=>o.bind λi=>(ρ[i]?).bind id
theorem cR.src{G:Hp}{σ:St}{ρ:DN}(e:cR Z G σ ρ)(src:List (Option Nat)):cR Z G (kJ src σ) (ui src ρ):=by
 refine ⟨by unfold kJ ui;simp,λi d h=>?_⟩
 unfold ui at h;unfold kJ;rw [eC] at h ⊢;cases k:src[i]? with
 |none=>rw [k] at h;cases h
 |some o=>
  rw [k] at h;cases o with
  |none=>cases h
  |some j=>
   have h':(ρ[j]?).bind id=some d:=Option.some.inj h;cases m:ρ[j]? with
   |none=>rw [m] at h';cases h'
   |some z=>
    rw [m] at h';have h2:z=some d:=h';subst h2;obtain ⟨v,hv,dv⟩:=e.at_ j d m;exact ⟨v,by show some ((σ[j]?).bind id)=_;rw [hv];rfl,dv⟩
def lcW(g:dj)(tt:cW)(te:bh):List D→DN→List D→(DN→List D→Prop)→Prop
 | [],ρ,acc,N=>N ρ acc
 |x::xs,ρ,acc,N=>g x ρ λaW=>tt aW λb=>if b=true then te aW λd=>acc.length<sizeLine∧lcW g tt te xs aW (acc++ [d]) N else lcW g tt te xs aW acc N
def KR(wi:gE)(g:dj)(tt:cW)(te:bh)(src:List (Option Nat)):bh:=λρ P=>wi ρ λds=>lcW g tt te ds (ui src ρ) [] λ_ out=>P (.lst out)
def gJ(g:dj)(tt:cW)(cx:gE)(g1:dj)(b6:cW)(te:bh):List D→DN→List D→(List D→Prop)→Prop
 | [],_,acc,P=>P acc
 |x::xs,ρ,acc,P=>g x ρ λaW=>tt aW λb=>if b=true then cx aW λes=>lcW g1 b6 te es aW acc λcz ju=>gJ g tt cx g1 b6 te xs cz ju P else gJ g tt cx g1 b6 te xs aW acc P
def Eg(wi:gE)(g:dj)(tt:cW)(cx:gE)(g1:dj)(b6:cW)(te:bh)(src:List (Option Nat)):bh:=λρ P=>wi ρ λds=>gJ g tt cx g1 b6 te ds (ui src ρ) [] λout=>P (.lst out)
def mU:cW:=λ_ P=>P true
def rm(Z:DC)(X:Cx)(ifs:List Expr)(t:cW):Prop:=jg X ifs (liftT Z t)
theorem jg.imp{ifs:List Expr}{t t':TT}(h:jg X ifs t)(f:∀σ H Q,t' σ H Q→t σ H Q):jg X ifs t':=λpins s σ H Q I q=>h pins s σ H Q I (f _ _ _ q)
theorem dJ:rm Z X [] mU:=F6.imp λσ H Q ⟨G,ρ,P,s,e,p,q⟩=>q _ p G H (.refl s)
theorem ij{tA:cW}(h:DT Z X c tA):rm Z X [c] tA:=F7 h
def CS(Z:DC)(G1 H1:Hp)(Ad:Addr)(ρ:DN)(acc:List D)(σ:St)(H:Hp):Prop:=
 ∃(G:Hp)(ys:List V),aH G1 G∧aH G H∧aH H1 H∧(∀b,H1 b≠none→G1 b=none→G b=none)∧G Ad=none∧H Ad=some (.lst ys)∧au Z G ys acc∧cR Z G σ ρ
theorem eQ{H H':Hp}(s:aH H H'){b:Addr}(h:H b≠none):H' b≠none:=λz=>by
 cases e:H b with
 |none=>exact h e
 |some o=>rw [s b o e] at z;cases z
theorem jw{α:Type}{l:List α}{i:Nat}{x:α}(h:l[i]? =some x):l.drop i=x::l.drop (i+1):=by
 obtain ⟨hi,e⟩:=fA.mp h;rw [vQ hi,e]
theorem vx{G1 H1:Hp}{Ad:Addr}{J:It}{ds:List D}{g:dj}{tt:cW}{te:bh}{N:DN→List D→Prop}(hA:H1 Ad=none)(G0:Hp)(it:su Z G0 J ds)(i:Nat)(ρ:DN)(acc:List D)(σ:St)(H:Hp)
  (c:CS Z G1 H1 Ad ρ acc σ H) (hG:∀G,aH G1 G→aH G0 G) (hi:i<ds.length) (h:lcW g tt te (ds.drop i) ρ acc N):
  J.go i H∧∀x H3,J.yld i H x H3→lG Z g x σ H3 λeF H4=>liftT Z tt eF H4 λb H5=>
   if b=true then cY Z te eF H5 λv H6=>∃ys,H6 Ad=some (.lst ys)∧ys.length<sizeLine∧(∃aC b5,CS Z G1 H1 Ad aC b5 eF (upd H6 Ad (.lst (ys++ [v])))∧lcW g tt te (ds.drop (i+1)) aC b5 N)
   else ∃aC b5,CS Z G1 H1 Ad aC b5 eF H5∧lcW g tt te (ds.drop (i+1)) aC b5 N:=by
 obtain ⟨G2,ys,s1,s2,s3,off,gA,j4,bz,en⟩:=c;obtain ⟨go,_,yld⟩:=it G2 H (hG _ s1) s2 i;refine ⟨go hi,λx H3 y=>?_⟩;obtain ⟨G3,d,x3,hd,dv⟩:=yld x H3 hi y;rw [jw hd] at h;refine ⟨G3,ρ,d,_,x3.sub,en.mono x3.gg,dv,h,λaW h1 eF oT=>?_⟩;refine ⟨G3,aW,_,x3.sub,oT,h1,λb hb G5 H5 x5=>?_⟩;have gN:=x3.trans x5;have pA:∀{G jW:Hp},Ext G2 H G jW→G Ad=none:=λx=>x.off Ad (by rw [j4];exact λz=>nomatch z) gA
 have jG:∀{G jW:Hp},Ext G2 H G jW→∀b,H1 b≠none→G1 b=none→G b=none:=λx b h1 h2=>x.off b (eQ s3 h1) (off b h1 h2);cases b with
 |false=>
  refine cO ⟨aW,acc,⟨G5,ys,s1.trans gN.gg,gN.sub,s3.trans gN.hh,jG gN,pA gN,gN.hh _ _ j4,bz.mono gN.gg,oT.mono x5.gg⟩,?_⟩;simpa using hb
 |true=>
  refine ed ⟨G5,aW,_,x5.sub,oT.mono x5.gg,(by simpa using hb),λd' mJ v G6 H6 x6 T8=>?_⟩
  have x:=gN.trans x6;refine ⟨ys,x.hh _ _ j4,by rw [bz.length];exact mJ.1,aW,_,⟨G6,ys++ [v],s1.trans x.gg,λb o e=>?_,λb o e=>?_,jG x,pA x,aB,(bz.mono x.gg).snoc T8,(oT.mono x5.gg).mono x6.gg⟩,mJ.2⟩
  ·rw [aD (aT e (pA x))];exact x.sub _ _ e
  ·rw [aD (aT e hA)];exact (s3.trans x.hh) _ _ e
theorem CS.done{G H G1 H1 H2:Hp}{Ad:Addr}{ρ:DN}{acc:List D}{σ:St}(c:CS Z G1 H1 Ad ρ acc σ H2)(x1:Ext G H G1 H1)(hA:H1 Ad=none):∃G',Ext G H G' H2∧Dv Z G' (.ref Ad) (.lst acc):=by
 obtain ⟨G2,ys,s1,s2,s3,off,gA,j4,bz,en⟩:=c;refine ⟨upd G2 Ad (.lst ys),⟨(x1.gg.trans s1).trans (aV gA _),λb o e=>?_,x1.hh.trans s3,λb hb hg=>?_⟩, .lst aB (bz.mono (aV gA _))⟩
 ·by_cases z:b=Ad
  ·subst z;rw [aB] at e;cases e;exact j4
  ·rw [aD z] at e;exact s2 _ _ e
 ·have h1:=eQ x1.hh hb
  rw [aD (λz=>h1 (by rw [z];exact hA))]
  exact off b h1 (x1.off b hb hg)
theorem CS.begin{G1 H1:Hp}{Ad:Addr}{ρ:DN}{σ:St}(s:aH G1 H1)(hA:H1 Ad=none)(en:cR Z G1 σ ρ):CS Z G1 H1 Ad ρ [] σ (upd H1 Ad (.lst [])):=
 ⟨G1,[], .refl _,λb o e=>by rw [aD (aT e (s.free hA))];exact s _ _ e,aV hA _,λ_ _ h=>h,s.free hA,aB, .nil,en⟩
variable {tg iter elt:Expr} {ifs:List Expr} {scope:Scope} {NC:List Str} {src:List (Option Nat)} {wi:gE} {g:dj} {tt:cW}
theorem Bv:∀σ H Q,cY Z (KR wi g tt te src) σ H Q→I0 (nX Z wi) (lG Z g) (liftT Z tt) (cY Z te) src σ H Q:=by
 rintro σ H Q ⟨G,ρ,P,s,en,h,q⟩;refine ⟨G,ρ,_,s,en,h,λds hd J G1 H1 x1 it Ad hA=>?_⟩;refine ⟨λi m dX H2=>m=ds.length-i∧i≤ds.length∧∃cz acc,CS Z G1 H1 Ad cz acc dX H2∧lcW g tt te (ds.drop i) cz acc λ_ out=>P (.lst out),⟨_,rfl,cn _,_,[], .begin x1.sub hA ((en.mono x1.gg).src src),hd⟩,?_⟩;rintro i m dX H2 ⟨rfl,hi,cz,acc,c,hl⟩
 by_cases b0:i<ds.length
 ·obtain ⟨go,turn⟩:=vx hA G1 it i cz acc dX H2 c (λ_ s=>s) b0 hl
  exact .inr ⟨go,_,λay H' n=>⟨ds.length-(i+1),by omega,rfl,b0,n⟩,turn⟩
 ·have e:ds.drop i= []:=uz (by omega)
  rw [e] at hl;obtain ⟨G',x,dv⟩:=c.done x1 hA;obtain ⟨G2,ys,s1,s2,_⟩:=c;exact .inl ⟨(it G2 H2 s1 s2 i).2.1 (by omega),q _ hl _ G' H2 x dv⟩
theorem jZ(hc:X.calm=true)(c:bW X scope)(dg:cE scope X.N src NC)(hi:DI Z X tg iter wi)
  (hg:∀ex s H,DG Z (bP X scope NC ex s H) tg g) (ht:∀ex s H,rm Z (bP X scope NC ex s H) ifs tt) (he:∀ex s H,DE Z (bP X scope NC ex s H) elt te)
  (hs:∀x,foldedSetIterable iter X.env x=pure x:=by intro _;rfl):DE Z X (.ListComp elt [⟨tg,iter,ifs,0⟩] scope pos) (KR wi g tt te src):=(FQ hc c dg hi hg ht he hs).imp Bv
variable {t0 i0 t1 i1:Expr} {f0 f1:List Expr} {cx:gE} {g1:dj} {b6:cW}
theorem yt:∀σ H Q,cY Z (Eg wi g tt cx g1 b6 te src) σ H Q→BZ (nX Z wi) (lG Z g) (liftT Z tt) (nX Z cx) (lG Z g1) (liftT Z b6) (cY Z te) src σ H Q:=by
 rintro σ H Q ⟨G,ρ,P,s,en,h,q⟩;refine ⟨G,ρ,_,s,en,h,λds hd J G1 H1 x1 it Ad hA=>?_⟩;refine ⟨λi m dX H2=>m=ds.length-i∧i≤ds.length∧∃cz acc,CS Z G1 H1 Ad cz acc dX H2∧gJ g tt cx g1 b6 te (ds.drop i) cz acc λout=>P (.lst out),⟨_,rfl,cn _,_,[], .begin x1.sub hA ((en.mono x1.gg).src src),hd⟩,?_⟩;rintro i m dX H2 ⟨rfl,hi,cz,acc,c,hl⟩
 by_cases b0:i<ds.length
 ·have c0:=c
  obtain ⟨G2,ys,s1,s2,s3,off,gA,j4,bz,K7⟩:=c;obtain ⟨go,_,yld⟩:=it G2 H2 s1 s2 i;refine .inr ⟨go b0,λay H'=>∃aC b5,CS Z G1 H1 Ad aC b5 ay H'∧gJ g tt cx g1 b6 te (ds.drop (i+1)) aC b5 λout=>P (.lst out),λay H' n=>⟨ds.length-(i+1),by omega,rfl,b0,n⟩,λx H3 y=>?_⟩
  obtain ⟨G3,d,x3,ER,dv⟩:=yld x H3 b0 y;rw [jw ER] at hl;refine ⟨G3,cz,d,_,x3.sub,K7.mono x3.gg,dv,hl,λaW h1 eF oT=>?_⟩;refine ⟨G3,aW,_,x3.sub,oT,h1,λb hb G5 H5 x5=>?_⟩;have gN:=x3.trans x5;have pA:∀{G jW:Hp},Ext G2 H2 G jW→G Ad=none:=λx=>x.off Ad (by rw [j4];exact λz=>nomatch z) gA
  have jG:∀{G jW:Hp},Ext G2 H2 G jW→∀b,H1 b≠none→G1 b=none→G b=none:=λx b h1 h2=>x.off b (eQ s3 h1) (off b h1 h2);cases b with
  |false=>exact cO ⟨aW,acc,⟨G5,ys,s1.trans gN.gg,gN.sub,s3.trans gN.hh,jG gN,pA gN,gN.hh _ _ j4,bz.mono gN.gg,oT.mono x5.gg⟩,by simpa using hb⟩
  |true=>
   refine ed ⟨G5,aW,_,x5.sub,oT.mono x5.gg,(by simpa using hb),λes LA J1 G6 H6 x6 wV=>?_⟩
   have x:=gN.trans x6;have c6:CS Z G6 H6 Ad aW acc eF H6→True:=λ_=>trivial
   refine ⟨λk m mf H7=>m=es.length-k∧k≤es.length∧∃(uH:DN)(kY:List D),(∃(G:Hp)(ys:List V),aH G6 G∧aH G H7∧aH H1 H7∧(∀b,H1 b≠none→G1 b=none→G b=none)∧G Ad=none∧H7 Ad=some (.lst ys)∧au Z G ys kY∧cR Z G mf uH)∧
    lcW g1 b6 te (es.drop k) uH kY λcz ju=>gJ g tt cx g1 b6 te (ds.drop (i+1)) cz ju λout=>P (.lst out),
    ⟨_,rfl,cn _,aW,acc,⟨G6,ys, .refl _,x.sub,s3.trans x.hh,jG x,pA x,x.hh _ _ j4,bz.mono x.gg,(oT.mono x5.gg).mono x6.gg⟩,LA⟩,?_⟩
   rintro k m mf H7 ⟨rfl,hk,uH,kY,⟨G7,xo,a1,a2,a3,a4,a5,a6,a7,a8⟩,wN⟩;have Lf:aH G1 G6:=s1.trans x.gg
   by_cases tD:k<es.length
   ·obtain ⟨Li,_,GR⟩:=wV G7 H7 a1 a2 k
    refine .inr ⟨Li tD,λay H'=>∃(aC:DN)(b5:List D),(∃(G:Hp)(ys:List V),aH G6 G∧aH G H'∧aH H1 H'∧(∀b,H1 b≠none→G1 b=none→G b=none)∧G Ad=none∧H' Ad=some (.lst ys)∧au Z G ys b5∧cR Z G ay aC)∧
     lcW g1 b6 te (es.drop (k+1)) aC b5 λcz ju=>gJ g tt cx g1 b6 te (ds.drop (i+1)) cz ju λout=>P (.lst out),λay H' n=>⟨es.length-(k+1),by omega,rfl,tD,n⟩,λy H8 hy=>?_⟩
    obtain ⟨G8,d8,x8,Ly,K5⟩:=GR y H8 tD hy;rw [jw Ly] at wN;refine ⟨G8,uH,d8,_,x8.sub,a8.mono x8.gg,K5,wN,λxw h9 Yi wG=>?_⟩;refine ⟨G8,xw,_,x8.sub,wG,h9,λb hb DB DD uq=>?_⟩;have xx:=x8.trans uq;have oA:∀{G jW:Hp},Ext G7 H7 G jW→G Ad=none:=λx=>x.off Ad (by rw [a6];exact λz=>nomatch z) a5
    have oB:∀{G jW:Hp},Ext G7 H7 G jW→∀b,H1 b≠none→G1 b=none→G b=none:=λx b h1 h2=>x.off b (eQ a3 h1) (a4 b h1 h2);cases b with
    |false=>exact cO ⟨xw,kY,⟨DB,xo,a1.trans xx.gg,xx.sub,a3.trans xx.hh,oB xx,oA xx,xx.hh _ _ a6,a7.mono xx.gg,wG.mono uq.gg⟩,by simpa using hb⟩
    |true=>
     refine ed ⟨DB,xw,_,uq.sub,wG.mono uq.gg,(by simpa using hb),λd' mJ v Kf DH GQ Ey=>?_⟩
     have xz:=xx.trans GQ;refine ⟨xo,xz.hh _ _ a6,by rw [a7.length];exact mJ.1,xw,_,⟨Kf,xo++ [v],a1.trans xz.gg,λb o e=>?_,λb o e=>?_,oB xz,oA xz,aB,(a7.mono xz.gg).snoc Ey,(wG.mono uq.gg).mono GQ.gg⟩,mJ.2⟩
     ·rw [aD (aT e (oA xz))];exact xz.sub _ _ e
     ·rw [aD (aT e hA)];exact (a3.trans xz.hh) _ _ e
   ·have e:es.drop k= []:=uz (by omega)
    rw [e] at wN;exact .inl ⟨(wV G7 H7 a1 a2 k).2.1 (by omega),uH,kY,⟨G7,xo,Lf.trans a1,a2,a3,a4,a5,a6,a7,a8⟩,wN⟩
 ·have e:ds.drop i= []:=uz (by omega)
  rw [e] at hl;obtain ⟨G',x,dv⟩:=c.done x1 hA;obtain ⟨G2,ys,s1,s2,_⟩:=c;exact .inl ⟨(it G2 H2 s1 s2 i).2.1 (by omega),q _ hl _ G' H2 x dv⟩
theorem Hm(hc:X.calm=true)(c:bW X scope)(dg:cE scope X.N src NC)(hi:DI Z X t0 i0 wi)
  (hg:∀ex s H,DG Z (bP X scope NC ex s H) t0 g) (ht:∀ex s H,rm Z (bP X scope NC ex s H) f0 tt) (mK:∀ex s H,DI Z (bP X scope NC ex s H) t1 i1 cx) (tB:∀ex s H,DG Z (bP X scope NC ex s H) t1 g1)
  (tF:∀ex s H,rm Z (bP X scope NC ex s H) f1 b6) (he:∀ex s H,DE Z (bP X scope NC ex s H) elt te)
  (hs:∀x,foldedSetIterable i0 X.env x=pure x:=by intro _;rfl) (pb:∀env x,foldedSetIterable i1 env x=pure x:=by intro _ _;rfl):
  DE Z X (.ListComp elt [⟨t0,i0,f0,0⟩,⟨t1,i1,f1,0⟩] scope pos) (Eg wi g tt cx g1 b6 te src):=(IB hc c dg hi hg ht mK tB tF he hs pb).imp yt
end
inductive ic (R:V→D→List Addr→Prop):List V→List D→List Addr→Prop
 |nil:ic R [] [] []
 |cons {v:V} {vs:List V} {d:D} {ds:List D} {f fs:List Addr}:R v d f→ic R vs ds fs→ic R (v::vs) (d::ds) (f++fs)
def Pz:D→Bool
 | .lst _=>true
 |_=>false
def Own(Z:DC)(G H:Hp):Nat→V→D→List Addr→Prop
 |0,v,d,fp=>Dv Z G v d∧fp= []
 |n+1,v,d,fp=>(∃a xs ds oW,v= .ref a∧d= .lst ds∧H a=some (.lst xs)∧fp=a::oW∧ic (Own Z G H n) xs ds oW)∨(1≤n∧∃a xs ds,v= .ref a∧d= .tup ds∧G a=some (.tup xs)∧ic (λv d f=>(Pz d=true∧Own Z G H n v d f)∨(Pz d=false∧Dv Z G v d∧f= [])) xs ds fp)∨(∃a φ,v= .ref a∧H a=some (.ext φ)∧fp= [a]∧((n=98∧∃b ns,d= .set b ns∧φ=fc b a ns)∨(n=97∧∃k,d= .x k∧DS G a φ k)))
theorem Own.lst{Z:DC}{G H:Hp}{n:Nat}{v:V}{ds:List D}{fp:List Addr}(o:Own Z G H (n+1) v (.lst ds) fp):∃a xs oP oW,v= .ref a∧D.lst ds= .lst oP∧H a=some (.lst xs)∧fp=a::oW∧ic (Own Z G H n) xs oP oW:=by
 rcases o with o| ⟨_,a,xs,ds,_,e,_⟩ | ⟨a,φ,_,_,_,⟨_,b,ns,e,_⟩ | ⟨_,k,e,_⟩⟩
 ·exact o
 ·cases e
 ·cases e
 ·cases e
theorem Own.J7{Z:DC}{G H:Hp}{v:V}{b:Bool}{ns:List Int}{fp:List Addr}(o:Own Z G H 99 v (.set b ns) fp):∃a,v= .ref a∧H a=some (.ext (fc b a ns))∧fp= [a]:=by
 rcases o with ⟨_,_,_,_,_,e,_⟩ | ⟨_,a,xs,ds,_,e,_⟩ | ⟨a,φ,h1,h2,h3,⟨_,b,ns,e,e2⟩ | ⟨_,k,e,_⟩⟩
 ·cases e
 ·cases e
 ·cases e;subst e2;exact ⟨a,h1,h2,h3⟩
 ·cases e
theorem Own.one{Z:DC}{G H:Hp}{v:V}{d:D}{fp:List Addr}(o:Own Z G H 1 v d fp):∃a xs ds oW,v= .ref a∧d= .lst ds∧H a=some (.lst xs)∧fp=a::oW∧ic (Own Z G H 0) xs ds oW:=by
 rcases o with o| ⟨z,_⟩ | ⟨_,_,_,_,_,⟨z,_⟩ | ⟨z,_⟩⟩
 ·exact o
 ·exact absurd z (by decide)
 ·exact absurd z (by decide)
 ·exact absurd z (by decide)
theorem ic.imp{R R':V→D→List Addr→Prop}:∀{vs:List V}{ds:List D}{fp:List Addr},ic R vs ds fp→(∀v d f,(∀b∈f,b∈fp)→R v d f→R' v d f)→ic R' vs ds fp
 |_,_,_, .nil,_=> .nil
 |_,_,_, .cons a as,h=> .cons (h _ _ _ (λb hb=>fo _ hb) a) (as.imp λv d f hf r=>h v d f (λb hb=>eW _ (hf b hb)) r)
section
variable {Z:DC} {G G' H H':Hp}
theorem Own.keep:∀{n:Nat}{v:V}{d:D}{fp:List Addr},Own Z G H n v d fp→aH G G'→(∀b∈fp,H' b=H b)→Own Z G' H' n v d fp
 |0,_,_,_,⟨a,b⟩,s,_=>⟨a.mono s,b⟩
 |n+1,_,_,_, .inl ⟨a,xs,ds,oW,hv,hd,ha,hf,ho⟩,s,k=>by
  subst hf;exact .inl ⟨a,xs,ds,oW,hv,hd,by rw [k a (b4 ..)];exact ha,rfl,ho.imp λv d f hb r=>Own.keep r s λb q=>k b (cv _ (hb b q))⟩
 |n+1,_,_,_, .inr (.inl ⟨h1,a,xs,ds,hv,hd,ha,ho⟩),s,k=> .inr (.inl ⟨h1,a,xs,ds,hv,hd,s _ _ ha,ho.imp λv d f hb r=>r.imp (λr=>⟨r.1,Own.keep r.2 s λb q=>k b (hb b q)⟩) λr=>⟨r.1,r.2.1.mono s,r.2.2⟩⟩)
 |n+1,_,_,_, .inr (.inr ⟨a,φ,hv,ha,hf,hx⟩),s,k=> .inr (.inr ⟨a,φ,hv,by rw [k a (by rw [hf];exact b4 ..)];exact ha,hf,hx.imp id λ⟨h1,k,h2,h3⟩=>⟨h1,k,h2,h3.mono s⟩⟩)
theorem ic.xX{R:V→D→List Addr→Prop}:∀{vs:List V}{ds:List D}{fp:List Addr},ic R vs ds fp→(∀v d f,(∀b∈f,b∈fp)→R v d f→Dv Z G' v d)→au Z G' vs ds
 |_,_,_, .nil,_=> .nil
 |_,_,_, .cons a as,k=> .cons (k _ _ _ (λb hb=>fo _ hb) a) (as.xX λv d f hf r=>k v d f (λb hb=>eW _ (hf b hb)) r)
theorem Own.dv:∀{n:Nat}{v:V}{d:D}{fp:List Addr},Own Z G H n v d fp→aH G G'→(∀b∈fp,∀o,H b=some o→G' b=some o)→Dv Z G' v d
 |0,_,_,_,⟨a,_⟩,s,_=>a.mono s
 |n+1,_,_,_, .inl ⟨a,xs,ds,oW,hv,hd,ha,hf,ho⟩,s,k=>by
  subst hf hv hd;exact .lst (k a (b4 ..) _ ha) (ho.xX λv d f hf r=>Own.dv r s λb hb=>k b (cv _ (hf b hb)))
 |n+1,_,_,_, .inr (.inl ⟨_,a,xs,ds,hv,hd,ha,ho⟩),s,k=>by
  subst hv hd;exact .tup (s _ _ ha) (ho.xX λv d f hf r=>r.elim (λr=>Own.dv r.2 s λb hb=>k b (hf b hb)) λr=>r.2.1.mono s)
 |n+1,_,_,_, .inr (.inr ⟨a,φ,hv,ha,hf,hx⟩),s,k=>by
  subst hv hf
  rcases hx with ⟨_,b,ns,hd,hp⟩ | ⟨_,kx,hd,hp⟩
  ·subst hd hp
   exact .set (k a (b4 ..) _ ha)
  ·subst hd
   exact .x (k a (b4 ..) _ ha) (hp.mono s)
theorem ic.flat:∀{vs:List V}{ds:List D}{fp:List Addr},ic (Own Z G H 0) vs ds fp→au Z G vs ds∧fp= []
 |_,_,_, .nil=>⟨.nil,rfl⟩
 |_,_,_, .cons a as=>by
  obtain ⟨h1,h2⟩:=as.flat;obtain ⟨a1,a2⟩:=a;exact ⟨.cons a1 h1,by rw [a2,h2];rfl⟩
theorem au.own:∀{vs:List V}{ds:List D},au Z G vs ds→ic (Own Z G H 0) vs ds []
 |_,_, .nil=> .nil
 |_,_, .cons a as=> .cons (f:= []) (fs:= []) ⟨a,rfl⟩ as.own
theorem Dv.flat{v:V}{d:D}(h:Dv Z G v d)(f:fi d=true):Dv Z G' v d:=by
 cases h with
 |bf=>exact .bf
 |bl b=>exact .bl b
 |int i=>exact .int i
 |str x k=>exact .str x k
 |_=>cases f
end
mutual
def lH:D→Bool
 | .bf=>true
 | .bl _=>true
 | .int _=>true
 | .str _=>true
 | .tup l=>Bz l
 |_=>false
def Bz:List D→Bool
 | []=>true
 |d::ds=>lH d&&Bz ds
end
mutual
theorem Dv.lH{Z:DC}{G G':Hp}(k:∀b xs,G b=some (.tup xs)→G' b=some (.tup xs)):∀{v:V}{d:D},Dv Z G v d→L2.lH d=true→Dv Z G' v d
 |_,_, .bf,_=> .bf
 |_,_, .bl b,_=> .bl b
 |_,_, .int i,_=> .int i
 |_,_, .str x h,_=> .str x h
 |_,_, .tup h a,f=> .tup (k _ _ h) (au.lH k a (by rw [L2.lH] at f;exact f))
 |_,_, .lst _ _,f=>by simp [L2.lH] at f
 |_,_, .obj _,f=>by simp [L2.lH] at f
 |_,_, .rng _,f=>by simp [L2.lH] at f
 |_,_, .jR _ _,f=>by simp [L2.lH] at f
 |_,_, .eT _ _ _ _ _,f=>by simp [L2.lH] at f
 |_,_, .set _,f=>by simp [L2.lH] at f
 |_,_, .x _ _,f=>by simp [L2.lH] at f
theorem au.lH{Z:DC}{G G':Hp}(k:∀b xs,G b=some (.tup xs)→G' b=some (.tup xs)):∀{vs:List V}{ds:List D},au Z G vs ds→Bz ds=true→au Z G' vs ds
 |_,_, .nil,_=> .nil
 |_,_, .cons a as,f=>by
  rw [Bz,rh] at f;exact .cons (Dv.lH k a f.1) (au.lH k as f.2)
end
def J2:HO→Bool
 | .lst _=>true
 | .ext _=>true
 |_=>false
theorem Own.K6{Z:DC}{G G' H:Hp}:∀{n:Nat}{v:V}{d:D}{fp:List Addr},Own Z G H n v d fp→aH G G'→(∀b∈fp,∀o,J2 o=true→H b=some o→G' b=some o)→Dv Z G' v d
 |0,_,_,_,⟨a,_⟩,s,_=>a.mono s
 |n+1,_,_,_, .inl ⟨a,xs,ds,oW,hv,hd,ha,hf,ho⟩,s,k=>by
  subst hf hv hd;exact .lst (k a (b4 ..) _ rfl ha) (ho.xX λv d f hf r=>Own.K6 r s λb hb=>k b (cv _ (hf b hb)))
 |n+1,_,_,_, .inr (.inl ⟨_,a,xs,ds,hv,hd,ha,ho⟩),s,k=>by
  subst hv hd;exact .tup (s _ _ ha) (ho.xX λv d f hf r=>r.elim (λr=>Own.K6 r.2 s λb hb=>k b (hf b hb)) λr=>r.2.1.mono s)
 |n+1,_,_,_, .inr (.inr ⟨a,φ,hv,ha,hf,hx⟩),s,k=>by
  subst hv hf
  rcases hx with ⟨_,b,ns,hd,hp⟩ | ⟨_,kx,hd,hp⟩
  ·subst hd hp
   exact .set (k a (b4 ..) _ rfl ha)
  ·subst hd
   exact .x (k a (b4 ..) _ rfl ha) (hp.mono s)
structure Bs where
 G₀:Hp
 H₀:Hp
 Gf:Hp
structure SIx (Z:DC) (B:Bs) (md:List Nat) (ρ:DN) (σ:St) (H G:Hp) (fp:Nat→List Addr):Prop where
 ex:Ext B.G₀ B.H₀ G H
 fl:aH B.Gf G
 len:ρ.length=σ.length
 at_:∀(i:Nat)(d:D),ρ[i]? =some (some d)→∃v,σ[i]? =some (some v)∧Own Z G H (md.getD i 0) v d (fp i)
 nd:∀i,(fp i).Nodup
 ap:∀i j b,i≠j→b∈fp i→b∉fp j
 nw:∀i b,b∈fp i→B.H₀ b=none∧H b≠none∧G b=none
def SI(Z:DC)(B:Bs)(md:List Nat)(ρ:DN)(σ:St)(H:Hp):Prop:=∃G fp,SIx Z B md ρ σ H G fp
def dU:List Nat→DN→DN
 |_,[]=> []
 | [],o::ρ=>o::ρ
 |0::md,o::ρ=>o::dU md ρ
 | (_+1)::md,_::ρ=>none::dU md ρ
theorem og:∀(md:List Nat)(ρ:DN),(dU md ρ).length=ρ.length
 |md,[]=>by cases md<;>rfl
 | [],o::ρ=>rfl
 |0::md,o::ρ=>by rw [dU,eU,og md ρ,eU]
 | (_+1)::md,_::ρ=>by rw [dU,eU,og md ρ,eU]
theorem qA{d:D}:∀(md:List Nat)(ρ:DN)(i:Nat),(dU md ρ)[i]? =some (some d)→md.getD i 0=0∧ρ[i]? =some (some d)
 |md,[],i,h=>by cases md<;>simp [dU] at h
 | [],o::ρ,i,h=>⟨by simp,h⟩
 |0::md,o::ρ,0,h=>⟨rfl,by simpa [dU] using h⟩
 |0::md,o::ρ,i+1,h=>by
  rw [dU,uy] at h;obtain ⟨a,b⟩:=qA md ρ i h;exact ⟨by rw [kK];exact a,by rw [uy];exact b⟩
 | (_+1)::md,_::ρ,0,h=>by simp [dU] at h
 | (_+1)::md,_::ρ,i+1,h=>by
  rw [dU,uy] at h;obtain ⟨a,b⟩:=qA md ρ i h;exact ⟨by rw [kK];exact a,by rw [uy];exact b⟩
def A5(md:List Nat):Bool→DN→DN
 |true,ρ=>ρ
 |false,ρ=>dU md ρ
def oU:Bool→D→Prop
 |true,d=>lH d=true
 |false,_=>True
section
variable {Z:DC} {B:Bs} {md:List Nat} {ρ:DN} {σ:St} {H G:Hp} {fp:Nat→List Addr}
theorem AF{i:Nat}{d:D}(h:(dU md ρ)[i]? =some (some d)):md.getD i 0=0∧ρ[i]? =some (some d):=qA md ρ i h
theorem SIx.EB(S:SIx Z B md ρ σ H G fp):cR Z G σ (dU md ρ):=by
 refine ⟨by rw [og];exact S.len,λi d h=>?_⟩
 obtain ⟨z,h⟩:=AF h;obtain ⟨v,hv,o⟩:=S.at_ i d h;rw [z] at o;exact ⟨v,hv,o.1⟩
theorem SIx.EA(S:SIx Z B md ρ σ H G fp):cR Z H σ ρ:=by
 refine ⟨S.len,λi d h=>?_⟩;obtain ⟨v,hv,o⟩:=S.at_ i d h;exact ⟨v,hv,o.dv S.ex.sub λb _ u e=>e⟩
theorem SIx.grow{G' H':Hp}(S:SIx Z B md ρ σ H G fp)(x:Ext G H G' H'):SIx Z B md ρ σ H' G' fp where
 ex:=S.ex.trans x
 fl:=S.fl.trans x.gg
 len:=S.len
 at_:=λi d h=>by
  obtain ⟨v,hv,o⟩:=S.at_ i d h;refine ⟨v,hv,o.keep x.gg λb hb=>?_⟩;cases e:H b with
  |none=>exact absurd e (S.nw i b hb).2.1
  |some u=>exact x.hh _ _ e
 nd:=S.nd
 ap:=S.ap
 nw:=λi b hb=>let ⟨h1,h2,h3⟩:=S.nw i b hb;⟨h1,eQ x.hh h2,x.off b h2 h3⟩
theorem Ext.all{G' H':Hp}(s:aH G H)(x:Ext H H G' H'):Ext G H G H':=⟨.refl _,s.trans x.hh,x.hh,λ_ _ h=>h⟩
open Classical in
noncomputable def gT(G H:Hp)(fp:Nat→List Addr):Hp:=λb=>if ∃i,b∈fp i then (match H b with|some (.lst xs)=>some (.lst xs) |some (.ext φ)=>some (.ext φ) |_=>none) else G b
open Classical in
noncomputable def qo(G:Hp)(fp:Nat→List Addr):Hp:=λb=>if ∃i,b∈fp i then none else G b
theorem Dz{b:Addr}{o:HO}(i:Nat)(h:b∈fp i)(ho:J2 o=true)(e:H b=some o):gT G H fp b=some o:=by
 unfold gT;rw [if_pos ⟨i,h⟩,e];cases o<;>first|rfl|cases ho
theorem oz{b:Addr}(h:¬∃i,b∈fp i):gT G H fp b=G b:=if_neg h
theorem SIx.JO(S:SIx Z B md ρ σ H G fp):aH G (gT G H fp)∧aH (gT G H fp) H∧cR Z (gT G H fp) σ ρ:=by
 have s1:aH G (gT G H fp):=λb o e=>by
  by_cases h:∃i,b∈fp i
  ·obtain ⟨i,hi⟩:=h
   rw [(S.nw i b hi).2.2] at e;cases e
  ·rw [oz h];exact e
 refine ⟨s1,λb o e=>?_,S.len,λi d h=>?_⟩
 ·by_cases h:∃i,b∈fp i
  ·unfold gT at e
   rw [if_pos h] at e
   split at e
   ·next xs hx=>rw [hx];exact e
   ·next φ hx=>rw [hx];exact e
   ·cases e
  ·rw [oz h] at e;exact S.ex.sub _ _ e
 ·obtain ⟨v,hv,o⟩:=S.at_ i d h
  exact ⟨v,hv,o.K6 s1 λb hb u hu hx=>Dz i hb hu hx⟩
theorem SIx.QP{G' H':Hp}(S:SIx Z B md ρ σ H G fp)(x:Ext (gT G H fp) H G' H'):Ext G H (qo G' fp) H'∧∀b xs,G' b=some (.tup xs)→qo G' fp b=some (.tup xs):=by
 obtain ⟨s1,s2,_⟩:=S.JO;refine ⟨⟨λb o e=>?_,λb o e=>?_,x.hh,λb hb hg=>?_⟩,λb xs e=>?_⟩
 ·have h:¬∃i,b∈fp i:=by
   rintro ⟨i,hi⟩;rw [(S.nw i b hi).2.2] at e;cases e
  unfold qo;rw [if_neg h];exact x.gg _ _ (s1 _ _ e)
 ·unfold qo at e
  split at e
  ·cases e
  ·exact x.sub _ _ e
 ·unfold qo
  split
  ·rfl
  ·next h=>exact x.off b hb (by rw [oz h];exact hg)
 ·have h:¬∃i,b∈fp i:=by
   rintro ⟨i,hi⟩;have hb:=(S.nw i b hi).2.1;cases hw:gT G H fp b with
   |none=>rw [x.off b hb hw] at e;cases e
   |some o=>
    have:=x.gg _ _ hw
    rw [e] at this;cases this;unfold gT at hw;rw [if_pos ⟨i,hi⟩] at hw
    split at hw<;>cases hw
  unfold qo;rw [if_neg h];exact e
theorem SIx.ev{t:bh}{P:D→Prop}{Q:VK}(S:SIx Z B md ρ σ H G fp)(m:Bool)(h:t (A5 md m ρ) P)
  (hq:∀d,P d→oU m d∧∀v G' H',SIx Z B md ρ σ H' G' fp→Ext G H G' H'→Dv Z G' v d→Q v H'):cY Z t σ H Q:=by
 cases m with
 |false=>exact ⟨G,_,P,S.ex.sub,S.EB,h,λd hd v G' H' x dv=>(hq d hd).2 v G' H' (S.grow x) x dv⟩
 |true=>
  obtain ⟨s1,s2,e⟩:=S.JO;refine ⟨gT G H fp,_,P,s2,e,h,λd hd v G' H' x dv=>?_⟩;obtain ⟨x',k⟩:=S.QP x;exact (hq d hd).2 v _ H' (S.grow x') x' (dv.lH k (hq d hd).1)
theorem SIx.OH{t:cW}{P:Bool→Prop}{Q:Bool→Hp→Prop}(S:SIx Z B md ρ σ H G fp)(h:t ρ P)(hq:∀b,P b→∀H',SIx Z B md ρ σ H' G fp→Q b H'):liftT Z t σ H Q:=
 ⟨H,ρ,P, .refl _,S.EA,h,λb hb G' H' x=>hq b hb H' (S.grow (Ext.all S.ex.sub x))⟩
theorem SIx.yT{i:Nat}{v:V}{d:D}(S:SIx Z B md ρ σ H G fp)(hm:md.getD i 0=0)(dv:Dv Z G v d):SIx Z B md (ρ.set i (some d)) (σ.set i (some v)) H G (λj=>if j=i then [] else fp j) where
 ex:=S.ex
 fl:=S.fl
 len:=by rw [kL,kL];exact S.len
 at_:=λj c h=>by
  by_cases z:i=j
  ·subst z
   by_cases hi:i<ρ.length
   ·rw [pU hi] at h
    cases h;exact ⟨v,pU (by rw [←S.len];exact hi),by rw [hm,if_pos rfl];exact ⟨dv,rfl⟩⟩
   ·rw [B4 (nu hi),i9 (nu hi)] at h;cases h
  ·rw [vU z] at h ⊢
   rw [if_neg (Ne.symm z)];exact S.at_ j c h
 nd:=λj=>by split;exact kN;exact S.nd j
 ap:=λj k b ne hj hk=>by
  split at hj
  ·cases hj
  ·split at hk
   ·cases hk
   ·exact S.ap j k b ne hj hk
 nw:=λj b hb=>by
  split at hb
  ·cases hb
  ·exact S.nw j b hb
theorem SIx.J8{i n:Nat}{v:V}{d:D}{f:List Addr}(S:SIx Z B md ρ σ H G fp)(hm:md.getD i 0=n)(o:Own Z G H n v d f)(nd:f.Nodup)(nw:∀b∈f,B.H₀ b=none∧H b≠none∧G b=none)(ap:∀b∈f,∀j,j≠i→b∉fp j):
  SIx Z B md (ρ.set i (some d)) (σ.set i (some v)) H G (λj=>if j=i then f else fp j) where
 ex:=S.ex
 fl:=S.fl
 len:=by rw [kL,kL];exact S.len
 at_:=λj c h=>by
  by_cases z:i=j
  ·subst z
   by_cases hi:i<ρ.length
   ·rw [pU hi] at h
    cases h;exact ⟨v,pU (by rw [←S.len];exact hi),by rw [hm,if_pos rfl];exact o⟩
   ·rw [B4 (nu hi),i9 (nu hi)] at h;cases h
  ·rw [vU z] at h ⊢
   rw [if_neg (Ne.symm z)];exact S.at_ j c h
 nd:=λj=>by split;exact nd;exact S.nd j
 ap:=λj k b ne hj hk=>by
  split at hj
  ·next z=>
   rw [if_neg (λw=>ne (z.trans w.symm))] at hk;exact ap b hj k (λw=>ne (z.trans w.symm)) hk
  ·next z=>
   split at hk
   ·exact ap b hk j z hj
   ·exact S.ap j k b ne hj hk
 nw:=λj b hb=>by
  split at hb
  ·exact nw b hb
  ·exact S.nw j b hb
noncomputable def plus(G H:Hp)(F:Addr→Prop):Hp:=λb=>open Classical in if F b then H b else G b
theorem lN{F:Addr→Prop}{b:Addr}(h:F b):plus G H F b=H b:=by unfold plus;rw [if_pos h]
theorem jJ{F:Addr→Prop}{b:Addr}(h:¬F b):plus G H F b=G b:=by unfold plus;rw [if_neg h]
theorem jK{F:Addr→Prop}(s:aH G H):aH (plus G H F) H:=λb o e=>by
 by_cases h:F b
 ·rw [lN h] at e;exact e
 ·rw [jJ h] at e;exact s _ _ e
theorem h7{F:Addr→Prop}(s:aH G H):aH G (plus G H F):=λb o e=>by
 by_cases h:F b
 ·rw [lN h];exact s _ _ e
 ·rw [jJ h];exact e
theorem SIx.Ue{t:bh}{P:D→Prop}{Q:VK}(S:SIx Z B md ρ σ H G fp)(h:t ρ P)(hq:∀d,P d→∀v G' H',Ext B.G₀ B.H₀ G' H'→Dv Z G' v d→Q v H'):cY Z t σ H Q:=by
 let F:Addr→Prop:=λb=>∃i,b∈fp i
 have s:=S.ex.sub
 have x0:Ext B.G₀ B.H₀ (plus G H F) H:=⟨S.ex.gg.trans (h7 s),jK s,S.ex.hh,λb hb hg=>by
  rw [jJ (λ⟨i,hi⟩=>hb (S.nw i b hi).1)];exact S.ex.off b hb hg⟩
 refine ⟨plus G H F,ρ,P,jK s,⟨S.len,λi d h=>?_⟩,h,λd hd v G' H' x dv=>hq d hd v G' H' (x0.trans x) dv⟩;obtain ⟨v,hv,o⟩:=S.at_ i d h;exact ⟨v,hv,o.dv (h7 s) λb hb u e=>by rw [lN ⟨i,hb⟩];exact e⟩
end
structure gh where
 nx:DN→Prop
 rt:D→Prop
 bk:DN→Prop:=λ_=>False
 ct:DN→Prop:=λ_=>False
abbrev eD:=gh→DN→Prop
structure Meets (Z:DC) (B:Bs) (md:List Nat) (rn:Nat) (E:gh) (Dn:Ends):Prop where
 nx:∀ρ,E.nx ρ→∀σ H,SI Z B md ρ σ H→Dn.nx σ H
 rt:∀d,E.rt d→∀v f G' H',Ext B.G₀ B.H₀ G' H'→Own Z G' H' rn v d f→f.Nodup→(∀b∈f,B.H₀ b=none∧H' b≠none∧G' b=none)→Dn.rt v H'
 bk:∀ρ,E.bk ρ→∀σ H,SI Z B md ρ σ H→Dn.bk σ H
 ct:∀ρ,E.ct ρ→∀σ H,SI Z B md ρ σ H→Dn.ct σ H
def nY(Z:DC)(md:List Nat)(rn:Nat)(t:eD):TS:=λDn σ H=>∃(B:Bs)(ρ:DN)(E:gh),SI Z B md ρ σ H∧t E ρ∧Meets Z B md rn E Dn
def DSt(Z:DC)(X:Cx)(md:List Nat)(rn:Nat)(st:Stmt)(t:eD):Prop:=PS X st (nY Z md rn t)
def sm(Z:DC)(X:Cx)(md:List Nat)(rn:Nat)(IY:List Stmt)(t:eD):Prop:=kX X IY (nY Z md rn t)
theorem PS.imp{X:Cx}{st:Stmt}{t t':TS}(h:PS X st t)(f:∀D σ H,t' D σ H→t D σ H):PS X st t':=λpins s σ H D I q=>h pins s σ H D I (f _ _ _ q)
theorem kX.imp{X:Cx}{st:List Stmt}{t t':TS}(h:kX X st t)(f:∀D σ H,t' D σ H→t D σ H):kX X st t':=λpins s σ H D I q=>h pins s σ H D I (f _ _ _ q)
section
variable {Z:DC} {X:Cx} {md:List Nat} {rn:Nat} {st:Stmt} {IY:List Stmt} {t u:eD} {e:Expr} {te:bh} {pos:Pos}
def Ej:eD:=λE ρ=>E.nx ρ
def qN(t u:eD):eD:=λE ρ=>t {E with nx:=u E} ρ
theorem bH:sm Z X md rn [] Ej:=F4.imp λD σ H ⟨B,ρ,E,S,h,M⟩=>M.nx _ h _ _ S
theorem ah(h1:DSt Z X md rn st t)(h2:sm Z X md rn IY u):sm Z X md rn (st::IY) (qN t u):=
 (jL h1 h2).imp λD σ H ⟨B,ρ,E,S,h,M⟩=>⟨B,ρ,_,S,h,⟨λaC h' ay H' S'=>⟨B,aC,E,S',h',M⟩,M.rt,M.bk,M.ct⟩⟩
theorem ar(h1:DSt Z X md rn st t):sm Z X md rn [st] t:=yN h1
theorem u7:DSt Z X md rn st (λ_ _=>False):=C2.imp λD σ H ⟨B,ρ,E,S,h,M⟩=>h
def Ob(te:bh):eD:=λE ρ=>te ρ E.rt
theorem aM(he:DE Z X e te):DSt Z X md 0 (.Return (some e) pos) (Ob te):=(BM he).imp λD σ H ⟨B,ρ,E,⟨G,fp,S⟩,h,M⟩=>S.Ue h λd hd v G' H' x dv=>M.rt d hd v [] G' H' x ⟨dv,rfl⟩ kN (λb hb=>by cases hb)
def JH(c:cW)(t u:eD):eD:=λE ρ=>c ρ λb=>if b=true then t E ρ else u E ρ
theorem cL{c:Expr}{a b:List Stmt}{tc:cW}(hc:DT Z X c tc)(ha:sm Z X md rn a t)(hb:sm Z X md rn b u):DSt Z X md rn (.If c a b pos) (JH tc t u):=by
 refine (Mh hc ha hb).imp ?_;rintro D σ H ⟨B,ρ,E,⟨G,fp,S⟩,h,M⟩;refine S.OH h λb hb H' S'=>?_;cases b with
 |true=>exact ed ⟨B,ρ,E,⟨G,fp,S'⟩,(by simpa using hb),M⟩
 |false=>exact cO ⟨B,ρ,E,⟨G,fp,S'⟩,(by simpa using hb),M⟩
def Em(md:List Nat)(m:Bool)(i:Nat)(te:bh):eD:=λE ρ=>te (A5 md m ρ) λd=>oU m d∧E.nx (ρ.set i (some d))
theorem aF(m:Bool)(i:Nat){x:Str}{pos':Pos}(hN:X.N.Nodup)(he:DE Z X e te)(hm:md.getD i 0=0:=by rfl)(hi:X.N[i]? =some x:=by rfl)(hx:Loc X.env.scope x:=by first|exact Or.inl rfl|exact Or.inr rfl)(hs:swapsWith e (some (.Name x pos')) pos.line X.env=pure false:=by rfl)
  (hf:X.fn x=true∨X.env.scope.names.lookup x=some .local:=by first|exact .inl rfl|exact .inr rfl|assumption):DSt Z X md rn (.Assign [.Name x pos'] e pos) (Em md m i te):=by
 refine (r9 hN hi hx he hs hf).imp ?_;rintro D σ H ⟨B,ρ,E,⟨G,fp,S⟩,h,M⟩;exact S.ev m h λd hd=>⟨hd.1,λv G' H' S' x dv=>M.nx _ hd.2 _ _ ⟨G',_,S'.yT hm dv⟩⟩
theorem Cm(i:Nat){x:Str}{px gM:Pos}{tg iter elt:Expr}{ifs:List Expr}{scope:Scope}{NC:List Str}{src:List (Option Nat)}{wi:gE}{g:dj}{tt:cW}(hc:X.calm=true)(hN:X.N.Nodup)(c:bW X scope)(dg:cE scope X.N src NC)(hi:DI Z X tg iter wi)
  (hg:∀ex s H,DG Z (bP X scope NC ex s H) tg g) (ht:∀ex s H,rm Z (bP X scope NC ex s H) ifs tt) (he:∀ex s H,DE Z (bP X scope NC ex s H) elt te)
  (j6:swapsWith (.ListComp elt [⟨tg,iter,ifs,0⟩] scope pos) (some (.Name x px)) gM.line X.env=pure true:=by rfl) (hm:md.getD i 0=0:=by rfl) (lF:X.N[i]? =some x:=by rfl) (hx:Loc X.env.scope x:=by first|exact Or.inl rfl|exact Or.inr rfl)
  (hf:X.fn x=true∨X.env.scope.names.lookup x=some .local:=by first|exact .inl rfl|exact .inr rfl|assumption)
  (hs:∀x,foldedSetIterable iter X.env x=pure x:=by intro _;rfl):DSt Z X md rn (.Assign [.Name x px] (.ListComp elt [⟨tg,iter,ifs,0⟩] scope pos) gM) (Em md false i (KR wi g tt te src)):=by
 refine (vL hc hN lF hx c dg hi hg ht he j6 hf hs).imp ?_;rintro D σ H ⟨B,ρ,E,⟨G,fp,S⟩,h,M⟩;refine Bv σ H _ (S.ev false h λd hd=>⟨hd.1,λv G' H' S' x dv=>M.nx _ hd.2 _ _ ⟨G',_,S'.yT hm dv⟩⟩)
end
end L2
namespace L2
open PySem PySem.Spec PyProof.Rows
section
variable {Z:DC} {X:Cx} {B:Bs} {md:List Nat} {rn:Nat} {ρ:DN} {σ:St} {H G:Hp} {fp:Nat→List Addr}
def Bu(Z:DC)(md:List Nat)(g:dj):TG:=λv σ H Q=>∃(B:Bs)(ρ:DN)(d:D)(P:DN→Prop)(G:Hp)(fp:Nat→List Addr),SIx Z B md ρ σ H G fp∧Dv Z G v d∧g d ρ P∧∀aC,P aC→∀ay zM,SIx Z B md aC ay H G zM→Q ay H
def Fq(Z:DC)(md:List Nat)(g:kv):uK:=λvs σ H Q=>∃(B:Bs)(ρ:DN)(ds:List D)(P:DN→Prop)(G:Hp)(fp:Nat→List Addr),SIx Z B md ρ σ H G fp∧au Z G vs ds∧g ds ρ P∧∀aC,P aC→∀ay zM,SIx Z B md aC ay H G zM→Q ay H
def B7(Z:DC)(X:Cx)(md:List Nat)(e:Expr)(g:dj):Prop:=PG X e (Bu Z md g)
def Ba(Z:DC)(X:Cx)(md:List Nat)(es:List Expr)(g:kv):Prop:=we X es (Fq Z md g)
theorem aQ(i:Nat){x:Str}{pos:Pos}(hN:X.N.Nodup)(hm:md.getD i 0=0:=by rfl)(hi:X.N[i]? =some x:=by rfl)(hx:Loc X.env.scope x:=by first|exact Or.inl rfl|exact Or.inr rfl)(hf:X.fn x=true∨X.env.scope.names.lookup x=some .local:=by first|exact .inl rfl|exact .inr rfl|assumption):B7 Z X md (.Name x pos) (rV i):=
 (yH hN hi hx hf).imp λv σ H Q ⟨B,ρ,d,P,G,fp,S,dv,h,q⟩=>q _ h _ _ (S.yT hm dv)
theorem dk:Ba Z X md [] Er:=yI.imp λv σ H Q ⟨B,ρ,ds,P,G,fp,S,dv,⟨h,p⟩,q⟩=>by
 subst h;cases dv;exact ⟨rfl,q _ p _ _ S⟩
theorem bu{e:Expr}{es:List Expr}{g:dj}{gs:kv}(h1:B7 Z X md e g)(h2:Ba Z X md es gs)(hs:(assignEach (e::es) X.env).map (·.2)=assign e X.env::(assignEach es X.env).map (·.2):=by rfl):Ba Z X md (e::es) (Bk g gs):=by
 refine (vI h1 h2 hs).imp ?_;rintro v σ H Q ⟨B,ρ,ds,P,G,fp,S,dv,h,q⟩;cases dv with
 |nil=>exact h.elim
 |cons a as=>exact ⟨_,_,rfl,B,ρ,_,_,G,fp,S,a,h,λaC hp ay zM S'=>⟨B,aC,_,P,G,zM,S',as,hp,q⟩⟩
theorem fN(n:Nat){es:List Expr}{k:Nat}{pos:Pos}{gs:kv}(hc:X.calm=true)(h:Ba Z X md es gs)(hn:(assignEach es X.env).length=n:=by rfl)(mN:(assignEach es X.env).findIdx? (·.1)=none:=by rfl):B7 Z X md (.Tuple es k pos) (Es n gs):=by
 refine (BJ hc h hn mN).imp ?_;rintro v σ H Q ⟨B,ρ,d,P,G,fp,S,dv,h,q⟩;cases dv<;>first|exact h.elim|skip
 rename_i a xs ds ha es
 exact ⟨a,xs,rfl,fL.of (S.ex.sub _ _ ha),by rw [es.length];exact h.1,B,ρ,_,P,G,fp,S,es,h.2,q⟩
def NW(md:List Nat)(te:bh)(g:dj):eD:=λE ρ=>te (dU md ρ) λd=>g d ρ E.nx
theorem wD{tg e:Expr}{te:bh}{g:dj}{pos:Pos}(he:DE Z X e te)(hg:B7 Z X md tg g)(hs:swapsWithSole [tg] e pos.line X.env=pure false:=by rfl)(hw:swappedStores [tg] e X.env=pure none:=by rfl)
  (h1:(assignEach [tg] X.env).map (·.2)= [assign tg X.env]:=by rfl):DSt Z X md rn (.Assign [tg] e pos) (NW md te g):=by
 refine (xg he hg hs hw h1).imp ?_;rintro D σ H ⟨B,ρ,E,⟨G,fp,S⟩,h,M⟩;exact S.ev false h λd hd=>⟨trivial,λv G' H' S' x dv=>⟨B,ρ,d,E.nx,G',fp,S',dv,hd,λaC h' ay zM S2=>M.nx _ h' _ _ ⟨G',zM,S2⟩⟩⟩
def lD(g:dj)(tb:eD)(E:gh):List D→DN→Prop
 | [],ρ=>E.nx ρ
 |x::xs,ρ=>g x ρ λaW=>tb {nx:=lD g tb E xs,ct:=lD g tb E xs,bk:=E.nx,rt:=E.rt} aW
def JG(md:List Nat)(m:Bool)(wi:gE)(g:dj)(tb:eD):eD:=λE ρ=>wi (A5 md m ρ) λds=>lD g tb E ds ρ
theorem vj{D':Ends}{J:It}{ds:List D}{g:dj}{tb:eD}{E:gh}(S:SIx Z B md ρ σ H G fp)(it:su Z G J ds)(hd:lD g tb E ds ρ)(M:Meets Z B md rn E D'):
  ∃W:Nat→Nat→St→Hp→Prop,(∃m,W 0 m σ H)∧∀i m σ H,W i m σ H→
   (J.stop i H∧D'.nx σ H)∨(J.go i H∧∃N:St→Hp→Prop,(∀ay H',N ay H'→∃m',m'<m∧W (i+1) m' ay H')∧∀x H',J.yld i H x H'→Bu Z md g x σ H' λdX H2=>nY Z md rn tb {D' with nx:=N,ct:=N,bk:=D'.nx} dX H2):=by
 let B1:Bs:={B with Gf:=G}
 have back:∀ρ σ H,SI Z B1 md ρ σ H→SI Z B md ρ σ H:=λρ σ H ⟨G2,zN,S2⟩=>⟨G2,zN,⟨S2.ex,S.fl.trans S2.fl,S2.len,S2.at_,S2.nd,S2.ap,S2.nw⟩⟩;have S1:SIx Z B1 md ρ σ H G fp:=⟨S.ex, .refl _,S.len,S.at_,S.nd,S.ap,S.nw⟩;refine ⟨λi m σ H=>m=ds.length-i∧i≤ds.length∧∃ρ,SI Z B1 md ρ σ H∧lD g tb E (ds.drop i) ρ,⟨_,rfl,cn _,ρ,⟨G,fp,S1⟩,hd⟩,?_⟩;rintro i m dX H2 ⟨rfl,hi,cz,⟨G2,zN,S2⟩,hf⟩;obtain ⟨go,stop,yld⟩:=it G2 H2 S2.fl S2.ex.sub i
 by_cases b0:i<ds.length
 ·refine .inr ⟨go b0,λay H'=>∃aC,SI Z B1 md aC ay H'∧lD g tb E (ds.drop (i+1)) aC,λay H' n=>⟨ds.length-(i+1),by omega,rfl,b0,n⟩,λx H' y=>?_⟩
  obtain ⟨G3,d,x3,ER,dv⟩:=yld x H' b0 y;rw [jw ER] at hf;refine ⟨B1,cz,d,_,G3,zN,S2.grow x3,dv,hf,λYg h4 eF Uk S4=>?_⟩;exact ⟨B1,Yg,_,⟨G3,Uk,S4⟩,h4,⟨λaC h' ay H' s'=>⟨aC,s',h'⟩,M.rt,λaC h' ay H' s'=>M.nx _ h' _ _ (back _ _ _ s'),λaC h' ay H' s'=>⟨aC,s',h'⟩⟩⟩
 ·have e:ds.drop i= []:=uz (by omega)
  rw [e] at hf;exact .inl ⟨stop (by omega),M.nx _ hf _ _ (back _ _ _ ⟨G2,zN,S2⟩)⟩
variable {tg iter:Expr} {body:List Stmt} {wi:gE} {g:dj} {tb:eD} {pos:Pos}
theorem eZ(hc:X.calm=true)(hp:PassesOwn (model X.prog X.w) X.A X.env X.xe)(hi:DI Z X tg iter wi)(hg:B7 Z X md tg g)(hb:sm Z X md rn body tb)
  (hs:∀x,foldedSetIterable iter X.env x=pure x:=by intro _;rfl):DSt Z X md rn (.For tg iter body [] pos) (JG md false wi g tb):=by
 refine (BL hp hc hi hg hb hs).imp ?_;rintro D σ H ⟨B,ρ,E,⟨G,fp,S⟩,h,M⟩;exact ⟨G,_,_,S.ex.sub,S.EB,h,λds hd J G1 H1 x1 it=>vj (S.grow x1) it hd M⟩
def HW(Z:DC)(wi:gE):TI:=λσ H R=>∃(G:Hp)(ρ:DN)(P:List D→Prop),aH G H∧cR Z G σ ρ∧wi ρ P∧∀ds,P ds→∀J G' H',Ext G H G' H'→(∀G2,su Z G2 J ds)→R J H'
def Ke(Z:DC)(X:Cx)(tg e:Expr)(wi:gE):Prop:=PI X tg e (HW Z wi)
theorem oQ(hc:X.calm=true)(hp:PassesOwn (model X.prog X.w) X.A X.env X.xe)(hi:Ke Z X tg iter wi)(hg:B7 Z X md tg g)(hb:sm Z X md rn body tb)
  (hs:∀x,foldedSetIterable iter X.env x=pure x:=by intro _;rfl):DSt Z X md rn (.For tg iter body [] pos) (JG md true wi g tb):=by
 refine (BL hp hc hi hg hb hs).imp ?_;rintro D σ H ⟨B,ρ,E,⟨G,fp,S⟩,h,M⟩;exact ⟨H,ρ,_, .refl _,S.EA,h,λds hd J G1 H1 x1 it=>vj (S.grow (Ext.all S.ex.sub x1)) (it _) hd M⟩
variable {a b e:Expr} {ta te:bh} {t:ib}
theorem nK{p:Pos}(hg:Gl X "range")(hm:X.mg "range"=none)(ha:DA Z X [a] t)(hs:starEach [a] X.env= [(false,eval a X.env)]:=by rfl):Ke Z X tg (.Call (.Name "range" p) [a] [] pos) (JL t):=by
 refine (t9 hg hm ha hs).imp ?_;rintro σ H Q ⟨G,ρ,P,s,en,h,q⟩;refine ⟨G,ρ,_,s,en,h,λds hd vs G1 H1 x1 dv=>?_⟩
 split at hd
 ·obtain ⟨_,rfl,a⟩:=dv.ofOne
  exact ⟨_,by rw [a.ofInt],hd.1.1,hd.1.2,q _ hd.2 _ G1 H1 x1 λ_=>my 0 _⟩
 ·exact hd.elim
theorem zB{p:Pos}(hg:Gl X "range")(hm:X.mg "range"=none)(ha:DA Z X [a,b] t)(hs:starEach [a,b] X.env= [(false,eval a X.env),(false,eval b X.env)]:=by rfl)(j5:starEach [b] X.env= [(false,eval b X.env)]:=by rfl):Ke Z X tg (.Call (.Name "range" p) [a,b] [] pos) (JM t):=by
 refine (ua hg hm ha hs j5).imp ?_;rintro σ H Q ⟨G,ρ,P,s,en,h,q⟩;refine ⟨G,ρ,_,s,en,h,λds hd vs G1 H1 x1 dv=>?_⟩
 split at hd
 ·obtain ⟨u1,u2,rfl,da,db⟩:=dv.FG
  exact ⟨_,_,by rw [da.ofInt,db.ofInt],hd.1,q _ hd.2 _ G1 H1 x1 λ_=>my _ _⟩
 ·exact hd.elim
def Bf(c:cW)(tb:eD):eD:=λE ρ=>∃W:Nat→DN→Prop,(∃m,W m ρ)∧∀m ρ,W m ρ→c ρ λb=>if b=true then tb {nx:=λaC=>∃m',m'<m∧W m' aC,ct:=λaC=>∃m',m'<m∧W m' aC,bk:=E.nx,rt:=E.rt} ρ else E.nx ρ
theorem qg{c:Expr}{tc:cW}(hp:PassesOwn (model X.prog X.w) X.A X.env X.xe)(hc:DT Z X c tc)(hb:sm Z X md rn body tb):DSt Z X md rn (.While c body [] pos) (Bf tc tb):=by
 refine (C3 hp hc hb).imp ?_;rintro D σ H ⟨B,ρ,E,S,⟨W,⟨m0,w0⟩,turn⟩,M⟩;refine ⟨λm σ H=>∃ρ,SI Z B md ρ σ H∧W m ρ,⟨m0,ρ,S,w0⟩,?_⟩;rintro m dX H2 ⟨cz,⟨G2,zN,S2⟩,w2⟩;refine S2.OH (turn m cz w2) λb hb H' S'=>?_;cases b with
 |false=>exact cO (M.nx _ (by simpa using hb) _ _ ⟨G2,zN,S'⟩)
 |true=>
  refine ed ⟨λay H'=>∃aC m',m'<m∧SI Z B md aC ay H'∧W m' aC,λay H' ⟨aC,m',h1,h2,h3⟩=>⟨m',h1,aC,h2,h3⟩,B,cz,_,⟨G2,zN,S'⟩,(by simpa using hb),?_⟩
  exact ⟨λaC ⟨m',h1,h2⟩ ay H' s'=>⟨aC,m',h1,s',h2⟩,M.rt,M.nx,λaC ⟨m',h1,h2⟩ ay H' s'=>⟨aC,m',h1,s',h2⟩⟩
abbrev nF:=DN→(List D→Prop)→Prop
def tM(Z:DC)(n:Nat)(t:nF):TE:=λσ H Q=>∃(G:Hp)(ρ:DN)(P:List D→Prop),aH G H∧cR Z G σ ρ∧t ρ P∧∀ds,P ds→∀v f G' H',Ext G H G' H'→Own Z G' H' n v (.lst ds) f→f.Nodup→(∀b∈f,H b=none∧H' b≠none∧G' b=none)→Q v H'
def DF(Z:DC)(X:Cx)(n:Nat)(e:Expr)(t:nF):Prop:=PE X e (tM Z n t)
theorem Ext.side{p:Addr}{o:HO}{G1 H1:Hp}(x:Ext G H G1 H1)(hp:H1 p=none):Ext G H G1 (upd H1 p o):=
 ⟨x.gg,λb u e=>by rw [aD (aT e (x.sub.free hp))];exact x.sub _ _ e,x.hh.trans (aV hp _),x.off⟩
theorem t8{p:Addr}{xs:List V}{ds:List D}{G1 H1:Hp}(x:Ext G H G1 H1)(hp:H1 p=none)(dv:au Z G1 xs ds):
  Own Z G1 (upd H1 p (.lst xs)) 1 (.ref p) (.lst ds) [p]∧([p]:List Addr).Nodup∧∀b∈([p]:List Addr),H b=none∧(upd H1 p (.lst xs)) b≠none∧G1 b=none:=by
 refine ⟨.inl ⟨p,xs,ds,[],rfl,rfl,aB,rfl,dv.own⟩,by simp,λb hb=>?_⟩
 have:b=p:=by simpa using hb
 subst this;exact ⟨x.hh.free hp,(by rw [aB];exact λz=>nomatch z),x.sub.free hp⟩
def OJ(t:ib):nF:=λρ P=>t ρ λds=>ds.length≤sizeLine∧P ds
theorem oO{es:List Expr}(h:DA Z X es t):DF Z X 1 (.List es pos) (OJ t):=by
 refine (BG h).imp ?_;rintro σ H Q ⟨G,ρ,P,s,e,h,q⟩;refine ⟨G,ρ,_,s,e,h,?_⟩;rintro ds ⟨hl,hp⟩ vs G1 H1 x1 bz;refine ⟨by rw [bz.length];exact hl,λp kQ=>?_⟩
 obtain ⟨o1,o2,o3⟩:=t8 x1 kQ bz;exact q _ hp _ _ _ _ (x1.side kQ) o1 o2 o3
def K9(wi:gE)(g:dj)(tt:cW)(te:bh)(src:List (Option Nat)):nF:=λρ P=>wi ρ λds=>lcW g tt te ds (ui src ρ) [] λ_ out=>P out
theorem yr{src:List (Option Nat)}{tt:cW}:∀σ H Q,tM Z 1 (K9 wi g tt te src) σ H Q→I0 (nX Z wi) (lG Z g) (liftT Z tt) (cY Z te) src σ H Q:=by
 rintro σ H Q ⟨G,ρ,P,s,en,h,q⟩;refine ⟨G,ρ,_,s,en,h,λds hd J G1 H1 x1 it Ad hA=>?_⟩;refine ⟨λi m dX H2=>m=ds.length-i∧i≤ds.length∧∃cz acc,CS Z G1 H1 Ad cz acc dX H2∧lcW g tt te (ds.drop i) cz acc λ_ out=>P out,⟨_,rfl,cn _,_,[], .begin x1.sub hA ((en.mono x1.gg).src src),hd⟩,?_⟩;rintro i m dX H2 ⟨rfl,hi,cz,acc,c,hl⟩
 by_cases b0:i<ds.length
 ·obtain ⟨go,turn⟩:=vx hA G1 it i cz acc dX H2 c (λ_ s=>s) b0 hl
  exact .inr ⟨go,_,λay H' n=>⟨ds.length-(i+1),by omega,rfl,b0,n⟩,turn⟩
 ·have e:ds.drop i= []:=uz (by omega)
  rw [e] at hl;obtain ⟨G2,ys,s1,s2,s3,off,gA,j4,bz,en⟩:=c;refine .inl ⟨(it G2 H2 s1 s2 i).2.1 (by omega),q _ hl (.ref Ad) [Ad] G2 H2 ⟨x1.gg.trans s1,s2,x1.hh.trans s3,λb hb hg=>off b (eQ x1.hh hb) (x1.off b hb hg)⟩ (.inl ⟨Ad,ys,acc,[],rfl,rfl,j4,rfl,bz.own⟩) (by simp) λb hb=>?_⟩
  have:b=Ad:=by simpa using hb
  subst this;exact ⟨x1.hh.free hA,(by rw [j4];exact λz=>nomatch z),gA⟩
variable {elt:Expr} {ifs:List Expr} {scope:Scope} {NC:List Str} {src:List (Option Nat)} {tt:cW}
def Ei(md:List Nat)(i:Nat)(t:nF):eD:=λE ρ=>t (dU md ρ) λds=>E.nx (ρ.set i (some (.lst ds)))
theorem qv{n i:Nat}{t:nF}{D':Ends}{E:gh}(hm:md.getD i 0=n)(S:SIx Z B md ρ σ H G fp)(h:t (dU md ρ) λds=>E.nx (ρ.set i (some (.lst ds))))(M:Meets Z B md rn E D'):tM Z n t σ H λv H'=>D'.nx (σ.set i (some v)) H':=by
 refine ⟨G,_,_,S.ex.sub,S.EB,h,λds hd v f G' H' x o nd nw=>?_⟩;refine M.nx _ hd _ _ ⟨G',_,(S.grow x).J8 hm o nd (λb hb=>⟨S.ex.hh.free (nw b hb).1,(nw b hb).2⟩) λb hb j _ hj=>(S.nw j b hj).2.1 (nw b hb).1⟩
theorem oR(i:Nat){n:Nat}{x:Str}{pos':Pos}{t:nF}(hN:X.N.Nodup)(he:DF Z X n e t)(hm:md.getD i 0=n:=by rfl)(hi:X.N[i]? =some x:=by rfl)(hx:Loc X.env.scope x:=by first|exact Or.inl rfl|exact Or.inr rfl)(hs:swapsWith e (some (.Name x pos')) pos.line X.env=pure false:=by rfl)
  (hf:X.fn x=true∨X.env.scope.names.lookup x=some .local:=by first|exact .inl rfl|exact .inr rfl|assumption):DSt Z X md rn (.Assign [.Name x pos'] e pos) (Ei md i t):=by
 refine (r9 hN hi hx he hs hf).imp ?_;rintro D σ H ⟨B,ρ,E,⟨G,fp,S⟩,h,M⟩;exact qv hm S h M
theorem u9(i:Nat){x:Str}{px gM:Pos}(hc:X.calm=true)(hN:X.N.Nodup)(c:bW X scope)(dg:cE scope X.N src NC)(hi:DI Z X tg iter wi)
  (hg:∀ex s H,DG Z (bP X scope NC ex s H) tg g) (ht:∀ex s H,rm Z (bP X scope NC ex s H) ifs tt) (he:∀ex s H,DE Z (bP X scope NC ex s H) elt te)
  (j6:swapsWith (.ListComp elt [⟨tg,iter,ifs,0⟩] scope pos) (some (.Name x px)) gM.line X.env=pure true:=by rfl) (hm:md.getD i 0=1:=by rfl) (lF:X.N[i]? =some x:=by rfl) (hx:Loc X.env.scope x:=by first|exact Or.inl rfl|exact Or.inr rfl)
  (hf:X.fn x=true∨X.env.scope.names.lookup x=some .local:=by first|exact .inl rfl|exact .inr rfl|assumption)
  (hs:∀x,foldedSetIterable iter X.env x=pure x:=by intro _;rfl):DSt Z X md rn (.Assign [.Name x px] (.ListComp elt [⟨tg,iter,ifs,0⟩] scope pos) gM) (Ei md i (K9 wi g tt te src)):=by
 refine (vL hc hN lF hx c dg hi hg ht he j6 hf hs).imp ?_;rintro D σ H ⟨B,ρ,E,⟨G,fp,S⟩,h,M⟩;exact yr σ H _ (qv hm S h M)
end
section
variable {Z:DC} {X:Cx} {B:Bs} {md:List Nat} {rn:Nat} {ρ:DN} {σ:St} {H G:Hp} {fp:Nat→List Addr} {a e k o:Expr} {ta te tk tp:bh} {pos apos bo p2:Pos}
theorem SIx.mut{i:Nat}{v:V}{d':D}{b:Addr}{c:HO}(S:SIx Z B md ρ σ H G fp)(hi:σ[i]? =some (some v))(hb:b∈fp i)(o:Own Z G (upd H b c) (md.getD i 0) v d' (fp i)):SIx Z B md (ρ.set i (some d')) σ (upd H b c) G fp where
 ex:=by
  obtain ⟨h1,h2,h3⟩:=S.nw i b hb;exact ⟨S.ex.gg,λx u e=>by rw [aD (aT e h3)];exact S.ex.sub _ _ e,λx u e=>by rw [aD (aT e h1)];exact S.ex.hh _ _ e,S.ex.off⟩
 fl:=S.fl
 len:=by rw [kL];exact S.len
 at_:=λj w h=>by
  by_cases z:i=j
  ·subst z
   by_cases hl:i<ρ.length
   ·rw [pU hl] at h
    cases h;exact ⟨v,hi,o⟩
   ·rw [B4 (nu hl),i9 (nu hl)] at h;cases h
  ·rw [vU z] at h
   obtain ⟨u,hu,ow⟩:=S.at_ j w h;exact ⟨u,hu,ow.keep (.refl _) λx hx=>aD λq=>S.ap i j b z hb (by rw [←q];exact hx)⟩
 nd:=S.nd
 ap:=S.ap
 nw:=λj x hx=>by
  obtain ⟨h1,h2,h3⟩:=S.nw j x hx;refine ⟨h1,?_,h3⟩
  by_cases z:x=b
  ·rw [z,aB];exact λq=>nomatch q
  ·rw [aD z];exact h2
theorem SIx.one{i:Nat}{d:D}(S:SIx Z B md ρ σ H G fp)(hm:md.getD i 0=1)(h:ρ[i]? =some (some d)):∃l xs ds,d= .lst ds∧σ[i]? =some (some (.ref l))∧H l=some (.lst xs)∧au Z G xs ds∧
  ∀oF oP,au Z G oF oP→SIx Z B md (ρ.set i (some (.lst oP))) σ (upd H l (.lst oF)) G fp:=by
 obtain ⟨v,hv,o⟩:=S.at_ i d h;rw [hm] at o;obtain ⟨l,xs,ds,oW,rfl,rfl,hl,hf,ol⟩:=o.one;obtain ⟨dv,rfl⟩:=ol.flat;refine ⟨l,xs,ds,rfl,hv,hl,dv,λoF oP wF=>S.mut hv (by rw [hf];simp) ?_⟩
 rw [hm,hf];exact .inl ⟨l,oF,oP,[],rfl,rfl,aB,rfl,wF.own⟩
theorem ty_list{K:PySem.W.Frag}{l:Addr}{xs:List V}(h:H l=some (.lst xs)):Je K "list" (.ref l) H:= .inl ⟨rfl,_,cD.of h⟩
def NV(md:List Nat)(m:Bool)(i:Nat)(te:bh):eD:=λE ρ=>∃ds,ρ[i]? =some (some (.lst ds))∧te (A5 md m ρ) λd=>oU m d∧ds.length<sizeLine∧E.nx (ρ.set i (some (.lst (ds++ [d]))))
theorem rW(m:Bool)(i:Nat){x:Str}{px:Pos}(he:DE Z X e te)(hm:md.getD i 0=1:=by rfl)(hi:X.N[i]? =some x:=by rfl)(hv:sC X.env.scope x:=by first|exact Or.inl rfl|exact Or.inr (Or.inl rfl) |exact Or.inr (Or.inr rfl))(hd:(x==("__debug__":Str))=false:=by decide)(gu:(x==("__classdict__":Str))=false:=by decide)
  (eI:attributeBase (.Name x px) "append" X.env (eval (.Name x px) X.env)=eval (.Name x px) X.env:=by rfl)
  (jz:((backTo bo (starEach [e] X.env)).all (λx=>!x.1)&&(backToKw bo (keywordEach [] X.env)).all (λx=>x.1.isSome)&&decide (([e]:List Expr).length+([]:List Keyword).length+(if ([]:List Keyword).isEmpty then 0 else 1)<30))=true:=by rfl)
  (dq:(apos.endLine==bo.line)=true:=by rfl) (hs:starEach [e] X.env=(false,eval e X.env)::starEach [] X.env:=by rfl) (e6:(backTo bo (starEach [] X.env)).any (·.1)=false:=by rfl)
  (j6:swapsWith (.Call (.Attribute (.Name x px) "append" apos) [e] [] bo) none pos.line X.env=pure false:=by rfl):
  DSt Z X md rn (.Expr (.Call (.Attribute (.Name x px) "append" apos) [e] [] bo) pos) (NV md m i te):=by
 refine (pH (xc PySem.F.plainAttrs_list PySem.F.slot_list_append PySem.F.type_list_append nZ (pv i hi hv hd gu) (fS he ke hs) eI jz dq hs e6) j6).imp ?_;rintro D σ H ⟨B,ρ,E,⟨G,fp,S⟩,⟨ds,h1,h⟩,M⟩;obtain ⟨l,xs,_,_,e2,e3,_⟩:=S.one hm h1;refine ⟨_,e2,ty_list e3,S.ev m h λd hd=>⟨hd.1,λv G' H' S' x dv=>?_⟩⟩;obtain ⟨_,h2,h3⟩:=hd;obtain ⟨l',oF,oP,e1,iN,rA,bz,put⟩:=S'.one hm h1;cases e1;rw [e2] at iN;cases iN;exact ⟨l,oF,v,rfl,rfl,rA,by rw [bz.length];exact h2,M.nx _ h3 _ _ ⟨G',fp,put _ _ (bz.snoc dv)⟩⟩
theorem au.ins{vs:List V}{ds:List D}{v:V}{d:D}(n:Nat)(h:au Z G vs ds)(dv:Dv Z G v d):au Z G (Wb.ins vs n v) (Wb.ins ds n d):=(h.take n).append (.cons dv (h.drop n))
def N0(md:List Nat)(m:Bool)(i:Nat)(tk te:bh):eD:=λE ρ=>∃ds,ρ[i]? =some (some (.lst ds))∧tk ρ λkk=>∃k,kk= .int k∧te (A5 md m ρ) λd=>oU m d∧(0≤k∧k≤ds.length∧ds.length<sizeLine)∧E.nx (ρ.set i (some (.lst (Wb.ins ds k.toNat d))))
theorem Hu(m:Bool)(i:Nat){x:Str}{px:Pos}(hk:DE Z X k tk)(he:DE Z X e te)(hm:md.getD i 0=1:=by rfl)(hi:X.N[i]? =some x:=by rfl)(hv:sC X.env.scope x:=by first|exact Or.inl rfl|exact Or.inr (Or.inl rfl) |exact Or.inr (Or.inr rfl))(hd:(x==("__debug__":Str))=false:=by decide)(gu:(x==("__classdict__":Str))=false:=by decide)
  (eI:attributeBase (.Name x px) "insert" X.env (eval (.Name x px) X.env)=eval (.Name x px) X.env:=by rfl)
  (jz:((backTo bo (starEach [k,e] X.env)).all (λx=>!x.1)&&(backToKw bo (keywordEach [] X.env)).all (λx=>x.1.isSome)&&decide (([k,e]:List Expr).length+([]:List Keyword).length+(if ([]:List Keyword).isEmpty then 0 else 1)<30))=true:=by rfl)
  (dq:(apos.endLine==bo.line)=true:=by rfl) (hs:starEach [k,e] X.env=(false,eval k X.env)::starEach [e] X.env:=by rfl) (j5:starEach [e] X.env=(false,eval e X.env)::starEach [] X.env:=by rfl) (e6:(backTo bo (starEach [e] X.env)).any (·.1)=false:=by rfl)
  (j6:swapsWith (.Call (.Attribute (.Name x px) "insert" apos) [k,e] [] bo) none pos.line X.env=pure false:=by rfl):
  DSt Z X md rn (.Expr (.Call (.Attribute (.Name x px) "insert" apos) [k,e] [] bo) pos) (N0 md m i tk te):=by
 refine (pH (xc PySem.F.plainAttrs_list PySem.F.slot_list_insert PySem.F.type_list_insert Ao (pv i hi hv hd gu) (fS hk (fS he ke j5) hs) eI jz dq hs e6) j6).imp ?_;rintro D σ H ⟨B,ρ,E,⟨G,fp,S⟩,⟨ds,h1,h⟩,M⟩;obtain ⟨l,xs,_,_,e2,e3,_⟩:=S.one hm h1;refine ⟨_,e2,ty_list e3,S.ev true h ?_⟩;rintro _ ⟨k,rfl,h⟩;refine ⟨rfl,λv1 G1 H1 S1 x1 zE=>S1.ev m h λd hd=>⟨hd.1,λv G' H' S' x dv=>?_⟩⟩;cases zE;obtain ⟨_,⟨h2,Up,OO⟩,h3⟩:=hd;obtain ⟨l',oF,oP,e1,iN,rA,bz,put⟩:=S'.one hm h1;cases e1;rw [e2] at iN;cases iN;exact ⟨l,oF,k,v,rfl,rfl,rA,h2,by rw [bz.length];exact Up,by rw [bz.length];exact OO,M.nx _ h3 _ _ ⟨G',fp,put _ _ (bz.ins _ dv)⟩⟩
theorem G9{α:Type}{xs:List α}{i:Int}{j n:Nat}{v:α}(hn:xs.length=n)(h:nV n i=some j)(e:xs[j]? =some v):fM xs i=some v:=by unfold fM;rw [hn,h];exact e
def Hl(md:List Nat)(m:Bool)(i:Nat)(tk te:bh):eD:=λE ρ=>te (A5 md m ρ) λd=>oU m d∧∃ds,ρ[i]? =some (some (.lst ds))∧tk ρ λkk=>∃k j,kk= .int k∧nV ds.length k=some j∧E.nx (ρ.set i (some (.lst (ds.set j d))))
theorem vc(m:Bool)(i:Nat){x:Str}{px ps:Pos}(hk:DE Z X k tk)(he:DE Z X e te)(hm:md.getD i 0=1:=by rfl)(hi:X.N[i]? =some x:=by rfl)(hv:sC X.env.scope x:=by first|exact Or.inl rfl|exact Or.inr (Or.inl rfl) |exact Or.inr (Or.inr rfl))(hd:(x==("__debug__":Str))=false:=by decide)(gu:(x==("__classdict__":Str))=false:=by decide)
  (ha:∀v,assign (.Subscript (.Name x px) k ps) X.env v=(do
   let ov ←holding [v] (eval (.Name x px) X.env)
   let iv ←holding [v,ov] (eval k X.env)
   standAt ps
   holding [v,ov,iv] (setItem ov iv v)
   release [v,ov,iv] []):=by intro _;rfl)
  (hs:swapsWithSole [.Subscript (.Name x px) k ps] e pos.line X.env=pure false:=by rfl) (hw:swappedStores [.Subscript (.Name x px) k ps] e X.env=pure none:=by rfl)
  (h1:(assignEach [.Subscript (.Name x px) k ps] X.env).map (·.2)= [assign (.Subscript (.Name x px) k ps) X.env]:=by rfl):DSt Z X md rn (.Assign [.Subscript (.Name x px) k ps] e pos) (Hl md m i tk te):=by
 refine (xg he (BI (pv i hi hv hd gu) hk set_list ha) hs hw h1).imp ?_;rintro D σ H ⟨B,ρ,E,⟨G,fp,S⟩,h,M⟩;refine S.ev m h λd hd=>⟨hd.1,λv G' H' S' x dv=>?_⟩;obtain ⟨_,ds,h1,h⟩:=hd;obtain ⟨l,xs,_,_,e2,e3,_⟩:=S'.one hm h1;refine ⟨_,e2,S'.ev true h ?_⟩;rintro _ ⟨k,j,rfl,hj,h3⟩;refine ⟨rfl,λv1 G1 H1 S1 x1 zE=>?_⟩;cases zE;obtain ⟨l',oF,oP,e1,iN,rA,bz,put⟩:=S1.one hm h1;cases e1;rw [e2] at iN;cases iN;exact ⟨l,oF,k,j,rfl,rfl,rA,by rw [bz.length];exact hj,M.nx _ h3 _ _ ⟨G1,fp,put _ _ (bz.set (dv.mono x1.gg) j)⟩⟩
def N9(md:List Nat)(i j:Nat):eD:=λE ρ=>∃ds d,ρ[j]? =some (some (.lst (ds++ [d])))∧E.nx ((ρ.set j (some (.lst ds))).set i (some d))
theorem Bn(i j:Nat){x y:Str}{px py:Pos}(hN:X.N.Nodup)(hm:md.getD i 0=0:=by rfl)(LJ:md.getD j 0=1:=by rfl)(hi:X.N[i]? =some x:=by rfl)(hx:Loc X.env.scope x:=by first|exact Or.inl rfl|exact Or.inr rfl)
  (hj:X.N[j]? =some y:=by rfl) (hv:sC X.env.scope y:=by first|exact Or.inl rfl|exact Or.inr (Or.inl rfl) |exact Or.inr (Or.inr rfl)) (hd:(y==("__debug__":Str))=false:=by decide) (gu:(y==("__classdict__":Str))=false:=by decide)
  (eI:attributeBase (.Name y py) "pop" X.env (eval (.Name y py) X.env)=eval (.Name y py) X.env:=by rfl) (dq:(apos.endLine==bo.line)=true:=by rfl)
  (hs:swapsWith (.Call (.Attribute (.Name y py) "pop" apos) [] [] bo) (some (.Name x px)) pos.line X.env=pure false:=by rfl)
  (hf:X.fn x=true∨X.env.scope.names.lookup x=some .local:=by first|exact .inl rfl|exact .inr rfl|assumption):DSt Z X md rn (.Assign [.Name x px] (.Call (.Attribute (.Name y py) "pop" apos) [] [] bo) pos) (N9 md i j):=by
 refine (r9 hN hi hx (Iw PySem.F.plainAttrs_list PySem.F.slot_list_pop PySem.F.type_list_pop HY (pv j hj hv hd gu) eI dq) hs hf).imp ?_;rintro D σ H ⟨B,ρ,E,⟨G,fp,S⟩,⟨ds,d,h1,h⟩,M⟩;obtain ⟨l,xs,oP,e1,e2,e3,bz,put⟩:=S.one LJ h1;cases e1;have hl:xs.length=ds.length+1:=by rw [bz.length];simp
 obtain ⟨v,z6,dv⟩:=bz.get (i:=xs.length-1) (d:=d) (by rw [hl];simp)
 refine ⟨_,e2,ty_list e3,l,xs,v,rfl,rfl,e3,z6,M.nx _ h _ _ ⟨G,_,(put xs.dropLast ds ?_).yT hm dv⟩⟩
 have:=bz.take ds.length
 rw [List.take_left'] at this
 ·rw [List.dropLast_eq_take,hl];exact this
 ·rfl
end
structure MS (mg:Str→Option Value):Prop where
 len:mg "len"=none
 range:mg "range"=none
 max:mg "max"=none
 min:mg "min"=none
 enumerate:mg "enumerate"=none
 zip:mg "zip"=none
 sorted:mg "sorted"=none
 all:mg "all"=none
 isinstance:mg "isinstance"=none
 int:mg "int"=none
 bool:mg "bool"=none
 list:mg "list"=none
 tuple:mg "tuple"=none
 sum:mg "sum"=none
 reversed:mg "reversed"=none
theorem Hc:bootBuiltins "max"=some (.builtin "max"):=by decide+kernel
theorem Hd:bootBuiltins "min"=some (.builtin "min"):=by decide+kernel
theorem D5:bootBuiltins "bool"=some (.type "bool"):=by decide+kernel
theorem Hb:bootBuiltins "int"=some (.type "int"):=by decide+kernel
theorem oI:bootBuiltins "list"=some (.type "list"):=by decide+kernel
theorem ie:bootBuiltins "sorted"=some (.builtin "sorted"):=by decide+kernel
theorem aO:bootBuiltins "len"=some (.builtin "len"):=by decide+kernel
section
variable {P:Program} {w:World} {K:PySem.W.Frag} {mg:Str→Option Value} {base:Heap} {Z:DC}
def sj(N:List Str)(ds:List D):DN:=ds.map some++List.replicate (N.length-ds.length) none
def tN(Z:DC)(n:Nat)(sd:cV):Sp:=λvs H Q _=>∃(G:Hp)(ds:List D)(P:D→Prop),aH G H∧au Z G vs ds∧sd ds P∧∀d,P d→∀v f G' H',Ext G H G' H'→Own Z G' H' n v d f→f.Nodup→(∀b∈f,H b=none∧H' b≠none∧G' b=none)→Q v H'
theorem Own.pure{n:Nat}{v:V}{d:D}{f:List Addr}{G H G' H':Hp}(x:Ext G H G' H')(o:Own Z G' H' n v d f)(nw:∀b∈f,H b=none∧H' b≠none∧G' b=none):∃G2,Ext G H G2 H'∧Dv Z G2 v d:=by
 refine ⟨plus G' H' λb=>b∈f,⟨x.gg.trans (h7 x.sub),jK x.sub,x.hh,λb hb hg=>?_⟩,o.dv (h7 x.sub) λb hb u e=>by rw [lN hb];exact e⟩
 rw [jJ (λz=>hb (nw b z).1)];exact x.off b hb hg
theorem Dg{n:Nat}{sd:cV}:∀vs H Q E,aS Z sd vs H Q E→tN Z n sd vs H Q E:=by
 rintro vs H Q E ⟨G,ds,P,s,dv,h,q⟩;exact ⟨G,ds,P,s,dv,h,λd hd v f G' H' x o nd nw=>let ⟨G2,x2,zF⟩:=o.pure x nw;q d hd v G2 H' x2 zF⟩
theorem vh(rn:Nat){x qual:Str}{st:Stmt}{f:Addr}{fd:FuncData}{N ps:List Str}{k:Nat}{sd:cV}(F:uJ K x qual st f fd)(S:aL N ps (aq st))(md:List Nat)(LI:∀i,i<ps.length→md.getD i 0=0)(len:∀ds P,sd ds P→ds.length=ps.length)
  (nT:∀(bM:Value)(A:Around)(outer:List Env)(s:Shared)(H:Hp)(E:XK)(ds:List D)(R:D→Prop),cS k (A.deeper (envOfC qual (aq st) s.heap.objs.size f bM))→sd ds R→
   ∃t,sm Z (qM cP P w K mg base N qual (aq st) f bM A outer s H E).gK md rn (fk st) t∧t {nx:=λ_=>rn=0∧R .bf,rt:=R} (sj N ds)):FnOk P w K mg base cP (k+1) f fd ps (tN Z rn sd):=by
 refine F.ok S (λvs H Q E h=>?_) (λbM A outer s H vs Q E hr h=>?_)
 ·obtain ⟨G,ds,R,s,dv,h,q⟩:=h
  rw [dv.length];exact len _ _ h
 obtain ⟨G,ds,R,s0,dv,h,q⟩:=h;have Po:=q;obtain ⟨t,ht,hq⟩:=nT bM A outer s H E ds R hr h;have hl:=len _ _ h;refine ⟨_,ht,⟨G,H,G⟩,_,_,⟨G,λ_=> [],?_⟩,hq,⟨λρ Pw ay H' ⟨G',fp,S'⟩=>q _ Pw.2 _ [] G' H' S'.ex (by rw [Pw.1];exact ⟨.bf,rfl⟩) kN (λb hb=>by cases hb),Po,λ_ z=>z.elim,λ_ z=>z.elim⟩⟩
 refine ⟨.refl s0, .refl _,by unfold sj start;simp [dv.length],λi d hi=>?_,λ_=>kN,(λ_ _ _ _ z=>by cases z),(λ_ _ z=>by cases z)⟩
 unfold sj at hi
 have O8:i<ds.length:=by
  apply Classical.byContradiction;intro z;rw [fG (by simpa using nu z),B5] at hi
  split at hi<;>cases hi
 rw [dP (by simpa using O8),eC] at hi
 have mJ:ds[i]? =some d:=by
  cases z:ds[i]? with
  |none=>rw [z] at hi;cases hi
  |some d'=>rw [z] at hi;cases hi;rfl
 obtain ⟨v,hv,wF⟩:=dv.get mJ;refine ⟨v,?_,by rw [LI i (by omega)];exact ⟨wF,rfl⟩⟩
 unfold start;rw [dP (by simpa [dv.length] using O8),eC,hv];rfl
theorem bc{x qual:Str}{st:Stmt}{f:Addr}{fd:FuncData}{N ps:List Str}{k:Nat}{sd:cV}(F:uJ K x qual st f fd)(S:aL N ps (aq st))(md:List Nat)(LI:∀i,i<ps.length→md.getD i 0=0)(len:∀ds P,sd ds P→ds.length=ps.length)
  (nT:∀(bM:Value)(A:Around)(outer:List Env)(s:Shared)(H:Hp)(E:XK)(ds:List D)(R:D→Prop),cS k (A.deeper (envOfC qual (aq st) s.heap.objs.size f bM))→sd ds R→
   ∃t,sm Z (qM cP P w K mg base N qual (aq st) f bM A outer s H E).gK md 0 (fk st) t∧t {nx:=λ_=>0=0∧R .bf,rt:=R} (sj N ds)):FnOk P w K mg base cP (k+1) f fd ps (aS Z sd):=
 (vh 0 F S md LI len λbM A outer s H E ds R hr h=>let ⟨t,a,b⟩:=nT bM A outer s H E ds R hr h;⟨t,a,b⟩).imp Dg
end
section
variable {Z:DC} {X:Cx} {a b c e o:Expr} {ta tb te:bh} {t:ib} {es:List Expr} {pos apos:Pos}
def N7(ta:bh):bh:=λρ P=>ta ρ λd=>match d with
 | .int i=>P (.int (-i))
 |_=>False
theorem Hn(ha:DE Z X a ta):DE Z X (.UnaryOp .USub a pos) (N7 ta):=by
 refine (Mg Jf ha).imp ?_;rintro σ H Q ⟨G,ρ,P,s,en,h,q⟩;refine ⟨G,ρ,_,s,en,h,λd hd v G1 H1 x1 dv=>?_⟩;cases dv<;>first|exact hd.elim|skip
 exact ⟨_,rfl,q _ hd _ G1 H1 x1 (.int _)⟩
def Kn:cV:=λds P=>∃i j,ds= [.int i, .int j]∧P (.int (if j<i then j else i))
def Km:cV:=λds P=>∃i j,ds= [.int i, .int j]∧P (.int (if j>i then j else i))
theorem zc{G:Hp}{vs:List V}{i j:Int}(h:au Z G vs [.int i, .int j]):vs= [.int i, .int j]:=by
 cases h with
 |cons a as=>
  cases as with
  |cons b bs=>cases bs;cases a;cases b;rfl
theorem Ea(hc:X.calm=true):cC X (.builtin "max") (gP Z Km):=by
 refine (zt hc).imp ?_;rintro xs H Q ⟨G,ds,P,s,dv,⟨i,j,rfl,h⟩,q⟩;exact ⟨i,j,zc dv,q _ h _ G H (.refl s) (.int _)⟩
theorem Eb(hc:X.calm=true):cC X (.builtin "min") (gP Z Kn):=by
 refine (zu hc).imp ?_;rintro xs H Q ⟨G,ds,P,s,dv,⟨i,j,rfl,h⟩,q⟩;exact ⟨i,j,zc dv,q _ h _ G H (.refl s) (.int _)⟩
theorem tj{G:Hp}:∀{vs:List V}{ns:List Int},au Z G vs (ns.map D.int)→vs=ns.map V.int
 |vs,[],h=>by cases h;rfl
 |vs,b::bs,h=>by
  cases h with
  |cons a as=>cases a;rw [tj as];rfl
def Bc:cV:=λds P=>∃ns:List Int,ds= [.lst (ns.map D.int)]∧ns.length<64∧∀ms:List Int,ms.Perm ns→ms.Pairwise (·≤·)→P (.lst (ms.map D.int))
theorem Ca:cC X (.builtin "sorted") (gP Z Bc):=by
 refine uN.imp ?_;rintro xs H Q ⟨G,ds,P,s,dv,⟨ns,rfl,hl,hp⟩,q⟩;cases dv with
 |cons a as=>
  cases as;cases a with
  |lst h e=>
   refine ⟨_,ns,rfl,cD.of (by rw [←tj e];exact s _ _ h),hl,λp ms hn h1 h2=>?_⟩
   exact q _ (hp ms h1 h2) _ _ _ (.new s hn) (.lst aB (.ints ms))
def pairD(k:Nat×Nat):D:= .tup [.int (k.1:Nat), .int (k.2:Nat)]
theorem vd{G:Hp}:∀{vs:List V}{ns:List (Nat×Nat)},au Z G vs (ns.map pairD)→∃L:List (Addr×(Nat×Nat)),vs=L.map (λe=>V.ref e.1)∧L.map (·.2)=ns∧B8 G L
 |vs,[],h=>by cases h;exact ⟨[],rfl,rfl,λp hp=>by cases hp⟩
 |vs,n::ns,h=>by
  cases h with
  |cons a as=>
   obtain ⟨L,h1,h2,h3⟩:=vd as;unfold pairD at a;cases a with
   | @tup p xs ds hp e=>
    refine ⟨(p,n)::L,by rw [h1];rfl,by rw [←h2];rfl,λq hq=>?_⟩
    rcases b9.mp hq with rfl|hq
    ·have:xs=Az n:=by
      cases e with
      |cons a1 a2=>
       cases a2 with
       |cons b1 b2=>cases a1;cases b1;cases b2;rfl
     rw [←this];exact hp
    ·exact h3 q hq
theorem B8.dv{G:Hp}:∀{L:List (Addr×(Nat×Nat))},B8 G L→au Z G (L.map λe=>V.ref e.1) ((L.map (·.2)).map pairD)
 | [],_=> .nil
 |x::L,h=> .cons (.tup (h x (b4 ..)) (.cons (.int _) (.cons (.int _) .nil))) (B8.dv λp hp=>h p (cv _ hp))
def Hj(ta tb:bh):bh:=λρ P=>ta ρ λd=>∃l,d= .lst l∧tb ρ λy=>fi y=true∧l.all fi=true∧∃(j:Nat)(z:D),l[j]? =some z∧iR z y=true∧(∀(m:Nat) z,m<j→l[m]? =some z→iR z y=false)∧P (.int (j:Nat))
theorem hJ{bo:Pos}(ho:DE Z X o ta)(he:DE Z X e tb)
  (eI:attributeBase o "index" X.env (eval o X.env)=eval o X.env:=by rfl)
  (jz:((backTo bo (starEach [e] X.env)).all (λx=>!x.1)&&(backToKw bo (keywordEach [] X.env)).all (λx=>x.1.isSome)&&decide (([e]:List Expr).length+([]:List Keyword).length+(if ([]:List Keyword).isEmpty then 0 else 1)<30))=true:=by rfl)
  (dq:(apos.endLine==bo.line)=true:=by rfl) (hs:starEach [e] X.env=(false,eval e X.env)::starEach [] X.env:=by rfl) (e6:(backTo bo (starEach [] X.env)).any (·.1)=false:=by rfl):
  DE Z X (.Call (.Attribute o "index" apos) [e] [] bo) (Hj ta tb):=by
 refine (xc PySem.F.plainAttrs_list PySem.F.slot_list_index PySem.F.type_list_index CQ ho (fS he ke hs) eI jz dq hs e6).imp ?_;rintro σ H Q ⟨G,ρ,P,s,en,h,q⟩;refine ⟨G,ρ,_,s,en,h,?_⟩;rintro _ ⟨l,rfl,hd⟩ v G1 H1 x1 dv;cases dv with
 | @lst p xs ds hp e=>
  refine ⟨ty_list (x1.sub _ _ hp),G1,ρ,_,x1.sub,en.mono x1.gg,hd,λy hy u G2 H2 x2 du=>?_⟩;obtain ⟨h1,h2,j,z,h3,h4,h5,h6⟩:=hy;have e2:=e.mono x2.gg;obtain ⟨w,hw,dw⟩:=e2.get h3;refine ⟨p,xs,u,j,w,rfl,rfl,x2.hh _ _ (x1.sub _ _ hp),by rw [oV du];exact h1,by rw [iT e2];exact h2,hw,by rw [wH dw du];exact h4,λm z' hm hz=>?_,q _ h6 _ G2 H2 (x1.trans x2) (.int _)⟩
  obtain ⟨d',mJ,wF⟩:=e2.Bq hz;rw [wH wF du];exact h5 m d' hm mJ
end
structure DR (Z:DC):Prop where
 cl:uI Z.K Z.C
 nR:jX Z.K Z.C "rows"
section
variable {Z:DC} {X:Cx} {a b c e o:Expr} {ta tb te:bh} {t:ib} {es:List Expr} {pos apos:Pos}
def K0(ta:bh):bh:=λρ P=>ta ρ λd=>∃w,d= .eT w∧P (aN w)
theorem xV(T:DR Z)(ha:DE Z X o ta)(eK:X.K=Z.K:=by rfl)(hb:attributeBase o "rows" X.env (eval o X.env)=eval o X.env:=by rfl):DE Z X (.Attribute o "rows" apos) (K0 ta):=by
 refine (Iz ha hb).imp ?_;rintro σ H Q ⟨G,ρ,P,s,en,h,q⟩;refine ⟨G,ρ,_,s,en,h,?_⟩;rintro _ ⟨w,rfl,hd⟩ v G1 H1 x1 dv;cases dv with
 | @eT p dx R w hp hr g h1 h2=>exact ⟨p,Z.C,dx,_, .ref R,rfl,x1.sub _ _ hp,by rw [eK];exact T.cl,by rw [eK];exact T.nR,rfl,q _ hd _ G1 H1 x1 hr⟩
def Eh(sd:cV)(ta:bh)(t:ib):bh:=λρ P=>ta ρ λd=>∃w,d= .eT w∧t ρ λds=>sd (.eT w::ds) P
theorem CN{m:Str}{sd:cV}(hm:([("rows",V.ref 0)]:List (Str×V)).lookup m=none):∀σ H Q,cY Z (Eh sd ta t) σ H Q→GG Z.C m (aS Z sd) [] E0 (cY Z ta) (Aj Z t) σ H Q:=by
 rintro σ H Q ⟨G,ρ,P,s,en,h,q⟩;refine ⟨G,ρ,_,s,en,h,?_⟩;rintro _ ⟨w,rfl,hd⟩ v G1 H1 x1 dv;have T6:=dv;cases dv with
 | @eT p dx R w hp hr g h1 h2=>
  refine ⟨p,dx,_,rfl,x1.sub _ _ hp,?_,G1,ρ,_,x1.sub,en.mono x1.gg,hd,λds Cu vs G2 H2 x2 bz=>?_⟩
  ·have hz:(m==("rows":Str))=false:=by
    cases z:(m==("rows":Str)) with
    |false=>rfl
    |true=>simp [List.lookup,z] at hm
   simp [List.lookup,hz]
  ·show aS Z sd (V.ref p::(vs++ [])) H2 Q E0
   rw [nz];exact ⟨G2,_,P,x2.sub, .cons (T6.mono x2.gg) bz,Cu,λd hd v G3 H3 x3 T7=>q d hd v G3 H3 ((x1.trans x2).trans x3) T7⟩
variable {sd:cV} {k:Nat} {f:Addr} {fd:FuncData} {ps:List Str} {m:Str}
theorem qf{pl:Sem Bool}(T:DR Z)(ho:DE Z X o ta)(hm:Meth Z.K Z.C m f)(F:FnOk X.prog X.w X.K X.mg X.base cP k f fd ps (aS Z sd))(hr:cS k X.A)(hb:Binds X.K fd ps [])(eK:X.K=Z.K:=by rfl)
  (EZ:([("rows",V.ref 0)]:List (Str×V)).lookup m=none:=by decide)
  (ht:eval (.Call (.Attribute o m apos) [] [] pos) X.env=(do
   let ov ←eval o X.env
   standAt apos.atName
   let (f,first) ←holding [ov] (getMethod ov m pl)
   callWith pos f first (backTo pos (starEach [] X.env)) (backToKw pos (keywordEach [] X.env))):=by rfl):DE Z X (.Call (.Attribute o m apos) [] [] pos) (Eh sd ta u6):=
 (C0 (pl:=pl) ho (by rw [eK];exact T.cl) (by rw [eK];exact hm) F hr hb .nil AB ht).imp λσ H Q h=>by
  obtain ⟨G,ρ,P,s,en,h,q⟩:=CN EZ σ H Q h;refine ⟨G,ρ,P,s,en,h,λd hd v G1 H1 x1 dv=>?_⟩;obtain ⟨p,dx,fs,h1,h2,h3,G',aC,P',s',Ys,h',q'⟩:=q d hd v G1 H1 x1 dv;exact ⟨p,dx,fs,h1,h2,h3,q' _ h' _ G' _ (.refl s') .nil⟩
def yZ(Z:DC):Sp:=λvs H Q _=>∃(p dx:Addr)(v:V)(G:Hp)(w:List (List Nat)),vs= [.ref p,v]∧H p=some (.ins Z.C dx [])∧aH G H∧G p=none∧Dv Z G v (aN w)∧Wb.Good w∧1≤w.length∧w.length≤14∧
 ∀(R:Addr)(G' H':Hp),aH G G'→aH G' H'→(∀b o,H b=some o→b≠p→H' b=some o)→(∀b,H b≠none→G b=none→G' b=none)→H' p=some (.ins Z.C dx [("rows", .ref R)])→Dv Z G' (.ref R) (aN w)→Q .bf H'
def KU(t:ib):bh:=λρ P=>t ρ λds=>∃w,ds= [aN w]∧Wb.Good w∧1≤w.length∧w.length≤14∧P (.eT w)
theorem Ep{x:Str}{p:Pos}(M:Mk Z.K Z.C f)(F:FnOk X.prog X.w X.K X.mg X.base cP k f fd ps (yZ Z))(hr:cS (k+1) X.A)(hg:Gl X x)(hm:X.mg x=some (.ref Z.C))(hb:Binds X.K fd ps [])
  (ha:DA Z X (e::es) t) (eK:X.K=Z.K:=by rfl) (lE:(x==("__debug__":Str))=false:=by decide) (he:starEach (e::es) X.env=(false,eval e X.env)::starEach es X.env:=by rfl) (g5:(backTo pos (starEach es X.env)).any (·.1)=false:=by rfl):
  DE Z X (.Call (.Name x p) (e::es) [] pos) (KU t):=by
 refine (FR (by rw [eK];exact M) F hr hg hm hb .nil AB ha lE he g5).imp ?_
 rintro σ H Q ⟨G,ρ,P,s,en,h,q⟩;refine ⟨G,ρ,_,s,en,h,?_⟩;rintro _ ⟨w,rfl,g,h1,bw,hp⟩ vs G1 H1 x1 bz p dx hx UE ne;cases bz with
 | @cons v _ _ _ dv bz=>
  cases bz;have LO:upd H1 dx (.own p) p=none:=by rw [aD (Ne.symm ne)];exact hx
  have sJ:=(aV UE (.own p)).trans (aV LO (.ins Z.C dx []));refine ⟨p,dx,v,G1,w,rfl,aB,x1.sub.trans sJ,x1.sub.free hx,dv,g,h1,bw,λR G2 H2 g1 g2 kp off UW zF=>⟨rfl,?_⟩⟩;have gp:G2 p=none:=off p (by rw [aB];exact λz=>nomatch z) (x1.sub.free hx)
  refine q _ hp _ (upd G2 p (.ins Z.C dx [("rows", .ref R)])) H2 ⟨(x1.gg.trans g1).trans (aV gp _),λb o e=>?_,λb o e=>?_,λb hb hg=>?_⟩ (.eT aB (zF.mono (aV gp _)) g h1 bw)
  ·by_cases z:b=p
   ·subst z;rw [aB] at e;cases e;exact UW
   ·rw [aD z] at e;exact g2 _ _ e
  ·have e1:=x1.hh _ _ e
   exact kp b o (sJ _ _ e1) (aT e1 hx)
  ·have OY:=eQ x1.hh hb
   have nb:b≠p:=λz=>OY (by rw [z];exact hx)
   rw [aD nb];exact off b (eQ sJ OY) (x1.off b hb hg)
end
section
variable {Z:DC} {X:Cx} {pos:Pos}
variable {tg iter elt:Expr} {scope:Scope} {NC:List Str} {src:List (Option Nat)} {wi:gE} {g:dj} {tf:nF} {md:List Nat} {rn:Nat}
end
abbrev hV:=inClass
structure zq (Z:DC) (m qual:Str) (st:Stmt) (ps:List Str) where
 f:Addr
 fd:FuncData
 F:uJ Z.K m qual st f fd
 b:Binds Z.K fd ps []
 m:Meth Z.K Z.C m f
def pO(K:PySem.W.Frag):Sp:=λvs H Q _=>∃(a:Addr)(ns:List Int),vs= [.ref a]∧cD K H a (ns.map V.int)∧ns.length≤63∧∀H',Q (.bl true) H'
def BW:cV:=λds P=>∃ns:List Int,ds= [.jR ns]∧ns.length≤63∧P (.bl true)
theorem HR{Z:DC}:∀vs H Q E,pO Z.K vs H Q E→aS Z BW vs H Q E:=by
 rintro vs H Q E ⟨a,ns,rfl,hS,hl,q⟩;exact ⟨H,[.jR ns],λd=>d= .bl true, .refl _, .cons (.jR hS hl) .nil,⟨ns,rfl,hl,rfl⟩,λd hd v G' H' x dv=>by subst hd;cases dv;exact q H'⟩
theorem MM(k:Nat){l:PySem.W.OpenLaw}{q:Program}{loose:List Str}{XP:(Str→Option Value)→Heap→Prop}{YP:World→Heap→Prop}{d:DefRec}{K:Params→PySem.W.Frag}(YC:3*k<150)(hn:l.most=some 63)(zY:d.params.defaults= [])
  (hY:∀(w:World)(h:Heap),YP w h→(K w.params).In h)
  (F:∀(w:World)(mg:Str→Option Value)(fa:Addr)(h:Heap),(K w.params).In h→h.Ns mainGlobals mg→mg d.name=some (.ref fa)→
   ∃fd:FuncData,(∀(s:Shared)(u:Value),BindsTo s fd ⟨[u],[]⟩ [("_law_script",u)])∧∀base:Heap,(K w.params).In base→base.Ns mainGlobals mg→FnOk l.prog w (K w.params) mg base cP k fa fd ["_law_script"] (pO (K w.params))):
  PySem.W.WalkO q loose XP YP l.row.toRowW d [] (λf vs=>PySem.call f vs):=
 L2.GN (n:=63) (k:=50) (x:="_law_script") (CX:=λ_=>cP) (sp:=λw=>pO (K w.params)) hn (by decide) zY ⟨rfl,by decide,by decide⟩ hY (λw mg fa h a b c=>by
  obtain ⟨fd,h1,h2⟩:=F w mg fa h a b c;exact ⟨fd,h1,λbase x y=>(h2 base x y).mono (by omega)⟩) (λ_ _ a ns hl _ hS=>⟨a,ns,rfl,hS,hl,λ_=>rfl⟩) λ_ _ _ _ _ z=>z
theorem cu{c:Bool}{A B:Prop}(h1:c=true→A)(h2:c=false→B):if c=true then A else B:=by
 cases c with
 |true=>exact ed (h1 rfl)
 |false=>exact cO (h2 rfl)
theorem iq{i:Nat}{tt:cW}{te:bh}{ρ:DN}{α:Type}(enc:α→D)(p:α→Bool)(f:α→D):∀(ys:List α)(aC:DN)(acc:List D)(N:DN→List D→Prop),(∀y∈ys,∀(Y:D→Prop)(Nn:Prop),(p y=true→Y (f y))→(p y=false→Nn)→tt (ρ.set i (some (enc y))) λb=>if b=true then te (ρ.set i (some (enc y))) Y else Nn)→
  (∃o,aC=ρ.set i o)→acc.length+ys.length≤sizeLine→(∀aC,N aC (acc++(ys.filter p).map f))→lcW (rV i) tt te (ys.map enc) aC acc N
 | [],aC,acc,N,_,_,_,h=>by
  show N aC acc;simpa using h aC
 |y::ys,aC,acc,N,hs,⟨o,ho⟩,hz,h=>by
  show tt (aC.set i (some (enc y))) _;rw [ho,List.set_set];rw [eU] at hz;refine hs y (b4 ..) _ _ (λhp=>⟨by omega,?_⟩) (λhp=>?_)
  ·refine iq enc p f ys _ (acc++ [f y]) N (λz hz=>hs z (cv _ hz)) ⟨_,rfl⟩ (by simp;omega) λuG=>?_
   have:=h uG
   rw [rj,hp] at this;simpa using this
  ·refine iq enc p f ys _ acc N (λz hz=>hs z (cv _ hz)) ⟨_,rfl⟩ (by omega) λuG=>?_
   have:=h uG
   rw [rj,hp] at this;simpa using this
theorem iU{i:Nat}{te:bh}{ρ:DN}{α:Type}(enc:α→D)(f:α→D)(ys:List α)(N:DN→List D→Prop)(hs:∀y∈ys,∀(Y:D→Prop),Y (f y)→te (ρ.set i (some (enc y))) Y)(h0:ρ[i]? =some none)(hz:ys.length≤sizeLine)(h:∀aC,N aC (ys.map f)):lcW (rV i) mU te (ys.map enc) ρ [] N:=by
 refine iq (ρ:=ρ) enc (λ_=>true) f ys ρ [] N (λy hy Y Nn h1 _=>?_) ⟨none,?_⟩ (by simpa using hz) λaC=>by rw [List.filter_eq_self.mpr (λ_ _=>rfl),kM];exact h aC
 ·unfold mU
  dsimp only;rw [if_pos rfl];exact hs y hy Y (h1 rfl)
 ·obtain ⟨hi,e⟩:=fA.mp h0
  rw [←e,List.set_getElem_self]
theorem vi{g:dj}{tb:eD}{E:gh}(I:Nat→DN→Prop):∀(ds:List D)(k:Nat)(ρ:DN),I k ρ→(∀(j:Nat)(d:D)(ρ:DN),ds[j]? =some d→I (k+j) ρ→∀A:DN→Prop,(∀ρ,I (k+j+1) ρ→A ρ)→g d ρ λaW=>tb {nx:=A,ct:=A,bk:=E.nx,rt:=E.rt} aW)→
  (∀ρ,I (k+ds.length) ρ→E.nx ρ)→lD g tb E ds ρ
 | [],k,ρ,h0,hs,he=>he ρ h0
 |d::ds,k,ρ,h0,hs,he=>by
  refine hs 0 d ρ rfl h0 _ λaC h'=>?_
  exact vi I ds (k+1) aC h' (λj d' cz hj h2 A hA=>by
   refine hs (j+1) d' cz (by simpa using hj) (by rw [show k+(j+1)=k+1+j by omega];exact h2) A λMQ h3=>hA MQ ?_
   rw [show k+1+j+1=k+(j+1)+1 by omega];exact h3) (λcz h2=>he cz (by rw [eU,show k+(ds.length+1)=k+1+ds.length by omega];exact h2))
theorem cT{g:dj}{tb:eD}{E:gh}{ds:List D}{ρ:DN}(I:Nat→DN→Prop)(h0:I 0 ρ)(hs:∀(j:Nat)(d:D)(ρ:DN),ds[j]? =some d→I j ρ→∀A:DN→Prop,(∀ρ,I (j+1) ρ→A ρ)→g d ρ λaW=>tb {nx:=A,ct:=A,bk:=E.nx,rt:=E.rt} aW)
  (he:∀ρ,I ds.length ρ→E.nx ρ):lD g tb E ds ρ:=vi I ds 0 ρ h0 (λj d ρ hj h A hA=>hs j d ρ hj (by simpa using h) A λaC h'=>hA aC (by simpa using h')) (λρ h=>he ρ (by simpa using h))
theorem yc{g:dj}{tb:eD}{E:gh}{lo:Int}{n:Nat}{ρ:DN}(I:Nat→DN→Prop)(h0:I 0 ρ)(hs:∀(j:Nat)(ρ:DN),j<n→I j ρ→∀A:DN→Prop,(∀ρ,I (j+1) ρ→A ρ)→g (.int (lo+j)) ρ λaW=>tb {nx:=A,ct:=A,bk:=E.nx,rt:=E.rt} aW)
  (he:∀ρ,I n ρ→E.nx ρ):lD g tb E (di lo n) ρ:=by
 have l:(di lo n).length=n:=by unfold di;simp
 refine cT I h0 (λj d ρ hj h A hA=>?_) (λρ h=>he ρ (by rw [l] at h;exact h))
 have b0:j<n:=by
  have:=(fA.mp hj).1
  rw [l] at this;exact this
 rw [qT b0] at hj;cases hj;exact hs j ρ b0 h A hA
theorem ou{c:cW}{tb:eD}{E:gh}{ρ:DN}(I:Nat→DN→Prop)(m0:Nat)(h0:I m0 ρ)(hs:∀m ρ,I m ρ→c ρ λb=>if b=true then tb {nx:=λaC=>∃m',m'<m∧I m' aC,ct:=λaC=>∃m',m'<m∧I m' aC,bk:=E.nx,rt:=E.rt} ρ else E.nx ρ):Bf c tb E ρ:=⟨I,⟨m0,h0⟩,hs⟩
theorem wk:bootBuiltins "reversed"=some (.type "reversed"):=by decide+kernel
section
variable {Z:DC} {X:Cx} {a b c e:Expr} {ta tb te:bh} {t:ib} {pos:Pos}
variable {md:List Nat} {rn:Nat} {k:Expr} {tk:bh}
variable {apos bo:Pos}
variable {es:List Expr}
end
section
variable {X:Cx} {elt t0 i0 t1 i1:Expr} {f0 f1:List Expr} {scope:Scope} {pos:Pos} {wi cx:TI} {g g1:TG} {tt b6:TT} {te:TE} {src:List (Option Nat)} {NC:List Str}
theorem wx{pins:List (Addr×Obj)}{σ:St}{s2:Shared}{H2:Hp}{it:Addr}{fp:List Addr}{tn:Nat→Heap→Prop}{J:It}{RR:Value→Addr→Result→Shared→Prop}{E:Value→Shared→Prop}{Q:VK}
  (hc:X.calm=true) (c:bW X scope) (dg:cE scope X.N src NC) (I2:Inv X pins σ H2 s2) (T:Turn X.prog X.w X.K t0 J fp it tn) (kT:tn 0 s2.heap) (f2:∀b∈fp,dY X pins H2 b)
  (hg:∀ex s H,PG (bP X scope NC ex s H) t0 g) (ht:∀ex s H,jg (bP X scope NC ex s H) f0 tt) (mK:∀ex s H,PI (bP X scope NC ex s H) t1 i1 cx) (tB:∀ex s H,PG (bP X scope NC ex s H) t1 g1)
  (tF:∀ex s H,jg (bP X scope NC ex s H) f1 b6) (he:∀ex s H,PE (bP X scope NC ex s H) elt te) (pb:∀env x,foldedSetIterable i1 env x=pure x)
  (hW:∀D,H2 D=none→Kb g tt cx g1 b6 te D J Q (kJ src σ) (upd H2 D (.lst [])))
  (Lp:∀D s3 H3 ay H' s',Inv X pins σ H3 s3→(∀b∈fp,dY X pins H3 b)→Inv (bP X scope NC fp s3 H3) [] ay H' s'→Q (.ref D) H'→RR (.ref D) s3.heap.objs.size (.ok .next) s'):
  wpAny (model X.prog X.w) X.A (newList []) (λacc GD=>wpAny (model X.prog X.w) X.A (newFunctionEnv scope X.env.globals (gH X.env scope.names []) [] X.env.qual none .none (some X.env)) (λiP pQ=>
   codeAny (model X.prog X.w) X.A (.compStart (.ListComp elt [⟨t0,i0,f0,0⟩,⟨t1,i1,f1,0⟩] scope pos) 0 (.ref it) acc {iP with scope:=relabel scope X.env}) (RR acc iP.locals) pQ) E GD) E s2:=by
 obtain ⟨W,⟨m0,w0⟩,turn⟩:=hW s2.heap.objs.size I2.fresh;have I3:Inv X pins σ (upd H2 s2.heap.objs.size (.lst [])) {s2 with heap:=s2.heap.push {cls:= .type "list",data:= .seq ([]:List Value).toArray}}:=I2.yu (its:= []) (t':=s2.toks) .nil (cn _)
 have yw:∀b∈fp,b<s2.heap.objs.size:=λb hb=>by
  obtain ⟨o,e,_⟩:=T.obj _ _ kT b hb;exact Heap.lt_size e
 have f3:∀b∈fp,dY X pins (upd H2 s2.heap.objs.size (.lst [])) b:=λb hb=>⟨by rw [aD (cc (yw b hb))];exact (f2 b hb).1,(f2 b hb).2⟩
 refine wpAny_newObj_type ?_
 suffices key:∀s3:Shared,Inv X pins σ (upd H2 s2.heap.objs.size (.lst [])) s3→(∀b o,s2.heap.get? b=some o→s3.heap.get? b=some o)→
   wpAny (model X.prog X.w) X.A (newFunctionEnv scope X.env.globals (gH X.env scope.names []) [] X.env.qual none .none (some X.env)) (λiP pQ=>
    codeAny (model X.prog X.w) X.A (.compStart (.ListComp elt [⟨t0,i0,f0,0⟩,⟨t1,i1,f1,0⟩] scope pos) 0 (.ref it) (.ref s2.heap.objs.size) {iP with scope:=relabel scope X.env}) (RR (.ref s2.heap.objs.size) iP.locals) pQ) E s3 from
  key _ I3 λb o e=>Heap.get?_push_of_some _ e
 intro s3 I3 GK;have uj:tn 0 s3.heap:=T.keep _ _ _ kT λb _ o e=>GK b o e
 have tP:∀b∈fp,b<s3.heap.objs.size:=λb hb=>by
  obtain ⟨o,e,_⟩:=T.obj _ _ uj b hb;exact Heap.lt_size e
 generalize OT:upd H2 s2.heap.objs.size (.lst [])=H3 at I3 f3 w0;refine wpAny_newFunctionEnv c.nocell (by intro y hy;simp at hy) (λh1 tE rE=>?_) c.kind
 have I4:=qe (src:=src) (NC:=NC) (ex:=fp) (tk:=s3.toks+([]:List (Str×Value)).length) I3 c dg f3 tP tE rE;have y2:tn 0 h1:=T.keep _ _ _ uj λb hb o e=>rE.extBut b o (cc (tP b hb)) (Heap.get?_push_of_some _ e);generalize hX:bP X scope NC fp s3 H3=XC at I4
 have stat:∀{H':Hp},(∀b∈fp,H' b=none)→∀b∈fp,dY XC [] H' b:=λ {H'} hn b hb=>by
  subst hX;refine ⟨hn b hb,cc (tP b hb),λz=>?_, .inl hb,λx d e=>?_,λp hp=>absurd (show p∈([]:List (Addr×Obj)) from hp) (by simp)⟩
  ·exact (I4.ok.exfs b hb) z
  ·exact (I4.ok.exf b hb).2 x d e
 have uQ:XC.calm=true:=by subst hX;exact hc
 have eP:XC.prog=X.prog:=by subst hX;rfl
 have ew:XC.w=X.w:=by subst hX;rfl
 have eK:XC.K=X.K:=by subst hX;rfl
 have eA:XC.A=X.A:=by subst hX;rfl
 have z7:XC.xe=λ_ _=>False:=by subst hX;rfl
 have EW:PG XC t0 g:=by subst hX;exact hg _ _ _
 have E9:jg XC f0 tt:=by subst hX;exact ht _ _ _
 have LG:PI XC t1 i1 cx:=by subst hX;exact mK _ _ _
 have EV:PG XC t1 g1:=by subst hX;exact tB _ _ _
 have E8:jg XC f1 b6:=by subst hX;exact tF _ _ _
 have ES:PE XC elt te:=by subst hX;exact he _ _ _
 have gK:∀{α:Type}{t:Sem α}{Q:α→Shared→Prop}{E:Value→Shared→Prop}{s:Shared},wpAny (model XC.prog XC.w) XC.A t Q XC.xe s→wpAny (model X.prog X.w) X.A t Q E s:=λ {α t Q E s} h=>by
  rw [←eP,←ew,←eA];exact wpAny_mono h (λ_ _ q=>q) λ_ _ f=>by rw [z7] at f;exact f.elim
 have loop:codeAny (model X.prog X.w) X.A (.compLoop (.ListComp elt [⟨t0,i0,f0,0⟩,⟨t1,i1,f1,0⟩] scope pos) 0 (.ref it) (.ref s2.heap.objs.size) XC.env) (RR (.ref s2.heap.objs.size) s3.heap.objs.size)
   {s3 with heap:=h1,toks:=s3.toks+([]:List (Str×Value)).length}:=by
  refine codeAny_loop rfl (λn s'=>∃i ay H',Inv XC [] ay H' s'∧tn i s'.heap∧(∀b∈fp,H' b=none)∧W i n ay H') (λn s' hI=>?_) m0 ⟨0,_,_,I4,y2,λb hb=>(f3 b hb).1,w0⟩;obtain ⟨i,ay,H',I5,oj,qi,w5⟩:=hI;show wpAny _ X.A ((compTurn (.ListComp elt [⟨t0,i0,f0,0⟩,⟨t1,i1,f1,0⟩] scope pos) 0 (.ref it) (.ref s2.heap.objs.size) XC.env).onRaise (λx=>do noteFrame x XC.env;theTreesLotGoes x)) _ _ s'
  refine wpAny_noted ?_;rw [lj];refine wpAny_bind (wpAny_standAt (wpAny_bind ?_))
  rcases turn i n ay H' w5 with ⟨stop,qn⟩ | ⟨go,N,hN,step⟩
  ·have hd:=T.done XC eP ew eK uQ i [] s' ay H' (notedBy (model X.prog X.w) X.A XC.env λe s'=>RR (.ref s2.heap.objs.size) s3.heap.objs.size (.error e) s') I5 (stat qi) oj stop
   rw [eA] at hd;refine thn hd λr s6 ⟨hr,I6⟩=>?_;subst hr;refine wpAny_pure ?_;subst hX;exact Lp _ s3 _ ay H' s6 I3 f3 I6 qn
  ·have hd:=T.item XC eP ew eK uQ i [] s' ay H' (notedBy (model X.prog X.w) X.A XC.env λe s'=>RR (.ref s2.heap.objs.size) s3.heap.objs.size (.error e) s') I5 (stat qi) oj go
   rw [eA] at hd;refine thn hd λr s6 ⟨u,hr,h6⟩=>?_;subst hr;refine wpAny_bind (thn h6 λ_ s7 ⟨x,H7,I7,r7,y7,om,zO⟩=>?_);have zo:=I7.pinned (stat zO) (T.obj _ _ om)
   have nextT:∀{dH:St}{H8:Hp}{s8:Shared},Inv XC ([]++iX fp s7.heap) dH H8 s8→N dH H8→∃m,m<n∧∃i ay H',Inv XC [] ay H' s8∧tn i s8.heap∧(∀b∈fp,H' b=none)∧W i m ay H':=λ {dH H8 s8} I8 n8=>by
    obtain ⟨m',hm,w8⟩:=hN dH H8 n8;refine ⟨m',hm,i+1,dH,H8,I8.gz,T.keep _ _ _ om λb hb o e=>(I8.pin (b,o) (eW _ (eW _ (cH hb e)))).1,λb hb=>?_,w8⟩;obtain ⟨o,e,d⟩:=T.obj _ _ om b hb;exact (I8.pin (b,o) (eW _ (eW _ (cH hb e)))).2.1
   refine wpAny_bind (gK (thn (EW _ s7 ay H7 x u _ zo r7 (step x H7 y7)) λ_ s8 ⟨dH,H8,I8,q8⟩=>?_));refine wpAny_bind (gK (thn (E9 _ s8 dH H8 _ I8 q8) λb s9 ⟨H9,I9,q9⟩=>?_));cases b with
   |false=>
    rw [if_neg dW] at q9;exact wpAny_pure ⟨by subst hX;rfl,nextT I9 q9⟩
   |true=>
    rw [if_pos rfl] at q9;refine wpAny_bind (gK (thn (LG _ s9 dH H9 _ I9 q9) λv1 Gk Lj=>?_));refine wpAny_bind (wpAny_standAt (wpAny_bind (wpAny_of_eq (pb _ v1) (wpAny_bind (wpAny_holding (gK (thn Lj λyo AN Lk=>?_)))))));obtain ⟨wV,Uj,Ya,J1,DH,rfl,zk,T1,GB,K8,uS⟩:=Lk;refine wpAny_bind (wpAny_runOwn ?_);have tr:∀(cd:Code)(R:Result→Shared→Prop),codeAny (model XC.prog XC.w) XC.A cd R AN→codeAny (model X.prog X.w) X.A cd R AN:=λcd R h=>by rw [eP,ew,eA] at h;exact h
    exact tr _ _ (qK z7 uQ zk T1 GB K8 EV E8 ES uS λay H' s' Kh L3=>wpAny_pure ⟨by subst hX;rfl,nextT Kh L3⟩)
 subst hX;exact codeAny_compStart_list loop (T.self _ 0 _ _ _ y2 loop)
def GF(wi:TI)(g:TG)(tt:TT)(cx:TI)(g1:TG)(b6:TT)(te:TE)(src:List (Option Nat))(i:Nat):TS:=λD σ H=>BZ wi g tt cx g1 b6 te src σ H λv H'=>D.nx (σ.set i (some v)) H'
theorem ub{i:Nat}{x:Str}{px gM:Pos}(hc:X.calm=true)(hN:X.N.Nodup)(lF:X.N[i]? =some x)(hx:Loc X.env.scope x)(c:bW X scope)(dg:cE scope X.N src NC)(hi:PI X t0 i0 wi)
  (hg:∀ex s H,PG (bP X scope NC ex s H) t0 g) (ht:∀ex s H,jg (bP X scope NC ex s H) f0 tt) (mK:∀ex s H,PI (bP X scope NC ex s H) t1 i1 cx) (tB:∀ex s H,PG (bP X scope NC ex s H) t1 g1)
  (tF:∀ex s H,jg (bP X scope NC ex s H) f1 b6) (he:∀ex s H,PE (bP X scope NC ex s H) elt te)
  (j6:swapsWith (.ListComp elt [⟨t0,i0,f0,0⟩,⟨t1,i1,f1,0⟩] scope pos) (some (.Name x px)) gM.line X.env=pure true)
  (hf:X.fn x=true∨X.env.scope.names.lookup x=some .local:=by first|exact .inl rfl|exact .inr rfl|assumption)
  (hs:∀x,foldedSetIterable i0 X.env x=pure x:=by intro _;rfl) (pb:∀env x,foldedSetIterable i1 env x=pure x:=by intro _ _;rfl):PS X (.Assign [.Name x px] (.ListComp elt [⟨t0,i0,f0,0⟩,⟨t1,i1,f1,0⟩] scope pos) gM) (GF wi g tt cx g1 b6 te src i):=by
 intro pins s σ H D I h;rw [exec_Assign_Name_used _ _ _ _ j6];refine wpAny_bind (wpAny_standAt (wpAny_bind ?_));show wpAny _ X.A (do let _ ←comprehension (.ListComp elt [⟨t0,i0,f0,0⟩,⟨t1,i1,f1,0⟩] scope pos) scope X.env _ (newList []) false (eval i0 X.env) (some (assign (.Name x px) X.env))) _ _ s
 refine wpAny_bind (wpAny_mono (wpAny_comprehension_free (use:=some (assign (.Name x px) X.env)) (Q:=λ_ s'=>SP X pins D .next s') rfl hs (eY (c.cells I.ok)) c.kind c.names
  (thn (hi pins s σ H _ I h) λv s1 h1=>thn h1 λyo s2 h2=>?_)) (λ_ s' hq=>wpAny_pure (wpAny_pure hq)) λ_ _ e=>e)
 obtain ⟨it,fp,tn,J,H2,rfl,I2,T,kT,f2,hW⟩:=h2;refine wx (RR:=λacc C=>compPost (model X.prog X.w) X.A X.xe (some (assign (.Name x px) X.env)) (λ_ s'=>SP X pins D .next s') acc C) (Q:=λv H'=>D.nx (σ.set i (some v)) H') hc c dg I2 T kT f2 hg ht mK tB tF he pb hW ?_;intro a s3 H3 ay H' s' I3 f3 J' q;obtain ⟨m,hn,_⟩:=J'.loc;have IX:Inv X pins σ H' s':=comp_back I3 f3 J' (.refl ..);show wpAny _ X.A (assign (.Name x px) X.env (.ref a)) _ _ _;have nL:s3.heap.objs.size≠X.env.locals:=Nat.ne_of_gt I3.lt
 have nc:∀y d,X.env.cells.lookup y=some d→d≠s3.heap.objs.size:=λy d e z=>by
  obtain ⟨v,hv⟩:=I3.cell y d e
  have:=hv.lt
  rw [z] at this;exact absurd this (fW _)
 have np:∀p∈X.pn++pins,p.1≠s3.heap.objs.size:=λp hp z=>by
  have:=Heap.lt_size (I3.pin p hp).1
  rw [z] at this;exact absurd this (fW _)
 obtain ⟨oC,es,ep,LM,zX,rC⟩:=id hn;have EJ:H' s3.heap.objs.size=none:=J'.free
 have IP:Inv X ((s3.heap.objs.size,oC)::pins) σ H' s':=IX.jI λp hp=>by
  rcases b9.mp hp with z|z
  ·rw [z]
   exact ⟨LM,EJ,nL,I3.FC (br _),λv w=>by rw [zX] at w;cases w⟩
  ·exact IX.pin p (eW _ z)
 refine wpAny_assign_Name (mE (x:=x) IP hN lF hx (v:= .ref a) rfl (λs5 I5=>?_) hf);have Ll:=(I5.pin (s3.heap.objs.size,oC) (eW _ b4)).1;refine ⟨m,⟨oC,es,ep,Ll,zX,rC⟩,λh6 sb=>?_⟩;have DJ:Inv X pins (σ.set i (some (.ref a))) H' s5:=I5.jI λp hp=>I5.pin p (eW _ (cv _ hp));exact ⟨_,H',DJ.turned (t':=s5.toks) (it:=s3.heap.objs.size) (λb o hb e=>sb.extBut b o hb e) EJ nL (.inr I3.sz) nc np,q⟩
end
section
variable {Z:DC} {X:Cx} {md:List Nat} {rn:Nat} {elt t0 i0 t1 i1:Expr} {f0 f1:List Expr} {scope:Scope} {pos:Pos} {wi cx:gE} {g g1:dj} {tt b6:cW} {te:bh} {src:List (Option Nat)} {NC:List Str}
theorem zD(i:Nat){x:Str}{px gM:Pos}(hc:X.calm=true)(hN:X.N.Nodup)(c:bW X scope)(dg:cE scope X.N src NC)(hi:DI Z X t0 i0 wi)
  (hg:∀ex s H,DG Z (bP X scope NC ex s H) t0 g) (ht:∀ex s H,rm Z (bP X scope NC ex s H) f0 tt) (mK:∀ex s H,DI Z (bP X scope NC ex s H) t1 i1 cx) (tB:∀ex s H,DG Z (bP X scope NC ex s H) t1 g1)
  (tF:∀ex s H,rm Z (bP X scope NC ex s H) f1 b6) (he:∀ex s H,DE Z (bP X scope NC ex s H) elt te)
  (j6:swapsWith (.ListComp elt [⟨t0,i0,f0,0⟩,⟨t1,i1,f1,0⟩] scope pos) (some (.Name x px)) gM.line X.env=pure true:=by rfl) (hm:md.getD i 0=0:=by rfl) (lF:X.N[i]? =some x:=by rfl) (hx:Loc X.env.scope x:=by first|exact Or.inl rfl|exact Or.inr rfl)
  (hf:X.fn x=true∨X.env.scope.names.lookup x=some .local:=by first|exact .inl rfl|exact .inr rfl|assumption)
  (hs:∀x,foldedSetIterable i0 X.env x=pure x:=by intro _;rfl) (pb:∀env x,foldedSetIterable i1 env x=pure x:=by intro _ _;rfl):
  DSt Z X md rn (.Assign [.Name x px] (.ListComp elt [⟨t0,i0,f0,0⟩,⟨t1,i1,f1,0⟩] scope pos) gM) (Em md false i (Eg wi g tt cx g1 b6 te src)):=by
 refine (ub hc hN lF hx c dg hi hg ht mK tB tF he j6 hf hs pb).imp ?_;rintro D σ H ⟨B,ρ,E,⟨G,fp,S⟩,h,M⟩;refine yt σ H _ (S.ev false h λd hd=>⟨hd.1,λv G' H' S' x dv=>M.nx _ hd.2 _ _ ⟨G',_,S'.yT hm dv⟩⟩)
end
section
variable {Z:DC} {X:Cx} {md:List Nat} {rn:Nat} {e:Expr} {pos:Pos}
theorem au.flat{G G':Hp}:∀{vs:List V}{ds:List D},au Z G vs ds→ds.all fi=true→au Z G' vs ds
 |_,_, .nil,_=> .nil
 |_,_, .cons a as,h=>by
  rw [List.all_cons,rh] at h;exact .cons (a.flat h.1) (as.flat h.2)
end
theorem j3{l:List D}{j:Nat}{d:D}(h:(gn l)[j]? =some d):∃x,l[j]? =some x∧d= .tup [.int (j:Int),x]:=by
 unfold gn at h;rw [List.getElem?_mapIdx] at h;cases e:l[j]? with
 |none=>rw [e] at h;cases h
 |some x=>rw [e] at h;cases h;exact ⟨x,rfl,rfl⟩
theorem nO(l:List D):(gn l).length=l.length:=by unfold gn;simp
theorem dM{α β:Type}{f:α→β}{l:List α}{j:Nat}{y:β}(h:(l.map f)[j]? =some y):∃x,l[j]? =some x∧y=f x:=by
 rw [eC] at h;cases e:l[j]? with
 |none=>rw [e] at h;cases h
 |some x=>rw [e] at h;cases h;exact ⟨x,rfl,rfl⟩
theorem bO(r:List Nat):(r.map ae).all fi=true:=by simp [ae,fi]
theorem fO{r:List Nat}{p:Nat}:inD (ae p) (r.map ae)=decide (p∈r):=by
 unfold inD;rw [List.any_map]
 have:((λy=>iR y (ae p))∘ae)=λq:Nat=>decide (q=p):=by
  funext q
  simp [ae,iR,Function.comp]
  by_cases z:q=p
  ·simp [z]
  ·have:¬(q:Int)=(p:Int):=by omega
   simp [z,this]
 rw [this]
 by_cases h:p∈r
 ·rw [decide_eq_true h,List.any_eq_true];exact ⟨p,h,by simp⟩
 ·rw [decide_eq_false h]
  apply ur.mpr;intro z;rw [List.any_eq_true] at z;obtain ⟨q,hq,e⟩:=z
  exact h (by have:q=p:=by simpa using e
              rw [←this];exact hq)
theorem hE{l:List D}{p:Nat}{d:D}(h:l[p]? =some d):fM l (p:Int)=some d:=xI h
theorem uo{w:List (List Nat)}{p:Nat}(h:p<w.length):(w.map ao)[p]? =some (ao (Wb.row w p)):=by
 rw [eC,Wb.yQ h];rfl
section
variable {Z:DC} {X:Cx} {md:List Nat} {rn:Nat} {e:Expr} {te:bh} {pos:Pos}
end
theorem vt{c:Bool}{A B:Prop}(e:c=false)(h:B):if c=true then A else B:=by rw [if_neg (by rw [e];exact dW)];exact h
theorem pe{g:dj}{tt:cW}{te:bh}{α:Type}(I:DN→Prop)(enc:α→D)(p:α→Bool)(f:α→D):∀(ys:List α)(aC:DN)(acc:List D)(N:DN→List D→Prop),(∀y∈ys,∀aC,I aC→∀(Y:DN→D→Prop)(Nn:DN→Prop),(∀aW,I aW→p y=true→Y aW (f y))→(∀aW,I aW→p y=false→Nn aW)→g (enc y) aC λaW=>tt aW λb=>if b=true then te aW (Y aW) else Nn aW)→
  I aC→acc.length+ys.length≤sizeLine→(∀aC,I aC→N aC (acc++(ys.filter p).map f))→lcW g tt te (ys.map enc) aC acc N
 | [],aC,acc,N,_,hI,_,h=>by
  show N aC acc;simpa using h aC hI
 |y::ys,aC,acc,N,hs,hI,hz,h=>by
  rw [eU] at hz;refine hs y (b4 ..) aC hI (λaW d=>acc.length<sizeLine∧lcW g tt te (ys.map enc) aW (acc++ [d]) N) (λaW=>lcW g tt te (ys.map enc) aW acc N) (λaW h1 hp=>⟨by omega,?_⟩) (λaW h1 hp=>?_)
  ·refine pe I enc p f ys _ (acc++ [f y]) N (λz hz=>hs z (cv _ hz)) h1 (by simp;omega) λuG h2=>?_
   have:=h uG h2
   rw [rj,hp] at this;simpa using this
  ·refine pe I enc p f ys _ acc N (λz hz=>hs z (cv _ hz)) h1 (by omega) λuG h2=>?_
   have:=h uG h2
   rw [rj,hp] at this;simpa using this
theorem yq{g:dj}{cx:gE}{g1:dj}{te:bh}{α β:Type}(I:DN→Prop)(enc:α→D)(f:α→List β)(gU:β→D):∀(ys:List α)(aC:DN)(acc:List β)(P:List D→Prop),
  (∀y∈ys,∀aC,I aC→∀(Y:DN→List D→Prop),(∀aW,I aW→Y aW ((f y).map gU))→g (enc y) aC λaW=>cx aW (Y aW))→
  (∀y∈ys,∀b∈f y,∀aC,I aC→∀(Y:DN→D→Prop),(∀aW,I aW→Y aW (gU b))→g1 (gU b) aC λaW=>te aW (Y aW))→
  I aC→acc.length+(ys.flatMap f).length≤sizeLine→P ((acc++ys.flatMap f).map gU)→gJ g mU cx g1 mU te (ys.map enc) aC (acc.map gU) P
 | [],aC,acc,P,_,_,hI,_,h=>by
  show P (acc.map gU);simpa using h
 |y::ys,aC,acc,P,h1,h2,hI,hz,h=>by
  rw [jc,cy] at hz;refine h1 y (b4 ..) aC hI (λaW es=>lcW g1 mU te es aW (acc.map gU) λcz ju=>gJ g mU cx g1 mU te (ys.map enc) cz ju P) λaW Uu=>?_;refine pe I gU (λ_=>true) gU (f y) aW (acc.map gU) _ (λb hb cz Cr Y Nn hY _=>?_) Uu (by rw [List.length_map];omega) λcz Cr=>?_
  ·exact h2 y (b4 ..) b hb cz Cr Y λMQ h3=>hY MQ h3 rfl
  ·rw [List.filter_eq_self.mpr (λ_ _=>rfl),←fh]
   refine yq I enc f gU ys cz (acc++f y) P (λz hz=>h1 z (cv _ hz)) (λz hz=>h2 z (cv _ hz)) Cr (by rw [cy];omega) ?_
   rw [jc] at h;rw [uD];exact h
theorem gW{α:Type}{us:List α}(h:us.length=1):∃a0,us= [a0]:=by
 cases us with
 |nil=>cases h
 |cons a l=>
  cases l with
  |nil=>exact ⟨a,rfl⟩
  |cons _ _=>cases h
theorem mX{α:Type}{us:List α}(h:us.length=2):∃a0 a1,us= [a0,a1]:=by
 cases us with
 |nil=>cases h
 |cons a l=>
  obtain ⟨a1,rfl⟩:=gW (Nat.succ.inj h);exact ⟨a,a1,rfl⟩
theorem ph{α:Type}{us:List α}(h:us.length=3):∃a0 a1 a2,us= [a0,a1,a2]:=by
 cases us with
 |nil=>cases h
 |cons a l=>
  obtain ⟨a1,a2,rfl⟩:=mX (Nat.succ.inj h);exact ⟨a,a1,a2,rfl⟩
section
variable {Z:DC} {X:Cx} {e:Expr} {es:List Expr} {t:ib} {pos:Pos}
theorem aA{sd:cV}{k j:Nat}{x:Str}{st:Stmt}{ps:List Str}{p:Pos}(d:fK X.K X.mg x st ps)(F:FnOk X.prog X.w X.K X.mg X.base cP k d.f d.fd ps (aS Z sd))(hr:cS j X.A)(ha:DA Z X (e::es) t)(hg:Gl X x:=by rfl)(hk:k≤j:=by first|decide|omega)
  (lE:(x==("__debug__":Str))=false:=by decide) (he:starEach (e::es) X.env=(false,eval e X.env)::starEach es X.env:=by rfl) (g5:(backTo pos (starEach es X.env)).any (·.1)=false:=by rfl):
  DE Z X (.Call (.Name x p) (e::es) [] pos) (sX sd t):=Eo F (hr.mono hk) hg d.m d.F.kp d.b ha lE he g5
theorem mH{scope:Scope}(sc:Scope)(e:X.env.scope=sc:=by rfl)(k:scope.kind= .function:=by rfl)(a:∀x∈scope.names,x.2= .local→scope.names.lookup x.1=some .local:=by decide+kernel)(b:∀x∈scope.names,x.2≠ .cell:=by decide+kernel)
  (c:∀x∈scope.names,x.2= .free→sc.names.lookup x.1=some .cell∨sc.names.lookup x.1=some .free:=by decide+kernel):bW X scope:=bW.of sc e k a b c
end
section
variable {K:PySem.W.Frag} {h:Heap} {mg:Str→Option Value}
abbrev fX(K:PySem.W.Frag)(x:Str)(d:Addr):Prop:=PySem.W.nsIn K mainGlobals x=some (some (.ref d))
abbrev eH(K:PySem.W.Frag)(x qual:Str)(st:Stmt)(d:Addr)(od an:Option Addr)(sl:Array (Option Value))(oc kV dc pm cd ct:Value):Prop:=K.lookup d=some ⟨oc,od, .func (PySem.W.fnOf x qual (ig st) (fk st) (aq st) .none kV dc pm an cd ct),sl⟩
def fK.of{x:Str}{st:Stmt}{ps:List Str}{d:Addr}{od an:Option Addr}{sl:Array (Option Value)}{oc kV dc pm cd ct:Value}(X:K.In h)(G:h.Ns mainGlobals mg)(a:fX K x d)(l:eH K x x st d od an sl oc kV dc pm cd ct)(c:PySem.W.codeIn K cd x=true)(k:PySem.W.keepIn K (.ref d)=true)
  (b:∀(kV doc pm:Value)(an:Option Addr)(bM ct:Value)(us:List Value),us.length=ps.length→bindArgs (PySem.W.fnOf x x (ig st) (fk st) (aq st) .none kV doc pm an bM ct) ⟨us,[]⟩=pure (ps.zip us)):fK K mg x st ps:=
 ⟨d,_,oX l c k,(oX l c k).binds b,PySem.W.mg_of X G a⟩
def zq.of{Z:DC}{m qual:Str}{st:Stmt}{ps:List Str}{d:Addr}{od an:Option Addr}{sl:Array (Option Value)}{oc kV dc pm cd ct:Value}(a:PySem.W.findIn Z.K (.ref Z.C) m=some (some (.ref d)))(f:PySem.W.isFn Z.K (.ref d)=true)(l:eH Z.K m qual st d od an sl oc kV dc pm cd ct)(c:PySem.W.codeIn Z.K cd qual=true)(k:PySem.W.keepIn Z.K (.ref d)=true)
  (b:∀(kV doc pm:Value)(an:Option Addr)(bM ct:Value)(us:List Value),us.length=ps.length→bindArgs (PySem.W.fnOf m qual (ig st) (fk st) (aq st) .none kV doc pm an bM ct) ⟨us,[]⟩=pure (ps.zip us)):zq Z m qual st ps:=
 ⟨d,_,oX l c k,(oX l c k).binds b,⟨a,f,k⟩⟩
end
end L2
namespace Wb
def Hr(w:W):Nat:=(w.map List.length).sum
theorem Cj(w:W):Hr w=((List.range w.length).map λp=>(row w p).length).sum:=by
 unfold Hr
 congr 1
 refine List.ext_getElem (by simp) λi h1 h2=>?_
 rw [uv,uv,xt];have hi:i<w.length:=by simpa using h1
 have:=yQ hi
 rw [bq hi] at this;rw [Option.some.inj this]
theorem td(w:W):(aI w).length=Hr w:=by
 rw [Cj];unfold aI;rw [List.length_flatMap]
 congr 1
 apply vV;intro p _;rw [List.length_map]
theorem cq{w:W}(g:Good w):(aI w).Nodup:=by
 unfold aI List.Nodup;refine lK (λp _=>?_) ?_
 ·rw [jb]
  exact (g.nod p).imp λne e=>ne (congrArg Prod.snd e)
 ·refine List.Pairwise.imp ?_ List.pairwise_lt_range
  intro a b lt x hx y hy e;obtain ⟨_,_,rfl⟩:=bx.mp hx;obtain ⟨_,_,rfl⟩:=bx.mp hy
  have:=congrArg Prod.fst e
  simp at this;omega
theorem uk(w:W):cU (row w) w.length=(aI w).filter λd=>decide (d.1<d.2):=by
 unfold cU aI;rw [List.filter_flatMap]
 congr 1
 funext p
 rw [List.filter_map];rfl
theorem AZ{w:W}(g:Good w):2*(cU (row w) w.length).length≤Hr w:=by
 rw [uk,←td];have h1:=List.length_eq_countP_add_countP (λd:Nat×Nat=>decide (d.1<d.2)) (l:=aI w)
 have h2:((aI w).filter λd=>decide (d.1<d.2)).length≤((aI w).filter λd=>decide (d.2<d.1)).length:=by
  have:=aX (l:=((aI w).filter λd=>decide (d.1<d.2)).map λd=>(d.2,d.1)) (m:=(aI w).filter λd=>decide (d.2<d.1)) ?_ ?_
  ·rwa [List.length_map] at this
  ·unfold List.Nodup
   rw [jb];refine List.Pairwise.imp ?_ ((cq g).filter _);intro a b ne e;have e1:=congrArg Prod.fst e;have e2:=congrArg Prod.snd e;exact ne (Prod.ext e2 e1)
  ·intro x hx
   obtain ⟨d,hd,rfl⟩:=bx.mp hx;obtain ⟨EO,hd2⟩:=iJ.mp hd;refine iJ.mpr ⟨bI.mpr (g.sym _ _ (bI.mp EO)),?_⟩;simpa using hd2
 have h3:((aI w).filter λd=>decide (d.2<d.1)).length≤(aI w).countP λd=>!decide (d.1<d.2):=by
  rw [←List.countP_eq_length_filter];apply List.countP_mono_left;intro d _ h;simp at h ⊢;omega
 rw [List.countP_eq_length_filter] at h1
 have h4:(aI w).countP (λd=>!decide (d.1<d.2))=List.countP (λa=>decide ¬(decide (a.1<a.2)=true)) (aI w):=by
  congr 1
  funext d
  by_cases h:d.1<d.2<;>simp [h]
 omega
structure RI (w:W) (bs:List Bool) (ws ex:List Nat) (c:Nat):Prop where
 len:bs.length=w.length
 z:bs[0]? =some true
 wt:∀x∈ws,bs[x]? =some true
 cl:∀x,bs[x]? =some true→x∈ws∨x∈ex∨∀q∈row w x,bs[q]? =some true
 cnt:bs.count false+ws.length≤c
theorem RI.pop{w:W}{bs:List Bool}{ws:List Nat}{p c:Nat}(h:RI w bs (ws++ [p]) [] (c+1)):RI w bs ws [p] c:=
 ⟨h.len,h.z,λx hx=>h.wt x (fo _ hx),λx hx=>by
  rcases h.cl x hx with q|q|q
  ·rcases dF.mp q with q|q
   ·exact .inl q
   ·exact .inr (.inl q)
  ·cases q
  ·exact .inr (.inr q),by have:=h.cnt;rw [cy] at this;simp at this;omega⟩
theorem RI.push{w:W}{bs:List Bool}{ws ex:List Nat}{q c:Nat}(h:RI w bs ws ex c)(hq:bs[q]? =some false):RI w (bs.set q true) (ws++ [q]) ex c:=by
 obtain ⟨hl,he⟩:=fA.mp hq
 have up:∀x,bs[x]? =some true→(bs.set q true)[x]? =some true:=λx hx=>by
  rw [rg]
  by_cases e:q=x
  ·rw [if_pos e,if_pos hl]
  ·rw [if_neg e];exact hx
 refine ⟨by rw [kL];exact h.len,up _ h.z,λx hx=>?_,λx hx=>?_,?_⟩
 ·rcases dF.mp hx with z|z
  ·exact up _ (h.wt x z)
  ·have:x=q:=by simpa using z
   rw [this,rg,if_pos rfl,if_pos hl]
 ·by_cases e:q=x
  ·exact .inl (by rw [e];simp)
  ·rw [rg,if_neg e] at hx
   rcases h.cl x hx with z|z|z
   ·exact .inl (fo _ z)
   ·exact .inr (.inl z)
   ·exact .inr (.inr λy hy=>up _ (z y hy))
 ·have hc:=h.cnt
  have:0<bs.count false:=List.count_pos_iff.mpr (by rw [←he];exact nv hl)
  rw [List.count_set hl,he,cy];simp;omega
theorem RI.close{w:W}{bs:List Bool}{ws:List Nat}{p c:Nat}(h:RI w bs ws [p] c)(hp:∀q∈row w p,bs[q]? =some true):RI w bs ws [] c:=
 ⟨h.len,h.z,h.wt,λx hx=>by
  rcases h.cl x hx with q|q|q
  ·exact .inl q
  ·have:x=p:=by simpa using q
   rw [this];exact .inr (.inr hp)
  ·exact .inr (.inr q),h.cnt⟩
theorem RI.all{w:W}{bs:List Bool}{c:Nat}(g:Good w)(h:RI w bs [] [] c):bs=List.replicate w.length true:=by
 have:=qI g (S:=λx=>bs[x]? =some true) h.z λp q hp hq=>by
  rcases h.cl p hp with z|z|z
  ·cases z
  ·cases z
  ·exact z q hq
 refine List.ext_getElem? λi=>?_
 by_cases hi:i<w.length
 ·rw [this i hi,B5,if_pos hi]
 ·rw [i9 (by rw [h.len];omega),i9 (by simp;omega)]
end Wb
namespace p9
open PySem L2 Wb
def top(i:Nat):Stmt:=PySem.Challenge.pw_mapdye_k35_whole_counts_and_turned_rings.main.body.getD i (.Pass ⟨0,0,0,0⟩)
abbrev lP:Stmt:=top 10
abbrev iE:Stmt:=top 11
abbrev jt:Stmt:=top 12
abbrev iH:Stmt:=top 13
abbrev js:Stmt:=top 14
abbrev cN:Stmt:=top 15
abbrev iF:Stmt:=top 16
abbrev iG:Stmt:=top 17
abbrev lO:Stmt:=top 20
abbrev kn:Stmt:=top 21
abbrev jN:Stmt:=top 22
abbrev fb:Stmt:=top 23
abbrev gS:Stmt:=top 25
abbrev jo:Stmt:=top 26
abbrev jq:Stmt:=top 27
abbrev dR:Stmt:=top 28
abbrev jn:Stmt:=top 29
abbrev iZ:Stmt:=top 30
abbrev iD:Stmt:=top 31
abbrev fT:Stmt:=top 32
abbrev iB:Stmt:=top 33
abbrev fU:Stmt:=top 34
abbrev jr:Stmt:=top 35
abbrev cQ:Stmt:=top 36
abbrev eO:Stmt:=top 37
abbrev iC:Stmt:=top 38
abbrev AQ:Stmt:=top 39
abbrev dO:Stmt:=L2.hV (top 18) 0
abbrev qV:Stmt:=L2.hV (top 18) 1
abbrev g8:Stmt:=L2.hV (top 18) 2
abbrev iY:Stmt:=L2.hV (top 18) 3
abbrev qW:Stmt:=L2.hV (top 18) 4
abbrev m8:Stmt:=L2.hV (top 18) 5
theorem pM:aL ["thing","many"] ["thing","many"] (aq lP):=⟨rfl,rfl,rfl,by decide+kernel,rfl,by decide+kernel,by decide+kernel⟩
theorem kF:aL ["rows","p","row","q"] ["rows"] (aq iE):=⟨rfl,rfl,rfl,by decide+kernel,rfl,by decide+kernel,by decide+kernel⟩
theorem lY:aL ["rows","p","row"] ["rows"] (aq jt):=⟨rfl,rfl,rfl,by decide+kernel,rfl,by decide+kernel,by decide+kernel⟩
theorem kI:aL ["rows","p","row","place","q"] ["rows"] (aq iH):=⟨rfl,rfl,rfl,by decide+kernel,rfl,by decide+kernel,by decide+kernel⟩
theorem lX:aL ["rows","p","row","q"] ["rows"] (aq js):=⟨rfl,rfl,rfl,by decide+kernel,rfl,by decide+kernel,by decide+kernel⟩
theorem fV:aL ["rows","reached","waiting","p","q"] ["rows"] (aq cN):=⟨rfl,rfl,rfl,by decide+kernel,rfl,by decide+kernel,by decide+kernel⟩
theorem kG:aL ["rows","q","reached"] ["rows"] (aq iF):=⟨rfl,rfl,rfl,by decide+kernel,rfl,by decide+kernel,by decide+kernel⟩
theorem kH:aL ["rows","fault"] ["rows"] (aq iG):=⟨rfl,rfl,rfl,by decide+kernel,rfl,by decide+kernel,by decide+kernel⟩
theorem pL:aL ["ring","p","place"] ["ring","p"] (aq lO):=⟨rfl,rfl,rfl,by decide+kernel,rfl,by decide+kernel,by decide+kernel⟩
theorem ng:aL ["web","ring","i","turn"] ["web","ring","i"] (aq kn):=⟨rfl,rfl,rfl,by decide+kernel,rfl,by decide+kernel,by decide+kernel⟩
theorem ug:aL ["web","ring","pairs"] ["web","ring"] (aq jN):=⟨rfl,rfl,rfl,by decide+kernel,rfl,by decide+kernel,by decide+kernel⟩
theorem i6:aL ["web","ring","turns","waiting","met","p"] ["web","ring"] (aq fb):=⟨rfl,rfl,rfl,by decide+kernel,rfl,by decide+kernel,by decide+kernel⟩
theorem jP:aL ["_law_script","_law_k"] ["_law_script","_law_k"] (aq gS):=⟨rfl,rfl,rfl,by decide+kernel,rfl,by decide+kernel,by decide+kernel⟩
theorem lT:aL ["_law_cell","_law_mixed"] ["_law_cell"] (aq jo):=⟨rfl,rfl,rfl,by decide+kernel,rfl,by decide+kernel,by decide+kernel⟩
theorem lU:aL ["_law_number","_law_turns","_law_ring","_law_many","_law_point","_law_at","_law_far","_law_arc","_law_other"] ["_law_number"] (aq jq):=⟨rfl,rfl,rfl,by decide+kernel,rfl,by decide+kernel,by decide+kernel⟩
theorem lV:aL ["_law_turns","_law_ring","_law_number","_law_names","_law_k","_law_found","_law_row","_law_at"] ["_law_turns","_law_ring","_law_number"] (aq dR):=⟨rfl,rfl,rfl,by decide+kernel,rfl,by decide+kernel,by decide+kernel⟩
theorem lQ:aL ["_law_script","_law_turns","_law_ring","_law_number","_law_one","_law_other","_law_row"] ["_law_script"] (aq jn):=⟨rfl,rfl,rfl,by decide+kernel,rfl,by decide+kernel,by decide+kernel⟩
theorem pK:aL ["_law_turns"] ["_law_turns"] (aq iZ):=⟨rfl,rfl,rfl,by decide+kernel,rfl,by decide+kernel,by decide+kernel⟩
theorem kE:aL ["_law_turns","_law_ring","_law_i","_law_row","_law_at"] ["_law_turns","_law_ring","_law_i"] (aq iD):=⟨rfl,rfl,rfl,by decide+kernel,rfl,by decide+kernel,by decide+kernel⟩
theorem kA:aL ["_law_turns","_law_ring","_law_found","_law_i","_law_inner"] ["_law_turns","_law_ring"] (aq fT):=⟨rfl,rfl,rfl,by decide+kernel,rfl,by decide+kernel,by decide+kernel⟩
theorem kB:aL ["_law_ring","_law_i","_law_j"] ["_law_ring","_law_i","_law_j"] (aq iB):=⟨rfl,rfl,rfl,by decide+kernel,rfl,by decide+kernel,by decide+kernel⟩
theorem kC:aL ["_law_turns","_law_ring","_law_number","_law_some","_law_last","_law_i","_law_j"] ["_law_turns","_law_ring","_law_number"] (aq fU):=⟨rfl,rfl,rfl,by decide+kernel,rfl,by decide+kernel,by decide+kernel⟩
theorem lW:aL ["_law_turns","_law_ring","_law_number","_law_found","_law_at"] ["_law_turns","_law_ring","_law_number"] (aq jr):=⟨rfl,rfl,rfl,by decide+kernel,rfl,by decide+kernel,by decide+kernel⟩
theorem jQ:aL ["_law_web_here","_law_ring","_law_ends","_law_inner","_law_between"] ["_law_web_here","_law_ring"] (aq cQ):=⟨rfl,rfl,rfl,by decide+kernel,rfl,by decide+kernel,by decide+kernel⟩
theorem f6:aL ["_law_web_here","_law_ring","_law_found","_law_i","_law_j"] ["_law_web_here","_law_ring"] (aq eO):=⟨rfl,rfl,rfl,by decide+kernel,rfl,by decide+kernel,by decide+kernel⟩
theorem kD:aL ["_law_web_here","_law_ring","_law_at","_law_other","_law_i","_law_named_here"] ["_law_web_here","_law_ring","_law_at"] (aq iC):=⟨rfl,rfl,rfl,by decide+kernel,rfl,by decide+kernel,by decide+kernel⟩
theorem BU:aL ["_law_script","_law_turns","_law_ring","_law_web_here","_law_one"] ["_law_script"] (aq AQ):=⟨rfl,rfl,rfl,by decide+kernel,rfl,by decide+kernel,by decide+kernel⟩
theorem jO:aL ["self","turns","rows","fault"] ["self","turns"] (aq dO):=⟨rfl,rfl,rfl,by decide+kernel,rfl,by decide+kernel,by decide+kernel⟩
theorem m9:aL ["self"] ["self"] (aq g8):=⟨rfl,rfl,rfl,by decide+kernel,rfl,by decide+kernel,by decide+kernel⟩
theorem pJ:aL ["self"] ["self"] (aq iY):=⟨rfl,rfl,rfl,by decide+kernel,rfl,by decide+kernel,by decide+kernel⟩
structure Txt (Z:DC) (mg:Str→Option Value) where
 B:MS mg
 x_set:mg "set"=none
 d_is_among:fK Z.K mg "is_among" lP ["thing","many"]
 d_alien_fault:fK Z.K mg "alien_fault" iE ["rows"]
 d_self_fault:fK Z.K mg "self_fault" jt ["rows"]
 d_twice_fault:fK Z.K mg "twice_fault" iH ["rows"]
 d_lone_fault:fK Z.K mg "lone_fault" js ["rows"]
 d_reached_from_first:fK Z.K mg "reached_from_first" cN ["rows"]
 d_apart_fault:fK Z.K mg "apart_fault" iF ["rows"]
 d_first_fault:fK Z.K mg "first_fault" iG ["rows"]
 d_begun_at:fK Z.K mg "begun_at" lO ["ring","p"]
 d_within_at:fK Z.K mg "within_at" kn ["web","ring","i"]
 d_chords:fK Z.K mg "chords" jN ["web","ring"]
 d_points_within:fK Z.K mg "points_within" fb ["web","ring"]
 d__law_cell_at:fK Z.K mg "_law_cell_at" gS ["_law_script","_law_k"]
 d__law_drawn:fK Z.K mg "_law_drawn" jo ["_law_cell"]
 d__law_grown:fK Z.K mg "_law_grown" jq ["_law_number"]
 d__law_named:fK Z.K mg "_law_named" dR ["_law_turns","_law_ring","_law_number"]
 d__law_built:fK Z.K mg "_law_built" jn ["_law_script"]
 d__law_web:fK Z.K mg "_law_web" iZ ["_law_turns"]
 d__law_within:fK Z.K mg "_law_within" iD ["_law_turns","_law_ring","_law_i"]
 d__law_chords:fK Z.K mg "_law_chords" fT ["_law_turns","_law_ring"]
 d__law_halves:fK Z.K mg "_law_halves" iB ["_law_ring","_law_i","_law_j"]
 d__law_lesser:fK Z.K mg "_law_lesser" fU ["_law_turns","_law_ring","_law_number"]
 d__law_rings:fK Z.K mg "_law_rings" jr ["_law_turns","_law_ring","_law_number"]
 d__law_counted:fK Z.K mg "_law_counted" cQ ["_law_web_here","_law_ring"]
 d__law_named_chords:fK Z.K mg "_law_named_chords" eO ["_law_web_here","_law_ring"]
 d__law_turned:fK Z.K mg "_law_turned" iC ["_law_web_here","_law_ring","_law_at"]
 d_law:fK Z.K mg "law" AQ ["_law_script"]
 W:DR Z
 mC:mg "Web"=some (.ref Z.C)
 i_f:Addr
 i_fd:FuncData
 i_F:uJ Z.K "__init__" "Web.__init__" dO i_f i_fd
 mkW:Mk Z.K Z.C i_f
 m___init__b:Binds Z.K i_fd ["self","turns"] []
 m_many:zq Z "many" "Web.many" qV ["self"]
 m_turns:zq Z "turns" "Web.turns" g8 ["self"]
 m_ties:zq Z "ties" "Web.ties" iY ["self"]
 m_tied:zq Z "tied" "Web.tied" qW ["self","a","b"]
 m_behind:zq Z "behind" "Web.behind" m8 ["self","p","q"]
 c_MOST_POINTS:∃tk,mg "MOST_POINTS"=some (.int 14 tk)
variable {P:Program} {w:World} {mg:Str→Option Value} {base:Heap} {Z:DC} (T:Txt Z mg)
def Gq:cV:=λds P=>∃(i n:Int),ds= [.int i, .int n]∧P (.bl (decide (0≤i∧i<n)))
theorem xb:FnOk P w Z.K mg base cP 1 T.d_is_among.f T.d_is_among.fd ["thing","many"] (aS Z Gq):=by
 have nd:=pM.nd;refine bc T.d_is_among.F pM [0,0] (by decide) (λds R h=>by obtain ⟨_,_,rfl,_⟩:=h;rfl) (λbM A outer s H E ds R hr h=>?_)
 have hu:=hr.units;refine ⟨_,(ar (aM (Bg (Bi "int" (aa 0) rfl T.B.isinstance rfl T.B.int Hb) (Bg (Ho (Bi "bool" (aa 0) rfl T.B.isinstance rfl T.B.bool D5)) (Hq (Cg Au tU av (aa 0) (aa 1))))))),?_⟩;obtain ⟨i,n,rfl,q⟩:=h;refine ⟨_,rfl,rfl,true,rfl,ed ⟨_,rfl,rfl,false,rfl,true,rfl,ed ⟨_,rfl,?_⟩⟩⟩;refine ⟨_,rfl,cu (λh0=>⟨_,rfl,?_⟩) (λh0=>?_)⟩
 ·have h0:0≤i:=of_decide_eq_true h0
  show R (.bl (decide (i<n)));rw [show decide (i<n)=decide (0≤i∧i<n) by simp [h0]]
  exact q
 ·have h0:¬0≤i:=of_decide_eq_false h0
  rw [show decide (0≤i∧i<n)=false by simp [h0]] at q
  exact q
def mB:cV:=λds P=>∃(w:W),ds= [aN w]∧Good w∧1≤w.length∧w.length≤14∧P .bf
theorem zd{w:W}{j:Nat}{d:D}(h:(gn (w.map ao))[j]? =some d):j<w.length∧d= .tup [.int (j:Int),ao (row w j)]:=by
 obtain ⟨x,hx,rfl⟩:=j3 h;obtain ⟨r,hr,rfl⟩:=dM hx;have hj:j<w.length:=(fA.mp hr).1;refine ⟨hj,?_⟩;rw [BQ hr]
theorem rM:FnOk P w Z.K mg base cP 2 T.d_alien_fault.f T.d_alien_fault.fd ["rows"] (aS Z mB):=by
 have nd:=kF.nd;refine bc T.d_alien_fault.F kF [0,0,0,0] (by decide) (λds R h=>by obtain ⟨_,rfl,_⟩:=h;rfl) (λbM A outer s H E ds R hr h=>?_)
 have hu:=hr.units
 refine ⟨_,(ah (eZ rfl PassesOwn.never (gI rfl T.B.enumerate (ab (aa 0) ag)) (fN 2 rfl (bu (aQ 1 nd) (bu (aQ 2 nd) dk))) (ar (eZ rfl PassesOwn.never (bU (aa 2)) (aQ 3 nd) (ar (cL (mw (j0 (aA T.d_is_among (xb T) hr (ab (aa 3) (ab (ax aP rfl T.B.len aO (ab (aa 0) ag)) ag))))) (ar (aM (fv (ab oM (ab (aa 1) (ab (aa 3) ag)))))) bH)))))
   (ar (aM fu))),?_⟩
 obtain ⟨w',rfl,g,h1,bw,q⟩:=h;refine ⟨_,rfl,cT (λ_ ρ=>∃o1 o2 o3,ρ= [some (aN w'),o1,o2,o3]) ⟨_,_,_,rfl⟩ ?_ ?_⟩
 ·rintro j d _ hd ⟨o1,o2,o3,rfl⟩ A hA
  obtain ⟨hj,rfl⟩:=zd hd;refine ⟨rfl,rfl,?_⟩;refine ⟨_,rfl,cT (λ_ ρ=>∃o3,ρ= [some (aN w'),some (.int (j:Int)),some (ao (row w' j)),o3]) ⟨_,rfl⟩ ?_ ?_⟩
  ·rintro k d' _ hk ⟨o4,rfl⟩ A' zS
   obtain ⟨x,hx,rfl⟩:=dM hk;refine ⟨_,rfl,_,rfl,_,_,rfl,⟨rfl,?_⟩⟩;have b0:x<w'.length:=g.rng _ _ (f7 hx);rw [show decide ((0:Int)≤(x:Int)∧(x:Int)<((w'.map ao).length:Int))=true by simp;omega]
   exact cO (zS _ ⟨_,rfl⟩)
  ·rintro _ ⟨o4,rfl⟩
   exact hA _ ⟨_,_,_,rfl⟩
 ·rintro _ ⟨o1,o2,o3,rfl⟩
  exact q
theorem t6:FnOk P w Z.K mg base cP 1 T.d_self_fault.f T.d_self_fault.fd ["rows"] (aS Z mB):=by
 have nd:=lY.nd;refine bc T.d_self_fault.F lY [0,0,0] (by decide) (λds R h=>by obtain ⟨_,rfl,_⟩:=h;rfl) (λbM A outer s H E ds R hr h=>?_)
 have hu:=hr.units
 refine ⟨_,(ah (eZ rfl PassesOwn.never (gI rfl T.B.enumerate (ab (aa 0) ag)) (fN 2 rfl (bu (aQ 1 nd) (bu (aQ 2 nd) dk))) (ar (cL (aU n6 (aa 1) (aa 2) (by with_unfolding_all rfl)) (ar (aM (fv (ab oM (ab (aa 1) (ab (aa 1) ag)))))) bH)))
   (ar (aM fu))),?_⟩
 obtain ⟨w',rfl,g,h1,bw,q⟩:=h;refine ⟨_,rfl,cT (λ_ ρ=>∃o1 o2,ρ= [some (aN w'),o1,o2]) ⟨_,_,rfl⟩ ?_ ?_⟩
 ·rintro j d _ hd ⟨o1,o2,rfl⟩ A hA
  obtain ⟨hj,rfl⟩:=zd hd;refine ⟨rfl,rfl,?_⟩;refine ⟨_,rfl,_,rfl,rfl,bO _,_,rfl,?_⟩
  have e:inD (.int (j:Int)) ((row w' j).map ae)=false:=by
   have:=fO (r:=row w' j) (p:=j)
   rw [decide_eq_false (g.irr j)] at this;exact this
  rw [if_neg dW,e];exact cO (hA _ ⟨_,_,rfl⟩)
 ·rintro _ ⟨o1,o2,rfl⟩
  exact q
theorem cK{α:Type}(l:List α)(k:Nat)(h:k≤l.length):cutD l none (some (k:Int))=l.take k:=by
 unfold cutD;have e1:HT.bL l.length 0 none=0:=rfl
 have e2:HT.bL l.length l.length (some (k:Int))=k:=by
  simp only [HT.bL]
  split<;>omega
 rw [e1,e2];simp
theorem rO:FnOk P w Z.K mg base cP 1 T.d_twice_fault.f T.d_twice_fault.fd ["rows"] (aS Z mB):=by
 have nd:=kI.nd;refine bc T.d_twice_fault.F kI [0,0,0,0,0] (by decide) (λds R h=>by obtain ⟨_,rfl,_⟩:=h;rfl) (λbM A outer s H E ds R hr h=>?_)
 have hu:=hr.units
 refine ⟨_,(ah (eZ rfl PassesOwn.never (gI rfl T.B.enumerate (ab (aa 0) ag)) (fN 2 rfl (bu (aQ 1 nd) (bu (aQ 2 nd) dk))) (ar (eZ rfl PassesOwn.never (gI rfl T.B.enumerate (ab (aa 2) ag)) (fN 2 rfl (bu (aQ 3 nd) (bu (aQ 4 nd) dk))) (ar (cL (aU n6 (aa 4) (bg (aa 2) bN (bp (aa 3))) (by with_unfolding_all rfl)) (ar (aM (fv (ab oM (ab (aa 1) (ab (aa 4) ag)))))) bH)))))
   (ar (aM fu))),?_⟩
 obtain ⟨w',rfl,g,h1,bw,q⟩:=h;refine ⟨_,rfl,cT (λ_ ρ=>∃o1 o2 o3 o4,ρ= [some (aN w'),o1,o2,o3,o4]) ⟨_,_,_,_,rfl⟩ ?_ ?_⟩
 ·rintro j d _ hd ⟨o1,o2,o3,o4,rfl⟩ A hA
  obtain ⟨hj,rfl⟩:=zd hd;refine ⟨rfl,rfl,?_⟩;refine ⟨_,rfl,cT (λ_ ρ=>∃o3 o4,ρ= [some (aN w'),some (.int (j:Int)),some (ao (row w' j)),o3,o4]) ⟨_,_,rfl⟩ ?_ ?_⟩
  ·rintro k d' _ hk ⟨o5,o6,rfl⟩ A' zS
   obtain ⟨y,hy,rfl⟩:=j3 hk;obtain ⟨x,hx,rfl⟩:=dM hy;have mM:k<(row w' j).length:=(fA.mp hx).1;refine ⟨rfl,rfl,?_⟩;refine ⟨_,rfl,_,rfl,_,rfl,?_⟩;have ec:cutD ((row w' j).map ae) none (some (k:Int))=((row w' j).take k).map ae:=by rw [cK _ _ (by simp;omega),jd]
   refine (?_:Hi false (ae x) (.lst (cutD ((row w' j).map ae) none (some (k:Int)))) _);rw [ec];refine ⟨rfl,bO _,_,rfl,?_⟩
   have e:inD (ae x) (((row w' j).take k).map ae)=false:=by
    rw [fO,decide_eq_false];intro z;obtain ⟨m,hm⟩:=zi z
    have yf:m<k:=by
     have:=(fA.mp hm).1
     rw [b8] at this;omega
    rw [nk yf] at hm;exact absurd ((List.getElem?_inj (by omega) (g.nod j)).mp (hm.trans hx.symm)) (by omega)
   rw [if_neg dW,e];exact cO (zS _ ⟨_,_,rfl⟩)
  ·rintro _ ⟨o5,o6,rfl⟩
   exact hA _ ⟨_,_,_,_,rfl⟩
 ·rintro _ ⟨o1,o2,o3,o4,rfl⟩
  exact q
theorem t5:FnOk P w Z.K mg base cP 1 T.d_lone_fault.f T.d_lone_fault.fd ["rows"] (aS Z mB):=by
 have nd:=lX.nd;refine bc T.d_lone_fault.F lX [0,0,0,0] (by decide) (λds R h=>by obtain ⟨_,rfl,_⟩:=h;rfl) (λbM A outer s H E ds R hr h=>?_)
 have hu:=hr.units
 refine ⟨_,(ah (eZ rfl PassesOwn.never (gI rfl T.B.enumerate (ab (aa 0) ag)) (fN 2 rfl (bu (aQ 1 nd) (bu (aQ 2 nd) dk))) (ar (eZ rfl PassesOwn.never (bU (aa 2)) (aQ 3 nd) (ar (cL (aU vD (aa 1) (bD (aa 0) (aa 3)) (by with_unfolding_all rfl)) (ar (aM (fv (ab oM (ab (aa 1) (ab (aa 3) ag)))))) bH)))))
   (ar (aM fu))),?_⟩
 obtain ⟨w',rfl,g,h1,bw,q⟩:=h;refine ⟨_,rfl,cT (λ_ ρ=>∃o1 o2 o3,ρ= [some (aN w'),o1,o2,o3]) ⟨_,_,_,rfl⟩ ?_ ?_⟩
 ·rintro j d _ hd ⟨o1,o2,o3,rfl⟩ A hA
  obtain ⟨hj,rfl⟩:=zd hd;refine ⟨rfl,rfl,?_⟩;refine ⟨_,rfl,cT (λ_ ρ=>∃o3,ρ= [some (aN w'),some (.int (j:Int)),some (ao (row w' j)),o3]) ⟨_,rfl⟩ ?_ ?_⟩
  ·rintro k d' _ hk ⟨o4,rfl⟩ A' zS
   obtain ⟨x,hx,rfl⟩:=dM hk;have Pu:=f7 hx;have b0:x<w'.length:=g.rng _ _ Pu;refine ⟨_,rfl,_,rfl,_,rfl,_,hE (uo b0),rfl,bO _,_,rfl,?_⟩
   have e:inD (.int (j:Int)) ((row w' x).map ae)=true:=by
    have:=fO (r:=row w' x) (p:=j)
    rw [decide_eq_true (g.sym _ _ Pu)] at this;exact this
   rw [if_pos rfl,e];exact cO (zS _ ⟨_,rfl⟩)
  ·rintro _ ⟨o4,rfl⟩
   exact hA _ ⟨_,_,_,rfl⟩
 ·rintro _ ⟨o1,o2,o3,rfl⟩
  exact q
def sO(bs:List Bool):List D:=bs.map D.bl
theorem D8{bs:List Bool}{i:Nat}{b:Bool}(h:bs[i]? =some b):(sO bs)[i]? =some (.bl b):=by unfold sO;rw [eC,h];rfl
theorem xP(bs:List Bool)(i:Nat)(b:Bool):(sO bs).set i (.bl b)=sO (bs.set i b):=by unfold sO;rw [List.map_set]
theorem xO(bs:List Bool):(sO bs).length=bs.length:=List.length_map _
theorem jB{n k:Nat}(h:k<n):nV n (k:Int)=some k:=by unfold nV;rw [if_pos (by omega),if_pos (by omega)];simp
def AX:cV:=λds P=>∃(w:W),ds= [aN w]∧Good w∧1≤w.length∧w.length≤14∧P (.lst (sO (List.replicate w.length true)))
theorem kd:FnOk P w Z.K mg base cP 1 T.d_reached_from_first.f T.d_reached_from_first.fd ["rows"] (aS Z AX):=by
 have nd:=fV.nd;refine bc T.d_reached_from_first.F fV [0,1,1,0,0] (by decide) (λds R h=>by obtain ⟨_,rfl,_⟩:=h;rfl) (λbM A outer s H E ds R hr h=>?_)
 have hu:=hr.units
 refine ⟨_,(ah (u9 1 (NC:= ["row"]) (src:= [none]) rfl nd (mH (aq cN)) trivial (bU (aa 0)) (λ_ _ _=>(bQ 0 (show (["row"]:List Str).Nodup from by decide+kernel))) (λ_ _ _=>dJ) (λ_ _ _=>lq))
   (ah (vc false 1 av lq)
   (ah (oR 2 nd (oO (ab av ag)))
   (ah (qg PassesOwn.never (j0 (aa 2)) (ah (Bn 3 2 nd)
   (ar (eZ rfl PassesOwn.never (bU (bD (aa 0) (aa 3))) (aQ 4 nd) (ar (cL (mw (j0 (bD (aa 1) (aa 4)))) (ah (vc false 1 (aa 4) lq)
   (ar (rW false 2 (aa 4)))) bH))))))
   (ar (aM (aa 1))))))),?_⟩
 obtain ⟨w',rfl,g,h1,bw,q⟩:=h;refine ⟨_,rfl,iU (ρ:= [none]) ao (λ_=> .bl false) w' _ (λy hy Y h=>h) rfl (small (by omega)) λaC=>?_⟩
 have e0:w'.map (λ_=>D.bl false)=sO (List.replicate w'.length false):=by unfold sO;rw [List.map_replicate,List.map_const']
 rw [e0];refine ⟨trivial,_,rfl,0,0,rfl,by rw [xO,vS];exact jB (k:=0) (by omega),?_⟩
 rw [xP];refine ⟨by show 1≤sizeLine;decide,?_⟩
 refine ou (λm ρ=>∃(bs:List Bool)(ws:List Nat)(o3 o4:Option D),ρ= [some (aN w'),some (.lst (sO bs)),some (.lst (ws.map ae)),o3,o4]∧RI w' bs ws [] m∧m≤14∧bs.count false+ws.length=m) w'.length ?_ ?_
 ·refine ⟨_,[0],none,none,rfl,⟨by simp,?_,?_,λx hx=>?_,?_⟩,bw,?_⟩
  ·rw [rg,if_pos rfl,if_pos (by rw [vS];omega)]
  ·intro x hx
   have:x=0:=by simpa using hx
   rw [this,rg,if_pos rfl,if_pos (by rw [vS];omega)]
  ·by_cases e:0=x
   ·exact .inl (by rw [←e];simp)
   ·rw [rg,if_neg e,B5] at hx
    split at hx<;>cases hx
  ·rw [List.count_set (by rw [vS];omega),List.count_replicate_self,List.getElem_replicate]
   simp;omega
  ·rw [List.count_set (by rw [vS];omega),List.count_replicate_self,List.getElem_replicate]
   simp;omega
 ·rintro m _ ⟨bs,ws,o3,o4,rfl,ri,hc,O2⟩
  refine ⟨_,rfl,rfl,?_⟩
  rcases List.eq_nil_or_concat ws with rfl| ⟨pT,p,e⟩
  ·refine cO ?_
   have e:=ri.all g;rw [←e] at q;exact ⟨_,rfl,q⟩
  ·rw [xr] at e
   subst e;rw [show vP (.lst ((pT++ [p]).map ae))=true by simp [vP]]
   refine ed ?_;rw [cy] at O2;simp only [uA] at O2;obtain ⟨c',rfl⟩:∃c',m=c'+1:=⟨m-1,by omega⟩
   have XM:=ri.pop;have hp:bs[p]? =some true:=ri.wt p (by simp)
   have UZ:p<w'.length:=by rw [←ri.len];exact (fA.mp hp).1
   refine ⟨pT.map ae,ae p,by rw [fh];rfl,?_⟩
   refine ⟨_,rfl,_,rfl,_,hE (uo UZ),cT (λj ρ=>∃(oJ:List Bool)(uZ:List Nat)(o4:Option D),ρ= [some (aN w'),some (.lst (sO oJ)),some (.lst (uZ.map ae)),some (ae p),o4]∧RI w' oJ uZ [p] c'∧(∀k y,k<j→(row w' p)[k]? =some y→oJ[y]? =some true)∧oJ.count false+uZ.length=c') ?_ ?_ ?_⟩
   ·exact ⟨bs,pT,_,rfl,XM,(λk n hk=>by omega),by omega⟩
   ·rintro j x _ hx ⟨oJ,uZ,o5,rfl,Gh,Bm,Kq⟩ A hA
    obtain ⟨n,hn,rfl⟩:=dM hx;have UR:=g.rng _ _ (f7 hn);have LK:n<oJ.length:=by rw [Gh.len];exact UR
    have EM:oJ[n]? =some (oJ[n]):=bq LK;refine ⟨_,rfl,_,rfl,_,hE (D8 EM),rfl,?_⟩;generalize oJ[n]=bn at EM;cases bn with
    |true=>
     refine cO (hA _ ⟨oJ,uZ,_,rfl,Gh,λk y hk hy=>?_,Kq⟩)
     by_cases e:k=j
     ·rw [e,hn] at hy;cases hy;exact EM
     ·exact Bm k y (by omega) hy
    |false=>
     refine ed ?_;refine ⟨trivial,_,rfl,_,rfl,_,n,rfl,by rw [xO];exact jB LK,?_⟩
     rw [xP];have IM:=Gh.push EM;have Yl:=IM.cnt;refine ⟨_,rfl,_,rfl,trivial,gy (by rw [List.length_map];omega),?_⟩
     have er:uZ.map ae++ [ae n]=(uZ++ [n]).map ae:=by rw [fh];rfl
     rw [er];refine hA _ ⟨oJ.set n true,uZ++ [n],_,rfl,IM,λk y hk hy=>?_,?_⟩
     ·rw [rg]
      by_cases e:n=y
      ·rw [if_pos e,if_pos LK]
      ·rw [if_neg e]
       refine Bm k y ?_ hy;apply Classical.byContradiction;intro z
       have:k=j:=by omega
       rw [this,hn] at hy;cases hy;exact e rfl
     ·obtain ⟨hl,he⟩:=fA.mp EM
      have:0<oJ.count false:=List.count_pos_iff.mpr (by rw [←he];exact nv hl)
      rw [List.count_set hl,he,cy];simp;omega
   ·rintro _ ⟨oJ,uZ,o5,rfl,Gh,Bm,Kq⟩
    have IM:=Gh.close λy hy=>by
     obtain ⟨k,hk⟩:=zi hy;exact Bm k y (by rw [List.length_map];exact (fA.mp hk).1) hk
    exact ⟨c',by omega,oJ,uZ,_,_,rfl,IM,by omega,Kq⟩
theorem rN:FnOk P w Z.K mg base cP 2 T.d_apart_fault.f T.d_apart_fault.fd ["rows"] (aS Z mB):=by
 have nd:=kG.nd;refine bc T.d_apart_fault.F kG [0,0,0] (by decide) (λds R h=>by obtain ⟨_,rfl,_⟩:=h;rfl) (λbM A outer s H E ds R hr h=>?_)
 have hu:=hr.units
 refine ⟨_,(ah (eZ rfl PassesOwn.never (gI rfl T.B.enumerate (ab (aA T.d_reached_from_first (kd T) hr (ab (aa 0) ag)) ag)) (fN 2 rfl (bu (aQ 1 nd) (bu (aQ 2 nd) dk))) (ar (cL (mw (j0 (aa 2))) (ar (aM (fv (ab oM (ab av (ab (aa 1) ag)))))) bH)))
   (ar (aM fu))),?_⟩
 obtain ⟨w',rfl,g,h1,bw,q⟩:=h;refine ⟨_,rfl,w',rfl,g,h1,bw,cT (λ_ ρ=>∃o1 o2,ρ= [some (aN w'),o1,o2]) ⟨_,_,rfl⟩ ?_ ?_⟩
 ·rintro j d _ hd ⟨o1,o2,rfl⟩ A hA
  obtain ⟨y,hy,rfl⟩:=j3 hd
  have ey:y= .bl true:=by
   obtain ⟨b,hb,rfl⟩:=dM hy
   have:=f7 hb
   rw [List.mem_replicate] at this;rw [this.2]
  subst ey;refine ⟨rfl,rfl,?_⟩;exact ⟨_,rfl,rfl,cO (hA _ ⟨_,_,rfl⟩)⟩
 ·rintro _ ⟨o1,o2,rfl⟩
  exact q
theorem kz:FnOk P w Z.K mg base cP 3 T.d_first_fault.f T.d_first_fault.fd ["rows"] (aS Z mB):=by
 have nd:=kH.nd;refine bc T.d_first_fault.F kH [0,0] (by decide) (λds R h=>by obtain ⟨_,rfl,_⟩:=h;rfl) (λbM A outer s H E ds R hr h=>?_)
 have hu:=hr.units
 refine ⟨_,(ah (aF false 1 nd (aA T.d_alien_fault (rM T) hr (ab (aa 0) ag)))
   (ah (cL (aU tT (aa 1) fu (bF _)) (ar (aF false 1 nd (aA T.d_self_fault (t6 T) hr (ab (aa 0) ag)))) bH)
   (ah (cL (aU tT (aa 1) fu (bF _)) (ar (aF false 1 nd (aA T.d_twice_fault (rO T) hr (ab (aa 0) ag)))) bH)
   (ah (cL (aU tT (aa 1) fu (bF _)) (ar (aF false 1 nd (aA T.d_lone_fault (t5 T) hr (ab (aa 0) ag)))) bH)
   (ah (cL (aU tT (aa 1) fu (bF _)) (ar (aF false 1 nd (aA T.d_apart_fault (rN T) hr (ab (aa 0) ag)))) bH)
   (ar (aM (aa 1)))))))),?_⟩
 obtain ⟨w',rfl,g,h1,bw,q⟩:=h;have no:∀(u:eD)(E:gh)(ρ:DN)(te:bh),ρ[1]? =some (some .bf)→E.nx ρ→JH (wA (Ce (Ef false) (JK 1) (dC .bf))) u Ej E ρ→True:=λ_ _ _ _ _ _ _=>trivial;refine ⟨_,rfl,w',rfl,g,h1,bw,trivial,?_⟩;refine ⟨_,rfl,_,rfl,ed ⟨_,rfl,w',rfl,g,h1,bw,trivial,?_⟩⟩;refine ⟨_,rfl,_,rfl,ed ⟨_,rfl,w',rfl,g,h1,bw,trivial,?_⟩⟩;refine ⟨_,rfl,_,rfl,ed ⟨_,rfl,w',rfl,g,h1,bw,trivial,?_⟩⟩;refine ⟨_,rfl,_,rfl,ed ⟨_,rfl,w',rfl,g,h1,bw,trivial,?_⟩⟩;exact ⟨_,rfl,q⟩
theorem qx{P:Program}{w:World}{mg:Str→Option Value}{base:Heap}{Z:DC}(T:Txt Z mg):FnOk P w Z.K mg base cP 4 T.i_f T.i_fd ["self","turns"] (yZ Z):=by
 have EG:=kz (P:=P) (w:=w) (base:=base) T;have nd:=jO.nd;refine T.i_F.ok jO (λvs H Q E h=>?_) (λbM A outer s H vs Q E hr h=>?_)
 ·obtain ⟨p,dx,v,G,w',rfl,_⟩:=h;rfl
 obtain ⟨p,dx,v,G,w',rfl,hp,sG,gp,dv,g,h1,bw,q⟩:=h;have hu:=hr.units
 refine ⟨_,jL (t:=nY Z [0,0,0,0] 0 _)
   (cL (mw (Cn Au Au av (ax aP rfl T.B.len aO (ab (aa 1) ag)) (Ci rfl T.c_MOST_POINTS))) (ar u7) bH)
  (jL (t:=nY Z [0,0,0,0] 0 _)
   (Cm 2 (NC:= ["row"]) (src:= [none]) rfl nd (mH (aq dO)) trivial (bU (aa 1)) (λ_ _ _=>(bQ 0 (show (["row"]:List Str).Nodup from by decide+kernel))) (λ_ _ _=>dJ) (λ_ _ _=>(nI sQ rfl T.B.list oI (ab (aa 0) ag))))
  (jL (t:=nY Z [0,0,0,0] 0 _)
   (aF false 3 nd (aA T.d_first_fault (kz T) hr (ab (aa 2) ag)))
  (jL (t:=nY Z [0,0,0,0] 0 _)
   (cL (aU CV (aa 3) fu (bF _)) (ar u7) bH)
  (yN (IH (pv 0) (pv 2) rfl))))),?_⟩
 have lw:(w'.map ao).length=w'.length:=List.length_map _;refine ⟨⟨G,H,G⟩,[some (.obj p),some (aN w'),none,none],{nx:=λρ=>ρ= [some (.obj p),some (aN w'),none,none],rt:=λ_=>False},⟨G,λ_=> [],?_⟩,?_,⟨?_,λ_ z=>z.elim,λ_ z=>z.elim,λ_ z=>z.elim⟩⟩
 ·refine ⟨.refl sG, .refl _,rfl,λi d hi=>?_,λ_=>kN,(λ_ _ _ _ z=>by cases z),(λ_ _ z=>by cases z)⟩
  match i,hi with
  |0,hi=>cases hi;exact ⟨_,rfl, .obj p,rfl⟩
  |1,hi=>cases hi;exact ⟨_,rfl,dv,rfl⟩
  |2,hi=>cases hi
  |3,hi=>cases hi
  |i+4,hi=>cases hi
 ·have e1:D.bl (decide ((1:Int)≤((w'.map ao).length:Int)))= .bl true:=congrArg D.bl (decide_eq_true (by rw [lw];omega))
  have e2:D.bl (decide (((w'.map ao).length:Int)≤14))= .bl true:=congrArg D.bl (decide_eq_true (by rw [lw];omega))
  exact ⟨_,rfl,true,e1,ed ⟨true,e2,cO rfl⟩⟩
 rintro _ rfl A8 H1 S1;refine ⟨⟨G,H,G⟩,_,{nx:=λρ=>ρ= [some (.obj p),some (aN w'),some (aN w'),none],rt:=λ_=>False},S1,?_,⟨?_,λ_ z=>z.elim,λ_ z=>z.elim,λ_ z=>z.elim⟩⟩
 ·exact ⟨_,rfl,iU (ρ:= [none]) ao ao w' _ (λy hy Y h=>⟨_,rfl,h⟩) rfl (small (by omega)) λaC=>⟨trivial,rfl⟩⟩
 rintro _ rfl dX H2 S2;refine ⟨⟨G,H,G⟩,_,{nx:=λρ=>ρ= [some (.obj p),some (aN w'),some (aN w'),some .bf],rt:=λ_=>False},S2,?_,⟨?_,λ_ z=>z.elim,λ_ z=>z.elim,λ_ z=>z.elim⟩⟩
 ·exact ⟨_,rfl,w',rfl,g,h1,bw,trivial,rfl⟩
 rintro _ rfl rT H3 S3;refine ⟨⟨G,H,G⟩,_,{nx:=λρ=>ρ= [some (.obj p),some (aN w'),some (aN w'),some .bf],rt:=λ_=>False},S3,?_,⟨?_,λ_ z=>z.elim,λ_ z=>z.elim,λ_ z=>z.elim⟩⟩
 ·exact ⟨_,rfl,_,rfl,cO rfl⟩
 rintro _ rfl eF H4 ⟨G4,fp,S4⟩;obtain ⟨v0,Fc,o0⟩:=S4.at_ 0 _ rfl;obtain ⟨v2,U3,o2⟩:=S4.at_ 2 _ rfl;obtain ⟨d0,_⟩:=o0;obtain ⟨d2,_⟩:=o2;cases d0;have TB:=d2;cases d2 with
 | @lst R xs ds hR e=>
  have UX:=S4.ex.hh _ _ hp;refine ⟨_,U3,_,Fc,p,Z.C,dx,[],rfl,UX,T.W.cl,T.W.nR,by decide,?_⟩
  have g4:G4 p=none:=S4.ex.off p (by show H p≠none;rw [hp];exact λz=>nomatch z) gp
  refine q R G4 _ S4.ex.gg (λb o eb=>?_) (λb o eb nb=>?_) S4.ex.off aB TB
  ·rw [aD (aT eb g4)];exact S4.ex.sub _ _ eb
  ·rw [aD nb];exact S4.ex.hh _ _ eb
def Gz:cV:=λds P=>∃(w:W),ds= [.eT w]∧w.length≤14∧P (aN w)
theorem mZ:FnOk P w Z.K mg base cP 1 T.m_turns.f T.m_turns.fd ["self"] (aS Z Gz):=by
 have nd:=m9.nd;refine bc T.m_turns.F m9 [0] (by decide) (λds R h=>by obtain ⟨_,rfl,_⟩:=h;rfl) (λbM A outer s H E ds R hr h=>?_)
 have hu:=hr.units;refine ⟨_,(ar (aM (jZ (NC:= ["row"]) (src:= [none]) rfl (mH (aq g8)) trivial (bU (xV T.W (aa 0))) (λ_ _ _=>(bQ 0 (show (["row"]:List Str).Nodup from by decide+kernel))) (λ_ _ _=>dJ) (λ_ _ _=>(nI sQ rfl T.B.list oI (ab (aa 0) ag)))))),?_⟩
 obtain ⟨w',rfl,bw,q⟩:=h;exact ⟨_,rfl,w',rfl,iU (ρ:= [none]) ao ao w' _ (λy hy Y h=>⟨_,rfl,h⟩) rfl (small (by omega)) λaC=>q⟩
end p9
namespace Wb
theorem bT{a b:List Nat}{x y:Nat}(nd:(a++x::y::b).Nodup):af (a++x::y::b) x=y:=by
 have hx:x∉a:=λh=>by
  have:=(fg.mp nd).2.2 x h x (b4 ..)
  exact this rfl
 have e:(a++x::y::b).idxOf x=a.length:=by
  rw [List.idxOf_append,if_neg hx,List.idxOf_cons_self];simp
 unfold af;rw [e,eV (by simp),aJ,fG (by omega)]
 simp
theorem cI{b:List Nat}{x y:Nat}(nd:(y::(b++ [x])).Nodup):af (y::(b++ [x])) x=y:=by
 have hx:x∉y::b:=λh=>by
  have h2:(y::b++ [x]).Nodup:=nd;exact (fg.mp h2).2.2 x h x (by simp) rfl
 have e:(y::(b++ [x])).idxOf x=b.length+1:=by
  show (y::b++ [x]).idxOf x=_;rw [List.idxOf_append,if_neg hx];simp
 unfold af;rw [e]
 have:(b.length+1+1)%(y::(b++ [x])).length=0:=by simp
 rw [this];rfl
theorem fz{a b:List Nat}{x:Nat}(nd:(a++b).Nodup)(h:x∈a++b):af (b++a) x=af (a++b) x:=by
 have jD:(b++a).Nodup:=(List.perm_append_comm.nodup_iff).mp nd;obtain ⟨u,v,e⟩:=List.append_of_mem h;cases v with
 |cons y v=>
  rw [e,bT (e▸nd)]
  rcases List.append_eq_append_iff.mp e with ⟨c,h1,h2⟩ | ⟨c,h1,h2⟩
  ·
   rw [h2,show c++x::y::v++a=c++x::y::(v++a) by simp]
   refine bT ?_;rw [h2] at jD;simpa using jD
  ·
   cases c with
   |nil=>
    have hb:b=x::y::v:=by simpa using h2.symm
    rw [hb,show x::y::v++a= []++x::y::(v++a) by simp]
    refine bT ?_;rw [hb] at jD;simpa using jD
   |cons z c=>
    have hz:x=z∧y::v=c++b:=by simpa using h2
    obtain ⟨rfl,h3⟩:=hz;cases c with
    |nil=>
     have hb:b=y::v:=by simpa using h3.symm
     rw [h1,hb,show y::v++(u++ [x])=y::((v++u)++ [x]) by simp]
     refine cI ?_;rw [h1,hb] at jD;simpa using jD
    |cons z c=>
     have hz:y=z∧v=c++b:=by simpa using h3
     obtain ⟨rfl,rfl⟩:=hz;rw [h1,show b++(u++x::y::c)=(b++u)++x::y::c by simp]
     refine bT ?_;rw [h1] at jD;simpa using jD
 |nil=>
  cases b with
  |nil=>simp
  |cons y b=>
   rcases List.eq_nil_or_concat b with rfl| ⟨b',z,rfl⟩
   ·
    have:a=u∧y=x:=by
     have:=List.append_inj' e rfl
     exact ⟨this.1,by simpa using this.2⟩
    obtain ⟨rfl,rfl⟩:=this;cases a with
    |nil=>rfl
    |cons t a=>
     have e1:af (t::a++ [y]) y=t:=cI (b:=a) nd;rw [e1];show af ([]++y::t::a) y=t;exact bT (by simpa using jD)
   ·have hx:z=x:=by
     rw [xr] at e;have e:(a++y::b')++ [z]=u++ [x]:=by simpa using e
     exact by simpa using (List.append_inj' e rfl).2
    subst hx;rw [xr] at nd jD ⊢;cases a with
    |nil=>simp
    |cons t a=>
     have e1:af (t::a++y::(b'++ [z])) z=t:=by
      have:=cI (y:=t) (b:=a++y::b') (x:=z) (by simpa using nd)
      simpa using this
     have e2:af (y::(b'++ [z])++t::a) z=t:=by
      have:=bT (a:=y::b') (x:=z) (y:=t) (b:=a) (by simpa using jD)
      simpa using this
     rw [e1,e2]
structure Disc (w:W) (R:List Nat) (A:Nat×Nat→Prop):Prop where
 nd:R.Nodup
 len:3≤R.length
 dart:∀d,A d→aK w d
 face:∀d,aK w d→(A d↔A (aY w d))
 tri:∀d,A d→aY w (aY w (aY w d))=d
 ring:∀p∈R,aK w (af R p,p)∧A (af R p,p)∧¬A (p,af R p)
 sym:∀p q,aK w (p,q)→¬(p∈R∧q=af R p)→¬(q∈R∧p=af R q)→(A (p,q)↔A (q,p))
structure Sl (w:W) (v:Nat) (m:Nat) (y:Nat→Nat):Prop where
 on:∀k,k<m→af (row w v) (y k)=y (k+1)
 mem:∀k,k≤m→y k∈row w v
 inj:∀i j,i≤m→j≤m→y i=y j→i=j
 pos:1≤m
structure At (w:W) (R:List Nat) (v:Nat) (m:Nat) (y:Nat→Nat):Prop where
 fan:Sl w v m y
 vm:v∈R
 nx:y 0=af R v
 pm:y m∈R
 pv:af R (y m)=v
theorem aE{l:List Nat}{i:Nat}(nd:l.Nodup)(h:i+1<l.length):af l (l.getD i 0)=l.getD (i+1) 0:=by
 have e:l.getD i 0=l[i]:=by rw [aJ,bq (by omega)];rfl
 unfold af;rw [e,nd.idxOf_getElem i (by omega),eV h]
theorem aZ{l:List Nat}{i:Nat}(nd:l.Nodup)(h:i+1=l.length):af l (l.getD i 0)=l.getD 0 0:=by
 have e:l.getD i 0=l[i]:=by rw [aJ,bq (by omega)];rfl
 unfold af;rw [e,nd.idxOf_getElem i (by omega),h,oH]
section
variable {w:W} {R:List Nat} {A:Nat×Nat→Prop} {v m:Nat} {y:Nat→Nat}
theorem At.ne(g:Good w)(F:At w R v m y){k:Nat}(hk:k≤m):y k≠v:=λe=>g.irr v (by have:=F.fan.mem k hk;rw [e] at this;exact this)
theorem At.dart(g:Good w)(F:At w R v m y){k:Nat}(hk:k≤m):aK w (y k,v):=g.sym _ _ (F.fan.mem k hk)
theorem At.yC(F:At w R v m y){k:Nat}(hk:k<m):aY w (y k,v)=(v,y (k+1)):=by
 show (v,af (row w v) (y k))=_;rw [F.fan.on k hk]
theorem At.ym(D:Disc w R A)(F:At w R v m y){k:Nat}(hk:k≤m)(hR:y k∈R)(e:v=af R (y k)):k=m:=by
 have:=F.pv
 rw [e] at this;exact F.fan.inj k m hk (br _) (cM D.nd hR F.pm this.symm)
theorem At.y0(F:At w R v m y){k:Nat}(hk:k≤m)(e:y k=af R v):k=0:=F.fan.inj k 0 hk (cn _) (by rw [e,F.nx])
theorem At.yi(g:Good w)(D:Disc w R A)(F:At w R v m y):∀k,k<m→A (y k,v)∧A (v,y (k+1))
 |0,h=>by
  have a:A (y 0,v):=by rw [F.nx];exact (D.ring v F.vm).2.1
  refine ⟨a,?_⟩
  have:=(D.face _ (F.dart g (cn _))).mp a
  rw [F.yC h] at this;exact this
 |k+1,h=>by
  have ih:=(F.yi g D k (by omega)).2
  have a:A (y (k+1),v):=by
   refine (D.sym v (y (k+1)) (F.fan.mem (k+1) (by omega)) (λz=>?_) (λz=>?_)).mp ih
   ·have:=F.y0 (by omega) z.2;omega
   ·have:=F.ym D (by omega) z.1 z.2;omega
  refine ⟨a,?_⟩
  have:=(D.face _ (F.dart g (by omega))).mp a
  rw [F.yC h] at this;exact this
theorem At.yD(g:Good w)(D:Disc w R A)(F:At w R v m y){k:Nat}(hk:k<m):aY w (v,y (k+1))=(y (k+1),y k)∧aY w (y (k+1),y k)=(y k,v)∧A (y (k+1),y k):=by
 have a:=F.yi g D k hk;have t:=D.tri _ a.1;rw [F.yC hk] at t
 have e:aY w (v,y (k+1))=(y (k+1),y k):=by
  have h1:(aY w (aY w (v,y (k+1)))).1=y k:=by rw [t]
  show (y (k+1),af (row w (y (k+1))) v)=_;exact congrArg (Prod.mk _) h1
 refine ⟨e,by rw [e] at t;exact t,?_⟩
 have:=(D.face _ (D.dart _ a.2)).mp a.2
 rw [e] at this;exact this
def cm(v m:Nat)(y:Nat→Nat)(d:Nat×Nat):Prop:=∃k,k<m∧(d=(y k,v)∨d=(v,y (k+1))∨d=(y (k+1),y k))
theorem At.Sa(g:Good w)(D:Disc w R A)(F:At w R v m y){d:Nat×Nat}(h:cm v m y d):A d:=by
 obtain ⟨k,hk,h⟩:=h;have a:=F.yi g D k hk;have b:=(F.yD g D hk).2.2
 rcases h with rfl|rfl|rfl
 ·exact a.1
 ·exact a.2
 ·exact b
theorem At.Kd(g:Good w)(D:Disc w R A)(F:At w R v m y){d:Nat×Nat}(hd:aK w d):cm v m y d↔cm v m y (aY w d):=by
 constructor
 ·rintro ⟨k,hk,h⟩
  have b:=F.yD g D hk;refine ⟨k,hk,?_⟩
  rcases h with rfl|rfl|rfl
  ·rw [F.yC hk];exact .inr (.inl rfl)
  ·rw [b.1];exact .inr (.inr rfl)
  ·rw [b.2.1];exact .inl rfl
 ·rintro ⟨k,hk,h⟩
  have b:=F.yD g D hk;have a:=F.yi g D k hk;refine ⟨k,hk,?_⟩
  rcases h with h|h|h
  ·exact .inr (.inr (jF g hd (D.dart _ b.2.2) (by rw [h,b.2.1])))
  ·exact .inl (jF g hd (D.dart _ a.1) (by rw [h,F.yC hk]))
  ·exact .inr (.inl (jF g hd (D.dart _ a.2) (by rw [h,b.1])))
def cG(pre:List Nat)(m:Nat)(y:Nat→Nat):List Nat:=pre++(List.range m).map λi=>y (m-i)
theorem gv(pre:List Nat)(m:Nat)(y:Nat→Nat):(cG pre m y).length=pre.length+m:=by unfold cG;simp
theorem qr{pre:List Nat}{m i:Nat}{y:Nat→Nat}(h:i<pre.length):(cG pre m y).getD i 0=pre.getD i 0:=by
 unfold cG;rw [aJ,dP h,←aJ]
theorem qq{pre:List Nat}{m i:Nat}{y:Nat→Nat}(h:i<m):(cG pre m y).getD (pre.length+i) 0=y (m-i):=by
 unfold cG;rw [aJ,fG (by omega),show pre.length+i-pre.length=i by omega,eC,zj h];rfl
theorem dG{pre:List Nat}{m p:Nat}{y:Nat→Nat}:p∈cG pre m y↔p∈pre∨∃k,1≤k∧k≤m∧p=y k:=by
 unfold cG;rw [dF,bx]
 constructor
 ·rintro (h| ⟨i,hi,rfl⟩)
  ·exact .inl h
  ·have:=cg.mp hi
   exact .inr ⟨m-i,by omega,by omega,rfl⟩
 ·rintro (h| ⟨k,h1,h2,rfl⟩)
  ·exact .inl h
  ·exact .inr ⟨m-k,cg.mpr (by omega),by rw [show m-(m-k)=k by omega]⟩
theorem tQ(g:Good w)(D:Disc w R A)(F:At w R v m y){pre:List Nat}(hR:R=pre++ [y m,v])(h0:pre.getD 0 0=y 0)(hp:pre≠ [])(uS:∀k,0<k→k<m→y k∉R)(hl:3≤pre.length+m):
  Disc w (cG pre m y) λd=>A d∧¬cm v m y d:=by
 have kS:=D.nd;have lR:R.length=pre.length+2:=by rw [hR];simp
 have BK:0<pre.length:=rd.mpr hp;have yM:∀p∈pre,p∈R:=λp h=>by rw [hR];exact fo _ h
 have W7:pre.Nodup:=by rw [hR] at kS;exact (fg.mp kS).1
 have pv:∀p∈pre,p≠v∧p≠y m:=λp h=>by
  rw [hR] at kS
  have:=(fg.mp kS).2.2 p h
  exact ⟨this v (by simp),this (y m) (by simp)⟩
 have m0:y 0∈pre:=by
  rw [←h0,aJ,bq BK];exact nv BK
 have out:∀k,1≤k→k≤m→y k∉pre:=λk h1 h2 hk=>by
  by_cases e:k=m
  ·subst e;exact (pv _ hk).2 rfl
  ·exact uS k (by omega) (by omega) (yM _ hk)
 have uT:(cG pre m y).Nodup:=by
  unfold cG;refine fg.mpr ⟨W7,?_,λa ha b hb e=>?_⟩
  ·unfold List.Nodup
   rw [jb];refine List.Pairwise.imp_of_mem (λ {i j} hi hj h e=>?_) me
   have:=cg.mp hi
   have:=cg.mp hj
   have:=F.fan.inj (m-i) (m-j) (by omega) (by omega) e
   omega
  ·obtain ⟨i,hi,rfl⟩:=bx.mp hb
   have:=cg.mp hi
   subst e;exact out (m-i) (by omega) (by omega) ha
 have Bp:∀i,i<pre.length→R.getD i 0=pre.getD i 0:=λi hi=>by
  rw [hR,aJ,dP hi,←aJ]
 have Lh:R.getD pre.length 0=y m:=by
  rw [hR,aJ,fG (br _)];simp
 have J6:∀p∈pre,af (cG pre m y) p=af R p:=λp h=>by
  obtain ⟨i,hi,rfl⟩:=fq.mp h;have e:pre[i]=pre.getD i 0:=by rw [aJ,bq hi];rfl
  have l1:af R (R.getD i 0)=R.getD (i+1) 0:=aE kS (by omega)
  have mp:=F.fan.pos;have l2:af (cG pre m y) ((cG pre m y).getD i 0)=(cG pre m y).getD (i+1) 0:=aE uT (by rw [gv];omega)
  rw [Bp i hi] at l1;rw [qr hi] at l2;rw [e,l1,l2]
  by_cases c:i+1<pre.length
  ·rw [qr c,Bp _ c]
  ·have c:i+1=pre.length:=by omega
   have:=qq (pre:=pre) (y:=y) (m:=m) (i:=0) (by omega)
   rw [c,Lh];simpa using this
 have sY:∀k,1≤k→k≤m→af (cG pre m y) (y k)=y (k-1):=λk h1 h2=>by
  have e1:=qq (pre:=pre) (y:=y) (m:=m) (i:=m-k) (by omega)
  rw [show m-(m-k)=k by omega] at e1
  rw [←e1]
  by_cases c:k=1
  ·rw [aZ uT (by rw [gv];omega),qr BK,h0,c]
  ·rw [aE uT (by rw [gv];omega)]
   have e2:=qq (pre:=pre) (y:=y) (m:=m) (i:=m-k+1) (by omega)
   rw [show pre.length+(m-k)+1=pre.length+(m-k+1) by omega,e2,show m-(m-k+1)=k-1 by omega]
 have three:m=1→af R (y 0)≠y 1:=λhm e=>by
  have e0:R.getD 0 0=y 0:=by rw [Bp 0 BK,h0]
  have s0:=aE kS (i:=0) (by omega)
  rw [e0,e] at s0
  by_cases c:1<pre.length
  ·rw [Bp 1 c] at s0
   have:y 1∈pre:=by rw [s0,aJ,bq c];exact nv c
   exact out 1 (by omega) (by omega) this
  ·omega
 have RS:∀k,1≤k→k≤m→A (y (k-1),y k):=λk h1 h2=>by
  have b:=F.yD g D (k:=k-1) (by omega)
  rw [show k-1+1=k by omega] at b
  have CB:∀i,i≤m→y i∈R→i=0∨i=m:=λi hi h=>by
   by_cases c:0<i∧i<m
   ·exact absurd h (uS i c.1 c.2)
   ·omega
  refine (D.sym _ _ (D.dart _ b.2.2) (λz=>?_) (λz=>?_)).mp b.2.2
  ·have r2:y (k-1)∈R:=by rw [z.2];exact ba z.1
   have i1:=CB k h2 z.1;have i2:=CB (k-1) (by omega) r2
   have hm:m=1:=by omega
   have hk:k=1:=by omega
   subst hk;have e:=z.2;have p:=F.pv;rw [hm] at p;rw [p] at e;exact F.ne g (k:=0) (cn _) e
  ·have r2:y k∈R:=by rw [z.2];exact ba z.1
   have i1:=CB k h2 r2;have i2:=CB (k-1) (by omega) z.1
   have hm:m=1:=by omega
   have hk:k=1:=by omega
   subst hk;exact three hm z.2.symm
 refine ⟨uT,by rw [gv];exact hl,λd h=>D.dart d h.1,λd hd=>?_,λd h=>D.tri d h.1,λp kQ=>?_,λp q hd n1 n2=>?_⟩
 ·rw [D.face d hd,F.Kd g D hd]
 ·rcases dG.mp kQ with h| ⟨k,h1,h2,rfl⟩
  ·rw [J6 p h]
   have r:=D.ring p (yM p h);refine ⟨r.1,⟨r.2.1,?_⟩,λz=>r.2.2 z.1⟩;rintro ⟨k,hk,e|e|e⟩
   ·exact (pv p h).1 (congrArg Prod.snd e)
   ·have:af R p=v:=congrArg Prod.fst e
    have e2:=congrArg Prod.snd e;exact out (k+1) (by omega) (by omega) (by rw [←(show p=y (k+1) from e2)];exact h)
   ·have e1:af R p=y (k+1):=congrArg Prod.fst e
    have e2:p=y k:=congrArg Prod.snd e
    have k0:k=0:=by
     by_cases c:k=0
     ·exact c
     ·exact absurd (e2▸h) (out k (by omega) (by omega))
    subst k0
    have:y 1∈R:=by rw [←(show af R p=y 1 from e1)];exact ba (yM p h)
    have hm:m=1:=by
     by_cases c:1<m
     ·exact absurd this (uS 1 (by omega) c)
     ·omega
    rw [e2] at e1;exact three hm e1
  ·rw [sY k h1 h2]
   have a:=RS k h1 h2;refine ⟨D.dart _ a,⟨a,?_⟩,λz=>z.2 ⟨k-1,by omega, .inr (.inr (by rw [show k-1+1=k by omega]))⟩⟩
   rintro ⟨j,hj,e|e|e⟩
   ·exact F.ne g (k:=k) h2 (congrArg Prod.snd e)
   ·exact F.ne g (k:=k-1) (by omega) (congrArg Prod.fst e)
   ·have e1:=F.fan.inj (k-1) (j+1) (by omega) (by omega) (congrArg Prod.fst e)
    have e2:=F.fan.inj k j (by omega) (by omega) (congrArg Prod.snd e)
    omega
 ·
  have one:∀p q,aK w (p,q)→¬(p∈cG pre m y∧q=af (cG pre m y) p)→¬(q∈cG pre m y∧p=af (cG pre m y) q)→(A (p,q)∧¬cm v m y (p,q))→(A (q,p)∧¬cm v m y (q,p)):=by
   intro p q hd n1 n2 ⟨a,nt⟩;have r1:¬(p∈R∧q=af R p):=λz=>(D.ring p z.1).2.2 (by rw [←z.2];exact a)
   have r2:¬(q∈R∧p=af R q):=λz=>by
    have hq:=z.1;rw [hR] at hq
    rcases dF.mp hq with h|h
    ·exact n2 ⟨dG.mpr (.inl h),by rw [J6 q h];exact z.2⟩
    ·have h:q=y m∨q=v:=by simpa using h
     rcases h with rfl|rfl
     ·have:p=v:=by rw [z.2];exact F.pv
      subst this;exact nt ⟨m-1,by have:=F.fan.pos;omega, .inr (.inl (by rw [show m-1+1=m by have:=F.fan.pos;omega]))⟩
     ·have:p=y 0:=by rw [z.2,F.nx]
      subst this;exact nt ⟨0,F.fan.pos, .inl rfl⟩
   refine ⟨(D.sym p q hd r1 r2).mp a,?_⟩;rintro ⟨k,hk,e|e|e⟩
   ·have e1:q=y k:=congrArg Prod.fst e
    have e2:p=v:=congrArg Prod.snd e;subst e1 e2
    by_cases c:k=0
    ·subst c;exact r1 ⟨F.vm,F.nx⟩
    ·exact nt ⟨k-1,by omega, .inr (.inl (by rw [show k-1+1=k by omega]))⟩
   ·have e1:q=v:=congrArg Prod.fst e
    have e2:p=y (k+1):=congrArg Prod.snd e;subst e1 e2
    by_cases c:k+1=m
    ·exact r1 ⟨by rw [c];exact F.pm,by rw [c];exact F.pv.symm⟩
    ·exact nt ⟨k+1,by omega, .inl rfl⟩
   ·have e1:q=y (k+1):=congrArg Prod.fst e
    have e2:p=y k:=congrArg Prod.snd e;subst e1 e2;exact n2 ⟨dG.mpr (.inr ⟨k+1,by omega,by omega,rfl⟩),by rw [sY (k+1) (by omega) (by omega)];rfl⟩
  exact ⟨one p q hd n1 n2,one q p (g.sym _ _ hd) n2 n1⟩
end
theorem Disc.ud{w:W}{a b:List Nat}{A:Nat×Nat→Prop}(D:Disc w (a++b) A):Disc w (b++a) A:=by
 have mem:∀p,p∈b++a↔p∈a++b:=λp=>List.perm_append_comm.mem_iff;have s:∀p,p∈b++a→af (b++a) p=af (a++b) p:=λp h=>fz D.nd ((mem p).mp h);refine ⟨(List.perm_append_comm.nodup_iff).mp D.nd,by have:=D.len;simp at this ⊢;omega,D.dart,D.face,D.tri,λp hp=>?_,λp q hd n1 n2=>?_⟩
 ·rw [s p hp];exact D.ring p ((mem p).mp hp)
 ·refine D.sym p q hd (λz=>n1 ⟨(mem p).mpr z.1,?_⟩) (λz=>n2 ⟨(mem q).mpr z.1,?_⟩)
  ·rw [s p ((mem p).mpr z.1)];exact z.2
  ·rw [s q ((mem q).mpr z.1)];exact z.2
def bY(l:List Nat)(a:Nat):List Nat:=l.drop (l.idxOf a)++l.take (l.idxOf a)
theorem iA(l:List Nat)(a:Nat):(bY l a).Perm l:=by
 unfold bY;exact List.perm_append_comm.trans (by rw [jT])
theorem mz(l:List Nat)(a:Nat):(bY l a).length=l.length:=(iA l a).length_eq
theorem AL{l:List Nat}{a x:Nat}(nd:l.Nodup)(hx:x∈l):af (bY l a) x=af l x:=by
 unfold bY;have e:l.take (l.idxOf a)++l.drop (l.idxOf a)=l:=jT _ _
 have:=fz (a:=l.take (l.idxOf a)) (b:=l.drop (l.idxOf a)) (x:=x) (by rw [e];exact nd) (by rw [e];exact hx)
 rw [this,e]
theorem ue{l:List Nat}{a:Nat}(h:a∈l):(bY l a).getD 0 0=a:=by
 have hl:=eu.mpr h;unfold bY;rw [aJ,dP (by rw [dE];omega),uC,Nat.add_zero,bq hl,fH hl];rfl
theorem getD_inj{l:List Nat}(nd:l.Nodup){i j:Nat}(hi:i<l.length)(hj:j<l.length)(e:l.getD i 0=l.getD j 0):i=j:=by
 have ei:l.getD i 0=l[i]:=by rw [aJ,bq hi];rfl
 have ej:l.getD j 0=l[j]:=by rw [aJ,bq hj];rfl
 rw [ei,ej] at e;have h1:=nd.idxOf_getElem i hi;have h2:=nd.idxOf_getElem j hj;rw [e,h2] at h1;exact h1.symm
theorem aw{l:List Nat}{i:Nat}(h:i<l.length):l.getD i 0∈l:=by
 rw [aJ,bq h];exact nv h
theorem pG{R:List Nat}{x:Nat}(nd:R.Nodup)(h:x∈R):∃b,b∈R∧af R b=x:=by
 obtain ⟨i,hi,rfl⟩:=fq.mp h;have e:R[i]=R.getD i 0:=by rw [aJ,bq hi];rfl
 by_cases c:i=0
 ·subst c
  exact ⟨R.getD (R.length-1) 0,aw (by omega),by rw [aZ nd (by omega),e]⟩
 ·refine ⟨R.getD (i-1) 0,aw (by omega),?_⟩
  rw [aE nd (by omega),show i-1+1=i by omega,e]
structure Whole (w:W) (R:List Nat) (v m L:Nat) (y:Nat→Nat):Prop where
 at_:At w R v m y
 lt:m<L
 on:∀k,k+1<L→af (row w v) (y k)=y (k+1)
 all:∀z,z∈row w v→∃k,k<L∧y k=z
 inj:∀i j,i<L→j<L→y i=y j→i=j
 mem:∀k,k<L→y k∈row w v
section
variable {w:W} {R:List Nat} {A:Nat×Nat→Prop}
theorem mF(g:Good w)(D:Disc w R A){v:Nat}(hv:v∈R){b:Nat}(hb:b∈R)(eb:af R b=v):
  Whole w R v ((bY (row w v) (af R v)).idxOf b) (row w v).length λk=>(bY (row w v) (af R v)).getD k 0:=by
 have a:=(D.ring v hv).1;have am:af R v∈row w v:=g.sym _ _ a
 have bm:b∈row w v:=by
  have:=(D.ring b hb).1
  rw [eb] at this;exact this
 have Fz:=g.nod v;have jD:(bY (row w v) (af R v)).Nodup:=(iA _ _).nodup_iff.mpr Fz;have ll:=mz (row w v) (af R v);have Bx:∀z,z∈bY (row w v) (af R v)↔z∈row w v:=λz=>(iA _ _).mem_iff;have bl:=eu.mpr ((Bx b).mpr bm)
 have gb:(bY (row w v) (af R v)).getD ((bY (row w v) (af R v)).idxOf b) 0=b:=by
  rw [aJ,bq bl,fH bl];rfl
 have on:∀k,k+1<(row w v).length→af (row w v) ((bY (row w v) (af R v)).getD k 0)=(bY (row w v) (af R v)).getD (k+1) 0:=λk hk=>by
  rw [←AL (a:=af R v) Fz ((Bx _).mp (aw (by omega)))]
  exact aE jD (by omega)
 have mem:∀k,k<(row w v).length→(bY (row w v) (af R v)).getD k 0∈row w v:=λk hk=>(Bx _).mp (aw (by omega))
 have inj:∀i j,i<(row w v).length→j<(row w v).length→(bY (row w v) (af R v)).getD i 0=(bY (row w v) (af R v)).getD j 0→i=j:=λi j hi hj e=>getD_inj jD (by omega) (by omega) e
 have wO:af R v≠b:=by
  intro e;have h1:=D.len;obtain ⟨i,hi,rfl⟩:=fq.mp hv;have ei:R[i]=R.getD i 0:=by rw [aJ,bq hi];rfl
  rw [←e,ei] at eb
  by_cases c:i+1<R.length
  ·rw [aE D.nd c] at eb
   by_cases c2:i+2<R.length
   ·rw [aE D.nd c2] at eb
    have:=getD_inj D.nd (by omega) (by omega) eb;omega
   ·rw [aZ D.nd (by omega)] at eb
    have:=getD_inj D.nd (by omega) (by omega) eb;omega
  ·rw [aZ D.nd (by omega),aE D.nd (by omega)] at eb
   have:=getD_inj D.nd (by omega) (by omega) eb;omega
 have h0:=ue am;refine ⟨⟨⟨λk hk=>on k (by omega),λk hk=>mem k (by omega),λi j hi hj e=>inj i j (by omega) (by omega) e,?_⟩,hv,h0,by rw [gb];exact hb,by rw [gb];exact eb⟩,by omega,on,λz hz=>?_,inj,mem⟩
 ·apply Classical.byContradiction
  intro c;have c:(bY (row w v) (af R v)).idxOf b=0:=by omega
  rw [c,h0] at gb;exact wO gb
 ·have zl:=eu.mpr ((Bx z).mpr hz)
  exact ⟨(bY (row w v) (af R v)).idxOf z,by omega,by rw [aJ,bq zl,fH zl];rfl⟩
theorem Whole.out(g:Good w)(D:Disc w R A){v m L:Nat}{y:Nat→Nat}(F:Whole w R v m L y):∀k,m+k<L→1≤k→¬A (v,y (m+k))
 |0,_,h=>by omega
 |k+1,hk,_=>by
  have d:aK w (y (m+k),v):=g.sym _ _ (F.mem _ (by omega))
  have e:aY w (y (m+k),v)=(v,y (m+(k+1))):=by
   show (v,af (row w v) (y (m+k)))=_;rw [F.on _ (by omega)];rfl
  have nA:¬A (y (m+k),v):=by
   by_cases c:k=0
   ·subst c
    have:=(D.ring (y m) F.at_.pm).2.2
    rw [F.at_.pv] at this;exact this
   ·intro a
    refine F.out g D k (by omega) (by omega) ((D.sym v (y (m+k)) (F.mem _ (by omega)) (λz=>?_) (λz=>?_)).mpr a)
    ·have:=F.inj (m+k) 0 (by omega) (by omega) (by rw [z.2,F.at_.nx]);omega
    ·have:=F.at_.pv
     have e2:=cM D.nd z.1 F.at_.pm (by rw [this];exact z.2.symm)
     have:=F.inj (m+k) m (by omega) (by omega) e2;omega
  intro a;rw [←e] at a;exact nA ((D.face _ d).mpr a)
theorem Whole.between(g:Good w)(D:Disc w R A){v m L:Nat}{y:Nat→Nat}(F:Whole w R v m L y){z:Nat}(hz:A (v,z)):∃k,1≤k∧k≤m∧y k=z:=by
 obtain ⟨k,hk,rfl⟩:=F.all z (D.dart _ hz);refine ⟨k,?_,?_,rfl⟩
 ·apply Classical.byContradiction
  intro c;have c:k=0:=by omega
  subst c;rw [F.at_.nx] at hz;exact (D.ring v F.at_.vm).2.2 hz
 ·apply Classical.byContradiction
  intro c
  have:=F.out g D (k-m) (by omega) (by omega)
  rw [show m+(k-m)=k by omega] at this
  exact this hz
def bR(C:List Nat)(x y:Nat):Prop:=x∈C∧y=af C x
structure Bd (w:W) (C:List Nat) (S:Nat×Nat→Prop):Prop where
 face:∀d,aK w d→(S d↔S (aY w d))
 no:∀x y,aK w (x,y)→¬bR C x y→¬bR C y x→(S (x,y)↔S (y,x))
 yes:∀x y,aK w (x,y)→bR C x y∨bR C y x→(S (x,y)↔¬S (y,x))
theorem Bd.neg{C:List Nat}{S:Nat×Nat→Prop}(B:Bd w C S):Bd w C λd=>¬S d:=
 ⟨λd h=>not_congr (B.face d h),λx y h a b=>not_congr (B.no x y h a b),λx y h a=>not_congr (B.yes x y h a)⟩
theorem Whole.seg(g:Good w){v m L:Nat}{y:Nat→Nat}(F:Whole w R v m L y){C:List Nat}{S:Nat×Nat→Prop}(B:Bd w C S){i:Nat}:∀n,i+n+1<L→(∀k,i<k→k≤i+n→¬bR C v (y k)∧¬bR C (y k) v)→(S (y i,v)↔S (v,y (i+n+1)))
 |0,h,_=>by
  have d:aK w (y i,v):=g.sym _ _ (F.mem _ (by omega))
  have e:aY w (y i,v)=(v,y (i+0+1)):=by
   show (v,af (row w v) (y i))=_;rw [F.on _ (by omega)]
  rw [B.face _ d,e]
 |n+1,h,q=>by
  have ih:=F.seg g B n (by omega) λk h1 h2=>q k h1 (by omega)
  have c:=q (i+n+1) (by omega) (by omega)
  have s:=B.no v (y (i+n+1)) (F.mem _ (by omega)) c.1 c.2
  have d:aK w (y (i+n+1),v):=g.sym _ _ (F.mem _ (by omega))
  have e:aY w (y (i+n+1),v)=(v,y (i+(n+1)+1)):=by
   show (v,af (row w v) (y (i+n+1)))=_;rw [F.on _ (by omega)];rfl
  rw [ih,s,B.face _ d,e]
theorem kq{a b:List Nat}{z x:Nat}(nd:(a++ [z]++b).Nodup)(hx:x∈a):af (a++ [z]++b) x=af (a++ [z]) x:=by
 have qu:(a++ [z]).Nodup:=(fg.mp nd).1;obtain ⟨i,hi,rfl⟩:=fq.mp hx
 have e1:(a++ [z]++b).getD i 0=a[i]:=by
  rw [aJ,uD,dP hi,bq hi];rfl
 have e2:(a++ [z]).getD i 0=a[i]:=by
  rw [aJ,dP hi,bq hi];rfl
 have h1:=aE (i:=i) nd (by simp;omega)
 have h2:=aE (i:=i) qu (by simp;omega)
 rw [e1] at h1;rw [e2] at h2;rw [h1,h2,aJ,dP (by simp;omega),←aJ]
theorem parted(g:Good w)(D:Disc w R A){p q:Nat}{B C:List Nat}(hR:R=p::(B++q::C))(hB:B≠ [])(hC:C≠ [])(ch:A (p,q)){S:Nat×Nat→Prop}(bd:Bd w (p::(B++ [q])) S)(hs:S (af R p,p)):
  Disc w (p::(B++ [q])) (λd=>A d∧S d)∧Disc w (q::(C++ [p])) (λd=>A d∧¬S d):=by
 have kS:=D.nd;have Cs:R=(p::B)++ [q]++C:=by rw [hR];simp
 have zT:R=(p::B)++(q::C):=by rw [hR];simp
 have Fz:((q::C)++ [p]++B).Nodup:=by
  have:((q::C)++(p::B)).Nodup:=List.perm_append_comm.nodup_iff.mp (zT▸kS)
  simpa using this
 have qu:((p::B)++ [q]).Nodup:=by rw [Cs] at kS;exact (fg.mp kS).1
 have uT:((q::C)++ [p]).Nodup:=(fg.mp Fz).1
 have sp:∀x∈p::B,af (p::(B++ [q])) x=af R x:=λx hx=>by
  have:=kq (a:=p::B) (b:=C) (z:=q) (Cs▸kS) hx
  rw [Cs,this];rfl
 have sq:∀x∈q::C,af (q::(C++ [p])) x=af R x:=λx hx=>by
  have h1:=kq (a:=q::C) (b:=B) (z:=p) Fz hx;have h2:=fz (a:=p::B) (b:=q::C) (x:=x) (zT▸kS) (eW _ hx);rw [←zT] at h2;rw [←h2];have e:(q::C)++ [p]++B=(q::C)++(p::B):=by simp
  rw [e] at h1;exact h1.symm
 have AO:af (p::(B++ [q])) q=p:=cI qu;have Mv:af (q::(C++ [p])) p=q:=cI uT
 have mW:∀x,x∈p::B→x∉q::C:=λx h1 h2=>by
  rw [zT] at kS;exact (fg.mp kS).2.2 x h1 x h2 rfl
 have mR:∀x,x∈R↔x∈p::B∨x∈q::C:=λx=>by rw [zT,dF]
 have m1:∀x,x∈p::(B++ [q])↔x∈p::B∨x=q:=λx=>by simp [or_assoc]
 have m2:∀x,x∈q::(C++ [p])↔x∈q::C∨x=p:=λx=>by simp [or_assoc]
 have pB:p∉B:=by
  have:=(fg.mp qu).1
  exact (gf.mp this).1
 have pq:p≠q:=λe=>mW p (b4 ..) (e▸b4 ..)
 have RO:af R p∈B:=by
  obtain ⟨b,B',rfl⟩:=List.exists_cons_of_ne_nil hB
  have:af R p=b:=by
   rw [hR];exact bT (a:= []) (b:=B'++q::C) (by rw [hR] at kS;simpa using kS)
  rw [this];exact b4 ..
 have Mw:af R q∈C:=by
  obtain ⟨c,C',rfl⟩:=List.exists_cons_of_ne_nil hC
  have:af R q=c:=by
   rw [hR,show p::(B++q::c::C')=(p::B)++q::c::C' by simp]
   exact bT (by rw [hR] at kS;simpa using kS)
  rw [this];exact b4 ..
 have qp:¬bR R q p:=λz=>mW p (b4 ..) (by rw [z.2];exact cv _ Mw)
 have XI:¬bR R p q:=λz=>mW q (by rw [z.2];exact cv _ RO) (b4 ..)
 have Ny:A (q,p):=(D.sym p q (D.dart _ ch) XI qp).mp ch
 have My:∀x b,x∈B→b∈R→af R b=x→(S (af R x,x)↔S (x,b)):=λx b hx hb eb=>by
  have Fd:x∈R:=(mR x).mpr (.inl (cv _ hx));have F:=mF g D Fd hb eb;generalize (bY (row w x) (af R x)).idxOf b=m at F;generalize (λk=>(bY (row w x) (af R x)).getD k 0)=y at F;have mp:=F.at_.fan.pos;have yb:y m=b:=cM D.nd F.at_.pm hb (by rw [F.at_.pv,eb])
  have:=F.seg g bd (i:=0) (m-1) (by have:=F.lt;omega) λk h1 h2=>⟨λz=>?_,λz=>?_⟩
  ·rw [F.at_.nx,show 0+(m-1)+1=m by omega,yb] at this
   exact this
  ·have e:=z.2
   rw [sp x (cv _ hx)] at e
   have:=F.at_.y0 (by omega) e
   omega
  ·have e:=z.2
   rcases (m1 _).mp z.1 with h|h
   ·rw [sp _ h] at e
    have:=F.at_.ym D (by omega) ((mR _).mpr (.inl h)) e
    omega
   ·rw [h,AO] at e
    exact pB (e▸hx)
 have Mz:∀x b,x∈C→b∈R→af R b=x→(S (af R x,x)↔S (x,b)):=λx b hx hb eb=>by
  have Fd:x∈R:=(mR x).mpr (.inr (cv _ hx))
  have xn:x∉p::(B++ [q]):=λz=>by
   rcases (m1 x).mp z with h|h
   ·exact mW x h (cv _ hx)
   ·subst h
    have:=(fg.mp uT).1
    exact (gf.mp this).1 hx
  have F:=mF g D Fd hb eb;generalize (bY (row w x) (af R x)).idxOf b=m at F;generalize (λk=>(bY (row w x) (af R x)).getD k 0)=y at F;have mp:=F.at_.fan.pos;have yb:y m=b:=cM D.nd F.at_.pm hb (by rw [F.at_.pv,eb])
  have:=F.seg g bd (i:=0) (m-1) (by have:=F.lt;omega) λk h1 h2=>⟨λz=>xn z.1,λz=>xn (by rw [z.2];exact ba z.1)⟩
  rw [F.at_.nx,show 0+(m-1)+1=m by omega,yb] at this
  exact this
 have Pl:p∈R:=(mR p).mpr (.inl (b4 ..))
 have Nj:∀b,b∈R→af R b=p→S (p,q)∧¬S (q,p)∧¬S (p,b):=λb hb eb=>by
  have F:=mF g D Pl hb eb;generalize (bY (row w p) (af R p)).idxOf b=m at F;generalize (λk=>(bY (row w p) (af R p)).getD k 0)=y at F;have mp:=F.at_.fan.pos;have yb:y m=b:=cM D.nd F.at_.pm hb (by rw [F.at_.pv,eb])
  obtain ⟨j,j1,j2,yj⟩:=F.between g D ch
  have jm:j≠m:=λe=>by
   rw [e,yb] at yj;rw [yj] at eb;exact mW p (b4 ..) (by rw [←eb];exact cv _ Mw)
  have lt:=F.lt
  have bf:∀k,0<k→k<m→k≠j→¬bR (p::(B++ [q])) p (y k)∧¬bR (p::(B++ [q])) (y k) p:=λk h1 h2 h3=>⟨λz=>by
   have e:=z.2;rw [sp p (b4 ..)] at e
   have:=F.at_.y0 (by omega) e
   omega,λz=>by
   have e:=z.2
   rcases (m1 _).mp z.1 with h|h
   ·rw [sp _ h] at e
    have:=F.at_.ym D (by omega) ((mR _).mpr (.inl h)) e
    omega
   ·rw [←yj] at h
    exact h3 (F.inj k j (by omega) (by omega) h)⟩
  have g1:=F.seg g bd (i:=0) (j-1) (by omega) λk h1 h2=>bf k h1 (by omega) (by omega)
  rw [F.at_.nx,show 0+(j-1)+1=j by omega,yj] at g1
  have s1:S (p,q):=g1.mp hs;have s2:¬S (q,p):=(bd.yes p q (D.dart _ ch) (.inr ⟨(m1 q).mpr (.inr rfl),AO.symm⟩)).mp s1;have g2:=F.seg g bd (i:=j) (m-j-1) (by omega) λk h1 h2=>bf k (by omega) (by omega) (by omega)
  rw [yj,show j+(m-j-1)+1=m by omega,yb] at g2
  exact ⟨s1,s2,λz=>s2 (g2.mpr z)⟩
 obtain ⟨bl,UB,Uc⟩:=pG D.nd Pl;obtain ⟨Rr,Rt,_⟩:=Nj bl UB Uc;have lR:R.length=B.length+C.length+2:=by rw [hR];simp;omega
 have gB:∀i,1≤i→i≤B.length→R.getD i 0∈B:=λi h1 h2=>by
  obtain ⟨k,rfl⟩:∃k,i=k+1:=⟨i-1,by omega⟩
  rw [hR,kK,aJ,dP (by omega),bq (by omega)]
  exact nv _
 have gC:∀i,B.length+2≤i→i<R.length→R.getD i 0∈C:=λi h1 h2=>by
  rw [show R=(p::B++ [q])++C by rw [Cs],aJ,fG (by simp;omega),bq (by simp;omega)]
  exact nv _
 have g0:R.getD 0 0=p:=by rw [hR];rfl
 have gq:R.getD (B.length+1) 0=q:=by
  rw [hR,kK,aJ,fG (br _)];simp
 have gR:∀i,i<R.length→R.getD i 0∈R:=λi h=>aw h
 have Yc:∀i,i≤B.length→S (af R (R.getD i 0),R.getD i 0):=by
  intro i
  induction i with
  |zero=>intro _;rw [g0];exact hs
  |succ i ih=>
   intro h;have e:=aE D.nd (i:=i) (by omega)
   have ih:=ih (by omega)
   rw [e] at ih;exact (My _ _ (gB (i+1) (by omega) h) (gR i (by omega)) e).mpr ih
 have T5:∀n i,i+n+1=R.length→B.length+1≤i→¬S (af R (R.getD i 0),R.getD i 0):=by
  intro n
  induction n with
  |zero=>
   intro i h1 h2;have e:=aZ D.nd (i:=i) (by omega)
   rw [g0] at e;rw [e];exact (Nj _ (gR i (by omega)) e).2.2
  |succ n ih=>
   intro i h1 h2;have e:=aE D.nd (i:=i) (by omega)
   have ih:=ih (i+1) (by omega) (by omega)
   rw [e];exact λz=>ih ((Mz _ _ (gC (i+1) (by omega) (by omega)) (gR i (by omega)) e).mpr z)
 have MX:∀x∈p::B,S (af R x,x):=λx hx=>by
  obtain ⟨i,hi,rfl⟩:=fq.mp hx;have e:R.getD i 0=(p::B)[i]:=by rw [zT,aJ,dP hi,bq hi];rfl
  have:=Yc i (by simp at hi;omega)
  rw [e] at this;exact this
 have MY:∀x∈q::C,¬S (af R x,x):=λx hx=>by
  obtain ⟨i,hi,rfl⟩:=fq.mp hx
  have e:R.getD (B.length+1+i) 0=(q::C)[i]:=by
   rw [zT,aJ,fG (by simp),show B.length+1+i-(p::B).length=i by simp,bq hi];rfl
  have lF:i<C.length+1:=by simpa using hi
  have:=T5 (R.length-(B.length+1+i)-1) (B.length+1+i) (by omega) (by omega)
  rw [e] at this;exact this
 have Lb:∀d,aK w d→((A d∧S d)↔(A (aY w d)∧S (aY w d))):=λd hd=>and_congr (D.face d hd) (bd.face d hd);have La:∀d,aK w d→((A d∧¬S d)↔(A (aY w d)∧¬S (aY w d))):=λd hd=>and_congr (D.face d hd) (not_congr (bd.face d hd));have lB:=rd.mpr hB;have lC:=rd.mpr hC
 have BD:∀x∈q::C,¬S (x,af R x)∧¬S (af R x,x):=λx hx=>by
  have a:=MY x hx;have Fd:=(mR x).mpr (.inr hx);have d:=(D.ring x Fd).1;refine ⟨λz=>a ?_,a⟩;refine (bd.no x (af R x) (g.sym _ _ d) (λz=>?_) (λz=>?_)).mp z
  ·rcases (m1 x).mp z.1 with h|h
   ·exact mW x h hx
   ·have e:=z.2
    subst h;rw [AO] at e;exact mW p (b4 ..) (by rw [←e];exact cv _ Mw)
  ·have e:=z.2
   rcases (m1 _).mp z.1 with h|h
   ·rw [sp _ h] at e
    have:af R x∈q::C∨af R x=p:=by
     rw [←sq x hx]
     have:=ba (l:=q::(C++ [p])) (x:=x) ((m2 x).mpr (.inl hx))
     exact (m2 _).mp this
    rcases this with h2|h2
    ·exact mW _ h h2
    ·rw [h2] at e
     exact mW x (by rw [e];exact cv _ RO) hx
   ·rw [h,AO] at e
    exact mW p (b4 ..) (e▸hx)
 refine ⟨⟨qu,by simp;omega,λd h=>D.dart d h.1,Lb,λd h=>D.tri d h.1,λx hx=>?_,λx y hd n1 n2=>?_⟩,⟨uT,by simp;omega,λd h=>D.dart d h.1,La,λd h=>D.tri d h.1,λx hx=>?_,λx y hd n1 n2=>?_⟩⟩
 ·rcases (m1 x).mp hx with h|rfl
  ·rw [sp x h]
   have r:=D.ring x ((mR x).mpr (.inl h));exact ⟨r.1,⟨r.2.1,MX x h⟩,λz=>r.2.2 z.1⟩
  ·rw [AO]
   exact ⟨D.dart _ ch,⟨ch,Rr⟩,λz=>Rt z.2⟩
 ·have sy:=bd.no x y hd n1 n2
  by_cases c1:bR R x y
  ·obtain ⟨hx,rfl⟩:=c1
   rcases (mR x).mp hx with h|h
   ·exact absurd ⟨(m1 x).mpr (.inl h),(sp x h).symm⟩ n1
   ·exact ⟨λz=>absurd z.2 (BD x h).1,λz=>absurd z.2 (BD x h).2⟩
  ·by_cases c2:bR R y x
   ·obtain ⟨hy,rfl⟩:=c2
    rcases (mR y).mp hy with h|h
    ·exact absurd ⟨(m1 y).mpr (.inl h),(sp y h).symm⟩ n2
    ·exact ⟨λz=>absurd z.2 (BD y h).2,λz=>absurd z.2 (BD y h).1⟩
   ·exact and_congr (D.sym x y hd c1 c2) sy
 ·rcases (m2 x).mp hx with h|rfl
  ·rw [sq x h]
   have r:=D.ring x ((mR x).mpr (.inr h));exact ⟨r.1,⟨r.2.1,MY x h⟩,λz=>r.2.2 z.1⟩
  ·rw [Mv]
   exact ⟨D.dart _ Ny,⟨Ny,Rt⟩,λz=>z.2 Rr⟩
 ·have jG:∀x∈p::B,¬(A (x,af R x)∧¬S (x,af R x))∧¬(A (af R x,x)∧¬S (af R x,x)):=λx hx=>
   ⟨λz=>(D.ring x ((mR x).mpr (.inl hx))).2.2 z.1,λz=>z.2 (MX x hx)⟩
  by_cases c1:bR R x y
  ·obtain ⟨hx,rfl⟩:=c1
   rcases (mR x).mp hx with h|h
   ·exact ⟨λz=>absurd z (jG x h).1,λz=>absurd z (jG x h).2⟩
   ·exact absurd ⟨(m2 x).mpr (.inl h),(sq x h).symm⟩ n1
  ·by_cases c2:bR R y x
   ·obtain ⟨hy,rfl⟩:=c2
    rcases (mR y).mp hy with h|h
    ·exact ⟨λz=>absurd z (jG y h).2,λz=>absurd z (jG y h).1⟩
    ·exact absurd ⟨(m2 y).mpr (.inl h),(sq y h).symm⟩ n2
   ·refine and_congr (D.sym x y hd c1 c2) (not_congr (bd.no x y hd (λz=>?_) (λz=>?_)))
    ·rcases (m1 x).mp z.1 with h|rfl
     ·exact c1 ⟨(mR x).mpr (.inl h),by rw [z.2,sp x h]⟩
     ·have e:=z.2
      rw [AO] at e;exact n2 ⟨(m2 y).mpr (.inr e),by rw [e,Mv]⟩
    ·rcases (m1 y).mp z.1 with h|rfl
     ·exact c2 ⟨(mR y).mpr (.inl h),by rw [z.2,sp y h]⟩
     ·have e:=z.2
      rw [AO] at e;exact n1 ⟨(m2 x).mpr (.inr e),by rw [e,Mv]⟩
end
def par{α:Type}(f:α→Bool):List α→Bool
 | []=>false
 |x::l=>(f x).xor (par f l)
theorem jH{α:Type}(f:α→Bool):∀l m:List α,par f (l++m)=(par f l).xor (par f m)
 | [],m=>by simp [par]
 |x::l,m=>by rw [List.cons_append,par,par,jH f l m,Bool.xor_assoc]
theorem pE{α:Type}(f g:α→Bool):∀l:List α,par (λx=>(f x).xor (g x)) l=(par f l).xor (par g l)
 | []=>rfl
 |x::l=>by
  rw [par,par,par,pE f g l];cases f x<;>cases g x<;>cases par f l<;>cases par g l<;>rfl
theorem gx{α:Type}{f:α→Bool}:∀{l:List α},(∀x∈l,f x=false)→par f l=false
 | [],_=>rfl
 |x::l,h=>by rw [par,h x (b4 ..),gx λy hy=>h y (cv _ hy)];rfl
theorem kg{α:Type}{f g:α→Bool}:∀{l:List α},(∀x∈l,f x=g x)→par f l=par g l
 | [],_=>rfl
 |x::l,h=>by rw [par,par,h x (b4 ..),kg λy hy=>h y (cv _ hy)]
theorem lM{b:Bool}{a:Nat}:∀{l:List Nat},l.Nodup→a∈l→par (λx=>decide (x=a)&&b) l=b
 | [],_,h=>by cases h
 |x::l,nd,h=>by
  obtain ⟨n1,n2⟩:=gf.mp nd;rw [par]
  by_cases e:x=a
  ·subst e
   rw [gx λy hy=>by
    have:y≠x:=λz=>n1 (z▸hy)
    simp [this]]
   simp
  ·have:a∈l:=by
    rcases b9.mp h with z|z
    ·exact absurd z.symm e
    ·exact z
   rw [lM n2 this];simp [e]
theorem yF{α:Type}(f:α→Bool):∀l:List α,par f l.reverse=par f l
 | []=>rfl
 |x::l=>by
  rw [List.reverse_cons,jH,yF f l,par,par,par];cases f x<;>cases par f l<;>rfl
def iL(w:W):Prop:=∀c:Nat→Nat→Bool,(∀x y,c x y=c y x)→(∀p,p<w.length→par (c p) (row w p)=false)→
 ∃S:Nat×Nat→Bool,(∀d,aK w d→S d=S (aY w d))∧∀x y,aK w (x,y)→(S (x,y)).xor (S (y,x))=c x y
open Classical in
theorem iL.ring{w:W}(B:iL w)(g:Good w){C:List Nat}(nd:C.Nodup)(len:3≤C.length)(tie:∀p∈C,af C p∈row w p):∃S:Nat×Nat→Prop,Bd w C S:=by
 have sy:∀x y,decide (bR C x y∨bR C y x)=decide (bR C y x∨bR C x y):=λx y=>decide_eq_decide.mpr Or.comm
 have ev:∀p,p<w.length→par (λy=>decide (bR C p y∨bR C y p)) (row w p)=false:=λp _=>by
  by_cases hp:p∈C
  ·obtain ⟨b,hb,eb⟩:=pG nd hp
   have ne:af C p≠b:=by
    intro e;rw [←e] at eb;obtain ⟨i,hi,rfl⟩:=fq.mp hp;have ei:C[i]=C.getD i 0:=by rw [aJ,bq hi];rfl
    rw [ei] at eb
    by_cases c:i+1<C.length
    ·rw [aE nd c] at eb
     by_cases c2:i+2<C.length
     ·rw [aE nd c2] at eb
      have:=getD_inj nd (by omega) (by omega) eb;omega
     ·rw [aZ nd (by omega)] at eb
      have:=getD_inj nd (by omega) (by omega) eb;omega
    ·rw [aZ nd (by omega),aE nd (by omega)] at eb
     have:=getD_inj nd (by omega) (by omega) eb;omega
   have e:par (λy=>decide (bR C p y∨bR C y p)) (row w p)=par (λy=>(decide (y=af C p)&&true).xor (decide (y=b)&&true)) (row w p):=kg λy _=>by
    have h1:bR C p y↔y=af C p:=⟨λz=>z.2,λz=>⟨hp,z⟩⟩;have h2:bR C y p↔y=b:=⟨λz=>cM nd z.1 hb (by rw [eb];exact z.2.symm),λz=>by rw [z];exact ⟨hb,eb.symm⟩⟩
    have e3:decide (bR C p y∨bR C y p)=decide (y=af C p∨y=b):=decide_eq_decide.mpr (or_congr h1 h2);rw [e3]
    by_cases c1:y=af C p
    ·have c2:y≠b:=λz=>ne (c1▸z)
     simp [c1,ne]
    ·by_cases c2:y=b
     ·simp [c2,Ne.symm ne]
     ·simp [c1,c2]
   rw [e,pE,lM (g.nod p) (tie p hp),lM (g.nod p) (by
    have:=g.sym _ _ (tie b hb)
    rw [eb] at this;have h:=tie b hb;rw [eb] at h;exact g.sym _ _ h)]
   rfl
  ·refine gx λy _=>decide_eq_false ?_
   rintro (z|z)
   ·exact hp z.1
   ·exact hp (by rw [z.2];exact ba z.1)
 obtain ⟨S,h1,h2⟩:=B (λx y=>decide (bR C x y∨bR C y x)) sy ev;refine ⟨λd=>S d=true,λd hd=>by rw [h1 d hd],λx y hd n1 n2=>?_,λx y hd a=>?_⟩
 ·have:=h2 x y hd
  rw [decide_eq_false (show ¬(bR C x y∨bR C y x) from λz=>z.elim n1 n2)] at this;cases e1:S (x,y)<;>cases e2:S (y,x)<;>simp [e1,e2] at this ⊢
 ·have:=h2 x y hd
  rw [decide_eq_true a] at this;cases e1:S (x,y)<;>cases e2:S (y,x)<;>simp [e1,e2] at this ⊢
structure ck (w:W) (R:List Nat):Prop where
 g:Good w
 nd:R.Nodup
 len:3≤R.length
 hd:∀x∈R,af R x∈row w x∧(row w x).getD 0 0=af R x
 ls:∀x∈R,(row w x).getD ((row w x).length-1) 0∈R∧af R ((row w x).getD ((row w x).length-1) 0)=x
 tri:∀x y,aK w (x,y)→¬bR R x y→aY w (aY w (aY w (x,y)))=(x,y)∧¬bR R (aY w (x,y)).1 (aY w (x,y)).2
 bnd:iL w
theorem ck.ud{w:W}{a b:List Nat}(G:ck w (a++b)):ck w (b++a):=by
 have mem:∀p,p∈b++a↔p∈a++b:=λp=>List.perm_append_comm.mem_iff;have s:∀p,p∈b++a→af (b++a) p=af (a++b) p:=λp h=>fz G.nd ((mem p).mp h)
 have ad:∀x y,bR (b++a) x y↔bR (a++b) x y:=λx y=>by
  constructor
  ·rintro ⟨h,e⟩;exact ⟨(mem x).mp h,by rw [e,s x h]⟩
  ·rintro ⟨h,e⟩;exact ⟨(mem x).mpr h,by rw [e,s x ((mem x).mpr h)]⟩
 refine ⟨G.g,List.perm_append_comm.nodup_iff.mp G.nd,by have:=G.len;simp at this ⊢;omega,λx hx=>?_,λx hx=>?_,λx y hd n=>?_,G.bnd⟩
 ·rw [s x hx];exact G.hd x ((mem x).mp hx)
 ·have:=G.ls x ((mem x).mp hx)
  exact ⟨(mem _).mpr this.1,by rw [s _ ((mem _).mpr this.1)];exact this.2⟩
 ·have:=G.tri x y hd (λz=>n ((ad x y).mpr z))
  exact ⟨this.1,λz=>this.2 ((ad _ _).mp z)⟩
theorem ck.tI{w:W}{R:List Nat}(G:ck w R){x b:Nat}(hx:x∈R)(hb:b∈R)(e:af R b=x):(row w x).getD ((row w x).length-1) 0=b∧(row w x).length≠0:=by
 have:=G.ls x hx
 refine ⟨cM G.nd this.1 hb (by rw [this.2,e]),?_⟩
 have:=(G.hd x hx).1
 intro z;rw [B6.mp z] at this;cases this
theorem ck.outer{w:W}{R:List Nat}(G:ck w R){x y:Nat}(h:bR R x y):aY w (x,y)=(y,af R y):=by
 obtain ⟨hx,rfl⟩:=h;have hy:=ba hx;obtain ⟨e,ne⟩:=G.tI hy hx rfl;show (_,af (row w (af R x)) x)=_;have e2:=aZ (G.g.nod (af R x)) (i:=(row w (af R x)).length-1) (by omega)
 rw [e] at e2;rw [e2,(G.hd _ hy).2]
theorem ck.Et{w:W}{R:List Nat}(G:ck w R):Disc w R λd=>aK w d∧¬bR R d.1 d.2:=by
 have two:∀x∈R,af R (af R x)≠x:=λx hx e=>by
  have len:=G.len;obtain ⟨i,hi,rfl⟩:=fq.mp hx;have ei:R[i]=R.getD i 0:=by rw [aJ,bq hi];rfl
  rw [ei] at e
  by_cases c:i+1<R.length
  ·rw [aE G.nd c] at e
   by_cases c2:i+2<R.length
   ·rw [aE G.nd c2] at e
    have:=getD_inj G.nd (by omega) (by omega) e;omega
   ·rw [aZ G.nd (by omega)] at e
    have:=getD_inj G.nd (by omega) (by omega) e;omega
  ·rw [aZ G.nd (by omega),aE G.nd (by omega)] at e
   have:=getD_inj G.nd (by omega) (by omega) e;omega
 refine ⟨G.nd,G.len,λd h=>h.1,λd hd=>⟨λh=>⟨e7 G.g hd,(G.tri d.1 d.2 hd h.2).2⟩,λh=>⟨hd,λz=>h.2 ?_⟩⟩,λd h=>(G.tri d.1 d.2 h.1 h.2).1,λp hp=>?_,λp q hd n1 n2=>?_⟩
 ·have e:aY w d=(d.2,af R d.2):=G.outer z
  rw [e];exact ⟨by rw [z.2];exact ba z.1,rfl⟩
 ·have h1:=(G.hd p hp).1
  exact ⟨G.g.sym _ _ h1,⟨G.g.sym _ _ h1,λz=>two p hp z.2.symm⟩,λz=>z.2 ⟨hp,rfl⟩⟩
 ·exact ⟨λh=>⟨G.g.sym _ _ h.1,n2⟩,λh=>⟨G.g.sym _ _ h.1,n1⟩⟩
end Wb
set_option maxHeartbeats 1000000
namespace Wb
structure Step (w w':W) (R:List Nat) (f:Nat):Prop where
 l:w'.length=w.length+1
 f1:1≤f
 fn:f<R.length
 rv:row w' w.length=(R.take (f+1)).reverse
 r0:row w' (R.getD 0 0)=w.length::row w (R.getD 0 0)
 rk:∀k,1≤k→k≤f→row w' (R.getD k 0)=row w (R.getD k 0)++ [w.length]
 ro:∀x,x≠w.length→(∀k,k≤f→x≠R.getD k 0)→row w' x=row w x
def bX(R:List Nat)(f v:Nat):List Nat:=R.getD 0 0::v::R.drop f
theorem dS{R:List Nat}{f k:Nat}(h:f<R.length)(hk:k≤f):(R.take (f+1)).reverse.getD (f-k) 0=R.getD k 0:=by
 have l:(R.take (f+1)).length=f+1:=by rw [b8];omega
 rw [aJ,List.getElem?_reverse (by omega),l,show f+1-1-(f-k)=k by omega,nk (by omega),←aJ]
theorem rR{l:List Nat}{v x:Nat}(nd:(v::l).Nodup)(hx:x∈l)(hl:x≠l.getD (l.length-1) 0):af (v::l) x=af l x:=by
 obtain ⟨i,hi,rfl⟩:=fq.mp hx;have e:l[i]=l.getD i 0:=by rw [aJ,bq hi];rfl
 have mK:i+1<l.length:=by
  apply Classical.byContradiction;intro c;exact hl (by rw [e,show l.length-1=i by omega])
 have h1:=aE (i:=i+1) nd (by simp;omega)
 have h2:=aE (i:=i) (gf.mp nd).2 mK;rw [kK,kK] at h1;rw [e,h1,h2]
theorem rS{l:List Nat}{v x:Nat}(nd:(l++ [v]).Nodup)(hx:x∈l)(hl:x≠l.getD (l.length-1) 0):af (l++ [v]) x=af l x:=by
 obtain ⟨i,hi,rfl⟩:=fq.mp hx;have e:l[i]=l.getD i 0:=by rw [aJ,bq hi];rfl
 have mK:i+1<l.length:=by
  apply Classical.byContradiction;intro c;exact hl (by rw [e,show l.length-1=i by omega])
 have g:∀j,j<l.length→(l++ [v]).getD j 0=l.getD j 0:=λj hj=>by rw [aJ,dP hj,←aJ]
 have h1:=aE (i:=i) nd (by simp;omega)
 have h2:=aE (i:=i) (fg.mp nd).1 mK;rw [g i hi,g (i+1) mK] at h1;rw [e,h1,h2]
section
variable {w w':W} {R:List Nat} {f:Nat}
theorem oq(G:ck w R)(T:Step w w' R f):Good w':=by
 have g:=G.g;have fn:=T.fn;have zR:∀k,k≤f→R.getD k 0∈R:=λk h=>aw (by omega)
 have zlt:∀k,k≤f→R.getD k 0<w.length:=λk h=>bG (G.hd _ (zR k h)).1
 have DV:∀x,x∈(R.take (f+1)).reverse↔∃k,k≤f∧x=R.getD k 0:=λx=>by
  rw [List.mem_reverse]
  constructor
  ·intro h
   obtain ⟨i,hi,rfl⟩:=fq.mp h;rw [b8] at hi;exact ⟨i,by omega,by rw [v8,aJ,bq (by omega)];rfl⟩
  ·rintro ⟨k,hk,rfl⟩
   refine fq.mpr ⟨k,by rw [b8];omega,?_⟩
   rw [v8,aJ,bq (by omega)];rfl
 have mem:∀x,x≠w.length→∀y,y∈row w' x↔y∈row w x∨(y=w.length∧∃k,k≤f∧x=R.getD k 0):=λx hx y=>by
  by_cases c:∃k,k≤f∧x=R.getD k 0
  ·obtain ⟨k,hk,rfl⟩:=c
   by_cases k0:k=0
   ·subst k0
    rw [T.r0,b9];exact ⟨λh=>h.elim (λz=> .inr ⟨z,0,hk,rfl⟩) .inl,λh=>h.elim .inr (λz=> .inl z.1)⟩
   ·rw [T.rk k (by omega) hk,dF,ja]
    exact ⟨λh=>h.elim .inl (λz=> .inr ⟨z,k,hk,rfl⟩),λh=>h.elim .inl (λz=> .inr z.1)⟩
  ·rw [T.ro x hx (λk hk z=>c ⟨k,hk,z⟩)]
   exact ⟨.inl,λh=>h.elim id (λz=>absurd z.2 c)⟩
 have By:∀y,y∈row w' w.length↔∃k,k≤f∧y=R.getD k 0:=λy=>by rw [T.rv];exact DV y
 have GL:∀x,w.length∉row w x:=λx h=>fW _ (g.rng _ _ h)
 have Xa:∀x,x≠w.length→(row w' x).Nodup:=λx hx=>by
  by_cases c:∃k,k≤f∧x=R.getD k 0
  ·obtain ⟨k,hk,rfl⟩:=c
   by_cases k0:k=0
   ·subst k0
    rw [T.r0];exact gf.mpr ⟨GL _,g.nod _⟩
   ·rw [T.rk k (by omega) hk]
    exact fg.mpr ⟨g.nod _,by simp,λa ha b hb e=>by
     have:b=w.length:=ja.mp hb
     rw [e,this] at ha;exact GL _ ha⟩
  ·rw [T.ro x hx (λk hk z=>c ⟨k,hk,z⟩)];exact g.nod x
 have up:∀x y,y∈row w x→y∈row w' x:=λx y h=>(mem x (by have:=bG h;omega) y).mpr (.inl h)
 have con:∀x,x<w.length→Reach w' 0 x:=λx hx=>(g.con x hx).mono up;refine ⟨λx y h=>?_,λx h=>?_,λx=>?_,λx y h=>?_,λx hx=>?_⟩
 ·rw [T.l]
  by_cases c:x=w.length
  ·subst c
   obtain ⟨k,hk,rfl⟩:=(By y).mp h
   have:=zlt k hk;omega
  ·rcases (mem x c y).mp h with h| ⟨h,_⟩
   ·have:=g.rng _ _ h;omega
   ·omega
 ·by_cases c:x=w.length
  ·subst c
   obtain ⟨k,hk,e⟩:=(By _).mp h
   have:=zlt k hk;omega
  ·rcases (mem x c x).mp h with h| ⟨h,_⟩
   ·exact g.irr x h
   ·exact c h
 ·by_cases c:x=w.length
  ·subst c
   rw [T.rv];exact (List.reverse_perm _).nodup_iff.mpr (G.nd.sublist (List.take_sublist _ _))
  ·exact Xa x c
 ·by_cases c:x=w.length
  ·subst c
   obtain ⟨k,hk,rfl⟩:=(By y).mp h;exact (mem _ (by have:=zlt k hk;omega) _).mpr (.inr ⟨rfl,k,hk,rfl⟩)
  ·rcases (mem x c y).mp h with h| ⟨rfl,k,hk,rfl⟩
   ·exact up _ _ (g.sym _ _ h)
   ·exact (By _).mpr ⟨k,hk,rfl⟩
 ·rw [T.l] at hx
  by_cases c:x=w.length
  ·subst c
   exact .step (con _ (zlt 0 (cn _))) ((mem _ (by have:=zlt 0 (cn _);omega) _).mpr (.inr ⟨rfl,0,cn _,rfl⟩))
  ·exact con x (by omega)
structure SF (w w':W) (R:List Nat) (f:Nat):Prop where
 z:∀k,k<R.length→R.getD k 0∈R
 zlt:∀k,k<R.length→R.getD k 0<w.length
 inj:∀i j,i<R.length→j<R.length→R.getD i 0=R.getD j 0→i=j
 dv:∀y,aK w' (w.length,y)↔∃k,k≤f∧y=R.getD k 0
 dx:∀x,x≠w.length→∀y,aK w' (x,y)↔aK w (x,y)∨(y=w.length∧∃k,k≤f∧x=R.getD k 0)
 n1:∀x y,aK w (x,y)→¬bR R x y→aY w' (x,y)=aY w (x,y)
 n1o:∀i,f≤i→i+1<R.length→aY w' (R.getD i 0,R.getD (i+1) 0)=(R.getD (i+1) 0,af R (R.getD (i+1) 0))
 n1e:aY w' (R.getD (R.length-1) 0,R.getD 0 0)=(R.getD 0 0,w.length)
 n2:∀k,k<f→aY w' (R.getD k 0,R.getD (k+1) 0)=(R.getD (k+1) 0,w.length)
 n3:∀k,k<f→aY w' (R.getD (k+1) 0,w.length)=(w.length,R.getD k 0)
 n3e:aY w' (R.getD 0 0,w.length)=(w.length,R.getD f 0)
 n4:∀k,k≤f→aY w' (w.length,R.getD k 0)=(R.getD k 0,af R (R.getD k 0))
theorem qZ(G:ck w R)(T:Step w w' R f):SF w w' R f:=by
 have g:=G.g;have g':=oq G T;have fn:=T.fn;have f1:=T.f1;have zR:∀k,k<R.length→R.getD k 0∈R:=λk h=>aw h;have zlt:∀k,k<R.length→R.getD k 0<w.length:=λk h=>bG (G.hd _ (zR k h)).1;have inj:∀i j,i<R.length→j<R.length→R.getD i 0=R.getD j 0→i=j:=λi j hi hj e=>getD_inj G.nd hi hj e;have GL:∀x,w.length∉row w x:=λx h=>fW _ (g.rng _ _ h);have sx:∀i,i+1<R.length→af R (R.getD i 0)=R.getD (i+1) 0:=λi h=>aE G.nd h;have se:af R (R.getD (R.length-1) 0)=R.getD 0 0:=aZ G.nd (by omega)
 have DV:∀x,x∈(R.take (f+1)).reverse↔∃k,k≤f∧x=R.getD k 0:=λx=>by
  rw [List.mem_reverse]
  constructor
  ·intro h
   obtain ⟨i,hi,rfl⟩:=fq.mp h;rw [b8] at hi;exact ⟨i,by omega,by rw [v8,aJ,bq (by omega)];rfl⟩
  ·rintro ⟨k,hk,rfl⟩
   refine fq.mpr ⟨k,by rw [b8];omega,?_⟩
   rw [v8,aJ,bq (by omega)];rfl
 have dx:∀x,x≠w.length→∀y,aK w' (x,y)↔aK w (x,y)∨(y=w.length∧∃k,k≤f∧x=R.getD k 0):=λx hx y=>by
  show y∈row w' x↔y∈row w x∨_
  by_cases c:∃k,k≤f∧x=R.getD k 0
  ·obtain ⟨k,hk,rfl⟩:=c
   by_cases k0:k=0
   ·subst k0
    rw [T.r0,b9];exact ⟨λh=>h.elim (λz=> .inr ⟨z,0,hk,rfl⟩) .inl,λh=>h.elim .inr (λz=> .inl z.1)⟩
   ·rw [T.rk k (by omega) hk,dF,ja]
    exact ⟨λh=>h.elim .inl (λz=> .inr ⟨z,k,hk,rfl⟩),λh=>h.elim .inl (λz=> .inr z.1)⟩
  ·rw [T.ro x hx (λk hk z=>c ⟨k,hk,z⟩)]
   exact ⟨.inl,λh=>h.elim id (λz=>absurd z.2 c)⟩
 have JW:∀k,k<R.length→(row w (R.getD k 0)).length≠0:=λk hk z=>by
  have:=(G.hd _ (zR k hk)).1
  rw [B6.mp z] at this;cases this
 have s0:∀x,x∈row w (R.getD 0 0)→x≠(row w (R.getD 0 0)).getD ((row w (R.getD 0 0)).length-1) 0→af (row w' (R.getD 0 0)) x=af (row w (R.getD 0 0)) x:=λx h1 h2=>by
  rw [T.r0];exact rR (by rw [←T.r0];exact g'.nod _) h1 h2
 have sk:∀k,1≤k→k≤f→∀x,x∈row w (R.getD k 0)→x≠(row w (R.getD k 0)).getD ((row w (R.getD k 0)).length-1) 0→af (row w' (R.getD k 0)) x=af (row w (R.getD k 0)) x:=λk h1 h2 x h3 h4=>by
  rw [T.rk k h1 h2];exact rS (by rw [←T.rk k h1 h2];exact g'.nod _) h3 h4
 have lastOf:∀y∈R,∀x,x=(row w y).getD ((row w y).length-1) 0→bR R x y:=λy hy x e=>by
  have:=G.ls y hy
  rw [←e] at this;exact ⟨this.1,this.2.symm⟩
 have IU:∀k,1≤k→k≤f→af (row w' (R.getD k 0)) ((row w (R.getD k 0)).getD ((row w (R.getD k 0)).length-1) 0)=w.length:=λk h1 h2=>by
  have nd:=g'.nod (R.getD k 0);have ln:=JW k (by omega)
  rw [T.rk k h1 h2] at nd ⊢;have h:=aE (i:=(row w (R.getD k 0)).length-1) nd (by rw [cy,uA];omega)
  have e1:(row w (R.getD k 0)++ [w.length]).getD ((row w (R.getD k 0)).length-1) 0=(row w (R.getD k 0)).getD ((row w (R.getD k 0)).length-1) 0:=by
   rw [aJ,dP (by omega),←aJ]
  have e2:(row w (R.getD k 0)++ [w.length]).getD ((row w (R.getD k 0)).length-1+1) 0=w.length:=by
   rw [aJ,fG (by omega),show (row w (R.getD k 0)).length-1+1-(row w (R.getD k 0)).length=0 by omega];rfl
  rw [e1,e2] at h;exact h
 refine ⟨zR,zlt,inj,λy=>by show y∈row w' w.length↔_;rw [T.rv];exact DV y,dx,λx y hd n=>?_,λi h1 h2=>?_,?_,λk hk=>?_,λk hk=>?_,?_,λk hk=>?_⟩
 ·
  show (y,af (row w' y) x)=(y,af (row w y) x);have xy:x∈row w y:=g.sym _ _ hd
  by_cases c:∃k,k≤f∧y=R.getD k 0
  ·obtain ⟨k,hk,rfl⟩:=c
   have nl:x≠(row w (R.getD k 0)).getD ((row w (R.getD k 0)).length-1) 0:=λe=>n (lastOf _ (zR k (by omega)) x e)
   by_cases k0:k=0
   ·subst k0;rw [s0 x xy nl]
   ·rw [sk k (by omega) hk x xy nl]
  ·rw [T.ro y (by have:=g.rng _ _ hd;omega) (λk hk z=>c ⟨k,hk,z⟩)]
 ·
  have hm:=zR (i+1) h2;obtain ⟨e,ne⟩:=G.tI hm (zR i (by omega)) (sx i h2)
  show (_,af (row w' (R.getD (i+1) 0)) (R.getD i 0))=_;rw [T.ro _ (by have:=zlt (i+1) h2;omega) (λk hk z=>by have:=inj _ _ h2 (by omega) z;omega)]
  have e2:=aZ (g.nod (R.getD (i+1) 0)) (i:=(row w (R.getD (i+1) 0)).length-1) (by omega)
  rw [e] at e2;rw [e2,(G.hd _ hm).2]
 ·
  have hm:=zR 0 (by omega)
  obtain ⟨e,ne⟩:=G.tI hm (zR (R.length-1) (by omega)) se
  show (_,af (row w' (R.getD 0 0)) (R.getD (R.length-1) 0))=_;rw [T.r0];have nd:=g'.nod (R.getD 0 0);rw [T.r0] at nd;have e2:=aZ nd (i:=(row w (R.getD 0 0)).length) (by simp)
  have e3:(w.length::row w (R.getD 0 0)).getD (row w (R.getD 0 0)).length 0=R.getD (R.length-1) 0:=by
   rw [←e,show (row w (R.getD 0 0)).length=(row w (R.getD 0 0)).length-1+1 by omega,kK];simp
  rw [e3] at e2;rw [e2];rfl
 ·
  have hm:=zR (k+1) (by omega)
  obtain ⟨e,ne⟩:=G.tI hm (zR k (by omega)) (sx k (by omega))
  show (_,af (row w' (R.getD (k+1) 0)) (R.getD k 0))=_
  have:=IU (k+1) (by omega) (by omega)
  rw [e] at this;rw [this]
 ·
  show (_,af (row w' w.length) (R.getD (k+1) 0))=_;have nd:=g'.nod w.length;rw [T.rv] at nd ⊢;have l:(R.take (f+1)).reverse.length=f+1:=by rw [vW,b8];omega
  have h:=aE (i:=f-(k+1)) nd (by omega)
  rw [dS fn (by omega),show f-(k+1)+1=f-k by omega,dS fn (by omega)] at h
  rw [h]
 ·
  show (_,af (row w' w.length) (R.getD 0 0))=_;have nd:=g'.nod w.length;rw [T.rv] at nd ⊢;have l:(R.take (f+1)).reverse.length=f+1:=by rw [vW,b8];omega
  have h:=aZ nd (i:=f) (by omega)
  have e0:=dS fn (cn f);have e1:=dS fn (br f);rw [Nat.sub_zero] at e0;rw [kO] at e1;rw [e0,e1] at h;rw [h]
 ·
  have hm:=zR k (by omega)
  show (_,af (row w' (R.getD k 0)) w.length)=_;have nd:=g'.nod (R.getD k 0);have ln:=JW k (by omega)
  by_cases k0:k=0
  ·subst k0
   rw [T.r0] at nd ⊢;have h:=aE (i:=0) nd (by rw [eU];omega)
   rw [List.getD_cons_zero,kK,(G.hd _ hm).2] at h;rw [h]
  ·rw [T.rk k (by omega) hk] at nd ⊢
   have h:=aZ nd (i:=(row w (R.getD k 0)).length) (by simp)
   have e1:(row w (R.getD k 0)++ [w.length]).getD (row w (R.getD k 0)).length 0=w.length:=by
    rw [aJ,fG (br _),kO];rfl
   have e2:(row w (R.getD k 0)++ [w.length]).getD 0 0=(row w (R.getD k 0)).getD 0 0:=by
    rw [aJ,dP (by omega),←aJ]
   rw [e1,e2,(G.hd _ hm).2] at h;rw [h]
end
end Wb
set_option maxHeartbeats 2000000
namespace Wb
section
variable {w w':W} {R:List Nat} {f:Nat}
structure DP (w:W) (R:List Nat) (f:Nat):Prop where
 nd:(bX R f w.length).Nodup
 len:(bX R f w.length).length+f=R.length+2
 mem:∀x,x∈bX R f w.length↔x=R.getD 0 0∨x=w.length∨∃i,f≤i∧i<R.length∧x=R.getD i 0
 s0:af (bX R f w.length) (R.getD 0 0)=w.length
 sv:af (bX R f w.length) w.length=R.getD f 0
 si:∀i,f≤i→i<R.length→af (bX R f w.length) (R.getD i 0)=af R (R.getD i 0)
theorem AJ(G:ck w R)(T:Step w w' R f):DP w R f:=by
 have fn:=T.fn;have f1:=T.f1;have zR:∀k,k<R.length→R.getD k 0∈R:=λk h=>aw h;have zlt:∀k,k<R.length→R.getD k 0<w.length:=λk h=>bG (G.hd _ (zR k h)).1;have inj:∀i j,i<R.length→j<R.length→R.getD i 0=R.getD j 0→i=j:=λi j hi hj e=>getD_inj G.nd hi hj e
 have dm:∀x,x∈R.drop f↔∃i,f≤i∧i<R.length∧x=R.getD i 0:=λx=>by
  constructor
  ·intro h
   obtain ⟨i,hi,rfl⟩:=fq.mp h;rw [dE] at hi;exact ⟨f+i,by omega,by omega,by rw [List.getElem_drop,aJ,bq (by omega)];rfl⟩
  ·rintro ⟨i,h1,h2,rfl⟩
   refine fq.mpr ⟨i-f,by rw [dE];omega,?_⟩
   rw [List.getElem_drop,aJ,bq h2];simp only [show f+(i-f)=i by omega];rfl
 have nd:(bX R f w.length).Nodup:=by
  unfold bX;refine gf.mpr ⟨λh=>?_,gf.mpr ⟨λh=>?_,G.nd.sublist (List.drop_sublist _ _)⟩⟩
  ·rcases b9.mp h with h|h
   ·have:=zlt 0 (by omega);omega
   ·obtain ⟨i,h1,h2,e⟩:=(dm _).mp h
    have:=inj 0 i (by omega) h2 e;omega
  ·obtain ⟨i,h1,h2,e⟩:=(dm _).mp h
   have:=zlt i h2;omega
 have len:(bX R f w.length).length=R.length-f+2:=by unfold bX;simp
 have get:∀i,f≤i→i<R.length→(bX R f w.length).getD (i-f+2) 0=R.getD i 0:=λi h1 h2=>by
  unfold bX;rw [kK,kK,aJ,uC,show f+(i-f)=i by omega,←aJ]
 have g0:(bX R f w.length).getD 0 0=R.getD 0 0:=rfl;have g1:(bX R f w.length).getD 1 0=w.length:=rfl;refine ⟨nd,by omega,λx=>?_,?_,?_,λi h1 h2=>?_⟩
 ·unfold bX
  rw [b9,b9,dm]
 ·have:=aE nd (i:=0) (by omega)
  rw [g0] at this;exact this
 ·have:=aE nd (i:=1) (by omega)
  have e:=get f (br _) fn;rw [kO] at e;rw [g1] at this;rw [this];exact e
 ·by_cases c:i+1<R.length
  ·have:=aE nd (i:=i-f+2) (by omega)
   have e:=get (i+1) (by omega) c
   rw [get i h1 h2,show i-f+2+1=i+1-f+2 by omega,e] at this
   rw [this,aE G.nd c]
  ·have:=aZ nd (i:=i-f+2) (by omega)
   rw [get i h1 h2,g0] at this;rw [this,aZ G.nd (by omega)]
theorem DP.bR(F:DP w R f){x y:Nat}(h:bR (bX R f w.length) x y):(x=R.getD 0 0∧y=w.length)∨(x=w.length∧y=R.getD f 0)∨∃i,f≤i∧i<R.length∧x=R.getD i 0∧y=af R (R.getD i 0):=by
 obtain ⟨hx,e⟩:=h
 rcases (F.mem x).mp hx with rfl|rfl| ⟨i,h1,h2,rfl⟩
 ·exact .inl ⟨rfl,by rw [e,F.s0]⟩
 ·exact .inr (.inl ⟨rfl,by rw [e,F.sv]⟩)
 ·exact .inr (.inr ⟨i,h1,h2,rfl,by rw [e,F.si i h1 h2]⟩)
open Classical in
theorem Dr(G:ck w R)(T:Step w w' R f):iL w':=by
 have g:=G.g;have g':=oq G T;have fn:=T.fn;have f1:=T.f1;have K:=qZ G T;have len:=G.len;have zlt:=K.zlt;have mO:∀k,k<R.length→R.getD k 0≠w.length:=λk h=>by have:=zlt k h;omega
 have sx:∀i,i+1<R.length→af R (R.getD i 0)=R.getD (i+1) 0:=λi h=>aE G.nd h;have se:af R (R.getD (R.length-1) 0)=R.getD 0 0:=aZ G.nd (by omega)
 intro c sy ev
 let s:Nat→Bool:=λk=>par (λi=>c w.length (R.getD i 0)) (List.range (k+1))
 let sp:Nat→Bool:=λk=>match k with|0=>false|k+1=>s k
 have ss:∀k,s (k+1)=(s k).xor (c w.length (R.getD (k+1) 0)):=λk=>by
  show par _ (List.range (k+1+1))=_;rw [uF,jH];show (s k).xor ((c w.length (R.getD (k+1) 0)).xor false)=_;rw [ux]
 have s0:s 0=c w.length (R.getD 0 0):=by
  show (c w.length (R.getD 0 0)).xor false=_;rw [ux]
 have GZ:R.take (f+1)=(List.range (f+1)).map λi=>R.getD i 0:=by
  refine List.ext_getElem (by rw [b8,List.length_map,gd];omega) λi h1 h2=>?_
  rw [b8] at h1;rw [v8,uv,xt,aJ,bq (by omega)];rfl
 have pD:∀(h:Nat→Bool)(φ:Nat→Nat)(l:List Nat),par h (l.map φ)=par (λi=>h (φ i)) l:=λh φ l=>by
  induction l with
  |nil=>rfl
  |cons a l ih=>rw [iK,par,par,ih]
 have sf:s f=false:=by
  have:=ev w.length (by rw [T.l];omega)
  rw [T.rv,yF,GZ,pD] at this;exact this
 let de:Nat→Nat→Bool:=λx y=>decide (∃k,k<f∧x=R.getD k 0∧y=R.getD (k+1) 0∧s k=true)
 have K2:∀k,k<f→∀y,de (R.getD k 0) y=(decide (y=R.getD (k+1) 0)&&s k):=λk hk y=>by
  show decide _=_
  by_cases c1:y=R.getD (k+1) 0
  ·cases hs:s k with
   |true=>rw [decide_eq_true ⟨k,hk,rfl,c1,hs⟩,decide_eq_true c1];rfl
   |false=>
    rw [Bool.and_false];refine decide_eq_false ?_;rintro ⟨j,hj,e,_,h⟩
    have:=K.inj k j (by omega) (by omega) e
    subst this;rw [hs] at h;cases h
  ·rw [decide_eq_false c1,uw]
   refine decide_eq_false ?_;rintro ⟨j,hj,e,e2,h⟩
   have:=K.inj k j (by omega) (by omega) e
   subst this;exact c1 e2
 have OE:∀k,k<f→∀x,de x (R.getD (k+1) 0)=(decide (x=R.getD k 0)&&s k):=λk hk x=>by
  show decide _=_
  by_cases c1:x=R.getD k 0
  ·cases hs:s k with
   |true=>rw [decide_eq_true ⟨k,hk,c1,rfl,hs⟩,decide_eq_true c1];rfl
   |false=>
    rw [Bool.and_false];refine decide_eq_false ?_;rintro ⟨j,hj,_,e,h⟩
    have:=K.inj (k+1) (j+1) (by omega) (by omega) e
    have:k=j:=by omega
    subst this;rw [hs] at h;cases h
  ·rw [decide_eq_false c1,uw]
   refine decide_eq_false ?_;rintro ⟨j,hj,e2,e,h⟩
   have:=K.inj (k+1) (j+1) (by omega) (by omega) e
   have:k=j:=by omega
   subst this;exact c1 e2
 have OC:∀x y,(∀k,k<f→x≠R.getD k 0)→de x y=false:=λx y h=>decide_eq_false λ⟨k,hk,e,_⟩=>h k hk e;have OD:∀x y,(∀k,k<f→y≠R.getD (k+1) 0)→de x y=false:=λx y h=>decide_eq_false λ⟨k,hk,_,e,_⟩=>h k hk e
 have tie:∀k,k+1<R.length→R.getD (k+1) 0∈row w (R.getD k 0):=λk hk=>by
  have:=(G.hd _ (K.z k (by omega))).1
  rw [sx k hk] at this;exact this
 obtain ⟨S,SF,SC⟩:=G.bnd (λx y=>((c x y).xor (de x y)).xor (de y x)) (λx y=>by
   show ((c x y).xor (de x y)).xor (de y x)=((c y x).xor (de y x)).xor (de x y);rw [sy x y];cases c y x<;>cases de x y<;>cases de y x<;>rfl) (λp hp=>by
   have e:par (λy=>((c p y).xor (de p y)).xor (de y p)) (row w p)=((par (c p) (row w p)).xor (par (de p) (row w p))).xor (par (λy=>de y p) (row w p)):=by
    rw [pE (λy=>(c p y).xor (de p y)) (λy=>de y p),pE (c p) (de p)]
   rw [e];have x9:=ev p (by rw [T.l];omega)
   by_cases hk:∃k,k≤f∧p=R.getD k 0
   ·obtain ⟨k,hk,rfl⟩:=hk
    have hc:par (c (R.getD k 0)) (row w (R.getD k 0))=c w.length (R.getD k 0):=by
     by_cases k0:k=0
     ·subst k0
      rw [T.r0,par] at x9;rw [sy w.length];cases h1:c (R.getD 0 0) w.length<;>cases h2:par (c (R.getD 0 0)) (row w (R.getD 0 0))<;>rw [h1,h2] at x9<;>simp at x9 ⊢
     ·rw [T.rk k (by omega) hk,jH,par,par,ux] at x9
      rw [sy w.length];cases h1:c (R.getD k 0) w.length<;>cases h2:par (c (R.getD k 0)) (row w (R.getD k 0))<;>rw [h1,h2] at x9<;>simp at x9 ⊢
    have h1:par (de (R.getD k 0)) (row w (R.getD k 0))=if k<f then s k else false:=by
     by_cases kf:k<f
     ·rw [if_pos kf,kg (λy _=>K2 k kf y)]
      exact lM (g.nod _) (tie k (by omega))
     ·rw [if_neg kf]
      exact gx λy _=>OC _ _ λj hj e=>by have:=K.inj k j (by omega) (by omega) e;omega
    have h2:par (λy=>de y (R.getD k 0)) (row w (R.getD k 0))=sp k:=by
     cases k with
     |zero=>exact gx λy _=>OD _ _ λj hj e=>by have:=K.inj 0 (j+1) (by omega) (by omega) e;omega
     |succ k=>
      rw [kg (λy _=>OE k (by omega) y)]
      exact lM (g.nod _) (g.sym _ _ (tie k (by omega)))
    rw [hc,h1,h2];cases k with
    |zero=>
     rw [if_pos (by omega),s0]
     show ((c w.length (R.getD 0 0)).xor _).xor false=false;rw [Bool.xor_self];rfl
    |succ k=>
     show (_:Bool).xor (s k)=false
     by_cases kf:k+1<f
     ·rw [if_pos kf,ss k]
      cases s k<;>cases c w.length (R.getD (k+1) 0)<;>rfl
     ·rw [if_neg kf]
      have:k+1=f:=by omega
      have h:=ss k;rw [this,sf] at h;rw [this];cases h1:s k<;>cases h2:c w.length (R.getD f 0)<;>rw [h1,h2] at h<;>simp at h ⊢
   ·have n1:∀k,k≤f→p≠R.getD k 0:=λk h z=>hk ⟨k,h,z⟩
    rw [T.ro p (by omega) n1] at x9
    rw [x9,gx λy _=>OC p y λk h=>n1 k (by omega),gx λy _=>OD y p λk h=>n1 (k+1) (by omega)]
    rfl)
 have vE:∀i,i<R.length→S (R.getD i 0,af R (R.getD i 0))=S (R.getD 0 0,af R (R.getD 0 0)):=by
  intro i
  induction i with
  |zero=>intro _;rfl
  |succ i ih=>
   intro h;rw [←ih (by omega)]
   have d:aK w (R.getD i 0,af R (R.getD i 0)):=(G.hd _ (K.z i (by omega))).1
   rw [SF _ d,G.outer ⟨K.z i (by omega),rfl⟩,sx i h]
 generalize ho:S (R.getD 0 0,af R (R.getD 0 0))=o at vE
 let ix:Nat→Nat:=λx=>R.idxOf x
 have LX:∀k,k<R.length→ix (R.getD k 0)=k:=λk hk=>by
  show R.idxOf _=k;rw [aJ,bq hk];exact G.nd.idxOf_getElem k hk
 let U:Nat×Nat→Bool:=λd=>if d.1=w.length then o.xor (s (ix d.2)) else if d.2=w.length then o.xor (sp (ix d.1)) else if ∃k,k<f∧d.1=R.getD k 0∧d.2=R.getD (k+1) 0 then o.xor (s (ix d.1)) else S d
 have Uv:∀k,k≤f→U (w.length,R.getD k 0)=o.xor (s k):=λk hk=>by
  show (if w.length=w.length then o.xor (s (ix (R.getD k 0))) else _)=_;rw [if_pos rfl,LX k (by omega)]
 have Ux:∀k,k≤f→U (R.getD k 0,w.length)=o.xor (sp k):=λk hk=>by
  show (if R.getD k 0=w.length then _ else if w.length=w.length then o.xor (sp (ix (R.getD k 0))) else _)=_;rw [if_neg (mO k (by omega)),if_pos rfl,LX k (by omega)]
 have Ua:∀k,k<f→U (R.getD k 0,R.getD (k+1) 0)=o.xor (s k):=λk hk=>by
  show (if R.getD k 0=w.length then _ else if R.getD (k+1) 0=w.length then _ else if _ then o.xor (s (ix (R.getD k 0))) else _)=_;rw [if_neg (mO k (by omega)),if_neg (mO (k+1) (by omega)),if_pos ⟨k,hk,rfl,rfl⟩,LX k (by omega)]
 have Uo:∀x y,x≠w.length→y≠w.length→(∀k,k<f→x=R.getD k 0→y≠R.getD (k+1) 0)→U (x,y)=S (x,y):=λx y h1 h2 h3=>by
  show (if x=w.length then _ else if y=w.length then _ else if _ then _ else S (x,y))=_;rw [if_neg h1,if_neg h2,if_neg (λ⟨k,hk,e1,e2⟩=>h3 k hk e1 e2)]
 have QS:∀b:Bool,b.xor false=b:=ux;refine ⟨U,λd hd=>?_,λx y hd=>?_⟩
 ·obtain ⟨x,y⟩:=d
  by_cases xv:x=w.length
  ·subst xv
   obtain ⟨k,hk,rfl⟩:=(K.dv y).mp hd;rw [K.n4 k hk,Uv k hk]
   by_cases kf:k<f
   ·rw [sx k (by omega),Ua k kf]
   ·have:k=f:=by omega
    subst this
    rw [Uo _ _ (mO k (by omega)) (by
     have:=ba (K.z k (by omega))
     have:=bG (G.hd _ this).1
     omega) (λj hj e=>by have:=K.inj k j (by omega) (by omega) e;omega),vE k (by omega),sf,QS]
  ·by_cases yv:y=w.length
   ·subst yv
    rcases (K.dx x xv _).mp hd with h| ⟨_,k,hk,rfl⟩
    ·exact absurd (g.rng _ _ h) (fW _)
    ·cases k with
     |zero=>
      rw [K.n3e,Ux 0 hk,Uv f (br _),sf]
     |succ k=>
      rw [K.n3 k (by omega),Ux (k+1) hk,Uv k (by omega)]
   ·have d0:aK w (x,y):=by
     rcases (K.dx x xv y).mp hd with h| ⟨h,_⟩
     ·exact h
     ·exact absurd h yv
    by_cases ad:bR R x y
    ·obtain ⟨hx,rfl⟩:=ad
     obtain ⟨i,hi,rfl⟩:∃i,i<R.length∧x=R.getD i 0:=by
      obtain ⟨i,hi,e⟩:=fq.mp hx;exact ⟨i,hi,by rw [aJ,bq hi];exact e.symm⟩
     by_cases c1:i<f
     ·rw [sx i (by omega),K.n2 i c1,Ua i c1,Ux (i+1) (by omega)]
     ·have u1:U (R.getD i 0,af R (R.getD i 0))=o:=by
       rw [Uo _ _ xv yv (λj hj e=>by have:=K.inj i j (by omega) (by omega) e;omega),vE i hi]
      rw [u1]
      by_cases c2:i+1<R.length
      ·rw [sx i c2,K.n1o i (by omega) c2,Uo _ _ (mO _ c2) (by
        have:=ba (K.z (i+1) c2)
        have:=bG (G.hd _ this).1
        omega) (λj hj e=>by have:=K.inj (i+1) j (by omega) (by omega) e;omega),vE (i+1) c2]
      ·have:i=R.length-1:=by omega
       subst this;rw [se,K.n1e,Ux 0 (cn _)];exact (QS o).symm
    ·have e:=K.n1 x y d0 ad
     have tr:=(G.tri x y d0 ad).2;have dn:=e7 g d0
     have lo:∀p q,aK w (p,q)→¬bR R p q→U (p,q)=S (p,q):=λp q h1 h2=>by
      have a1:=bG (show q∈row w p from h1);have a2:=g.rng _ _ (show q∈row w p from h1);exact Uo p q (by omega) (by omega) λk hk e1 e2=>h2 ⟨by rw [e1];exact K.z k (by omega),by rw [e1,e2,sx k (by omega)]⟩
     rw [e,lo x y d0 ad,SF _ d0];exact (lo _ _ dn tr).symm
 ·by_cases xv:x=w.length
  ·subst xv
   obtain ⟨k,hk,rfl⟩:=(K.dv y).mp hd;rw [Uv k hk,Ux k hk];cases k with
   |zero=>
    rw [s0];show (o.xor _).xor (o.xor false)=_;cases o<;>cases c w.length (R.getD 0 0)<;>rfl
   |succ k=>
    rw [ss k];show (o.xor _).xor (o.xor (s k))=_;cases o<;>cases s k<;>cases c w.length (R.getD (k+1) 0)<;>rfl
  ·by_cases yv:y=w.length
   ·subst yv
    rcases (K.dx x xv _).mp hd with h| ⟨_,k,hk,rfl⟩
    ·exact absurd (g.rng _ _ h) (fW _)
    ·rw [Uv k hk,Ux k hk,sy]
     cases k with
     |zero=>
      rw [s0];show (o.xor false).xor (o.xor _)=_;cases o<;>cases c w.length (R.getD 0 0)<;>rfl
     |succ k=>
      rw [ss k];show (o.xor (s k)).xor (o.xor _)=_;cases o<;>cases s k<;>cases c w.length (R.getD (k+1) 0)<;>rfl
   ·have d0:aK w (x,y):=by
     rcases (K.dx x xv y).mp hd with h| ⟨h,_⟩
     ·exact h
     ·exact absurd h yv
    have sc:=SC x y d0
    by_cases a1:∃k,k<f∧x=R.getD k 0∧y=R.getD (k+1) 0
    ·obtain ⟨k,hk,rfl,rfl⟩:=a1
     have e1:S (R.getD k 0,R.getD (k+1) 0)=o:=by rw [←sx k (by omega)];exact vE k (by omega)
     have e2:de (R.getD k 0) (R.getD (k+1) 0)=s k:=by rw [K2 k hk];simp
     have e3:de (R.getD (k+1) 0) (R.getD k 0)=false:=decide_eq_false λ⟨j,hj,e,e',_⟩=>by
      have:=K.inj (k+1) j (by omega) (by omega) e
      have:=K.inj k (j+1) (by omega) (by omega) e'
      omega
     rw [Ua k hk,Uo _ _ (mO (k+1) (by omega)) (mO k (by omega)) (λj hj e e'=>by
      have:=K.inj (k+1) j (by omega) (by omega) e
      have:=K.inj k (j+1) (by omega) (by omega) e'
      omega)]
     rw [e1,e2,e3] at sc
     revert sc
     cases o<;>cases s k<;>cases S (R.getD (k+1) 0,R.getD k 0)<;>cases c (R.getD k 0) (R.getD (k+1) 0)<;>simp
    ·by_cases a2:∃k,k<f∧y=R.getD k 0∧x=R.getD (k+1) 0
     ·obtain ⟨k,hk,rfl,rfl⟩:=a2
      have e1:S (R.getD k 0,R.getD (k+1) 0)=o:=by rw [←sx k (by omega)];exact vE k (by omega)
      have e2:de (R.getD k 0) (R.getD (k+1) 0)=s k:=by rw [K2 k hk];simp
      have e3:de (R.getD (k+1) 0) (R.getD k 0)=false:=decide_eq_false λ⟨j,hj,e,e',_⟩=>by
       have:=K.inj (k+1) j (by omega) (by omega) e
       have:=K.inj k (j+1) (by omega) (by omega) e'
       omega
      rw [Ua k hk,Uo _ _ (mO (k+1) (by omega)) (mO k (by omega)) (λj hj e e'=>a1 ⟨j,hj,e,e'⟩)]
      rw [e1,e2,e3] at sc
      revert sc
      cases o<;>cases s k<;>cases S (R.getD (k+1) 0,R.getD k 0)<;>cases c (R.getD (k+1) 0) (R.getD k 0)<;>simp
     ·have e2:de x y=false:=decide_eq_false λ⟨j,hj,e,e',_⟩=>a1 ⟨j,hj,e,e'⟩
      have e3:de y x=false:=decide_eq_false λ⟨j,hj,e,e',_⟩=>a2 ⟨j,hj,e,e'⟩;rw [Uo x y xv yv (λj hj e e'=>a1 ⟨j,hj,e,e'⟩),Uo y x yv xv (λj hj e e'=>a2 ⟨j,hj,e,e'⟩),sc,e2,e3];simp
theorem y3(G:ck w R)(T:Step w w' R f):ck w' (bX R f w.length):=by
 have g:=G.g;have g':=oq G T;have fn:=T.fn;have f1:=T.f1;have K:=qZ G T;have F:=AJ G T;have len:=G.len;have mO:∀k,k<R.length→R.getD k 0≠w.length:=λk h=>by have:=K.zlt k h;omega
 have sx:∀i,i+1<R.length→af R (R.getD i 0)=R.getD (i+1) 0:=λi h=>aE G.nd h;have se:af R (R.getD (R.length-1) 0)=R.getD 0 0:=aZ G.nd (by omega)
 have JT:∀k,k<R.length→(row w (R.getD k 0)).length≠0:=λk hk z=>by
  have:=(G.hd _ (K.z k hk)).1
  rw [B6.mp z] at this;cases this
 have XO:(R.take (f+1)).reverse.length=f+1:=by rw [vW,b8];omega
 have e0:=dS fn (cn f);have ef:=dS fn (br f);rw [Nat.sub_zero] at e0;rw [kO] at ef;have m0:R.getD 0 0∈bX R f w.length:=(F.mem _).mpr (.inl rfl);have mv:w.length∈bX R f w.length:=(F.mem _).mpr (.inr (.inl rfl));have mi:∀i,f≤i→i<R.length→R.getD i 0∈bX R f w.length:=λi h1 h2=>(F.mem _).mpr (.inr (.inr ⟨i,h1,h2,rfl⟩));have BO:∀i,f<i→i<R.length→row w' (R.getD i 0)=row w (R.getD i 0):=λi h1 h2=>T.ro _ (mO i h2) λk hk e=>by have:=K.inj i k h2 (by omega) e;omega
 refine ⟨g',F.nd,by have:=F.len;omega,λx hx=>?_,λx hx=>?_,λx y hd n=>?_,Dr G T⟩
 ·rcases (F.mem x).mp hx with rfl|rfl| ⟨i,h1,h2,rfl⟩
  ·rw [F.s0,T.r0]
   exact ⟨b4 ..,rfl⟩
  ·rw [F.sv,T.rv]
   exact ⟨by rw [←ef];exact aw (by omega),ef⟩
  ·rw [F.si i h1 h2]
   have h:=G.hd _ (K.z i h2)
   by_cases c:i=f
   ·subst c
    rw [T.rk i f1 (br _)];refine ⟨fo _ h.1,?_⟩;rw [aJ,dP (by have:=JT i h2;omega),←aJ]
    exact h.2
   ·rw [BO i (by omega) h2];exact h
 ·rcases (F.mem x).mp hx with rfl|rfl| ⟨i,h1,h2,rfl⟩
  ·have h:=G.ls _ (K.z 0 (by omega))
   have el:(row w' (R.getD 0 0)).getD ((row w' (R.getD 0 0)).length-1) 0=R.getD (R.length-1) 0:=by
    have l0:=JT 0 (by omega)
    rw [T.r0,eU,show (row w (R.getD 0 0)).length+1-1=(row w (R.getD 0 0)).length-1+1 by omega,kK]
    exact cM G.nd h.1 (K.z _ (by omega)) (by rw [h.2,se])
   rw [el];exact ⟨mi _ (by omega) (by omega),by rw [F.si _ (by omega) (by omega),se]⟩
  ·rw [T.rv,XO,show f+1-1=f by omega,e0]
   exact ⟨m0,F.s0⟩
  ·by_cases c:i=f
   ·subst c
    have el:(row w' (R.getD i 0)).getD ((row w' (R.getD i 0)).length-1) 0=w.length:=by
     rw [T.rk i f1 (br _),cy,uA,Nat.add_sub_cancel,aJ,fG (br _),kO];rfl
    rw [el];exact ⟨mv,F.sv⟩
   ·obtain ⟨e,ne⟩:=G.tI (K.z i h2) (K.z (i-1) (by omega)) (by rw [sx (i-1) (by omega),show i-1+1=i by omega])
    rw [BO i (by omega) h2,e]
    refine ⟨mi _ (by omega) (by omega),?_⟩
    rw [F.si _ (by omega) (by omega),sx (i-1) (by omega),show i-1+1=i by omega]
 ·by_cases xv:x=w.length
  ·subst xv
   obtain ⟨k,hk,rfl⟩:=(K.dv y).mp hd
   have kf:k<f:=by
    apply Classical.byContradiction;intro c
    have:k=f:=by omega
    subst this;exact n ⟨mv,F.sv.symm⟩
   have e1:=K.n4 k hk;rw [sx k (by omega)] at e1
   rw [e1,K.n2 k kf,K.n3 k kf];refine ⟨rfl,λz=>?_⟩
   rcases F.bR z with ⟨_,h⟩ | ⟨h,_⟩ | ⟨i,h1,h2,h3,_⟩
   ·exact mO (k+1) (by omega) h
   ·exact mO k (by omega) h
   ·have:=K.inj k i (by omega) h2 h3;omega
  ·by_cases yv:y=w.length
   ·subst yv
    rcases (K.dx x xv _).mp hd with h| ⟨_,k,hk,rfl⟩
    ·exact absurd (g.rng _ _ h) (fW _)
    ·cases k with
     |zero=>exact absurd ⟨m0,F.s0.symm⟩ n
     |succ k=>
      have e4:=K.n4 k (by omega)
      rw [sx k (by omega)] at e4
      rw [K.n3 k (by omega),e4,K.n2 k (by omega)]
      refine ⟨rfl,λz=>?_⟩
      rcases F.bR z with ⟨h,_⟩ | ⟨_,h⟩ | ⟨i,h1,h2,h3,_⟩
      ·exact mO 0 (by omega) h.symm
      ·have:=K.inj k f (by omega) fn h;omega
      ·exact mO i h2 h3.symm
   ·have d0:aK w (x,y):=by
     rcases (K.dx x xv y).mp hd with h| ⟨h,_⟩
     ·exact h
     ·exact absurd h yv
    by_cases ad:bR R x y
    ·obtain ⟨hx,rfl⟩:=ad
     obtain ⟨i,hi,rfl⟩:∃i,i<R.length∧x=R.getD i 0:=by
      obtain ⟨i,hi,e⟩:=fq.mp hx;exact ⟨i,hi,by rw [aJ,bq hi];exact e.symm⟩
     have c1:i<f:=by
      apply Classical.byContradiction;intro c;exact n ⟨mi i (by omega) hi,(F.si i (by omega) hi).symm⟩
     have e4:=K.n4 i (by omega)
     rw [sx i (by omega)] at e4
     rw [sx i (by omega),K.n2 i c1,K.n3 i c1,e4]
     refine ⟨rfl,λz=>?_⟩
     rcases F.bR z with ⟨h,_⟩ | ⟨h,_⟩ | ⟨j,h1,h2,_,h4⟩
     ·have:=K.inj (i+1) 0 (by omega) (by omega) h;omega
     ·exact mO (i+1) (by omega) h
     ·have:=ba (K.z j h2)
      have:=bG (G.hd _ this).1
      have h4:w.length=af R (R.getD j 0):=h4;omega
    ·have step:∀p q,aK w (p,q)→¬bR R p q→aY w' (p,q)=aY w (p,q):=λp q h1 h2=>K.n1 p q h1 h2
     have t1:=G.tri x y d0 ad;have d1:=e7 g d0;have t2:=G.tri _ _ d1 t1.2;have d2:=e7 g d1;have e1:=step x y d0 ad;have e2:aY w' (aY w (x,y))=aY w (aY w (x,y)):=step _ _ d1 t1.2;have e3:aY w' (aY w (aY w (x,y)))=aY w (aY w (aY w (x,y))):=step _ _ d2 t2.2;rw [e1,e2,e3];refine ⟨t1.1,λz=>?_⟩;have b1:=bG (show (aY w (x,y)).2∈row w (aY w (x,y)).1 from d1);have b2:=g.rng _ _ (show (aY w (x,y)).2∈row w (aY w (x,y)).1 from d1)
     rcases F.bR z with ⟨_,h⟩ | ⟨h,_⟩ | ⟨i,h1,h2,h3,h4⟩
     ·omega
     ·omega
     ·exact t1.2 ⟨by rw [h3];exact K.z i h2,by rw [h4,←h3]⟩
theorem wI:ck [[1,2],[2,0],[0,1]] [0,1,2]:=by
 have BN:row [[1,2],[2,0],[0,1]] 0= [1,2]:=rfl;have J5:row [[1,2],[2,0],[0,1]] 1= [2,0]:=rfl;have Rm:row [[1,2],[2,0],[0,1]] 2= [0,1]:=rfl;have BO:∀x,3≤x→row [[1,2],[2,0],[0,1]] x= []:=λx h=>yR h;have c3:∀x,x<3→x=0∨x=1∨x=2:=λx h=>by omega
 have rl:∀{x y},y∈row [[1,2],[2,0],[0,1]] x→x<3:=λh=>bG h;have dec:∀x,x<3→∀y,y<3→(y∈row [[1,2],[2,0],[0,1]] x↔x≠y):=by decide
 have inR:∀{x y},y∈row [[1,2],[2,0],[0,1]] x→y<3:=λ {x y} h=>by
  rcases c3 x (rl h) with rfl|rfl|rfl
  ·rw [BN] at h;simp at h;omega
  ·rw [J5] at h;simp at h;omega
  ·rw [Rm] at h;simp at h;omega
 have g:Good [[1,2],[2,0],[0,1]]:=by
  refine ⟨λp q h=>inR h,λp h=>?_,λp=>?_,λp q h=>?_,λp hp=>?_⟩
  ·exact ((dec p (rl h) p (rl h)).mp h) rfl
  ·by_cases c:p<3
   ·rcases c3 p c with rfl|rfl|rfl<;>decide
   ·rw [BO p (by omega)];exact kN
  ·have a:=rl h
   have b:=inR h;exact (dec q b p a).mpr (Ne.symm ((dec p a q b).mp h))
  ·rcases c3 p hp with rfl|rfl|rfl
   ·exact .refl _
   ·exact .step (.refl _) (by rw [BN];simp)
   ·exact .step (.refl _) (by rw [BN];simp)
 have wB:∀x y,aK [[1,2],[2,0],[0,1]] (x,y)→(x,y)∈ [(0,1),(1,2),(2,0),(1,0),(0,2),(2,1)]:=λx y h=>by
  have a:=rl h;have b:=inR h;have n:=(dec x a y b).mp h
  rcases c3 x a with rfl|rfl|rfl<;>rcases c3 y b with rfl|rfl|rfl<;>first|exact absurd rfl n|decide
 have sc:af [0,1,2] 0=1∧af [0,1,2] 1=2∧af [0,1,2] 2=0:=by decide
 refine ⟨g,by decide,by decide,by decide,by decide,λx y hd n=>?_,?_⟩
 ·have hm:=wB x y hd
  simp only [b9,Prod.mk.injEq,uE,or_false] at hm
  rcases hm with ⟨rfl,rfl⟩ | ⟨rfl,rfl⟩ | ⟨rfl,rfl⟩ | ⟨rfl,rfl⟩ | ⟨rfl,rfl⟩ | ⟨rfl,rfl⟩
  ·exact absurd ⟨by simp,sc.1.symm⟩ n
  ·exact absurd ⟨by simp,sc.2.1.symm⟩ n
  ·exact absurd ⟨by simp,sc.2.2.symm⟩ n
  ·exact ⟨by decide,λz=>by have h:=z.2;revert h;decide⟩
  ·exact ⟨by decide,λz=>by have h:=z.2;revert h;decide⟩
  ·exact ⟨by decide,λz=>by have h:=z.2;revert h;decide⟩
 ·intro c sy ev
  have h0:=ev 0 (by decide)
  have h1:=ev 1 (by decide)
  rw [BN] at h0;rw [J5] at h1;simp only [par,ux] at h0 h1;refine ⟨λd=>decide (d=(1,0)∨d=(0,2)∨d=(2,1))&&c 0 1,λd hd=>?_,λx y hd=>?_⟩
  ·obtain ⟨x,y⟩:=d
   have hm:=wB x y hd;simp only [b9,Prod.mk.injEq,uE,or_false] at hm
   rcases hm with ⟨rfl,rfl⟩ | ⟨rfl,rfl⟩ | ⟨rfl,rfl⟩ | ⟨rfl,rfl⟩ | ⟨rfl,rfl⟩ | ⟨rfl,rfl⟩<;>(refine congrArg (·&&c 0 1) ?_;decide)
  ·have hm:=wB x y hd
   simp only [b9,Prod.mk.injEq,uE,or_false] at hm;have e1:c 0 2=c 0 1:=by revert h0;cases c 0 1<;>cases c 0 2<;>simp
   have e2:c 1 2=c 0 1:=by
    rw [sy 1 0] at h1
    revert h1;cases c 0 1<;>cases c 1 2<;>simp
   rcases hm with ⟨rfl,rfl⟩ | ⟨rfl,rfl⟩ | ⟨rfl,rfl⟩ | ⟨rfl,rfl⟩ | ⟨rfl,rfl⟩ | ⟨rfl,rfl⟩
   ·simp
   ·simp [e2]
   ·rw [sy 2 0,e1];simp
   ·rw [sy 1 0];simp
   ·simp [e1]
   ·rw [sy 2 1,e2];simp
end
structure jY (w w':W) (f:Nat→Nat):Prop where
 len:w'.length=w.length
 lt:∀x,x<w.length→f x<w.length
 inj:∀x y,x<w.length→y<w.length→f x=f y→x=y
 onto:∀y,y<w.length→∃x,x<w.length∧f x=y
 rows:∀x,x<w.length→∃a b,row w x=a++b∧row w' (f x)=(b++a).map f
theorem tG{f:Nat→Nat}{x:Nat}:∀{l:List Nat},(∀y∈l,f y=f x→y=x)→(l.map f).idxOf (f x)=l.idxOf x
 | [],_=>rfl
 |a::l,h=>by
  rw [iK,wa,wa,tG λy hy=>h y (cv _ hy)]
  by_cases c:a=x
  ·subst c;simp
  ·have:f a≠f x:=λz=>c (h a (b4 ..) z)
   have e1:(f a==f x)=false:=by simpa using this
   have e2:(a==x)=false:=by simpa using c
   rw [e1,e2]
theorem ot{f:Nat→Nat}{l:List Nat}{x:Nat}(h:∀y∈l,f y=f x→y=x)(hx:x∈l):af (l.map f) (f x)=f (af l x):=by
 have e:=ko hx;show (l.map f).getD (((l.map f).idxOf (f x)+1)%(l.map f).length) 0=_;rw [tG h,List.length_map,aJ,eC,e];rfl
section
variable {w w':W} {f:Nat→Nat}
theorem jY.good(N:jY w w' f)(g:Good w):Good w':=
 good_ren g N.len N.lt N.inj N.onto λp hp=>by
  obtain ⟨a,b,e1,e2⟩:=N.rows p hp;rw [e1,e2];exact (List.perm_append_comm (l₁:=b) (l₂:=a)).map f
theorem jY.mem(N:jY w w' f){x z:Nat}(hx:x<w.length):z∈row w' (f x)↔∃y,y∈row w x∧f y=z:=by
 obtain ⟨a,b,e1,e2⟩:=N.rows x hx;rw [e2,bx]
 constructor
 ·rintro ⟨y,hy,rfl⟩
  exact ⟨y,by rw [e1];exact List.perm_append_comm.mem_iff.mp hy,rfl⟩
 ·rintro ⟨y,hy,rfl⟩
  rw [e1] at hy;exact ⟨y,List.perm_append_comm.mem_iff.mp hy,rfl⟩
theorem jY.dart(N:jY w w' f)(g:Good w){x y:Nat}(hx:x<w.length)(hy:y<w.length):aK w' (f x,f y)↔aK w (x,y):=by
 show f y∈row w' (f x)↔y∈row w x;rw [N.mem hx]
 constructor
 ·rintro ⟨z,hz,e⟩
  have:=N.inj z y (g.rng _ _ hz) hy e
  rw [←this];exact hz
 ·exact λh=>⟨y,h,rfl⟩
theorem jY.all(N:jY w w' f)(g:Good w){d:Nat×Nat}(h:aK w' d):∃x y,aK w (x,y)∧d=(f x,f y):=by
 obtain ⟨a,b⟩:=d;have ha:=bG (show b∈row w' a from h);rw [N.len] at ha;obtain ⟨x,hx,rfl⟩:=N.onto a ha;obtain ⟨y,hy,e⟩:=(N.mem hx).mp h;have e:f y=b:=e;exact ⟨x,y,hy,by rw [e]⟩
theorem jY.succ(N:jY w w' f)(g:Good w){x y:Nat}(h:y∈row w x):af (row w' (f x)) (f y)=f (af (row w x) y):=by
 obtain ⟨a,b,e1,e2⟩:=N.rows x (bG h);have hm:y∈a++b:=e1▸h;have yf:y∈b++a:=List.perm_append_comm.mem_iff.mp hm;have nd:=g.nod x;rw [e1] at nd;rw [e2,e1,ot (λz hz e=>N.inj z y (g.rng x z (by rw [e1];exact List.perm_append_comm.mem_iff.mp hz)) (g.rng _ _ h) e) yf,fz nd hm]
theorem jY.FD(N:jY w w' f)(g:Good w){x y:Nat}(h:aK w (x,y)):aY w' (f x,f y)=(f (aY w (x,y)).1,f (aY w (x,y)).2):=by
 show (f y,af (row w' (f y)) (f x))=(f y,f (af (row w y) x));rw [N.succ g (g.sym _ _ h)]
theorem jY.Et(N:jY w w' f)(g:Good w){R:List Nat}{A:Nat×Nat→Prop}(D:Disc w R A):
  Disc w' (R.map f) λd=>∃x y,A (x,y)∧d=(f x,f y):=by
 have kR:∀{x y},aK w (x,y)→x<w.length∧y<w.length:=λh=>⟨bG h,g.rng _ _ h⟩;have Am:∀p∈R,p<w.length:=λp hp=>(kR (D.ring p hp).1).2;have inj:∀p∈R,∀y∈R,f y=f p→y=p:=λp hp y hy e=>N.inj y p (Am y hy) (Am p hp) e
 have vk:∀{x y},aK w (x,y)→((∃x' y',A (x',y')∧(f x,f y)=(f x',f y'))↔A (x,y)):=λ {x y} h=>by
  constructor
  ·rintro ⟨x',y',a,e⟩
   have h':=kR (D.dart _ a);have e1:=N.inj x x' (kR h).1 h'.1 (congrArg Prod.fst e);have e2:=N.inj y y' (kR h).2 h'.2 (congrArg Prod.snd e);rw [e1,e2];exact a
  ·exact λa=>⟨x,y,a,rfl⟩
 have sR:∀p∈R,af (R.map f) (f p)=f (af R p):=λp hp=>ot (inj p hp) hp;have nx:∀{x y},aK w (x,y)→aK w ((aY w (x,y)).1,(aY w (x,y)).2):=λh=>e7 g h;refine ⟨?_,by rw [List.length_map];exact D.len,?_,?_,?_,?_,?_⟩
 ·unfold List.Nodup
  rw [jb];exact List.Pairwise.imp_of_mem (λ {a b} ha hb ne e=>ne (inj b hb a ha e)) D.nd
 ·rintro d ⟨x,y,a,rfl⟩
  have h:=D.dart _ a;exact (N.dart g (kR h).1 (kR h).2).mpr h
 ·intro d hd
  obtain ⟨x,y,h,rfl⟩:=N.all g hd;rw [N.FD g h,vk h,vk (nx h)];exact D.face _ h
 ·rintro d ⟨x,y,a,rfl⟩
  have h:=D.dart _ a;rw [N.FD g h,N.FD g (nx h),N.FD g (nx (nx h))];have e:=D.tri _ a;show (f (aY w (aY w (aY w (x,y)))).1,f (aY w (aY w (aY w (x,y)))).2)=_;rw [e]
 ·intro p' kQ
  obtain ⟨p,hp,rfl⟩:=bx.mp kQ;rw [sR p hp];have r:=D.ring p hp;have h:=kR r.1;refine ⟨(N.dart g h.1 h.2).mpr r.1,(vk r.1).mpr r.2.1,λz=>r.2.2 ((vk (g.sym _ _ r.1)).mp z)⟩
 ·intro p' q' hd n1 n2
  obtain ⟨p,q,h,e⟩:=N.all g hd;obtain ⟨rfl,rfl⟩:=Prod.mk.injEq .. ▸e;rw [vk h,vk (g.sym _ _ h)];refine D.sym p q h (λz=>n1 ⟨bx.mpr ⟨p,z.1,rfl⟩,by rw [sR p z.1,←z.2]⟩) (λz=>n2 ⟨bx.mpr ⟨q,z.1,rfl⟩,by rw [sR q z.1,←z.2]⟩)
theorem pD{α β:Type}(c:β→Bool)(f:α→β):∀l:List α,par c (l.map f)=par (λx=>c (f x)) l
 | []=>rfl
 |x::l=>by rw [iK,par,par,pD c f l]
open Classical in
theorem jY.bnd(N:jY w w' f)(g:Good w)(B:iL w):iL w':=by
 intro c sy ev;have kR:∀{x y},aK w (x,y)→x<w.length∧y<w.length:=λh=>⟨bG h,g.rng _ _ h⟩
 obtain ⟨S,h1,h2⟩:=B (λx y=>c (f x) (f y)) (λx y=>sy _ _) (λp hp=>by
  obtain ⟨a,b,e1,e2⟩:=N.rows p hp
  have:=ev (f p) (by rw [N.len];exact N.lt p hp)
  rw [e2,pD,jH] at this;rw [e1,jH,Bool.xor_comm];exact this)
 have val:∀{x y},aK w (x,y)→decide (∃x' y',aK w (x',y')∧S (x',y')=true∧(f x,f y)=(f x',f y'))=S (x,y):=λ {x y} h=>by
  by_cases s:S (x,y)=true
  ·rw [s]
   exact decide_eq_true ⟨x,y,h,s,rfl⟩
  ·rw [Bool.not_eq_true] at s
   rw [s];refine decide_eq_false ?_;rintro ⟨x',y',h',s',e⟩;have e1:=N.inj x x' (kR h).1 (kR h').1 (congrArg Prod.fst e);have e2:=N.inj y y' (kR h).2 (kR h').2 (congrArg Prod.snd e);rw [e1,e2,s'] at s;exact absurd s (by decide)
 have nx:∀{x y},aK w (x,y)→aK w ((aY w (x,y)).1,(aY w (x,y)).2):=λh=>e7 g h;refine ⟨λd=>decide (∃x' y',aK w (x',y')∧S (x',y')=true∧d=(f x',f y')),λd hd=>?_,λa b hd=>?_⟩
 ·obtain ⟨x,y,h,rfl⟩:=N.all g hd
  rw [N.FD g h];show decide _=decide _;rw [val h,val (nx h)];exact h1 _ h
 ·obtain ⟨x,y,h,e⟩:=N.all g hd
  obtain ⟨rfl,rfl⟩:=Prod.mk.injEq .. ▸e;show (decide _).xor (decide _)=_;rw [val h,val (g.sym _ _ h)];exact h2 _ _ h
end
theorem ck.three{w:W}{R:List Nat}(G:ck w R)(l3:R.length=3){d:Nat×Nat}(hd:aK w d):aY w (aY w (aY w d))=d:=by
 by_cases c:bR R d.1 d.2
 ·have e1:aY w d=(d.2,af R d.2):=G.outer c
  have m2:d.2∈R:=by rw [c.2];exact ba c.1
  have e2:=G.outer (x:=d.2) (y:=af R d.2) ⟨m2,rfl⟩;have m3:=ba m2;have e3:=G.outer (x:=af R d.2) (y:=af R (af R d.2)) ⟨m3,rfl⟩;rw [e1,e2,e3,c.2]
  have key:∀x∈R,af R (af R (af R x))=x:=λx hx=>by
   match R,l3,G.nd,hx with
   | [a,b,e],_,nd,hx=>
    simp only [gf,b9,uE,or_false,not_or] at nd;have s1:af [a,b,e] a=b:=bT (a:= []) (b:= [e]) (by simp [nd])
    have s2:af [a,b,e] b=e:=bT (a:= [a]) (b:= []) (by simp [nd])
    have s3:af [a,b,e] e=a:=cI (b:= [b]) (by simp [nd])
    simp only [b9,uE,or_false] at hx
    rcases hx with rfl|rfl|rfl
    ·rw [s1,s2,s3]
    ·rw [s2,s3,s1]
    ·rw [s3,s1,s2]
  rw [key _ c.1];exact Prod.ext rfl c.2.symm
 ·exact (G.tri d.1 d.2 hd c).1
theorem Ag{w:W}(g:Good w)(tri:∀d,aK w d→aY w (aY w (aY w d))=d){a b:Nat}(hd:aK w (a,b)):
  Disc w [a,b,af (row w b) a] λd=>aK w d∧d≠(a,b)∧d≠(b,af (row w b) a)∧d≠(af (row w b) a,a):=by
 have e1:aY w (a,b)=(b,af (row w b) a):=rfl;have d2:aK w (b,af (row w b) a):=e1▸e7 g hd;generalize hc:af (row w b) a=c at*;have e3:=tri _ hd;rw [e1] at e3;have Ub:aY w (b,c)=(c,af (row w c) b):=rfl
 have e2:aY w (b,c)=(c,a):=by
  rw [Ub] at e3 ⊢
  have:=congrArg Prod.fst e3
  exact congrArg _ this
 have d3:aK w (c,a):=e2▸e7 g d2;have rA:aY w (c,a)=(a,b):=by rw [e2] at e3;exact e3
 have HZ:a≠b:=λz=>g.irr a (by have:b∈row w a:=hd;rw [←z] at this;exact this)
 have H0:b≠c:=λz=>g.irr b (by have:c∈row w b:=d2;rw [←z] at this;exact this)
 have Ia:c≠a:=λz=>g.irr c (by have:a∈row w c:=d3;rw [←z] at this;exact this)
 have nd: [a,b,c].Nodup:=by simp [HZ,H0,Ne.symm Ia]
 have s1:af [a,b,c] a=b:=bT (a:= []) (b:= [c]) nd;have s2:af [a,b,c] b=c:=bT (a:= [a]) (b:= []) nd;have s3:af [a,b,c] c=a:=cI (b:= [b]) nd
 have step:∀d,aK w d→((d≠(a,b)∧d≠(b,c)∧d≠(c,a))↔(aY w d≠(a,b)∧aY w d≠(b,c)∧aY w d≠(c,a))):=λd h=>by
  have i1:aY w d=(a,b)↔d=(c,a):=⟨λz=>jF g h d3 (z.trans rA.symm),λz=>by rw [z,rA]⟩
  have i2:aY w d=(b,c)↔d=(a,b):=⟨λz=>jF g h hd (z.trans e1.symm),λz=>by rw [z,e1]⟩
  have i3:aY w d=(c,a)↔d=(b,c):=⟨λz=>jF g h d2 (z.trans e2.symm),λz=>by rw [z,e2]⟩
  rw [Ne,Ne,Ne,Ne,Ne,Ne,i1,i2,i3];exact ⟨λh=>⟨h.2.2,h.1,h.2.1⟩,λh=>⟨h.2.1,h.2.2,h.1⟩⟩
 refine ⟨nd,by simp,λd h=>h.1,λd h=>?_,λd h=>tri d h.1,λp hp=>?_,λp q h n1 n2=>?_⟩
 ·exact ⟨λz=>⟨e7 g h,(step d h).mp z.2⟩,λz=>⟨h,(step d h).mpr z.2⟩⟩
 ·simp only [b9,uE,or_false] at hp
  rcases hp with rfl|rfl|rfl
  ·rw [s1]
   exact ⟨g.sym _ _ hd,⟨g.sym _ _ hd,λz=>HZ (congrArg Prod.snd z),λz=>Ia (congrArg Prod.snd z).symm,λz=>H0 (congrArg Prod.fst z)⟩,λz=>z.2.1 rfl⟩
  ·rw [s2]
   exact ⟨g.sym _ _ d2,⟨g.sym _ _ d2,λz=>Ia (congrArg Prod.fst z),λz=>H0 (congrArg Prod.snd z),λz=>HZ (congrArg Prod.snd z).symm⟩,λz=>z.2.2.1 rfl⟩
  ·rw [s3]
   exact ⟨g.sym _ _ d3,⟨g.sym _ _ d3,λz=>H0 (congrArg Prod.snd z).symm,λz=>HZ (congrArg Prod.fst z),λz=>Ia (congrArg Prod.snd z)⟩,λz=>z.2.2.2 rfl⟩
 ·have key:∀p q,aK w (p,q)→¬(q∈ [a,b,c]∧p=af [a,b,c] q)→(q,p)≠(a,b)∧(q,p)≠(b,c)∧(q,p)≠(c,a):=λp q h n=>by
   refine ⟨λz=>n ?_,λz=>n ?_,λz=>n ?_⟩
   ·have z1:q=a:=congrArg Prod.fst z
    have z2:p=b:=congrArg Prod.snd z;rw [z1,z2,s1];exact ⟨by simp,rfl⟩
   ·have z1:q=b:=congrArg Prod.fst z
    have z2:p=c:=congrArg Prod.snd z;rw [z1,z2,s2];exact ⟨by simp,rfl⟩
   ·have z1:q=c:=congrArg Prod.fst z
    have z2:p=a:=congrArg Prod.snd z;rw [z1,z2,s3];exact ⟨by simp,rfl⟩
  exact ⟨λ_=>⟨g.sym _ _ h,key p q h n2⟩,λ_=>⟨h,key q p (g.sym _ _ h) n1⟩⟩
def bB(R:List Nat)(i:Nat):Nat:=if i=0 then R.length-1 else i-1
def withinL(w:W)(R:List Nat)(i:Nat):List Nat:=
 ((row w (R.getD i 0)).drop ((row w (R.getD i 0)).idxOf (R.getD ((i+1)%R.length) 0)+1)++(row w (R.getD i 0)).take ((row w (R.getD i 0)).idxOf (R.getD ((i+1)%R.length) 0))).take
   (((row w (R.getD i 0)).drop ((row w (R.getD i 0)).idxOf (R.getD ((i+1)%R.length) 0)+1)++(row w (R.getD i 0)).take ((row w (R.getD i 0)).idxOf (R.getD ((i+1)%R.length) 0))).idxOf (R.getD (bB R i) 0))
theorem h8{R:List Nat}{i:Nat}(nd:R.Nodup)(h:i<R.length):af R (R.getD i 0)=R.getD ((i+1)%R.length) 0:=by
 by_cases c:i+1<R.length
 ·rw [aE nd c,eV c]
 ·rw [aZ nd (by omega),show i+1=R.length by omega,oH]
theorem fF{R:List Nat}{i:Nat}(nd:R.Nodup)(h:i<R.length):af R (R.getD (bB R i) 0)=R.getD i 0:=by
 unfold bB
 split
 ·next e=>subst e;rw [aZ nd (by omega)]
 ·next e=>rw [aE nd (by omega),show i-1+1=i by omega]
theorem dQ{R:List Nat}{i:Nat}(h:i<R.length):bB R i<R.length:=by unfold bB;split<;>omega
theorem kj{l:List Nat}{a:Nat}(h:a∈l):bY l a=a::(l.drop (l.idxOf a+1)++l.take (l.idxOf a)):=by
 unfold bY;have hl:=eu.mpr h;rw [vQ hl,fH hl,List.cons_append]
theorem take_range{T:List Nat}{a n:Nat}(h:n≤T.length):T.take n=(List.range n).map λk=>(a::T).getD (k+1) 0:=by
 refine List.ext_getElem (by simp [Nat.min_eq_left h]) λk h1 h2=>?_
 rw [v8,uv,xt];rw [List.length_map,gd] at h2;show _=(a::T).getD (k+1) 0;rw [kK,aJ,bq (by omega)]
 rfl
section
variable {w:W} {R:List Nat} {A:Nat×Nat→Prop}
theorem i8(g:Good w)(D:Disc w R A){i:Nat}(hi:i<R.length):
  ∃m y,Whole w R (R.getD i 0) m (row w (R.getD i 0)).length y∧y 0=R.getD ((i+1)%R.length) 0∧y m=R.getD (bB R i) 0∧
   withinL w R i=(List.range (m-1)).map λk=>y (k+1):=by
 have hv:=aw hi;have hb:=aw (dQ hi);have eb:=fF D.nd hi;have F:=mF g D hv hb eb;have am:af R (R.getD i 0)∈row w (R.getD i 0):=g.sym _ _ (D.ring _ hv).1;have pos:=F.at_.fan.pos
 have ym:(bY (row w (R.getD i 0)) (af R (R.getD i 0))).getD ((bY (row w (R.getD i 0)) (af R (R.getD i 0))).idxOf (R.getD (bB R i) 0)) 0=R.getD (bB R i) 0:=by
  have bm:R.getD (bB R i) 0∈row w (R.getD i 0):=by
   have:=(D.ring _ hb).1
   rw [eb] at this;exact this
  have bl:=eu.mpr ((iA (row w (R.getD i 0)) (af R (R.getD i 0))).mem_iff.mpr bm);rw [aJ,bq bl,fH bl];rfl
 refine ⟨_,_,F,by rw [←h8 D.nd hi];exact ue am,ym,?_⟩
 unfold withinL;rw [←h8 D.nd hi];have b0:=F.lt;have hlen:=mz (row w (R.getD i 0)) (af R (R.getD i 0));rw [kj am] at pos b0 hlen ⊢;generalize hT:(row w (R.getD i 0)).drop ((row w (R.getD i 0)).idxOf (af R (R.getD i 0))+1)++(row w (R.getD i 0)).take ((row w (R.getD i 0)).idxOf (af R (R.getD i 0)))=T at*
 have ne:(af R (R.getD i 0)==R.getD (bB R i) 0)=false:=by
  rw [wa] at pos;cases c:(af R (R.getD i 0)==R.getD (bB R i) 0)
  ·rfl
  ·rw [c] at pos;simp at pos
 rw [wa,ne] at b0 ⊢;simp only [cond_false] at b0 ⊢;rw [eU] at hlen;rw [Nat.add_sub_cancel];exact take_range (by omega)
theorem fD{m:Nat}{y:Nat→Nat}{z:Nat}:z∈(List.range (m-1)).map (λk=>y (k+1))↔∃k,0<k∧k<m∧y k=z:=by
 rw [bx]
 constructor
 ·rintro ⟨k,hk,rfl⟩
  rw [cg] at hk;exact ⟨k+1,by omega,by omega,rfl⟩
 ·rintro ⟨k,h1,h2,rfl⟩
  exact ⟨k-1,cg.mpr (by omega),by rw [show k-1+1=k by omega]⟩
theorem bV(g:Good w)(D:Disc w R A){i:Nat}(hi:i<R.length){z:Nat}:z∈withinL w R i↔A (R.getD i 0,z)∧z≠R.getD (bB R i) 0:=by
 obtain ⟨m,y,F,e0,em,ew⟩:=i8 g D hi;rw [ew,fD];have hl:=F.lt
 constructor
 ·rintro ⟨k,h1,h2,rfl⟩
  have:=(F.at_.yi g D (k-1) (by omega)).2
  rw [show k-1+1=k by omega] at this
  refine ⟨this,λe=>?_⟩
  have:=F.inj k m (by omega) (by omega) (by rw [em];exact e)
  omega
 ·rintro ⟨a,ne⟩
  obtain ⟨k,h1,h2,e⟩:=F.between g D a;refine ⟨k,h1,?_,e⟩
  by_cases c:k=m
  ·subst c;exact absurd (e.symm.trans em) ne
  ·omega
theorem ku(g:Good w)(D:Disc w R A){i:Nat}(hi:i<R.length):R.getD ((i+1)%R.length) 0∉withinL w R i:=by
 rw [bV g D hi];rintro ⟨a,_⟩;rw [←h8 D.nd hi] at a;exact (D.ring _ (aw hi)).2.2 a
theorem dD(g:Good w)(D:Disc w R A){i j:Nat}(hi:i<R.length)(hj:j<R.length)(h:R.getD j 0∈withinL w R i):R.getD i 0∈withinL w R j:=by
 have h':=(bV g D hi).mp h;have n1:=ku g D hi;have hd:=D.dart _ h'.1;have c1:¬(R.getD i 0∈R∧R.getD j 0=af R (R.getD i 0)):=λz=>n1 (by rw [←h8 D.nd hi,←z.2];exact h)
 have c2:¬(R.getD j 0∈R∧R.getD i 0=af R (R.getD j 0)):=λz=>h'.2 (cM D.nd z.1 (aw (dQ hi)) (by rw [←z.2,fF D.nd hi]))
 refine (bV g D hj).mpr ⟨(D.sym _ _ hd c1 c2).mp h'.1,λe=>c1 ⟨aw hi,?_⟩⟩;rw [e,fF D.nd hj]
open Classical in
noncomputable def cnt(w:W)(A:Nat×Nat→Prop):Nat:=((aI w).filter λd=>decide (A d)).length
open Classical in
theorem mj{A A':Nat×Nat→Prop}(sub:∀d,A' d→A d){d:Nat×Nat}(hd:aK w d)(a:A d)(n:¬A' d):cnt w A'<cnt w A:=by
 unfold cnt
 have key:∀l:List (Nat×Nat),d∈l→(l.filter λd=>decide (A' d)).length<(l.filter λd=>decide (A d)).length:=λl=>by
  have le:∀l:List (Nat×Nat),(l.filter λd=>decide (A' d)).length≤(l.filter λd=>decide (A d)).length:=λl=>by
   induction l with
   |nil=>simp
   |cons x l ih=>
    rw [rj,rj]
    by_cases c:A' x
    ·rw [if_pos (decide_eq_true c),if_pos (decide_eq_true (sub x c))];simp;exact ih
    ·rw [if_neg (by simp [c])]
     split
     ·simp;omega
     ·exact ih
  induction l with
  |nil=>intro h;cases h
  |cons x l ih=>
   intro h;rw [rj,rj]
   by_cases e:x=d
   ·subst e
    rw [if_neg (by simp [n]),if_pos (decide_eq_true a)]
    have:=le l
    simp;omega
   ·have h:d∈l:=by
     rcases b9.mp h with z|z
     ·exact absurd z.symm e
     ·exact z
    have:=ih h
    by_cases c:A' x
    ·rw [if_pos (decide_eq_true c),if_pos (decide_eq_true (sub x c))];simp;exact this
    ·rw [if_neg (by simp [c])]
     split
     ·simp;omega
     ·exact this
 exact key _ (bI.mpr hd)
end
section
variable {w:W} {R:List Nat} {A:Nat×Nat→Prop}
theorem sh{R:List Nat}{i j:Nat}(rD:i<j)(hj:j<R.length):
  R=R.take i++R.getD i 0::((R.drop (i+1)).take (j-i-1)++R.getD j 0::R.drop (j+1)):=by
 have gi:R.getD i 0=R[i]'(by omega):=by rw [aJ,bq (by omega)];rfl
 have gj:R.getD j 0=R[j]:=by rw [aJ,bq hj];rfl
 have e1:R.getD j 0::R.drop (j+1)=(R.drop (i+1)).drop (j-i-1):=by
  rw [List.drop_drop,show i+1+(j-i-1)=j by omega,vQ hj,gj]
 rw [e1,jT,gi,←vQ (by omega),jT]
theorem EK{R:List Nat}{i j:Nat}(rD:i<j)(hj:j<R.length):(R.take (j+1)).drop i=R.getD i 0::((R.drop (i+1)).take (j-i-1)++ [R.getD j 0]):=by
 have gi:R.getD i 0=R[i]'(by omega):=by rw [aJ,bq (by omega)];rfl
 have gj:R.getD j 0=R[j]:=by rw [aJ,bq hj];rfl
 rw [List.drop_take,vQ (by omega:i<R.length),←gi,show j+1-i=(j-i-1)+1+1 by omega,List.take_succ_cons]
 congr 1
 rw [List.take_succ,uC,show i+1+(j-i-1)=j by omega,bq hj,gj]
 rfl
theorem EL{R:List Nat}{i j:Nat}(rD:i<j)(hj:j<R.length):R.drop j++R.take (i+1)=R.getD j 0::((R.drop (j+1)++R.take i)++ [R.getD i 0]):=by
 have gi:R.getD i 0=R[i]'(by omega):=by rw [aJ,bq (by omega)];rfl
 have gj:R.getD j 0=R[j]:=by rw [aJ,bq hj];rfl
 rw [vQ hj,List.take_succ,bq (by omega:i<R.length),←gi,←gj]
 simp
theorem iQ(g:Good w)(B:iL w)(D:Disc w R A){i j:Nat}(rD:i<j)(hj:j<R.length)(h:R.getD j 0∈withinL w R i):
  (∃A',Disc w ((R.take (j+1)).drop i) A'∧cnt w A'<cnt w A)∧∃A',Disc w (R.drop j++R.take (i+1)) A'∧cnt w A'<cnt w A:=by
 have hi:i<R.length:=by omega
 have hw:=(bV g D hi).mp h
 have hB:(R.drop (i+1)).take (j-i-1)≠ []:=by
  intro e;have e:=congrArg List.length e;simp only [b8,dE,iI] at e;have e:j=i+1:=by omega
  refine ku g D hi ?_;rw [eV (by omega),←e];exact h
 have hC:R.drop (j+1)++R.take i≠ []:=by
  intro e;have e:=congrArg List.length e;simp only [cy,b8,dE,iI] at e;refine hw.2 ?_;unfold bB;rw [if_pos (by omega),show j=R.length-1 by omega]
 rw [EK rD hj,EL rD hj];have s3:=sh rD hj;generalize hP:R.take i=P at*;generalize hp:R.getD i 0=p at*;generalize Ur:(R.drop (i+1)).take (j-i-1)=BB at*;generalize hq:R.getD j 0=q at*;generalize Us:R.drop (j+1)=CC at*;have D0:Disc w (P++p::(BB++q::CC)) A:=s3▸D
 have D1:Disc w (p::(BB++q::(CC++P))) A:=by
  have:=D0.ud
  simpa using this
 have qu:=D1.nd;have e1:p::(BB++q::(CC++P))=(p::BB)++ [q]++(CC++P):=by simp
 have Fy:(p::(BB++ [q])).Nodup:=by
  rw [e1] at qu
  have:=(fg.mp qu).1
  simpa using this
 have bl:1≤BB.length:=rd.mpr hB
 have tie:∀x∈p::(BB++ [q]),af (p::(BB++ [q])) x∈row w x:=λx hx=>by
  have hx:x∈p::BB∨x=q:=by simpa [or_assoc] using hx
  rcases hx with hx|rfl
  ·have:=kq (a:=p::BB) (z:=q) (b:=CC++P) (by rw [←e1];exact qu) hx
   rw [←e1] at this;rw [show p::(BB++ [q])=(p::BB)++ [q] by simp,←this]
   exact g.sym _ _ (D1.ring x (by rw [e1];exact fo _ (fo _ hx))).1
  ·rw [cI Fy]
   exact g.sym _ _ (D.dart _ hw.1)
 obtain ⟨S,bd⟩:=B.ring g Fy (by simp;omega) tie
 have main:∃S:Nat×Nat→Prop,Disc w (p::(BB++ [q])) (λd=>A d∧S d)∧Disc w (q::((CC++P)++ [p])) (λd=>A d∧¬S d):=by
  by_cases c:S (af (p::(BB++q::(CC++P))) p,p)
  ·exact ⟨S,parted g D1 rfl hB hC hw.1 bd c⟩
  ·exact ⟨λd=>¬S d,parted g D1 rfl hB hC hw.1 bd.neg c⟩
 obtain ⟨S,E1,E2⟩:=main;have r1:=(E1.ring p (b4 ..)).2.1;have r2:=(E2.ring q (b4 ..)).2.1;exact ⟨⟨_,E1,mj (λd z=>z.1) (D.dart _ r2.1) r2.1 λz=>r2.2 z.2⟩,⟨_,E2,mj (λd z=>z.1) (D.dart _ r1.1) r1.1 λz=>z.2 r1.2⟩⟩
theorem AI{m:Nat}{y:Nat→Nat}:((List.range m).map λk=>y (k+1)).reverse=(List.range m).map λi=>y (m-i):=by
 refine List.ext_getElem (by simp) λk h1 h2=>?_
 have hk:k<m:=by simpa using h2
 rw [List.getElem_reverse];simp only [List.length_map,gd,uv,xt,vW]
 congr 1
 omega
theorem tK(g:Good w)(D:Disc w R A)(no:∀i,i<R.length-1→R.getD (R.length-1) 0∉withinL w R i):
  (R.dropLast++(withinL w R (R.length-1)).reverse).length=2∨∃A',Disc w (R.dropLast++(withinL w R (R.length-1)).reverse) A'∧cnt w A'<cnt w A:=by
 have len:=D.len;have hl:R.length-1<R.length:=by omega
 obtain ⟨m,y,F,e0,em,ew⟩:=i8 g D hl;have pos:=F.at_.fan.pos;have b0:=F.lt;rw [show R.length-1+1=R.length by omega,oH] at e0
 have ep:bB R (R.length-1)=R.length-2:=by unfold bB;rw [if_neg (by omega)];omega
 rw [ep] at em;have sp:=sh (R:=R) (i:=R.length-2) (j:=R.length-1) (by omega) hl
 rw [show R.length-1-(R.length-2)-1=0 by omega,show R.length-1+1=R.length by omega,List.drop_length,List.take_zero,kM,←em] at sp
 have pl:(R.take (R.length-2)).length=R.length-2:=by rw [b8];omega
 have p0:(R.take (R.length-2)).getD 0 0=y 0:=by
  rw [e0,aJ,nk (by omega),←aJ]
 have eq:R.dropLast++(withinL w R (R.length-1)).reverse=cG (R.take (R.length-2)) m y:=by
  rw [ew,AI];unfold cG
  have e1:R.dropLast=R.take (R.length-2)++ [y m]:=by
   rw [List.dropLast_eq_take,show R.length-1=R.length-2+1 by omega,List.take_succ,bq (by omega),em,aJ,bq (by omega)]
   rfl
  rw [e1,uD]
  congr 1
  obtain ⟨m',rfl⟩:∃m',m=m'+1:=⟨m-1,by omega⟩
  rw [List.range_succ_eq_map,iK,fI];simp only [Nat.add_sub_cancel,List.singleton_append,Nat.sub_zero]
  congr 1
  refine vV λi _=>?_;show y (m'-i)=y (m'+1-(i+1))
  congr 1;omega
 rw [eq]
 by_cases c:3≤(R.take (R.length-2)).length+m
 ·refine .inr ⟨_,tQ g D F.at_ sp p0 (λe=>by rw [e] at pl;simp at pl;omega) (λk h1 h2 hR=>?_) c,?_⟩
  ·obtain ⟨i,hi,ei⟩:=fq.mp hR
   have Ez:R.getD i 0=y k:=by rw [←ei,aJ,bq hi];rfl
   have hm:y k∈withinL w R (R.length-1):=by rw [ew];exact fD.mpr ⟨k,h1,h2,rfl⟩
   rw [←Ez] at hm;have hs:=dD g D hl hi hm
   have ne:i≠R.length-1:=by
    intro z;refine F.at_.ne g (k:=k) (by omega) ?_
    rw [←Ez,z]
   exact no i (by omega) hs
  ·have a:=(F.at_.yi g D 0 (by omega)).1
   exact mj (λd z=>z.1) (D.dart _ a) a λz=>z.2 ⟨0,by omega, .inl rfl⟩
 ·refine .inl ?_
  rw [gv];omega
end
theorem pI{w:W}{i x:Nat}{r:List Nat}(h:i<w.length):row (w.set i r) x=if i=x then r else row w x:=by
 unfold row;rw [aJ,rg,aJ]
 by_cases e:i=x
 ·subst e;rw [if_pos rfl,if_pos h,if_pos rfl];rfl
 ·rw [if_neg e,if_neg e]
theorem uf{w:W}{x:Nat}{r:List Nat}:row (w++ [r]) x=if x=w.length then r else row w x:=by
 unfold row;rw [aJ,aJ]
 by_cases c:x<w.length
 ·rw [dP c,if_neg (by omega)]
 ·by_cases e:x=w.length
  ·subst e;rw [if_pos rfl];simp
  ·rw [if_neg e,i9 (by simp;omega),i9 (by omega)]
structure wb (w w':W) (R:List Nat) (f k:Nat):Prop where
 l:w'.length=w.length+1
 rv:row w' w.length=(R.take (f+1)).reverse
 r0:row w' (R.getD 0 0)=w.length::row w (R.getD 0 0)
 rk:∀i,1≤i→i≤k→row w' (R.getD i 0)=row w (R.getD i 0)++ [w.length]
 ro:∀x,x≠w.length→(∀i,i≤k→x≠R.getD i 0)→row w' x=row w x
theorem wb.start{w:W}{R:List Nat}{f:Nat}(h:R.getD 0 0<w.length):wb w ((w++ [(R.take (f+1)).reverse]).set (R.getD 0 0) (w.length::row w (R.getD 0 0))) R f 0:=by
 have hl:(w++ [(R.take (f+1)).reverse]).length=w.length+1:=by simp
 have rp:∀x,row ((w++ [(R.take (f+1)).reverse]).set (R.getD 0 0) (w.length::row w (R.getD 0 0))) x=_:=λx=>pI (x:=x) (by omega)
 refine ⟨by rw [kL];exact hl,?_,?_,λi h1 h2=>by omega,λx h1 h2=>?_⟩
 ·rw [rp,if_neg (by omega),uf,if_pos rfl]
 ·rw [rp,if_pos rfl]
 ·rw [rp,if_neg (λz=>h2 0 (br _) z.symm),uf,if_neg h1]
theorem wb.step{w w':W}{R:List Nat}{f k:Nat}(M:wb w w' R f k)(nd:R.Nodup)(hf:f<R.length)(hk:k+1≤f)(h:R.getD (k+1) 0<w.length):wb w (w'.set (R.getD (k+1) 0) (row w' (R.getD (k+1) 0)++ [w.length])) R f (k+1):=by
 have ne:∀i,i≤k→R.getD (k+1) 0≠R.getD i 0:=λi hi e=>by
  have:=getD_inj nd (by omega) (by omega) e;omega
 have rp:∀x,row (w'.set (R.getD (k+1) 0) (row w' (R.getD (k+1) 0)++ [w.length])) x=_:=λx=>pI (x:=x) (by rw [M.l];omega)
 refine ⟨by rw [kL];exact M.l,?_,?_,λi h1 h2=>?_,λx h1 h2=>?_⟩
 ·rw [rp,if_neg (by omega)];exact M.rv
 ·rw [rp,if_neg (ne 0 (by omega))];exact M.r0
 ·by_cases c:i=k+1
  ·subst c
   rw [rp,if_pos rfl,M.ro _ (by omega) (λi hi=>ne i hi)]
  ·rw [rp,if_neg (ne i (by omega))];exact M.rk i h1 (by omega)
 ·rw [rp,if_neg (λz=>h2 (k+1) (br _) z.symm)]
  exact M.ro x h1 λi hi=>h2 i (by omega)
theorem wb.fin{w w':W}{R:List Nat}{f:Nat}(M:wb w w' R f f)(f1:1≤f)(hf:f<R.length):Step w w' R f:=⟨M.l,f1,hf,M.rv,M.r0,M.rk,M.ro⟩
theorem ck.Mt{w:W}{R:List Nat}(G:ck w R){x:Nat}(h:x∈R):x<w.length:=bG (G.hd x h).1
theorem ck.qC{w:W}{R:List Nat}(G:ck w R):R.length≤w.length:=by
 have:=aX G.nd (m:=List.range w.length) λx hx=>cg.mpr (G.Mt hx)
 rw [gd] at this;exact this
end Wb
set_option maxHeartbeats 4000000
namespace PySem
namespace F
theorem Ar:typeLookup (.type "list_reverseiterator") "__len__"=pure none:=by rw [typeLookup_type,builtinLookup_eq_fast];kernel_rfl
theorem Cz:typeLookup (.type "list_reverseiterator") "__length_hint__"=pure (some (.builtin "list_reverseiterator.__length_hint__")):=by rw [typeLookup_type,builtinLookup_eq_fast];kernel_rfl
end F
section
variable {prog:Program} {w:World} {A:Around} {s:Shared} {R:Result→Shared→Prop}
variable {I:Addr} {fp wr:List Addr} {G:Array GenState→Array GenState→Prop} {n:Nat} {P:Nat→Value→Prop} {St:Nat→Shared→Prop}
theorem ya(W:WalksS prog w A.in1 I fp wr G n P St)(hT:∀i s,St i s→s.TypeIs (.ref I) "list_reverseiterator")(S:Addr)(res:Value)(c₀:Nat)(mN:St 0 s)(zU:S∉fp)(hI:I∈fp)
  (hS:s.heap.get? S=some {cls:= .type "list",data:= .seq #[] c₀})
  (hR:∀s' b5 c',Moved (S::wr) G s s'→s'.heap.get? S=some {cls:= .type "list",dict:=none,data:= .seq b5 c',slots:= #[]}→ItemsOf P b5 n→R (.ok (.ret res)) s') (hn:n≤sizeLine):
  wpAny (model prog w) A.in1 (Builtin.List.listExtendWith (.ref S) (.ref I) res)
   (λfin s'=>match fin with| .done f=>R (.ok f) s'| .again c'=>c'.quiet=true∧codeAny (model prog w) A c' R s') (λe s'=>R (.error e) s') s:=by
 have HA:S≠I:=λe=>zU (e▸hI);unfold Builtin.List.listExtendWith;refine wpAny_bind (wpAny_typeOf (hT 0 _ mN) ?_);have h1:Builtin.List.listSameRef (.ref S) (.ref I)=false:=by simp [Builtin.List.listSameRef,HA]
 have h2:(Value.type "list_reverseiterator"==Value.type "list")=false:=by decide
 have h3:(Value.type "list_reverseiterator"==Value.type "tuple")=false:=by decide
 simp only [h1,h2,h3,Bool.or_false,vY,if_false];refine wpAny_bind (W.self 0 _ _ _ mN ?_);refine wpAny_bind (wpAny_holding ?_);unfold Builtin.List.listLengthHint;refine wpAny_bind (wpAny_specialOf (hT 0 _ mN) F.Ar ?_);show wpAny _ A.in1 (specialOf (Value.ref I) (Str.ofString "__length_hint__")>>=_) _ _ _;refine wpAny_bind (wpAny_specialOf (hT 0 _ mN) F.Cz ?_);generalize Cw:("list_reverseiterator.__length_hint__":String)=HH
 wp_delta
 rw [show splitId HH=some ("list_reverseiterator","__length_hint__") from by subst Cw;decide+kernel]
 subst Cw;refine wpAny_bind (wpAny_isInstance (b:=true) (hT 0 _ mN) (by rw [isSubtype_type];kernel_rfl) ?_)
 refine wpAny_pure ?_;rw [if_neg (by decide)]
 exact wpAny_pure ⟨plainId_quiet F.plain_extend_loop _,codeAny_extend_loopS W hn _ zU _ n 0 _ _ _ rfl (cn _) mN hS (ItemsOf.nil P) hR⟩
theorem tO(W:WalksS prog w A.in1 I fp wr G n P St)(hT:∀i s,St i s→s.TypeIs (.ref I) "list_reverseiterator")(S:Addr)(mN:St 0 s)(zU:S∉fp)(hI:I∈fp)
  (hS:s.heap.get? S=some {cls:= .type "list",data:= .seq #[]})
  (hR:∀s' b5 c',Moved (S::wr) G s s'→s'.heap.get? S=some {cls:= .type "list",dict:=none,data:= .seq b5 c',slots:= #[]}→ItemsOf P b5 n→R (.ok (.ret .none)) s') (hn:n≤sizeLine):
  wpAny (model prog w) A.in1 (Builtin.«list.__init__» ⟨[.ref S, .ref I],[]⟩)
   (λfin s'=>match fin with| .done f=>R (.ok f) s'| .again c'=>c'.quiet=true∧codeAny (model prog w) A c' R s') (λe s'=>R (.error e) s') s:=by
 show wpAny _ A.in1 (do let old ←Builtin.List.listItems (.ref S);Builtin.List.listUpdate (.ref S) (λ_=> #[]);letGo old.toList.reverse;Builtin.List.listExtendWith (.ref S) (.ref I) .none) _ _ s
 refine wpAny_bind ?_;unfold Builtin.List.listItems;refine wpAny_bind (wpAny_seqItems hS rfl (wpAny_pure ?_));show wpAny _ A.in1 (updateSeq S (λ_=> #[])>>=λ_=>letGo (#[]:Array Value).toList.reverse>>=λ_=>Builtin.List.listExtendWith (.ref S) (.ref I) .none) _ _ s;refine wpAny_bind (wpAny_updateSeq hS rfl ?_);have wK:=Heap.get?_update_self (Obj.mapSeq (λ_=>(#[]:Array Value))) hS rfl
 have CW:∀b o,b≠S→s.heap.get? b=some o→(s.heap.update S (Obj.mapSeq (λ_=>(#[]:Array Value)))).get? b=some o:=
  λb o hb e=>(Heap.get?_update_other _ _ (Ne.symm hb)).trans e
 refine wpAny_bind (wpAny_letGo ?_);refine ya W hT S .none _ (W.frame 0 s _ s.toks mN (br _) λb hb o e=>CW b o (λh=>zU (h▸hb)) e) zU hI wK (λs' b5 c' hm wJ oY=>?_) hn;exact hR s' b5 c' (Moved.trans W.gtrans ((Moved.refl W.grefl).then_heap (br _) λb o hb e=>CW b o (λh=>hb (h▸b4)) e) hm) wJ oY
theorem sP{E:Value→Shared→Prop}{Q:Value→Shared→Prop}(W:WalksS prog w A.in1.in1 I fp wr G n P St)(hT:∀i s,St i s→s.TypeIs (.ref I) "list_reverseiterator")(mN:St 0 s)(HD:∀b∈fp,b<s.heap.objs.size)(hI:I∈fp)
  (hQ:∀s' b5 c',Moved (s.heap.objs.size::wr) G {s with heap:=s.heap.push {cls:= .type "list",data:= .seq #[]}} s'→
   s'.heap.get? s.heap.objs.size=some {cls:= .type "list",dict:=none,data:= .seq b5 c',slots:= #[]}→ItemsOf P b5 n→Q (.ref s.heap.objs.size) s') (hn:n≤sizeLine):
  wpAny (model prog w) A (call (.type "list") [.ref I]) Q E s:=by
 have zU:s.heap.objs.size∉fp:=λhm=>fW _ (HD _ hm)
 refine callType_codes (Q₁:=λobj s₁=>obj= .ref s.heap.objs.size∧s₁={s with heap:=s.heap.push {cls:= .type "list",data:= .seq #[]}}) F.called_list (F.typeCall_list_1 _) F.entry_list_init
  (code_list_new _ ⟨rfl,rfl⟩) λobj s₁ Px=>?_
 obtain ⟨rfl,rfl⟩:=Px;have hS:(s.heap.push {cls:= .type "list",data:= .seq #[]}).get? s.heap.objs.size=some {cls:= .type "list",data:= .seq #[]}:=Heap.get?_push_size _ rfl;refine ⟨⟨_,hS,rfl⟩,F.args_list_init_2 _ _,tO W hT _ (W.frame 0 s _ s.toks mN (br _) λb _ o e=>Heap.get?_push_of_some _ e) zU hI hS (λs' b5 c' hm wJ oY=>?_) hn⟩;exact ⟨rfl,hQ s' b5 c' hm wJ oY⟩
end
end PySem
namespace L2
open PySem PySem.Spec PyProof.Rows
section
variable {X:Cx} {Z:DC} {a b c e:Expr} {ta te:bh} {t:ib} {pos:Pos}
def Dt(K:PySem.W.Frag)(ta:TA):TE:=λσ H Q=>ta σ H λvs H1=>∃l xs,vs= [.ref l]∧cD K H1 l xs∧∀q,H1 q=none→Q (.ref q) (upd H1 q (.lst xs.reverse))
theorem yG{ta:TA}{p p2 m6:Pos}(hc:X.calm=true)(LD:Gl X "list")(EY:X.mg "list"=none)(LF:Gl X "reversed")(EZ:X.mg "reversed"=none)(ha:PA X [a] ta)
  (hs:starEach [.Call (.Name "reversed" p2) [a] [] m6] X.env=(false,eval (.Call (.Name "reversed" p2) [a] [] m6) X.env)::starEach [] X.env:=by rfl) (g5:(backTo pos (starEach [] X.env)).any (·.1)=false:=by rfl)
  (j5:starEach [a] X.env=(false,eval a X.env)::starEach [] X.env:=by rfl) (E6:(backTo m6 (starEach [] X.env)).any (·.1)=false:=by rfl):
  PE X (.Call (.Name "list" p) [.Call (.Name "reversed" p2) [a] [] m6] [] pos) (Dt X.K ta):=by
 intro pins s σ H Q I h;refine wpAny_Call_Name_kw (g7 I LD EY oI ?_);refine PyProof.Rows.callWith_type1 ?_ hs g5;rw [hs];show wpAny _ _ (spliced ((false,eval _ X.env)::backTo pos (starEach [] X.env))) _ _ s;refine Calls.spliced_cons ?_;refine wpAny_Call_Name_kw (g7 I LF EZ wk ?_);refine PyProof.Rows.callWith_type1 (thn (ha m6 pins s σ H _ I h) λus s1 ⟨vs,H1,I1,r1,q1⟩=>?_) j5 E6;obtain ⟨l,xs,e,hl,q⟩:=q1;subst e;obtain ⟨u,rfl,ru⟩:=r1.one;cases ru;obtain ⟨its,rv,p,hz⟩:=I1.list hl;have hlen:=rv.length;refine call_reversed_list p.isList ?_;refine Calls.spliced_nil ?_;have b0:l<s1.heap.objs.size:=by obtain ⟨o,ho,_⟩:=p.isList;exact Heap.lt_size ho
 have wO:l≠s1.heap.objs.size:=cc b0;have W:=(Walks.listRev (prog:=X.prog) (w:=X.w) (A:=X.A.in1.in1) (I.ok.hd hc) s1.heap.objs.size l wO its.toArray).toS;have hit:(s1.heap.push (revObj l ((its.toArray.size:Int)-1))).IsRevIter s1.heap.objs.size l ((its.toArray.size:Int)-1-((0:Nat):Int)):=⟨_,Heap.get?_push_size _ rfl,rfl,by simp [revObj]⟩
 have UL:(s1.heap.push (revObj l ((its.toArray.size:Int)-1))).IsList l its.toArray:=p.isList.at λo e=>Heap.get?_push_of_some _ e;have rF:(s1.heap.push (revObj l ((its.toArray.size:Int)-1))).objs.size=s1.heap.objs.size+1:=by simp [Heap.push]
 refine sP W (λi s st=>st.2.1.typeIs) ⟨cn _,hit,UL⟩ (λb hb=>?_) (by simp) (λs' b5 c' hm wJ oY=>?_) (by simpa [←hlen] using hz)
 ·rw [show ({s1 with heap:=s1.heap.push (revObj l ((its.toArray.size:Int)-1))}:Shared).heap.objs.size=s1.heap.objs.size+1 from rF]
  have hb:b=s1.heap.objs.size∨b=l:=by simpa using hb
  rcases hb with rfl|rfl
  ·exact uu _
  ·exact Nat.lt_succ_of_lt b0
 ·rw [Moved.eq_with hm]
  have kk:∀b o,s1.heap.get? b=some o→s'.heap.get? b=some o:=λb o e=>by
   have hb:=Heap.lt_size e;refine hm.heap b o (λo9=>?_) (Heap.get?_push_of_some _ (Heap.get?_push_of_some _ e));have o9:b=(s1.heap.push (revObj l ((its.toArray.size:Int)-1))).objs.size∨b=s1.heap.objs.size:=by simpa using o9
   rw [rF] at o9
   rcases o9 with rfl|rfl
   ·exact absurd hb (Nat.not_lt.mpr (pY _))
   ·exact absurd hb (fW _)
  rw [show ({s1 with heap:=s1.heap.push (revObj l ((its.toArray.size:Int)-1))}:Shared).heap.objs.size=s1.heap.objs.size+1 from rF] at wJ ⊢
  refine ⟨.ref (s1.heap.objs.size+1),_,I1.laid kk (pY _) (o:= .lst xs.reverse) ⟨by rw [vW];exact hz,b5.toList,c',?_,by simpa using wJ⟩,rfl,q _ (I1.hok.fresh (pY _))⟩
  refine Vals.of_get (by simp [oY.1,hlen]) λk x w hx hw=>?_
  have hk:k<xs.length:=by
   have:=(fA.mp hx).1
   simpa using this
  rw [List.getElem?_reverse hk] at hx;obtain ⟨u,hu,ru⟩:=rv.get hx
  have:its.toArray[its.toArray.size-1-k]? =some w:=oY.2 k w (by rw [←pV];exact hw)
  have e2:its.toArray.size-1-k=xs.length-1-k:=by simp [hlen]
  rw [e2] at this
  have:u=w:=by
   have h1:its[xs.length-1-k]? =some w:=by simpa using this
   rw [hu] at h1;exact Option.some.inj h1
  rw [←this];exact ru
def Cd(t:ib):bh:=λρ P=>t ρ λds=>match ds with
 | [.lst l]=>P (.lst l.reverse)
 |_=>False
theorem qO{p p2 m6:Pos}(hc:X.calm=true)(LD:Gl X "list")(EY:X.mg "list"=none)(LF:Gl X "reversed")(EZ:X.mg "reversed"=none)(ha:DA Z X [a] t)
  (hs:starEach [.Call (.Name "reversed" p2) [a] [] m6] X.env=(false,eval (.Call (.Name "reversed" p2) [a] [] m6) X.env)::starEach [] X.env:=by rfl) (g5:(backTo pos (starEach [] X.env)).any (·.1)=false:=by rfl)
  (j5:starEach [a] X.env=(false,eval a X.env)::starEach [] X.env:=by rfl) (E6:(backTo m6 (starEach [] X.env)).any (·.1)=false:=by rfl):
  DE Z X (.Call (.Name "list" p) [.Call (.Name "reversed" p2) [a] [] m6] [] pos) (Cd t):=by
 refine (yG hc LD EY LF EZ ha hs g5 j5 E6).imp ?_;rintro σ H Q ⟨G,ρ,P,s,en,h,q⟩;refine ⟨G,ρ,_,s,en,h,λds hd vs G1 H1 x1 dv=>?_⟩;cases dv with
 |nil=>exact hd.elim
 |cons a as=>
  cases as with
  |cons _ _=>cases a<;>exact hd.elim
  |nil=>
   cases a<;>first|exact hd.elim|skip
   rename_i p xs ds ha e
   exact ⟨_,xs,rfl,cD.of (x1.sub _ _ ha),λp hn=>q _ hd _ _ _ (x1.trans (.new x1.sub hn)) (.lst aB (e.rev.mono (aV (x1.sub.free hn) _)))⟩
end
section
variable {Z:DC} {X:Cx} {md:List Nat} {rn:Nat} {a b e k:Expr} {pos:Pos} {ta tb te tk:bh} {t:nF}
def OI(ta tb:bh):nF:=λρ P=>ta ρ λd1=>∃l1,d1= .lst l1∧tb ρ λd2=>∃l2,d2= .lst l2∧l1.length+l2.length≤sizeLine∧P (l1++l2)
theorem Bj(ha:DE Z X a ta)(hb:DE Z X b tb):DF Z X 1 (.BinOp a .Add b pos) (OI ta tb):=by
 refine (FT BF ha hb).imp ?_;rintro σ H Q ⟨G,ρ,P,s,e,h,q⟩;refine ⟨G,ρ,_,s,e,h,?_⟩;rintro _ ⟨l1,rfl,h⟩ v1 G1 H1 x1 zE;refine ⟨G1,ρ,_,x1.sub,e.mono x1.gg,h,?_⟩;rintro _ ⟨l2,rfl,hz,hp⟩ v2 G2 H2 x2 zF;obtain ⟨p1,MN,rfl,h1,e1⟩:=zE.kc;obtain ⟨p2,Sb,rfl,h2,e2⟩:=zF.kc;have T9:=e1.mono x2.gg;have x:=x1.trans x2;refine ⟨_,_,_,_,rfl,rfl,x2.hh _ _ (x1.sub _ _ h1),x2.sub _ _ h2,by rw [e1.length,e2.length];exact hz,λp kQ=>?_⟩
 obtain ⟨o1,o2,o3⟩:=t8 x kQ (T9.append e2);exact q _ hp _ _ _ _ (x.side kQ) o1 o2 o3
variable {tg iter elt:Expr} {ifs:List Expr} {scope:Scope} {NC:List Str} {src:List (Option Nat)} {wi:gE} {g:dj} {tt:cW}
theorem K3(hc:X.calm=true)(c:bW X scope)(dg:cE scope X.N src NC)(hi:DI Z X tg iter wi)
  (hg:∀ex s H,DG Z (bP X scope NC ex s H) tg g) (ht:∀ex s H,rm Z (bP X scope NC ex s H) ifs tt) (he:∀ex s H,DE Z (bP X scope NC ex s H) elt te)
  (hs:∀x,foldedSetIterable iter X.env x=pure x:=by intro _;rfl):DF Z X 1 (.ListComp elt [⟨tg,iter,ifs,0⟩] scope pos) (K9 wi g tt te src):=(FQ hc c dg hi hg ht he hs).imp yr
variable {B:Bs} {ρ:DN} {σ:St} {H G:Hp} {fp:Nat→List Addr}
theorem SIx.Ud{P:List D→Prop}{Q:VK}(S:SIx Z B md ρ σ H G fp)(h:t ρ P)
  (hq:∀ds,P ds→ds.all fi=true∧∀v G' H',SIx Z B md ρ σ H' G' fp→Ext G H G' H'→Dv Z G' v (.lst ds)→Q v H'):tM Z 1 t σ H Q:=by
 refine ⟨H,ρ,P, .refl _,S.EA,h,?_⟩;intro ds hd v f G' H' x o nd nw;obtain ⟨UJ,k⟩:=hq ds hd;obtain ⟨a,xs,oP,oW,rfl,e1,ha,UH,ol⟩:=o.lst;cases e1;obtain ⟨dv,rfl⟩:=ol.flat;have hb:H a=none:=(nw a (by rw [UH];simp)).1
 have hg:G a=none:=S.ex.sub.free hb
 have x2:Ext G H (upd G a (.lst xs)) H':=by
  refine ⟨aV hg _,λb o e=>?_,x.hh,λb h1 h2=>?_⟩
  ·by_cases z:b=a
   ·subst z
    rw [aB] at e;rw [←e];exact ha
   ·rw [aD z] at e
    exact x.hh _ _ (S.ex.sub _ _ e)
  ·rw [aD (λz=>h1 (by rw [z];exact hb))];exact h2
 exact k _ _ _ (S.grow x2) x2 (.lst aB (dv.flat UJ))
def En(i:Nat)(tk:bh)(t:nF):eD:=λE ρ=>t ρ λd=>d.all fi=true∧∃ds,ρ[i]? =some (some (.lst ds))∧tk ρ λkk=>∃k j,kk= .int k∧nV ds.length k=some j∧E.nx (ρ.set i (some (.lst (ds.set j (.lst d)))))
theorem nM(i:Nat){x:Str}{px ps:Pos}(hk:DE Z X k tk)(he:DF Z X 1 e t)(hm:md.getD i 0=1:=by rfl)(hi:X.N[i]? =some x:=by rfl)(hv:sC X.env.scope x:=by first|exact Or.inl rfl|exact Or.inr (Or.inl rfl) |exact Or.inr (Or.inr rfl))(hd:(x==("__debug__":Str))=false:=by decide)(gu:(x==("__classdict__":Str))=false:=by decide)
  (ha:∀v,assign (.Subscript (.Name x px) k ps) X.env v=(do
   let ov ←holding [v] (eval (.Name x px) X.env)
   let iv ←holding [v,ov] (eval k X.env)
   standAt ps
   holding [v,ov,iv] (setItem ov iv v)
   release [v,ov,iv] []):=by intro _;rfl)
  (hs:swapsWithSole [.Subscript (.Name x px) k ps] e pos.line X.env=pure false:=by rfl) (hw:swappedStores [.Subscript (.Name x px) k ps] e X.env=pure none:=by rfl)
  (h1:(assignEach [.Subscript (.Name x px) k ps] X.env).map (·.2)= [assign (.Subscript (.Name x px) k ps) X.env]:=by rfl):DSt Z X md rn (.Assign [.Subscript (.Name x px) k ps] e pos) (En i tk t):=by
 refine (xg he (BI (pv i hi hv hd gu) hk set_list ha) hs hw h1).imp ?_;rintro D σ H ⟨B,ρ,E,⟨G,fp,S⟩,h,M⟩;refine S.Ud h λd hd=>⟨hd.1,λv G' H' S' x dv=>?_⟩;obtain ⟨_,ds,h1,h⟩:=hd;obtain ⟨l,xs,_,_,e2,e3,_⟩:=S'.one hm h1;refine ⟨_,e2,S'.ev true h ?_⟩;rintro _ ⟨k,j,rfl,hj,h3⟩;refine ⟨rfl,λv1 G1 H1 S1 x1 zE=>?_⟩;cases zE;obtain ⟨l',oF,oP,e1,iN,rA,bz,put⟩:=S1.one hm h1;cases e1;rw [e2] at iN;cases iN;exact ⟨l,oF,k,j,rfl,rfl,rA,by rw [bz.length];exact hj,M.nx _ h3 _ _ ⟨G1,fp,put _ _ (bz.set (dv.mono x1.gg) j)⟩⟩
end
end L2
namespace p9
open PySem L2 Wb
variable {P:Program} {w:World} {mg:Str→Option Value} {base:Heap} {Z:DC} (T:Txt Z mg)
def De:cV:=λds P=>∃(ns:List Int)(k:Nat),ds= [.jR ns,ae k]∧∀v:Int,P (.int v)
theorem dr:FnOk P w Z.K mg base cP 1 T.d__law_cell_at.f T.d__law_cell_at.fd ["_law_script","_law_k"] (aS Z De):=by
 have nd:=jP.nd;refine bc T.d__law_cell_at.F jP [0,0] (by decide) (λds R h=>by obtain ⟨_,_,rfl,_⟩:=h;rfl) (λbM A outer s H E ds R hr h=>?_)
 have hu:=hr.units
 refine ⟨_,(ah (cL (aU tU (aa 1) (ax aP rfl T.B.len aO (ab (aa 0) ag)) (bF _)) (ar (aM (bD (aa 0) (aa 1)))) bH)
   (ar (aM av))),?_⟩
 obtain ⟨ns,k,rfl,q⟩:=h;refine ⟨_,rfl,_,rfl,?_⟩;refine ⟨_,rfl,cu (λe=>?_) (λe=>?_)⟩
 ·have hk:k<ns.length:=by
   have:=of_decide_eq_true e
   omega
  exact ⟨_,rfl,_,rfl,_,xI (bq hk),q _⟩
 ·exact q 0
def Gv:cV:=λds P=>∃(c:Int),ds= [.int c]∧∀v:Int,P (.int v)
theorem gw(a b:Int)(h:0<b):0≤a%b∧a%b<b:=⟨Int.emod_nonneg _ (by omega),Int.emod_lt_of_pos _ h⟩
theorem Hw{i j:Int}{P:D→Prop}{ρ:DN}(h:P (.bl (decide (i=j)))):dC (.int j) ρ (λb=>Hh (.int i) b P):=sZ h
theorem fQ:FnOk P w Z.K mg base cP 1 T.d__law_drawn.f T.d__law_drawn.fd ["_law_cell"] (aS Z Gv):=by
 have nd:=lT.nd;refine bc T.d__law_drawn.F lT [0,0] (by decide) (λds R h=>by obtain ⟨_,rfl,_⟩:=h;rfl) (λbM A outer s H E ds R hr h=>?_)
 have hu:=hr.units
 refine ⟨_,(ah (cL (DW.dt (nN (aU (n5 hu) (aa 0) av (bF _)) (mx (DW.dt (rY (aU (n5 hu) (az b7 (aa 0) av) av (bF _)) (oS (aU As (aa 0) (az BA av av) (bF _)))))))) (ar (aM (az e8 (aa 0) av))) bH)
   (ah (aF false 1 nd (az b7 (az bC (az r8 (az b7 (aa 0) av) av) av) av))
   (ah (aF false 1 nd (az b7 (az bC (az r8 (aa 1) (aa 1)) av) av))
   (ar (aM (az e8 (az BA (az bC (aa 1) av) av) av)))))),?_⟩
 obtain ⟨c,rfl,q⟩:=h;have m1:=gw (c%2147483629*48271+7919) 2147483647 (by decide)
 have m2:=gw ((c%2147483629*48271+7919)%2147483647*((c%2147483629*48271+7919)%2147483647)+104729) 2147483629 (by decide)
 have fin:∀v:Int,R (.int v):=q;refine ⟨_,rfl,Hw ⟨_,rfl,cu (λ_=>ed ⟨_,rfl,⟨by decide,by decide⟩,q _⟩) (λ_=>?_)⟩⟩
 refine ⟨_,rfl,(by show (0:Int)<2;decide),Hw ⟨_,rfl,cu (λ_=>⟨_,rfl,⟨by decide,by decide,by decide⟩,_,rfl,cu (λ_=>⟨_,rfl,⟨by decide,by decide⟩,q _⟩) (λ_=>?_)⟩) (λ_=>cO ?_)⟩⟩
 ·refine ⟨_,rfl,(by show (0:Int)<2147483629;decide), .inr ⟨by decide,by decide⟩,(by show (0:Int)<2147483647;decide),trivial,?_⟩
  refine ⟨_,rfl,_,rfl, .inl ⟨by dsimp only;omega,by dsimp only;omega⟩,(by show (0:Int)<2147483629;decide),trivial,?_⟩
  exact ⟨_,rfl,⟨by decide,by decide,by dsimp only;omega⟩,⟨by decide,by decide⟩,q _⟩
 ·refine ⟨_,rfl,(by show (0:Int)<2147483629;decide), .inr ⟨by decide,by decide⟩,(by show (0:Int)<2147483647;decide),trivial,?_⟩
  refine ⟨_,rfl,_,rfl, .inl ⟨by dsimp only;omega,by dsimp only;omega⟩,(by show (0:Int)<2147483629;decide),trivial,?_⟩
  exact ⟨_,rfl,⟨by decide,by decide,by dsimp only;omega⟩,⟨by decide,by decide⟩,q _⟩
theorem qE(w:W)(i:Nat)(r:List Nat):(w.map ao).set i (ao r)=(w.set i r).map ao:=by rw [List.map_set]
theorem cX{α:Type}(l:List α)(k:Nat)(h:k≤l.length):cutD l (some (k:Int)) none=l.drop k:=by
 unfold cutD
 have e1:HT.bL l.length 0 (some (k:Int))=k:=by
  simp only [HT.bL]
  split<;>omega
 have e2:HT.bL l.length l.length none=l.length:=rfl;rw [e1,e2];exact List.take_of_length_le (by simp)
theorem gL{w:W}{p:Nat}(h:p<w.length):fM (w.map ao) (p:Int)=some (ao (row w p)):=hE (uo h)
theorem dN{ns:List Nat}{p:Nat}(h:p<ns.length):fM (ns.map ae) (p:Int)=some (ae (ns.getD p 0)):=hE (by rw [eC,aJ,bq h];rfl)
variable {P:Program} {w:World} {mg:Str→Option Value} {base:Heap} {Z:DC} (T:Txt Z mg)
def Gw:cV:=λds P=>∃(n:Int),ds= [.int n]∧∀w R,ck w R→3≤w.length→w.length≤14→P (.tup [aN w,ao R])
theorem tX:FnOk P w Z.K mg base cP 1 T.d__law_grown.f T.d__law_grown.fd ["_law_number"] (aS Z Gw):=by
 have nd:=lU.nd;refine bc T.d__law_grown.F lU [0,1,0,0,0,0,0,0,0] (by decide) (λds R h=>by obtain ⟨_,rfl,_⟩:=h;rfl) (λbM A outer s H E ds R hr h=>?_)
 have hu:=hr.units
 refine ⟨_,(ah (oR 1 nd (oO (ab (dZ (ab av (ab av ag))) (ab (dZ (ab av (ab av ag))) (ab (dZ (ab av (ab av ag))) ag)))))
   (ah (aF false 2 nd (dZ (ab av (ab av (ab av ag)))))
   (ah (aF false 3 nd (az bC av (az b7 (aa 0) av)))
   (ah (aF false 0 nd (az e8 (aa 0) av))
   (ah (oQ rfl PassesOwn.never (zB rfl T.B.range (ab av (ab (aa 3) ag))) (aQ 4 nd) (ah (aF false 5 nd (az b7 (aa 0) (ax aP rfl T.B.len aO (ab (aa 2) ag))))
   (ah (aF false 6 nd (az bC av (az b7 (az e8 (aa 0) (ax aP rfl T.B.len aO (ab (aa 2) ag))) (az j9 (ax aP rfl T.B.len aO (ab (aa 2) ag)) av))))
   (ah (aF false 0 nd (az e8 (aa 0) (az r8 (ax aP rfl T.B.len aO (ab (aa 2) ag)) (az j9 (ax aP rfl T.B.len aO (ab (aa 2) ag)) av))))
   (ah (aF false 2 nd (az bC (bg (aa 2) (bp (aa 5)) bN) (bg (aa 2) bN (bp (aa 5)))))
   (ah (aF false 7 nd (bg (aa 2) bN (bp (az bC (aa 6) av))))
   (ah (rW false 1 (qO rfl rfl T.B.list rfl T.B.reversed (ab (aa 7) ag)))
   (ah (nM 1 (bD (aa 7) av) (Bj (dZ (ab (aa 4) ag)) (bD (aa 1) (bD (aa 7) av))))
   (ah (eZ rfl PassesOwn.never (bU (bg (aa 7) (bp av) bN)) (aQ 8 nd) (ar (nM 1 (aa 8) (Bj (bD (aa 1) (aa 8)) (dZ (ab (aa 4) ag))))))
   (ar (aF false 2 nd (az bC (dZ (ab (bD (aa 7) av) (ab (aa 4) ag))) (bg (aa 2) (bp (aa 6)) bN)))))))))))))
   (ar (aM (fv (ab (aa 1) (ab (aa 2) ag)))))))))),?_⟩
 obtain ⟨n,rfl,q⟩:=h;refine ⟨by show 2≤sizeLine;decide,by show 2≤sizeLine;decide,by show 2≤sizeLine;decide,by show 3≤sizeLine;decide,?_⟩
 refine ⟨by show 3≤sizeLine;decide,trivial,?_⟩
 refine ⟨_,rfl,(by show (0:Int)<12;decide),trivial,?_⟩
 refine ⟨_,rfl,⟨by decide,by decide⟩,trivial,?_⟩
 have YJ:=gw n 12 (by decide)
 refine ⟨_,rfl,⟨by decide,by decide,by show-(2^62)≤3+n%12;omega,by show 3+n%12<2^62;omega⟩,?_⟩
 rw [show (3+n%12-3).toNat=(n%12).toNat by omega]
 refine yc (λj ρ=>∃(x:Int)(w:W)(R:List Nat)(o4 o5 o6 o7 o8:Option D),ρ= [some (.int x),some (aN w),some (ao R),some (.int (3+n%12)),o4,o5,o6,o7,o8]∧ck w R∧w.length=3+j) ?_ ?_ ?_
 ·exact ⟨_,[[1,2],[2,0],[0,1]],[0,1,2],_,_,_,_,_,rfl,wI,rfl⟩
 ·rintro j _ hj ⟨x,w',R',o4,o5,o6,o7,o8,rfl,Gr,hl⟩ A hA
  have h3:=Gr.len;have Ym:=Gr.qC;have lR:(R'.map ae).length=R'.length:=List.length_map _;have e0:(0:Int)<((R'.map ae).length:Int):=by rw [lR];omega
  have e1:(0:Int)<((R'.map ae).length:Int)-1:=by rw [lR];omega
  have e2:((R'.map ae).length:Int)≤14:=by rw [lR];omega
  refine ⟨_,rfl,_,rfl,e0,trivial,?_⟩;refine ⟨_,rfl,_,rfl,⟨e0,by omega⟩,_,rfl,e1,trivial,?_⟩
  have m1:=gw x ((R'.map ae).length:Int) e0;have m2:=gw (x / ((R'.map ae).length:Int)) (((R'.map ae).length:Int)-1) e1;generalize Lv:x%((R'.map ae).length:Int)=at_ at m1;generalize O7:x / ((R'.map ae).length:Int)%(((R'.map ae).length:Int)-1)=fr at m2;obtain ⟨a,rfl⟩:∃a:Nat,at_=(a:Int):=⟨at_.toNat,by omega⟩
  obtain ⟨f',rfl⟩:∃f:Nat,fr=(f:Int):=⟨fr.toNat,by omega⟩
  rw [lR] at m1 m2;have p1:(0:Int)<((R'.map ae).length:Int)*(((R'.map ae).length:Int)-1):=Int.mul_pos e0 e1;have p2:((R'.map ae).length:Int)*(((R'.map ae).length:Int)-1)≤14*13:=Int.mul_le_mul e2 (by omega) (by omega) (by decide)
  refine ⟨_,rfl,_,rfl,_,rfl, .inl ⟨by omega,by omega⟩,⟨p1,(show ((R'.map ae).length:Int)*(((R'.map ae).length:Int)-1)<1073741824 by omega)⟩,trivial,?_⟩
  clear p1 p2;refine (?_:qN _ _ _ [some (.int (x / (((R'.map ae).length:Int)*(((R'.map ae).length:Int)-1)))),some (aN w'),some (ao R'),some (.int (3+n%12)),some (.int (3+(j:Int))),some (.int (x%((R'.map ae).length:Int))),some (.int (1+x / ((R'.map ae).length:Int)%(((R'.map ae).length:Int)-1))),o7,o8]);rw [Lv,O7];generalize x / (((R'.map ae).length:Int)*(((R'.map ae).length:Int)-1))=x2;have ca:cutD (R'.map ae) (some (a:Int)) none=(R'.drop a).map ae:=by rw [cX _ _ (by rw [lR];omega),jU]
  have cb:cutD (R'.map ae) none (some (a:Int))=(R'.take a).map ae:=by rw [cK _ _ (by rw [lR];omega),jd]
  have xB:ck w' (R'.drop a++R'.take a):=by
   have:=Gr
   rw [←jT a R'] at this;exact this.ud
  have P9:(R'.drop a++R'.take a).length=R'.length:=by rw [cy,dE,b8];omega
  have kU:(cutD (R'.map ae) (some (a:Int)) none).length+(cutD (R'.map ae) none (some (a:Int))).length≤sizeLine:=by
   rw [ca,cb,List.length_map,List.length_map];exact small (by rw [cy] at P9;omega)
  have er:(.lst (cutD (R'.map ae) (some (a:Int)) none++cutD (R'.map ae) none (some (a:Int))):D)=ao (R'.drop a++R'.take a):=by rw [ca,cb];unfold ao;rw [fh]
  refine ⟨_,rfl,_,rfl,_,rfl,_,rfl,kU,trivial,?_⟩;refine (?_:qN _ _ _ [some (.int x2),some (aN w'),some (.lst (cutD (R'.map ae) (some (a:Int)) none++cutD (R'.map ae) none (some (a:Int)))),some (.int (3+n%12)),some (.int (3+(j:Int))),some (.int (a:Int)),some (.int (1+(f':Int))),o7,o8]);rw [er];clear er ca cb kU;generalize R'.drop a++R'.take a=R1 at xB P9;have l1:(R1.map ae).length=R1.length:=List.length_map _
  have ct:cutD (R1.map ae) none (some ((1:Int)+(f':Int)+1))=(R1.take (f'+1+1)).map ae:=by
   rw [show (1:Int)+(f':Int)+1=((f'+1+1:Nat):Int) by omega,cK _ _ (by rw [l1];omega),jd]
  refine ⟨_,rfl,_,rfl,trivial,?_⟩;refine (?_:qN _ _ _ [some (.int x2),some (aN w'),some (ao R1),some (.int (3+n%12)),some (.int (3+(j:Int))),some (.int (a:Int)),some (.int (1+(f':Int))),some (.lst (cutD (R1.map ae) none (some ((1:Int)+(f':Int)+1)))),o8]);rw [ct];have yw:(R1.take (f'+1+1)).length=f'+2:=by rw [b8];omega
  have la:((R1.take (f'+1+1)).map ae).length=f'+2:=by rw [List.length_map];exact yw
  have lw:(w'.map ao).length=3+j:=by rw [List.length_map];exact hl
  refine ⟨_,rfl,_,rfl,trivial,gy (by rw [lw];omega),?_⟩
  have ea:(.lst (w'.map ao++ [.lst ((R1.take (f'+1+1)).map ae).reverse]):D)=aN (w'++ [(R1.take (f'+1+1)).reverse]):=by
   unfold aN ao;rw [fh,←List.map_reverse];rfl
  refine (?_:qN _ _ _ [some (.int x2),some (.lst (w'.map ao++ [.lst ((R1.take (f'+1+1)).map ae).reverse])),some (ao R1),some (.int (3+n%12)),some (.int (3+(j:Int))),some (.int (a:Int)),some (.int (1+(f':Int))),some (ao (R1.take (f'+1+1))),o8]);rw [ea];clear ea;have Ra:R1.getD 0 0<w'.length:=xB.Mt (aw (by omega))
  have g0:(R1.take (f'+1+1)).getD 0 0=R1.getD 0 0:=by rw [aJ,nk (by omega),←aJ]
  have a0:fM ((R1.take (f'+1+1)).map ae) (0:Int)=some (ae (R1.getD 0 0)):=by
   have:=dN (ns:=R1.take (f'+1+1)) (p:=0) (by omega)
   rw [g0] at this;exact this
  have YI:(w'++ [(R1.take (f'+1+1)).reverse]).length=w'.length+1:=by simp
  have a1:=gL (w:=w'++ [(R1.take (f'+1+1)).reverse]) (p:=R1.getD 0 0) (by omega)
  rw [uf,if_neg (by omega)] at a1
  have YL:=dA xB.g (R1.getD 0 0);have ev:(3:Int)+(j:Int)=((w'.length:Nat):Int):=by omega
  refine ⟨_,rfl,by show 1≤sizeLine;decide,_,rfl,_,rfl,_,rfl,_,a0,_,a1,_,rfl,small (by rw [List.length_map];show 1+_≤1000;omega),?_,_,rfl,_,rfl,_,a0,_,R1.getD 0 0,rfl,jB (by rw [List.length_map];omega),?_⟩
  ·rw [List.all_append,bO];rfl
  have M0:=wb.start (w:=w') (R:=R1) (f:=f'+1) Ra
  have es:(.lst (((w'++ [(R1.take (f'+1+1)).reverse]).map ao).set (R1.getD 0 0) (.lst ([.int ((3:Int)+(j:Int))]++(row w' (R1.getD 0 0)).map ae))):D)=aN ((w'++ [(R1.take (f'+1+1)).reverse]).set (R1.getD 0 0) (w'.length::row w' (R1.getD 0 0))):=by
   rw [ev];unfold aN;rw [←qE];rfl
  refine (?_:qN _ _ _ [some (.int x2),some (.lst (((w'++ [(R1.take (f'+1+1)).reverse]).map ao).set (R1.getD 0 0) (.lst ([.int ((3:Int)+(j:Int))]++(row w' (R1.getD 0 0)).map ae)))),some (ao R1),some (.int (3+n%12)),some (.int (3+(j:Int))),some (.int (a:Int)),some (.int (1+(f':Int))),some (ao (R1.take (f'+1+1))),o8]);rw [es];clear es a1
  have cd:cutD ((R1.take (f'+1+1)).map ae) (some (1:Int)) none=((R1.take (f'+1+1)).drop 1).map ae:=by
   have:=cX ((R1.take (f'+1+1)).map ae) 1 (by rw [la];omega)
   rw [jU];exact this
  have ld:((R1.take (f'+1+1)).drop 1).length=f'+1:=by rw [dE,yw];omega
  refine ⟨_,rfl,?_⟩;refine (?_:lD _ _ _ (cutD ((R1.take (f'+1+1)).map ae) (some (1:Int)) none) _);rw [cd];refine cT (λk ρ=>∃(w2:W)(o8:Option D),ρ= [some (.int x2),some (aN w2),some (ao R1),some (.int (3+n%12)),some (.int (3+(j:Int))),some (.int (a:Int)),some (.int (1+(f':Int))),some (ao (R1.take (f'+1+1))),o8]∧wb w' w2 R1 (f'+1) k) ⟨_,_,rfl,M0⟩ ?_ ?_
  ·rintro k d _ hd ⟨w2,p8,rfl,M⟩ A' zS
   obtain ⟨y,hy,rfl⟩:=dM hd
   have hk:k<f'+1:=by
    have:=(fA.mp hy).1
    omega
   have ey:y=R1.getD (k+1) 0:=by
    rw [uC,nk (by omega)] at hy
    rw [aJ,Nat.add_comm k 1,hy];rfl
   subst ey;have Yf:R1.getD (k+1) 0<w'.length:=xB.Mt (aw (by omega))
   have l2:=M.l;have a2:=gL (w:=w2) (p:=R1.getD (k+1) 0) (by omega)
   have rl:(row w2 (R1.getD (k+1) 0)).length≤14:=by
    rw [M.ro _ (by omega) (λi hi e=>by have:=getD_inj xB.nd (by omega) (by omega) e;omega)]
    have:=dA xB.g (R1.getD (k+1) 0)
    omega
   refine ⟨_,rfl,_,rfl,_,a2,_,rfl,_,rfl,by show 1≤sizeLine;decide,_,rfl,small (by rw [List.length_map];show _+1≤1000;omega),?_,_,rfl,_,rfl,_,R1.getD (k+1) 0,rfl,jB (by rw [List.length_map];omega),?_⟩
   ·rw [List.all_append,bO];rfl
   refine zS _ ⟨w2.set (R1.getD (k+1) 0) (row w2 (R1.getD (k+1) 0)++ [w'.length]),some (ae (R1.getD (k+1) 0)),?_,M.step xB.nd (by omega) (by omega) Yf⟩
   have EC:(.lst ((w2.map ao).set (R1.getD (k+1) 0) (.lst ((row w2 (R1.getD (k+1) 0)).map ae++ [.int ((3:Int)+(j:Int))]))):D)=aN (w2.set (R1.getD (k+1) 0) (row w2 (R1.getD (k+1) 0)++ [w'.length])):=by
    rw [ev];unfold aN;rw [←qE];unfold ao;rw [fh];rfl
   rw [←EC];rfl
  ·rintro _ ⟨w2,p8,rfl,M⟩
   rw [List.length_map,ld] at M;have St:=M.fin (by omega) (by omega)
   have G2:=y3 xB St
   have cf:cutD (R1.map ae) (some ((1:Int)+(f':Int))) none=(R1.drop (f'+1)).map ae:=by
    rw [show (1:Int)+(f':Int)=((f'+1:Nat):Int) by omega,cX _ _ (by rw [l1];omega),jU]
   have X4:(2:Nat)+(cutD (R1.map ae) (some ((1:Int)+(f':Int))) none).length≤sizeLine:=by
    rw [cf,List.length_map,dE];exact small (by omega)
   refine ⟨_,rfl,_,a0,_,rfl,by show 2≤sizeLine;decide,_,rfl,_,rfl,X4,trivial,?_⟩
   refine hA _ ⟨x2,w2,bX R1 (f'+1) w'.length,some (.int (3+(j:Int))),some (.int (a:Int)),some (.int (1+(f':Int))),some (ao (R1.take (f'+1+1))),p8,?_,G2,by rw [M.l];omega⟩
   have ef:(.lst ([ae (R1.getD 0 0), .int ((3:Int)+(j:Int))]++cutD (R1.map ae) (some ((1:Int)+(f':Int))) none):D)=ao (bX R1 (f'+1) w'.length):=by
    rw [cf,ev];unfold bX ao;rfl
   rw [←ef];rfl
 ·rintro _ ⟨x,w',R',o4,o5,o6,o7,o8,rfl,Gr,hl⟩
  exact ⟨_,rfl,_,rfl,by show 2≤sizeLine;decide,q _ _ Gr (by omega) (by omega)⟩
end p9
namespace Wb
theorem Disc.congr{w:W}{R:List Nat}{A A':Nat×Nat→Prop}(D:Disc w R A)(h:∀d,A d↔A' d):Disc w R A':=by
 have:A=A':=funext λd=>propext (h d)
 rw [←this];exact D
def Full(w:W)(R:List Nat):Prop:=Disc w R λd=>aK w d∧¬bR R d.1 d.2
theorem DU{a b:List Nat}(nd:(a++b).Nodup)(x y:Nat):bR (b++a) x y↔bR (a++b) x y:=by
 have mem:∀p,p∈b++a↔p∈a++b:=λp=>List.perm_append_comm.mem_iff
 constructor
 ·rintro ⟨h,e⟩;exact ⟨(mem x).mp h,by rw [e,fz nd ((mem x).mp h)]⟩
 ·rintro ⟨h,e⟩;exact ⟨(mem x).mpr h,by rw [e,fz nd h]⟩
theorem Full.ud{w:W}{a b:List Nat}(F:Full w (a++b)):Full w (b++a):=
 (Disc.ud F).congr λd=>by rw [DU F.nd]
theorem ck.full{w:W}{R:List Nat}(G:ck w R):Full w R:=G.Et
theorem jY.full{w w':W}{f:Nat→Nat}(N:jY w w' f)(g:Good w){R:List Nat}(F:Full w R):Full w' (R.map f):=by
 refine (N.Et g F).congr λd=>?_;have kR:∀{x y},aK w (x,y)→x<w.length∧y<w.length:=λh=>⟨bG h,g.rng _ _ h⟩;have Am:∀p∈R,p<w.length:=λp hp=>(kR (F.ring p hp).1).2;have inj:∀p∈R,∀y∈R,f y=f p→y=p:=λp hp y hy e=>N.inj y p (Am y hy) (Am p hp) e;have sR:∀p∈R,af (R.map f) (f p)=f (af R p):=λp hp=>ot (inj p hp) hp
 have key:∀x y,x<w.length→y<w.length→(bR (R.map f) (f x) (f y)↔bR R x y):=λx y hx hy=>by
  constructor
  ·rintro ⟨hm,e⟩
   obtain ⟨p,hp,ep⟩:=bx.mp hm
   have:=N.inj p x (Am p hp) hx ep
   subst this;rw [sR p hp] at e;exact ⟨hp,N.inj y _ hy (Am _ (ba hp)) e⟩
  ·rintro ⟨hm,e⟩
   exact ⟨bx.mpr ⟨x,hm,rfl⟩,by rw [sR x hm,e]⟩
 constructor
 ·rintro ⟨x,y,⟨h1,h2⟩,rfl⟩
  have:=kR h1
  exact ⟨(N.dart g this.1 this.2).mpr h1,λz=>h2 ((key x y this.1 this.2).mp z)⟩
 ·rintro ⟨h1,h2⟩
  obtain ⟨x,y,h,rfl⟩:=N.all g h1
  have:=kR h
  exact ⟨x,y,⟨h,λz=>h2 ((key x y this.1 this.2).mpr z)⟩,rfl⟩
theorem Ah{w:W}(g:Good w)(tri:∀d,aK w d→aY w (aY w (aY w d))=d){a b:Nat}(hd:aK w (a,b)):Full w [a,b,af (row w b) a]:=by
 have D:=Ag g tri hd;refine D.congr λd=>?_;have nd:=D.nd;generalize af (row w b) a=c at*;have s1:af [a,b,c] a=b:=bT (a:= []) (b:= [c]) nd;have s2:af [a,b,c] b=c:=bT (a:= [a]) (b:= []) nd;have s3:af [a,b,c] c=a:=cI (b:= [b]) nd;obtain ⟨x,y⟩:=d;refine and_congr Iff.rfl ?_
 constructor
 ·rintro ⟨h1,h2,h3⟩ ⟨hm,e⟩
  have e:y=af [a,b,c] x:=e;have hm:x=a∨x=b∨x=c:=by simpa using hm
  rcases hm with rfl|rfl|rfl
  ·exact h1 (by rw [e,s1])
  ·exact h2 (by rw [e,s2])
  ·exact h3 (by rw [e,s3])
 ·intro h
  refine ⟨λz=>h ?_,λz=>h ?_,λz=>h ?_⟩
  ·obtain ⟨rfl,rfl⟩:=Prod.mk.injEq .. ▸z;exact ⟨by simp,s1.symm⟩
  ·obtain ⟨rfl,rfl⟩:=Prod.mk.injEq .. ▸z;exact ⟨by simp,s2.symm⟩
  ·obtain ⟨rfl,rfl⟩:=Prod.mk.injEq .. ▸z;exact ⟨by simp,s3.symm⟩
theorem Good.BP{w:W}(g:Good w)(h2:2≤w.length){p:Nat}(hp:p<w.length):row w p≠ []:=by
 obtain ⟨p',kQ,ne⟩:∃p',p'<w.length∧p'≠p:=by
  by_cases c:p=0
  ·exact ⟨1,by omega,by omega⟩
  ·exact ⟨0,by omega,by omega⟩
 have r:=((g.con p' kQ).symm g.sym).trans (g.con p hp);cases r with
 |refl=>exact absurd rfl ne
 |step _ h=>
  have:=g.sym _ _ h
  intro e;rw [e] at this;cases this
end Wb
namespace p9
open PySem L2 Wb
variable {P:Program} {w:World} {mg:Str→Option Value} {base:Heap} {Z:DC} (T:Txt Z mg)
theorem qh{g:dj}{tb:eD}{E:gh}{n:Nat}{ρ:DN}(I:Nat→DN→Prop)(h0:I 0 ρ)(hs:∀(j:Nat)(ρ:DN),j<n→I j ρ→∀A:DN→Prop,(∀ρ,I (j+1) ρ→A ρ)→g (ae j) ρ λaW=>tb {nx:=A,ct:=A,bk:=E.nx,rt:=E.rt} aW)
  (he:∀ρ,I n ρ→E.nx ρ):lD g tb E (di 0 n) ρ:=yc I h0 (λj ρ hj h A hA=>by
 have:=hs j ρ hj h A hA
 unfold ae at this;rw [Int.zero_add];exact this) he
theorem CF(r:List Nat)(i x:Nat):ins (r.map ae) i (ae x)=(ins r i x).map ae:=by
 unfold ins;simp [jd,jU]
def wc(n:Nat)(ns:List Nat):Prop:=ns.length=n∧ns.Nodup∧∀x∈ns,x<n
theorem Ap{n:Nat}{ns:List Nat}(N:wc n ns){x:Nat}(h:x<n):x∈ns:=by
 apply Classical.byContradiction;intro hx
 have:(x::ns).length≤(List.range n).length:=aX (gf.mpr ⟨hx,N.2.1⟩) λy hy=>by
  rcases b9.mp hy with rfl|hy
  ·exact cg.mpr h
  ·exact cg.mpr (N.2.2 y hy)
 rw [gd,eU,N.1] at this;omega
theorem lJ{f:DN→Prop}{aC:DN}(ρ:DN)(e:aC=ρ)(h:f ρ):f aC:=by rw [e];exact h
structure NR (w F:W) (ns:List Nat) (k:Nat):Prop where
 l:F.length=w.length
 r:∀i,i<k→∃a b,row w i=a++b∧row F (ns.getD i 0)=(b++a).map λx=>ns.getD x 0
theorem NR.step{w F:W}{ns:List Nat}{k a:Nat}(h:NR w F ns k)(N:wc w.length ns)(hk:k<w.length):NR w (F.set (ns.getD k 0) (((row w k).drop a++(row w k).take a).map λx=>ns.getD x 0)) ns (k+1):=by
 have lt:ns.getD k 0<F.length:=by rw [h.l];exact N.2.2 _ (aw (by rw [N.1];exact hk))
 refine ⟨by rw [kL];exact h.l,λi hi=>?_⟩
 by_cases c:i=k
 ·subst c
  exact ⟨(row w i).take a,(row w i).drop a,(jT _ _).symm,by rw [pI lt,if_pos rfl]⟩
 ·obtain ⟨x,y,e1,e2⟩:=h.r i (by omega)
  exact ⟨x,y,e1,by rw [pI lt,if_neg (λz=>c (getD_inj N.2.1 (by rw [N.1];omega) (by rw [N.1];omega) z.symm)),e2]⟩
theorem NR.XJ{w F:W}{ns:List Nat}(h:NR w F ns w.length)(N:wc w.length ns):jY w F λx=>ns.getD x 0 where
 len:=h.l
 lt:=λx hx=>N.2.2 _ (aw (by rw [N.1];exact hx))
 inj:=λx y hx hy e=>getD_inj N.2.1 (by rw [N.1];exact hx) (by rw [N.1];exact hy) e
 onto:=λy hy=>by
  obtain ⟨i,hi,e⟩:=fq.mp (Ap N hy);exact ⟨i,by rw [N.1] at hi;exact hi,by rw [aJ,bq hi];exact e⟩
 rows:=λx hx=>h.r x hx
def Dk:cV:=λds P=>∃(w:W)(R:List Nat)(num:Int),ds= [aN w,ao R, .int num]∧Good w∧iL w∧3≤w.length∧w.length≤14∧Full w R∧∀F R',Good F→iL F→F.length=w.length→Full F R'→P (.tup [aN F,ao R'])
theorem Full.qC{w:W}{R:List Nat}(g:Good w)(F:Full w R):R.length≤w.length:=by
 have:=aX F.nd (m:=List.range w.length) λx hx=>cg.mpr (g.rng _ _ (F.ring x hx).1)
 rw [gd] at this;exact this
theorem tY:FnOk P w Z.K mg base cP 1 T.d__law_named.f T.d__law_named.fd ["_law_turns","_law_ring","_law_number"] (aS Z Dk):=by
 have nd:=lV.nd;refine bc T.d__law_named.F lV [0,0,0,1,0,1,0,0] (by decide) (λds R h=>by obtain ⟨_,_,_,rfl,_⟩:=h;rfl) (λbM A outer s H E ds R hr h=>?_)
 have hu:=hr.units
 refine ⟨_,(ah (oR 3 nd (oO ag))
   (ah (oQ rfl PassesOwn.never (nK rfl T.B.range (ab (ax aP rfl T.B.len aO (ab (aa 0) ag)) ag)) (aQ 4 nd) (ah (Hu false 3 (az b7 (aa 2) (az bC (aa 4) av)) (aa 4))
   (ar (aF false 2 nd (az e8 (aa 2) (az bC (aa 4) av))))))
   (ah (u9 5 (NC:= ["_law_row"]) (src:= [none]) rfl nd (mH (aq dR)) trivial (bU (aa 0)) (λ_ _ _=>(bQ 0 (show (["_law_row"]:List Str).Nodup from by decide+kernel))) (λ_ _ _=>dJ) (λ_ _ _=>(dZ ag)))
   (ah (eZ rfl PassesOwn.never (gI rfl T.B.enumerate (ab (aa 0) ag)) (fN 2 rfl (bu (aQ 4 nd) (bu (aQ 6 nd) dk))) (ah (aF false 7 nd (az b7 (aa 2) (ax aP rfl T.B.len aO (ab (aa 6) ag))))
   (ah (aF false 2 nd (az e8 (aa 2) (ax aP rfl T.B.len aO (ab (aa 6) ag))))
   (ar (nM 5 (bD (aa 3) (aa 4)) (K3 (NC:= ["_law_other","_law_names"]) (src:= [none,some 3]) rfl (mH (aq dR)) ⟨rfl,rfl,trivial⟩ (bU (az bC (bg (aa 6) (bp (aa 7)) bN) (bg (aa 6) bN (bp (aa 7))))) (λ_ _ _=>(bQ 0 (show (["_law_other","_law_names"]:List Str).Nodup from by decide+kernel))) (λ_ _ _=>dJ) (λ_ _ _=>(bD (aa 1) (aa 0)))))))))
   (ah (aF false 7 nd (az b7 (aa 2) (ax aP rfl T.B.len aO (ab (aa 1) ag))))
   (ar (aM (fv (ab (aa 5) (ab (jZ (NC:= ["_law_point","_law_names"]) (src:= [none,some 3]) rfl (mH (aq dR)) ⟨rfl,rfl,trivial⟩ (bU (az bC (bg (aa 1) (bp (aa 7)) bN) (bg (aa 1) bN (bp (aa 7))))) (λ_ _ _=>(bQ 0 (show (["_law_point","_law_names"]:List Str).Nodup from by decide+kernel))) (λ_ _ _=>dJ) (λ_ _ _=>(bD (aa 1) (aa 0)))) ag)))))))))),?_⟩
 obtain ⟨w',R',num,rfl,g,B,h3,bw,Fl,q⟩:=h;have lw:(w'.map ao).length=w'.length:=List.length_map _;refine ⟨by show 0≤sizeLine;decide,?_⟩
 refine ⟨_,rfl,⟨by omega,by show ((w'.map ao).length:Int)<2^62;omega⟩,?_⟩
 rw [show (((w'.map ao).length:Int)).toNat=w'.length by omega]
 refine qh (λj ρ=>∃(y:Int)(ns:List Nat)(o4 o5 o6 o7:Option D),ρ= [some (aN w'),some (ao R'),some (.int y),some (ao ns),o4,o5,o6,o7]∧wc j ns) ⟨num,[],_,_,_,_,rfl,rfl,kN,λx h=>by cases h⟩ ?_ ?_
 ·rintro j _ hj ⟨y,ns,o4,o5,o6,o7,rfl,hl,nd,lt⟩ A hA
  have mq:=gw y ((j:Int)+1) (by omega)
  have lr:(ns.map ae).length=j:=by rw [List.length_map,hl]
  refine ⟨_,rfl,_,rfl,_,rfl,by show (0:Int)<(j:Int)+1;omega,_,rfl,_,rfl,trivial,⟨mq.1,by rw [lr];show y%((j:Int)+1)≤_;omega,gy (by rw [lr];omega)⟩,?_⟩
  refine ⟨_,rfl,_,rfl,⟨by show (0:Int)<(j:Int)+1;omega,by show (j:Int)+1<1073741824;omega⟩,trivial,?_⟩
  refine hA _ ⟨y / ((j:Int)+1),ins ns (y%((j:Int)+1)).toNat j,some (ae j),o5,o6,o7,?_,by rw [yk,hl],Aq nd (λz=>by have:=lt j z;omega),λx hx=>?_⟩
  ·unfold ao;rw [←CF];rfl
  ·rcases Ft.mp hx with rfl|hx
   ·omega
   ·have:=lt x hx;omega
 ·rintro _ ⟨y,ns,o4,o5,o6,o7,rfl,N⟩
  refine ⟨_,rfl,iU (ρ:= [none]) ao (λ_=> .lst []) w' _ (λy hy Y h=>⟨by show 0≤sizeLine;decide,h⟩) rfl (small (by omega)) λaC=>?_⟩
  have e0:(.lst (w'.map λ_=>(.lst []:D)):D)=aN (w'.map λ_=> []):=by unfold aN;rw [fI];rfl
  refine (?_:qN _ _ _ [some (aN w'),some (ao R'),some (.int y),some (ao ns),o4,some (.lst (w'.map λ_=>(.lst []:D))),o6,o7]);rw [e0];refine ⟨_,rfl,cT (λk ρ=>∃(y:Int)(F:W)(o4 o6 o7:Option D),ρ= [some (aN w'),some (ao R'),some (.int y),some (ao ns),o4,some (aN F),o6,o7]∧NR w' F ns k) ⟨_,_,_,_,_,rfl,by simp,λi h=>by omega⟩ ?_ ?_⟩
  ·rintro k d _ hd ⟨y,F,p4,p6,p7,rfl,nr⟩ A hA
   obtain ⟨d',hy,rfl⟩:=j3 hd;obtain ⟨r,Pn,rfl⟩:=dM hy;have hk:k<w'.length:=(fA.mp Pn).1;have er:row w' k=r:=BQ Pn
   have Ro:0<r.length:=by
    have:=g.BP (by omega) hk
    rw [er] at this;exact rd.mpr this
   have rl:=dA g k;rw [er] at rl;have lr:(r.map ae).length=r.length:=List.length_map _;have e1:(0:Int)<((r.map ae).length:Int):=by rw [lr];omega
   refine ⟨rfl,rfl,?_⟩;refine ⟨_,rfl,_,rfl,e1,trivial,?_⟩;refine ⟨_,rfl,_,rfl,⟨e1,by rw [lr];omega⟩,trivial,?_⟩
   have m1:=gw y ((r.map ae).length:Int) e1;refine lJ [some (aN w'),some (ao R'),some (.int (y / ((r.map ae).length:Int))),some (ao ns),some (ae k),some (aN F),some (ao r),some (.int (y%((r.map ae).length:Int)))] rfl ?_;generalize Lv:y%((r.map ae).length:Int)=at_ at m1;obtain ⟨a,rfl⟩:∃a:Nat,at_=(a:Int):=⟨at_.toNat,by omega⟩
   rw [lr] at m1;have ca:cutD (r.map ae) (some (a:Int)) none=(r.drop a).map ae:=by rw [cX _ _ (by rw [lr];omega),jU]
   have cb:cutD (r.map ae) none (some (a:Int))=(r.take a).map ae:=by rw [cK _ _ (by rw [lr];omega),jd]
   have l2:(r.drop a++r.take a).length=r.length:=by rw [cy,dE,b8];omega
   have kU:(cutD (r.map ae) (some (a:Int)) none).length+(cutD (r.map ae) none (some (a:Int))).length≤sizeLine:=by
    rw [ca,cb,List.length_map,List.length_map];exact small (by rw [cy] at l2;omega)
   refine ⟨_,rfl,_,rfl,_,rfl,_,rfl,kU,?_⟩;refine (?_:lcW _ _ _ (cutD (r.map ae) (some (a:Int)) none++cutD (r.map ae) none (some (a:Int))) _ _ _);rw [ca,cb,←fh];refine iU (ρ:= [none,some (ao ns)]) ae (λo=>ae (ns.getD o 0)) (r.drop a++r.take a) _ (λo ho Y hY=>?_) rfl (small (by omega)) λaC=>?_
   ·have:o∈r:=by
     have:o∈r.take a++r.drop a:=List.perm_append_comm.mem_iff.mp ho
     rw [jT] at this;exact this
    have b0:o<ns.length:=by rw [N.1];exact g.rng k o (by rw [er];exact this)
    exact ⟨_,rfl,_,rfl,_,dN b0,hY⟩
   ·have Pa:k<ns.length:=by rw [N.1];exact hk
    have W9:ns.getD k 0<F.length:=by rw [nr.l];exact N.2.2 _ (aw Pa)
    refine ⟨?_,_,rfl,_,rfl,_,rfl,_,dN Pa,_,ns.getD k 0,rfl,jB (by rw [List.length_map];exact W9),?_⟩
    ·rw [List.all_map,List.all_eq_true];intro x _;rfl
    ·have Qf:=nr.step (a:=a) N hk
     rw [er] at Qf;refine hA _ ⟨y / ((r.map ae).length:Int),_,some (ae k),some (ao r),some (.int (a:Int)),?_,Qf⟩
     have es:(.lst ((F.map ao).set (ns.getD k 0) (.lst ((r.drop a++r.take a).map λo=>ae (ns.getD o 0)))):D)=aN (F.set (ns.getD k 0) ((r.drop a++r.take a).map λx=>ns.getD x 0)):=by
      unfold aN;rw [←qE];unfold ao;rw [fI];rfl
     rw [←es];rfl
  ·rintro _ ⟨y,F,p4,p6,p7,rfl,nr⟩
   rw [nO,lw] at nr;have Rn:=nr.XJ N;have lR:(R'.map ae).length=R'.length:=List.length_map _;have Yx:=Fl.len;have Yy:=Full.qC g Fl;have e1:(0:Int)<((R'.map ae).length:Int):=by rw [lR];omega
   refine ⟨_,rfl,_,rfl,e1,trivial,?_⟩;have m1:=gw y ((R'.map ae).length:Int) e1;refine lJ [some (aN w'),some (ao R'),some (.int y),some (ao ns),p4,some (aN F),p6,some (.int (y%((R'.map ae).length:Int)))] rfl ?_;generalize Lv:y%((R'.map ae).length:Int)=at_ at m1;obtain ⟨a,rfl⟩:∃a:Nat,at_=(a:Int):=⟨at_.toNat,by omega⟩
   rw [lR] at m1;have ca:cutD (R'.map ae) (some (a:Int)) none=(R'.drop a).map ae:=by rw [cX _ _ (by rw [lR];omega),jU]
   have cb:cutD (R'.map ae) none (some (a:Int))=(R'.take a).map ae:=by rw [cK _ _ (by rw [lR];omega),jd]
   have l2:(R'.drop a++R'.take a).length=R'.length:=by rw [cy,dE,b8];omega
   have kU:(cutD (R'.map ae) (some (a:Int)) none).length+(cutD (R'.map ae) none (some (a:Int))).length≤sizeLine:=by
    rw [ca,cb,List.length_map,List.length_map];exact small (by rw [cy] at l2;omega)
   have Fr:Full w' (R'.drop a++R'.take a):=by
    have:=Fl
    rw [←jT a R'] at this;exact this.ud
   refine ⟨_,rfl,_,rfl,_,rfl,_,rfl,_,rfl,kU,?_⟩;refine (?_:lcW _ _ _ (cutD (R'.map ae) (some (a:Int)) none++cutD (R'.map ae) none (some (a:Int))) _ _ _);rw [ca,cb,←fh];refine iU (ρ:= [none,some (ao ns)]) ae (λo=>ae (ns.getD o 0)) (R'.drop a++R'.take a) _ (λo ho Y hY=>?_) rfl (small (by omega)) λaC=>?_
   ·have b0:o<ns.length:=by rw [N.1];exact g.rng _ _ (Fr.ring o ho).1
    exact ⟨_,rfl,_,rfl,_,dN b0,hY⟩
   ·refine ⟨by show 2≤sizeLine;decide,?_⟩
    have e2:(.lst ((R'.drop a++R'.take a).map λo=>ae (ns.getD o 0)):D)=ao ((R'.drop a++R'.take a).map λx=>ns.getD x 0):=by unfold ao;rw [fI];rfl
    have:=q F ((R'.drop a++R'.take a).map λx=>ns.getD x 0) (Rn.good g) (Rn.bnd g B) nr.l (Rn.full g Fr)
    rw [←e2] at this;exact this
variable {P:Program} {w:World} {mg:Str→Option Value} {base:Heap} {Z:DC} (T:Txt Z mg)
theorem wZ{x:Nat}:∀(ns:List Nat)(m:Nat),m<ns.idxOf x→ns[m]? ≠some x
 | [],m,h=>by simp at h
 |a::ns,m,h=>by
  rw [wa] at h
  by_cases e:(a==x)=true
  ·rw [e] at h;simp at h
  ·rw [ur.mpr e] at h
   cases m with
   |zero=>intro z;simp at z;exact e (by simp [z])
   |succ m=>rw [uy];exact wZ ns m (by simpa using h)
theorem z9{ns:List Nat}{x:Nat}{P:D→Prop}(h:x∈ns)(q:P (ae (ns.idxOf x))):fi (ae x)=true∧(ns.map ae).all fi=true∧∃(j:Nat)(z:D),(ns.map ae)[j]? =some z∧iR z (ae x)=true∧(∀(m:Nat) z,m<j→(ns.map ae)[m]? =some z→iR z (ae x)=false)∧P (.int (j:Nat)):=by
 have hl:=eu.mpr h;have e:ns[ns.idxOf x]? =some x:=by rw [bq hl];exact congrArg some (fH hl)
 refine ⟨rfl,bO _,ns.idxOf x,ae x,by rw [eC,e];rfl,by simp [iR,ae],λm z hm hz=>?_,q⟩
 obtain ⟨y,hy,rfl⟩:=dM hz
 have:y≠x:=by
  rintro rfl;exact wZ _ _ hm hy
 have:¬((y:Int)=(x:Int)):=by omega
 simpa [iR,ae] using this
theorem aR{ns:List Nat}{x:Nat}(h:x∈ns):(ns.map ae)[ns.idxOf x]? =some (ae x)∧iR (ae x) (ae x)=true∧∀(m:Nat) z,m<ns.idxOf x→(ns.map ae)[m]? =some z→iR z (ae x)=false:=by
 have:=z9 (P:=λd=>d=ae (ns.idxOf x)) h rfl
 obtain ⟨_,_,j,z,h1,h2,h3,h4⟩:=this;have hl:=eu.mpr h;have e:ns[ns.idxOf x]? =some x:=by rw [bq hl];exact congrArg some (fH hl)
 refine ⟨by rw [eC,e];rfl,by simp [iR,ae],λm z hm hz=>?_⟩
 obtain ⟨y,hy,rfl⟩:=dM hz
 have:y≠x:=by
  rintro rfl;exact wZ _ _ hm hy
 have:¬((y:Int)=(x:Int)):=by omega
 simpa [iR,ae] using this
theorem El{t u:eD}{E:gh}{ρ:DN}(h:t {E with nx:=u E} ρ):qN t u E ρ:=h
theorem oh(n:Nat):di 0 n=(List.range n).map λ(x:Nat)=>ae x:=by unfold di ae;simp
def Gu:cV:=λds P=>∃(ns:List Int),ds= [.jR ns]∧∀F R,Good F→iL F→3≤F.length→F.length≤14→Full F R→P (.tup [aN F,ao R])
theorem tW:FnOk P w Z.K mg base cP 2 T.d__law_built.f T.d__law_built.fd ["_law_script"] (aS Z Gu):=by
 have nd:=lQ.nd;refine bc T.d__law_built.F lQ [0,0,0,0,0,0,0] (by decide) (λds R h=>by obtain ⟨_,rfl,_⟩:=h;rfl) (λbM A outer s H E ds R hr h=>?_)
 have hu:=hr.units
 refine ⟨_,(ah (wD (aA T.d__law_grown (tX T) hr (ab (aA T.d__law_drawn (fQ T) hr (ab (aA T.d__law_cell_at (dr T) hr (ab (aa 0) (ab av ag))) ag)) ag)) (fN 2 rfl (bu (aQ 1 nd) (bu (aQ 2 nd) dk))))
   (ah (aF false 3 nd (aA T.d__law_drawn (fQ T) hr (ab (aA T.d__law_cell_at (dr T) hr (ab (aa 0) (ab av ag))) ag)))
   (ah (cL (aU (n5 hu) (ax aP rfl T.B.len aO (ab (aa 2) ag)) av (bF _)) (ah (aF false 4 nd (az b7 (aa 3) (ax aP rfl T.B.len aO (ab (aa 1) ag))))
   (ah (aF false 5 nd (bD (bD (aa 1) (aa 4)) (az b7 (az e8 (aa 3) (ax aP rfl T.B.len aO (ab (aa 1) ag))) (ax aP rfl T.B.len aO (ab (bD (aa 1) (aa 4)) ag)))))
   (ah (aF false 6 nd (bD (aa 1) (aa 5)))
   (ar (aF false 2 nd (dZ (ab (aa 4) (ab (aa 5) (ab (bD (aa 6) (az b7 (az bC (hJ (aa 6) (aa 4)) av) (ax aP rfl T.B.len aO (ab (aa 6) ag)))) ag))))))))) bH)
   (ar (aM (aA T.d__law_named (tY T) hr (ab (aa 1) (ab (aa 2) (ab (aA T.d__law_drawn (fQ T) hr (ab (aA T.d__law_cell_at (dr T) hr (ab (aa 0) (ab av ag))) ag)) ag))))))))),?_⟩
 obtain ⟨ns,rfl,q⟩:=h;refine ⟨_,rfl,ns,0,rfl,λv0=>⟨v0,rfl,λv1=>⟨v1,rfl,λw' R' Gr h3 bw=>?_⟩⟩⟩;refine ⟨rfl,rfl,?_⟩;refine ⟨_,rfl,ns,4,rfl,λv2=>⟨v2,rfl,λv3=>⟨trivial,?_⟩⟩⟩;have lR:(R'.map ae).length=R'.length:=List.length_map _;have lw:(w'.map ao).length=w'.length:=List.length_map _;refine ⟨_,rfl,?_⟩;dsimp only [u6,xJ];refine Hw ⟨_,rfl,cu (λe=>?_) (λe=>?_)⟩
 ·have e3:R'.length=3:=by have:=of_decide_eq_true e;omega
  have tri:=λd hd=>Gr.three e3 (d:=d) hd;have e1:(0:Int)<((w'.map ao).length:Int):=by rw [lw];omega
  refine ⟨_,rfl,_,rfl,e1,trivial,?_⟩;have m1:=gw v3 ((w'.map ao).length:Int) e1;refine lJ [some (.jR ns),some (aN w'),some (ao R'),some (.int v3),some (.int (v3%((w'.map ao).length:Int))),none,none] rfl ?_;generalize v3%((w'.map ao).length:Int)=x1 at m1;obtain ⟨p,rfl⟩:∃a:Nat,x1=(a:Int):=⟨x1.toNat,by omega⟩
  rw [lw] at m1;have hp:p<w'.length:=by omega
  have Ro:0<(row w' p).length:=rd.mpr (Gr.g.BP (by omega) hp)
  have rl:=dA Gr.g p;have lr:((row w' p).map ae).length=(row w' p).length:=List.length_map _;have e2:(0:Int)<(((row w' p).map ae).length:Int):=by rw [lr];omega
  have m2:=gw (v3 / ((w'.map ao).length:Int)) (((row w' p).map ae).length:Int) e2
  have at2:fM ((row w' p).map ae) (v3 / ((w'.map ao).length:Int)%(((row w' p).map ae).length:Int))=some (ae ((row w' p).getD (v3 / ((w'.map ao).length:Int)%(((row w' p).map ae).length:Int)).toNat 0)):=by
   have:=dN (ns:=row w' p) (p:=(v3 / ((w'.map ao).length:Int)%(((row w' p).map ae).length:Int)).toNat) (by omega)
   rw [Int.toNat_of_nonneg m2.1] at this;exact this
  have qm:(row w' p).getD (v3 / ((w'.map ao).length:Int)%(((row w' p).map ae).length:Int)).toNat 0∈row w' p:=aw (by omega)
  generalize (row w' p).getD (v3 / ((w'.map ao).length:Int)%(((row w' p).map ae).length:Int)).toNat 0=o at at2 qm;refine ⟨_,rfl,_,rfl,_,gL hp,_,rfl,_,rfl,⟨e1,by rw [lw];omega⟩,_,rfl,_,rfl,_,gL hp,e2,_,at2,trivial,?_⟩
  have ho:o<w'.length:=Gr.g.rng _ _ qm;refine ⟨_,rfl,_,rfl,_,gL ho,trivial,?_⟩;have po:p∈row w' o:=Gr.g.sym _ _ qm;have QR:0<(row w' o).length:=zh po;have lo:((row w' o).map ae).length=(row w' o).length:=List.length_map _;have e4:(0:Int)<(((row w' o).map ae).length:Int):=by rw [lo];omega
  have e5:(((row w' o).idxOf p:Int)+1)%(((row w' o).map ae).length:Int)=((((row w' o).idxOf p+1)%(row w' o).length:Nat):Int):=by rw [lo,Int.natCast_emod];rfl
  have SX:fM ((row w' o).map ae) ((((row w' o).idxOf p:Int)+1)%(((row w' o).map ae).length:Int))=some (ae (af (row w' o) p)):=by
   rw [e5];exact dN (je _ QR)
  refine ⟨_,rfl,_,rfl,_,rfl,_,rfl,_,rfl,_,rfl,rfl,bO _,_,_,(aR po).1,(aR po).2.1,(aR po).2.2,_,rfl,e4,_,SX,by show 3≤sizeLine;decide,trivial,?_⟩
  exact ⟨_,rfl,_,rfl,_,rfl,ns,1,rfl,λv4=>⟨v4,rfl,λv5=>⟨w',[p,o,af (row w' o) p],v5,rfl,Gr.g,Gr.bnd,h3,bw,Ah Gr.g tri qm,λF R2 g B hl fl=>q F R2 g B (by omega) (by omega) fl⟩⟩⟩
 ·exact ⟨_,rfl,_,rfl,_,rfl,ns,1,rfl,λv4=>⟨v4,rfl,λv5=>⟨w',R',v5,rfl,Gr.g,Gr.bnd,h3,bw,Gr.full,λF R2 g B hl fl=>q F R2 g B (by omega) (by omega) fl⟩⟩⟩
def IV:cV:=λds P=>∃(w:W),ds= [aN w]∧Good w∧1≤w.length∧w.length≤14∧P (.eT w)
theorem w9:FnOk P w Z.K mg base cP 6 T.d__law_web.f T.d__law_web.fd ["_law_turns"] (aS Z IV):=by
 have nd:=pK.nd;refine bc T.d__law_web.F pK [0] (by decide) (λds R h=>by obtain ⟨_,rfl,_⟩:=h;rfl) (λbM A outer s H E ds R hr h=>?_)
 have hu:=hr.units;refine ⟨_,(ar (aM (Ep T.mkW (qx T) (hr.mono (by decide)) rfl T.mC T.m___init__b (ab (jZ (NC:= ["_law_row"]) (src:= [none]) rfl (mH (aq iZ)) trivial (bU (aa 0)) (λ_ _ _=>(bQ 0 (show (["_law_row"]:List Str).Nodup from by decide+kernel))) (λ_ _ _=>dJ) (λ_ _ _=>(nI sQ rfl T.B.list oI (ab (aa 0) ag)))) ag)))),?_⟩
 obtain ⟨w',rfl,g,h1,bw,q⟩:=h;exact ⟨_,rfl,iU (ρ:= [none]) ao ao w' _ (λy hy Y h=>⟨_,rfl,h⟩) rfl (small (by omega)) λaC=>⟨w',rfl,g,h1,bw,q⟩⟩
end p9
namespace Wb
structure gF (w:W) (R:List Nat):Prop where
 nd:R.Nodup
 len:3≤R.length
 tie:∀p∈R,af R p∈row w p
theorem Disc.nh{w:W}{R:List Nat}{A:Nat×Nat→Prop}(D:Disc w R A)(g:Good w):gF w R:=⟨D.nd,D.len,λp hp=>g.sym _ _ (D.ring p hp).1⟩
section
variable {w:W} {R:List Nat}
def iz(l:List Nat)(a:Nat):List Nat:=l.drop (l.idxOf a+1)++l.take (l.idxOf a)
theorem g9(w:W)(R:List Nat)(i:Nat):withinL w R i=(iz (row w (R.getD i 0)) (R.getD ((i+1)%R.length) 0)).take ((iz (row w (R.getD i 0)) (R.getD ((i+1)%R.length) 0)).idxOf (R.getD (bB R i) 0)):=rfl
theorem AH{l:List Nat}{a x:Nat}(ha:a∈l)(hx:x∈l)(ne:x≠a):x∈iz l a:=by
 have:=(iA l a).mem_iff.mpr hx
 rw [kj ha] at this
 rcases b9.mp this with e|e
 ·exact absurd e ne
 ·exact e
theorem kh{l:List Nat}{a:Nat}(ha:a∈l):(iz l a).length+1=l.length:=by
 have:=mz l a
 rw [kj ha,eU] at this;exact this
theorem gF.lt(T:gF w R)(g:Good w){x:Nat}(h:x∈R):x<w.length:=bG (T.tie x h)
theorem gF.next(T:gF w R){i:Nat}(hi:i<R.length):R.getD ((i+1)%R.length) 0∈row w (R.getD i 0):=by
 rw [←h8 T.nd hi];exact T.tie _ (aw hi)
theorem gF.prev(T:gF w R)(g:Good w){i:Nat}(hi:i<R.length):R.getD (bB R i) 0∈row w (R.getD i 0):=by
 have:=T.tie _ (aw (dQ hi))
 rw [fF T.nd hi] at this;exact g.sym _ _ this
theorem gF.pn(T:gF w R){i:Nat}(hi:i<R.length):R.getD (bB R i) 0≠R.getD ((i+1)%R.length) 0:=by
 intro e;have len:=T.len
 have:=getD_inj T.nd (dQ hi) (je _ (by omega)) e
 unfold bB at this
 by_cases c:i+1<R.length
 ·rw [eV c] at this
  split at this<;>omega
 ·rw [show i+1=R.length by omega,oH] at this
  split at this<;>omega
theorem gF.F3(T:gF w R)(g:Good w){i:Nat}(hi:i<R.length):R.getD (bB R i) 0∈iz (row w (R.getD i 0)) (R.getD ((i+1)%R.length) 0):=AH (T.next hi) (T.prev g hi) (T.pn hi)
theorem gF.qC(T:gF w R)(g:Good w):R.length≤w.length:=by
 have:=aX T.nd (m:=List.range w.length) λx hx=>cg.mpr (T.lt g hx)
 rw [gd] at this;exact this
end
end Wb
namespace p9
open PySem L2 Wb
variable {P:Program} {w:World} {mg:Str→Option Value} {base:Heap} {Z:DC} (T:Txt Z mg)
theorem vJ{R:List Nat}{i:Nat}(hi:i<R.length):fM (R.map ae) ((i:Int)-1)=some (ae (R.getD (bB R i) 0)):=by
 have lR:(R.map ae).length=R.length:=List.length_map _;have lt:=dQ hi;refine G9 (j:=bB R i) lR ?_ (by rw [eC,aJ,bq lt];rfl)
 unfold nV bB
 by_cases c:i=0
 ·rw [if_pos c,if_neg (by omega),if_pos (by omega)]
  congr 1
  omega
 ·rw [if_neg c,if_pos (by omega),if_pos (by omega)]
  congr 1
  omega
theorem vA{R:List Nat}{i:Nat}(hi:i<R.length):fM (R.map ae) (((i:Int)+1)%((R.map ae).length:Int))=some (ae (R.getD ((i+1)%R.length) 0)):=by
 have lR:(R.map ae).length=R.length:=List.length_map _;have e:((i:Int)+1)%((R.map ae).length:Int)=(((i+1)%R.length:Nat):Int):=by rw [lR,Int.natCast_emod];rfl
 rw [e];exact dN (je _ (by omega))
def Dm:cV:=λds P=>∃(w:W)(R:List Nat)(i:Nat),ds= [aN w,ao R,ae i]∧Good w∧w.length≤14∧gF w R∧i<R.length∧P (ao (withinL w R i))
theorem ky:FnOk P w Z.K mg base cP 1 T.d__law_within.f T.d__law_within.fd ["_law_turns","_law_ring","_law_i"] (aS Z Dm):=by
 have nd:=kE.nd;refine bc T.d__law_within.F kE [0,0,0,0,0] (by decide) (λds R h=>by obtain ⟨_,_,_,rfl,_⟩:=h;rfl) (λbM A outer s H E ds R hr h=>?_)
 have hu:=hr.units
 refine ⟨_,(ah (aF false 3 nd (bD (aa 0) (bD (aa 1) (aa 2))))
   (ah (aF false 4 nd (hJ (aa 3) (bD (aa 1) (az b7 (az bC (aa 2) av) (ax aP rfl T.B.len aO (ab (aa 1) ag))))))
   (ah (aF false 3 nd (az bC (bg (aa 3) (bp (az bC (aa 4) av)) bN) (bg (aa 3) bN (bp (aa 4)))))
   (ar (aM (bg (aa 3) bN (bp (hJ (aa 3) (bD (aa 1) (az j9 (aa 2) av)))))))))),?_⟩
 obtain ⟨w',R',i,rfl,g,bw,Ti,hi,q⟩:=h;have lR:(R'.map ae).length=R'.length:=List.length_map _;have h3:=Ti.len;have e0:(0:Int)<((R'.map ae).length:Int):=by rw [lR];omega
 have ML:=Ti.lt g (aw hi);have rl:=dA g (R'.getD i 0);have nm:=Ti.next hi;have lr:((row w' (R'.getD i 0)).map ae).length=(row w' (R'.getD i 0)).length:=List.length_map _;refine ⟨_,rfl,_,rfl,_,rfl,_,dN hi,_,gL ML,trivial,?_⟩;refine ⟨_,rfl,_,rfl,_,rfl,_,rfl,_,rfl,e0,_,vA hi,rfl,bO _,_,_,(aR nm).1,(aR nm).2.1,(aR nm).2.2,trivial,?_⟩;have il:=eu.mpr nm
 have ca:cutD ((row w' (R'.getD i 0)).map ae) (some (((row w' (R'.getD i 0)).idxOf (R'.getD ((i+1)%R'.length) 0):Int)+1)) none=((row w' (R'.getD i 0)).drop ((row w' (R'.getD i 0)).idxOf (R'.getD ((i+1)%R'.length) 0)+1)).map ae:=by
  have:=cX ((row w' (R'.getD i 0)).map ae) ((row w' (R'.getD i 0)).idxOf (R'.getD ((i+1)%R'.length) 0)+1) (by rw [lr];omega)
  rw [jU];exact this
 have cb:cutD ((row w' (R'.getD i 0)).map ae) none (some ((row w' (R'.getD i 0)).idxOf (R'.getD ((i+1)%R'.length) 0):Int))=((row w' (R'.getD i 0)).take ((row w' (R'.getD i 0)).idxOf (R'.getD ((i+1)%R'.length) 0))).map ae:=by rw [cK _ _ (by rw [lr];omega),jd]
 have Ms:=kh nm
 have sz:(cutD ((row w' (R'.getD i 0)).map ae) (some (((row w' (R'.getD i 0)).idxOf (R'.getD ((i+1)%R'.length) 0):Int)+1)) none).length+(cutD ((row w' (R'.getD i 0)).map ae) none (some ((row w' (R'.getD i 0)).idxOf (R'.getD ((i+1)%R'.length) 0):Int))).length≤sizeLine:=by
  rw [ca,cb,List.length_map,List.length_map];unfold iz at Ms;rw [cy] at Ms;exact small (by omega)
 have er:(.lst (cutD ((row w' (R'.getD i 0)).map ae) (some (((row w' (R'.getD i 0)).idxOf (R'.getD ((i+1)%R'.length) 0):Int)+1)) none++cutD ((row w' (R'.getD i 0)).map ae) none (some ((row w' (R'.getD i 0)).idxOf (R'.getD ((i+1)%R'.length) 0):Int))):D)=ao (iz (row w' (R'.getD i 0)) (R'.getD ((i+1)%R'.length) 0)):=by rw [ca,cb];unfold ao iz;rw [fh]
 refine ⟨_,rfl,_,rfl,_,rfl,_,rfl,sz,trivial,?_⟩;refine lJ [some (aN w'),some (ao R'),some (ae i),some (.lst (cutD ((row w' (R'.getD i 0)).map ae) (some (((row w' (R'.getD i 0)).idxOf (R'.getD ((i+1)%R'.length) 0):Int)+1)) none++cutD ((row w' (R'.getD i 0)).map ae) none (some ((row w' (R'.getD i 0)).idxOf (R'.getD ((i+1)%R'.length) 0):Int)))),some (ae ((row w' (R'.getD i 0)).idxOf (R'.getD ((i+1)%R'.length) 0)))] rfl ?_;rw [er];have pm:=Ti.F3 g hi;have pl:=eu.mpr pm;refine ⟨_,rfl,_,rfl,_,rfl,_,rfl,_,rfl,_,vJ hi,rfl,bO _,_,_,(aR pm).1,(aR pm).2.1,(aR pm).2.2,?_⟩
 have ef:ao (withinL w' R' i)= .lst (cutD ((iz (row w' (R'.getD i 0)) (R'.getD ((i+1)%R'.length) 0)).map ae) none (some ((iz (row w' (R'.getD i 0)) (R'.getD ((i+1)%R'.length) 0)).idxOf (R'.getD (bB R' i) 0):Int))):=by
  rw [g9,cK _ _ (by rw [List.length_map];omega),←jd];rfl
 rw [ef] at q;exact q
variable {P:Program} {w:World} {mg:Str→Option Value} {base:Heap} {Z:DC} (T:Txt Z mg)
def fC(w:W)(R:List Nat)(i:Nat):List (Nat×Nat):=((List.range (R.length-(i+1))).filter λk=>decide (R.getD (i+1+k) 0∈withinL w R i)).map λk=>(i,i+1+k)
def aG(w:W)(R:List Nat)(m:Nat):List (Nat×Nat):=(List.range m).flatMap (fC w R)
theorem xQ{w:W}{R:List Nat}{m i j:Nat}(h:(i,j)∈aG w R m):i<j∧j<R.length∧R.getD j 0∈withinL w R i:=by
 unfold aG at h;obtain ⟨i',_,h⟩:=pX.mp h;unfold fC at h;obtain ⟨k,hk,e⟩:=bx.mp h;obtain ⟨rfl,rfl⟩:=Prod.mk.injEq .. ▸e;obtain ⟨h1,h2⟩:=iJ.mp hk
 have:=cg.mp h1
 exact ⟨by omega,by omega,of_decide_eq_true h2⟩
theorem qG{w:W}{R:List Nat}{i j:Nat}(h1:i<j)(h2:j<R.length)(h3:R.getD j 0∈withinL w R i):(i,j)∈aG w R R.length:=by
 unfold aG;refine pX.mpr ⟨i,cg.mpr (by omega),?_⟩
 unfold fC;refine bx.mpr ⟨j-(i+1),iJ.mpr ⟨cg.mpr (by omega),decide_eq_true ?_⟩,?_⟩
 ·rw [show i+1+(j-(i+1))=j by omega];exact h3
 ·rw [show i+1+(j-(i+1))=j by omega]
theorem mT(w:W)(R:List Nat)(i:Nat):(fC w R i).length≤R.length:=by
 unfold fC;rw [List.length_map]
 have:=vT (λk=>decide (R.getD (i+1+k) 0∈withinL w R i)) (List.range (R.length-(i+1)))
 rw [gd] at this;omega
theorem lg(w:W)(R:List Nat):∀m,(aG w R m).length≤m*R.length
 |0=>by simp [aG]
 |m+1=>by
  have:=lg w R m
  have h2:=mT w R m;unfold aG at this ⊢;rw [uF,vX,cy,jc,v9,nz,Nat.succ_mul];omega
def Df:cV:=λds P=>∃(w:W)(R:List Nat),ds= [aN w,ao R]∧Good w∧w.length≤14∧gF w R∧P (.lst ((aG w R R.length).map pairD))
theorem rH:FnOk P w Z.K mg base cP 2 T.d__law_chords.f T.d__law_chords.fd ["_law_turns","_law_ring"] (aS Z Df):=by
 have nd:=kA.nd;refine bc T.d__law_chords.F kA [0,0,0,0,0] (by decide) (λds R h=>by obtain ⟨_,_,rfl,_⟩:=h;rfl) (λbM A outer s H E ds R hr h=>?_)
 have hu:=hr.units
 refine ⟨_,(ah (aF false 2 nd (dZ ag))
   (ah (oQ rfl PassesOwn.never (nK rfl T.B.range (ab (ax aP rfl T.B.len aO (ab (aa 1) ag)) ag)) (aQ 3 nd) (ah (aF false 4 nd (aA T.d__law_within (ky T) hr (ab (aa 0) (ab (aa 1) (ab (aa 3) ag)))))
   (ar (aF false 2 nd (az bC (aa 2) (jZ (NC:= ["_law_j","_law_i","_law_inner","_law_ring"]) (src:= [none,some 3,some 4,some 1]) rfl (mH (aq fT)) ⟨rfl,rfl,rfl,rfl,rfl,rfl,trivial⟩ (zA rfl T.B.range (ab (az bC (aa 3) av) (ab (ax aP rfl T.B.len aO (ab (aa 1) ag)) ag))) (λ_ _ _=>(bQ 0 (show (["_law_j","_law_i","_law_inner","_law_ring"]:List Str).Nodup from by decide+kernel))) (λ_ _ _=>(ij (aU n6 (bD (aa 3) (aa 0)) (aa 2) (by with_unfolding_all rfl)))) (λ_ _ _=>(fv (ab (aa 1) (ab (aa 0) ag))))))))))
   (ar (aM (aa 2))))),?_⟩
 obtain ⟨w',R',rfl,g,bw,Ti,q⟩:=h;have lR:(R'.map ae).length=R'.length:=List.length_map _;have h3:=Ti.len;have hR:=Ti.qC g;refine ⟨by show 0≤sizeLine;decide,trivial,?_⟩
 refine ⟨_,rfl,⟨by omega,by show ((R'.map ae).length:Int)<2^62;omega⟩,?_⟩
 rw [show (((R'.map ae).length:Int)).toNat=R'.length by omega]
 refine qh (λi ρ=>∃(o3 o4:Option D),ρ= [some (aN w'),some (ao R'),some (.lst ((aG w' R' i).map pairD)),o3,o4]) ⟨_,_,rfl⟩ ?_ ?_
 ·rintro i _ hi ⟨o3,o4,rfl⟩ A hA
  refine ⟨_,rfl,_,rfl,_,rfl,w',R',i,rfl,g,bw,Ti,hi,trivial,?_⟩;have cl:=lg w' R' i;have c2:i*R'.length≤14*14:=Nat.mul_le_mul (by omega) (by omega)
  have cA:=mT w' R' i;refine ⟨_,rfl,_,rfl,_,rfl,⟨by show-(2^62)≤(i:Int)+1;omega,by show (i:Int)+1<2^62;omega,by show-(2^62)≤((R'.map ae).length:Int);omega,by show ((R'.map ae).length:Int)<2^62;omega⟩,?_⟩
  have er:di ((i:Int)+1) (((R'.map ae).length:Int)-((i:Int)+1)).toNat=(List.range (R'.length-(i+1))).map λ(k:Nat)=>D.int ((i:Int)+1+(k:Int)):=by
   unfold di;rw [show (((R'.map ae).length:Int)-((i:Int)+1)).toNat=R'.length-(i+1) by omega]
  refine (?_:lcW _ _ _ (di ((i:Int)+1) (((R'.map ae).length:Int)-((i:Int)+1)).toNat) _ _ _);rw [er];refine iq (ρ:= [none,some (ae i),some (ao (withinL w' R' i)),some (ao R')]) (λ(k:Nat)=>D.int ((i:Int)+1+(k:Int))) (λk=>decide (R'.getD (i+1+k) 0∈withinL w' R' i)) (λk=>pairD (i,i+1+k)) (List.range (R'.length-(i+1))) _ [] _ (λk hk Y Nn t1 t2=>?_) ⟨none,rfl⟩ (by rw [iI,gd];exact small (by omega)) λaC=>?_
  ·have hk:=cg.mp hk
   have ai:fM (R'.map ae) ((i:Int)+1+(k:Int))=some (ae (R'.getD (i+1+k) 0)):=by
    have:=dN (ns:=R') (p:=i+1+k) (by omega)
    rw [show (i:Int)+1+(k:Int)=((i+1+k:Nat):Int) by omega]
    exact this
   refine ⟨_,rfl,_,rfl,_,ai,_,rfl,rfl,bO _,_,rfl,?_⟩;refine (?_:if (if false=true then _ else inD (ae (R'.getD (i+1+k) 0)) ((withinL w' R' i).map ae))=true then _ else _);rw [if_neg dW,fO];refine cu (λe=>?_) (λe=>t2 e)
   have:=t1 e
   refine ⟨_,rfl,_,rfl,by show 2≤sizeLine;decide,?_⟩
   have ep:pairD (i,i+1+k)= .tup [.int (i:Int), .int ((i:Int)+1+(k:Int))]:=by
    unfold pairD;rw [show (((i+1+k:Nat)):Int)=(i:Int)+1+(k:Int) by omega]
   rw [ep] at this;exact this
  ·have e2: []++((List.range (R'.length-(i+1))).filter λk=>decide (R'.getD (i+1+k) 0∈withinL w' R' i)).map (λk=>pairD (i,i+1+k))=(fC w' R' i).map pairD:=by
    unfold fC;rw [kM,fI];rfl
   rw [e2];refine ⟨by rw [List.length_map,List.length_map];exact small (by omega),trivial,?_⟩
   refine hA _ ⟨some (ae i),some (ao (withinL w' R' i)),?_⟩
   have e3:(aG w' R' (i+1)).map pairD=(aG w' R' i).map pairD++(fC w' R' i).map pairD:=by
    unfold aG;rw [uF,vX,jc,v9,nz,fh]
   rw [e3];rfl
 ·rintro _ ⟨o3,o4,rfl⟩
  exact ⟨_,rfl,q⟩
def Dh:cV:=λds P=>∃(R:List Nat)(i j:Nat),ds= [ao R,ae i,ae j]∧R.length≤14∧i<j∧j<R.length∧P (.lst [ao ((R.take (j+1)).drop i),ao (R.drop j++R.take (i+1))])
theorem u4{α:Type}(l:List α)(i j:Nat)(h:i≤j)(hj:j≤l.length):cutD l (some (i:Int)) (some (j:Int))=(l.take j).drop i:=by
 unfold cutD
 have e1:HT.bL l.length 0 (some (i:Int))=i:=by
  simp only [HT.bL]
  split<;>omega
 have e2:HT.bL l.length l.length (some (j:Int))=j:=by
  simp only [HT.bL]
  split<;>omega
 rw [e1,e2,List.drop_take]
theorem rJ:FnOk P w Z.K mg base cP 1 T.d__law_halves.f T.d__law_halves.fd ["_law_ring","_law_i","_law_j"] (aS Z Dh):=by
 have nd:=kB.nd;refine bc T.d__law_halves.F kB [0,0,0] (by decide) (λds R h=>by obtain ⟨_,_,_,rfl,_⟩:=h;rfl) (λbM A outer s H E ds R hr h=>?_)
 have hu:=hr.units;refine ⟨_,(ar (aM (dZ (ab (bg (aa 0) (bp (aa 1)) (bp (az bC (aa 2) av))) (ab (az bC (bg (aa 0) (bp (aa 2)) bN) (bg (aa 0) bN (bp (az bC (aa 1) av)))) ag))))),?_⟩;obtain ⟨R',i,j,rfl,bw,rD,hj,q⟩:=h;have lR:(R'.map ae).length=R'.length:=List.length_map _
 have c1:cutD (R'.map ae) (some (i:Int)) (some ((j:Int)+1))=((R'.take (j+1)).drop i).map ae:=by
  have:=u4 (R'.map ae) i (j+1) (by omega) (by rw [lR];omega)
  rw [jU,jd];exact this
 have c2:cutD (R'.map ae) (some (j:Int)) none=(R'.drop j).map ae:=by rw [cX _ _ (by rw [lR];omega),jU]
 have c3:cutD (R'.map ae) none (some ((i:Int)+1))=(R'.take (i+1)).map ae:=by
  have:=cK (R'.map ae) (i+1) (by rw [lR];omega)
  rw [jd];exact this
 have sz:(cutD (R'.map ae) (some (j:Int)) none).length+(cutD (R'.map ae) none (some ((i:Int)+1))).length≤sizeLine:=by
  rw [c2,c3,List.length_map,List.length_map,dE,b8];exact small (by omega)
 refine ⟨_,rfl,_,rfl,_,rfl,_,rfl,_,rfl,_,rfl,_,rfl,sz,by show 2≤sizeLine;decide,?_⟩
 have e:(.lst [.lst (cutD (R'.map ae) (some (i:Int)) (some ((j:Int)+1))), .lst (cutD (R'.map ae) (some (j:Int)) none++cutD (R'.map ae) none (some ((i:Int)+1)))]:D)= .lst [ao ((R'.take (j+1)).drop i),ao (R'.drop j++R'.take (i+1))]:=by
  rw [c1,c2,c3];unfold ao;rw [fh]
 rw [←e] at q;exact q
variable {P:Program} {w:World} {mg:Str→Option Value} {base:Heap} {Z:DC} (T:Txt Z mg)
theorem iy{α:Type}{f:α→D}{g:α→PyData}(h:∀a,(f a).py=some (g a)):∀l:List α,fw (l.map f)=some (l.map g)
 | []=>rfl
 |a::l=>by
  have:=iy h l
  rw [iK,fw,h a,this];rfl
theorem ne_nil{l:List D}{ps:List PyData}{P:D→Prop}(h:fw l=some ps)(hd:(PyData.list ps).depth≤64)(q:P (.bl (!l.isEmpty))):Hk (.lst l) (.lst []) P:=by
 refine ⟨.list ps, .list [],by rw [D.py,h];rfl,rfl,hd,?_⟩
 have:PyData.eqv (.list ps) (.list [])=l.isEmpty:=by
  cases l with
  |nil=>
   have:ps= []:=(Option.some.inj h).symm
   rw [this];decide
  |cons a l=>
   cases ps with
   |nil=>
    rw [fw] at h;cases e:a.py with
    |none=>rw [e] at h;cases h
    |some x=>
     rw [e] at h;cases e2:fw l with
     |none=>rw [e2] at h;cases h
     |some y=>rw [e2] at h;cases h
   |cons b ps=>rw [PyData.eqv];rfl
 rw [if_pos rfl,this];exact q
theorem yO(t:Nat×Nat):(pairD t).py=some (.tuple [.int (t.1:Nat), .int (t.2:Nat)]):=rfl
theorem B0{x:Int}{a b:D}:fM [a,b] (x%2)=some a∨fM [a,b] (x%2)=some b:=by
 have h:x%2=0∨x%2=1:=by omega
 rcases h with e|e
 ·left;rw [e];rfl
 ·right;rw [e];rfl
theorem sW{α:Type}(l:List α)(h:0<l.length):cutD l none (some (-1))=l.dropLast:=by
 unfold cutD;have e1:HT.bL l.length 0 none=0:=rfl
 have e2:HT.bL l.length l.length (some (-1))=l.length-1:=by
  simp only [HT.bL]
  split<;>omega
 rw [e1,e2,List.drop_zero,List.dropLast_eq_take,Nat.sub_zero]
def Di:cV:=λds P=>∃(w:W)(R:List Nat)(num:Int),ds= [aN w,ao R, .int num]∧Good w∧iL w∧w.length≤14∧∃A,Disc w R A∧∀R2,(R2.length=2∨∃A',Disc w R2 A'∧cnt w A'<cnt w A)→P (ao R2)
theorem rK:FnOk P w Z.K mg base cP 3 T.d__law_lesser.f T.d__law_lesser.fd ["_law_turns","_law_ring","_law_number"] (aS Z Di):=by
 have nd:=kC.nd;refine bc T.d__law_lesser.F kC [0,0,0,0,0,0,0] (by decide) (λds R h=>by obtain ⟨_,_,_,rfl,_⟩:=h;rfl) (λbM A outer s H E ds R hr h=>?_)
 have hu:=hr.units
 refine ⟨_,(ah (aF false 3 nd (aA T.d__law_chords (rH T) hr (ab (aa 0) (ab (aa 1) ag))))
   (ah (aF false 4 nd (az j9 (ax aP rfl T.B.len aO (ab (aa 1) ag)) av))
   (ah (cL (DW.dt (rY (aU (qw hu) (aa 3) (dZ ag) (bF _)) (oS (DW.dt (nN (aU (n5 hu) (az b7 (aa 2) av) av (bF _)) (mx (aU (qw hu) (jZ (NC:= ["_law_two","_law_last"]) (src:= [none,some 4]) rfl (mH (aq fU)) ⟨rfl,rfl,trivial⟩ (bU (aa 3)) (λ_ _ _=>(bQ 0 (show (["_law_two","_law_last"]:List Str).Nodup from by decide+kernel))) (λ_ _ _=>(ij (aU (n5 hu) (bD (aa 0) av) (aa 1) (bF _)))) (λ_ _ _=>(aa 0))) (dZ ag) (bF _)))))))) (ah (wD (bD (aa 3) (az b7 (az e8 (aa 2) av) (ax aP rfl T.B.len aO (ab (aa 3) ag)))) (fN 2 rfl (bu (aQ 5 nd) (bu (aQ 6 nd) dk))))
   (ar (aM (bD (aA T.d__law_halves (rJ T) hr (ab (aa 1) (ab (aa 5) (ab (aa 6) ag)))) (az b7 (az e8 (az e8 (aa 2) av) (ax aP rfl T.B.len aO (ab (aa 3) ag))) av))))) bH)
   (ar (aM (az bC (bg (aa 1) bN (bp (Hn av))) (qO rfl rfl T.B.list rfl T.B.reversed (ab (aA T.d__law_within (ky T) hr (ab (aa 0) (ab (aa 1) (ab (aa 4) ag)))) ag)))))))),?_⟩
 obtain ⟨w',R',num,rfl,g,B,bw,AA,Dc,q⟩:=h;have Ti:=Dc.nh g;have lR:(R'.map ae).length=R'.length:=List.length_map _;have h3:=Ti.len;have hR:=Ti.qC g;refine ⟨_,rfl,_,rfl,w',R',rfl,g,bw,Ti,trivial,?_⟩;refine ⟨_,rfl,trivial,?_⟩;refine lJ [some (aN w'),some (ao R'),some (.int num),some (.lst ((aG w' R' R'.length).map pairD)),some (.int (((R'.map ae).length:Int)-1)),none,none] rfl ?_;have cl:=lg w' R' R'.length;have c2:R'.length*R'.length≤14*14:=Nat.mul_le_mul (by omega) (by omega)
 have lC:((aG w' R' R'.length).map pairD).length=(aG w' R' R'.length).length:=List.length_map _
 have OF:∀l:List (Nat×Nat),(PyData.list (l.map λt=>PyData.tuple [.int (t.1:Nat), .int (t.2:Nat)])).depth≤64:=λl=>by
  rw [PyData.depth]
  have:=gD (f:=λt:Nat×Nat=>PyData.tuple [.int (t.1:Nat), .int (t.2:Nat)]) (k:=2) (λt=>by simp [PyData.depth,PyData.depthAll]) l
  omega
 have zG:((R'.map ae).length:Int)-1=((R'.length-1:Nat):Int):=by rw [lR];omega
 have wl:(withinL w' R' (R'.length-1)).length≤14:=by
  rw [g9]
  have:=kh (Ti.next (i:=R'.length-1) (by omega))
  have h2:=dA g (R'.getD (R'.length-1) 0);rw [b8];omega
 have RU:(cutD (R'.map ae) none (some (-1))).length+((withinL w' R' (R'.length-1)).map ae).reverse.length≤sizeLine:=by
  rw [sW _ (by omega),List.length_dropLast,vW,List.length_map,List.length_map]
  exact small (by omega)
 have eB:(.lst (cutD (R'.map ae) none (some (-1))++((withinL w' R' (R'.length-1)).map ae).reverse):D)=ao (R'.dropLast++(withinL w' R' (R'.length-1)).reverse):=by
  rw [sW _ (by omega)]
  unfold ao;rw [fh,List.map_dropLast,List.map_reverse]
 have Kp:aG w' R' R'.length≠ []→(0:Int)<(((aG w' R' R'.length).map pairD).length:Int)∧∃ci cj,fM ((aG w' R' R'.length).map pairD) (num / 3%(((aG w' R' R'.length).map pairD).length:Int))=some (pairD (ci,cj))∧ci<cj∧cj<R'.length∧R'.getD cj 0∈withinL w' R' ci:=λne=>by
  have pos:=rd.mpr ne;have cp:(0:Int)<(((aG w' R' R'.length).map pairD).length:Int):=by rw [lC];omega
  have m:=gw (num / 3) (((aG w' R' R'.length).map pairD).length:Int) cp;rw [lC] at m;have b0:(num / 3%((aG w' R' R'.length).length:Int)).toNat<(aG w' R' R'.length).length:=by omega
  refine ⟨cp,((aG w' R' R'.length)[(num / 3%((aG w' R' R'.length).length:Int)).toNat]).1,((aG w' R' R'.length)[(num / 3%((aG w' R' R'.length).length:Int)).toNat]).2,?_,xQ (nv b0)⟩
  have:=hE (l:=(aG w' R' R'.length).map pairD) (p:=(num / 3%((aG w' R' R'.length).length:Int)).toNat) (d:=pairD ((aG w' R' R'.length)[(num / 3%((aG w' R' R'.length).length:Int)).toNat])) (by rw [eC,bq b0];rfl)
  rw [Int.toNat_of_nonneg m.1] at this;rw [lC];exact this
 refine El ?_;refine ⟨_,rfl,by show 0≤sizeLine;decide,ne_nil (iy yO (aG w' R' R'.length)) (OF _) ⟨_,rfl,cu (λe=>?_) (λe=>cO ?_)⟩⟩
 ·have ne:aG w' R' R'.length≠ []:=by
   intro z;rw [z] at e;simp at e
  obtain ⟨cp,ci,cj,cat,Ct,wM,HC⟩:=Kp ne;refine ⟨_,rfl,(by show (0:Int)<3;decide),Hw ⟨_,rfl,cu (λe3=>ed ?_) (λe3=>?_)⟩⟩
  ·refine ⟨_,rfl,_,rfl,⟨by decide,by decide⟩,_,rfl,cp,_,cat,?_⟩
   refine ⟨rfl,rfl,?_⟩;refine ⟨_,rfl,_,rfl,_,rfl,R',ci,cj,rfl,by omega,Ct,wM,?_⟩
   refine ⟨_,rfl,⟨by decide,by decide⟩,_,rfl,⟨cp,by omega⟩,(by show (0:Int)<2;decide),?_⟩
   rcases B0 (x:=num / 3 / (((aG w' R' R'.length).map pairD).length:Int)) (a:=ao ((R'.take (cj+1)).drop ci)) (b:=ao (R'.drop cj++R'.take (ci+1))) with e|e
   ·exact ⟨_,e,q _ (.inr (iQ g B Dc Ct wM HC).1)⟩
   ·exact ⟨_,e,q _ (.inr (iQ g B Dc Ct wM HC).2)⟩
  ·refine ⟨_,rfl,iq (ρ:= [none,some (.int (((R'.map ae).length:Int)-1))]) pairD (λt=>decide ((t.2:Int)=((R'.map ae).length:Int)-1)) pairD (aG w' R' R'.length) _ [] _ (λt ht Y Nn t1 t2=>?_) ⟨none,rfl⟩ (by rw [iI,nB];exact small (by omega)) λaC=>?_⟩
   ·refine ⟨_,rfl,_,rfl,_,rfl,sZ ⟨_,rfl,?_⟩⟩
    exact cu (λe=>⟨_,rfl,t1 e⟩) (λe=>t2 e)
   ·rw [kM]
    refine ⟨by show 0≤sizeLine;decide,ne_nil (iy yO _) (OF _) ⟨_,rfl,cu (λe4=>?_) (λe4=>?_)⟩⟩
    ·refine ⟨_,rfl,_,rfl,⟨by decide,by decide⟩,_,rfl,cp,_,cat,?_⟩
     refine ⟨rfl,rfl,?_⟩;refine ⟨_,rfl,_,rfl,_,rfl,R',ci,cj,rfl,by omega,Ct,wM,?_⟩
     refine ⟨_,rfl,⟨by decide,by decide⟩,_,rfl,⟨cp,by omega⟩,(by show (0:Int)<2;decide),?_⟩
     rcases B0 (x:=num / 3 / (((aG w' R' R'.length).map pairD).length:Int)) (a:=ao ((R'.take (cj+1)).drop ci)) (b:=ao (R'.drop cj++R'.take (ci+1))) with e|e
     ·exact ⟨_,e,q _ (.inr (iQ g B Dc Ct wM HC).1)⟩
     ·exact ⟨_,e,q _ (.inr (iQ g B Dc Ct wM HC).2)⟩
    ·have nc:∀i,i<R'.length-1→R'.getD (R'.length-1) 0∉withinL w' R' i:=λi hi hm=>by
      have HE:=qG (w:=w') (R:=R') (i:=i) (j:=R'.length-1) hi (by omega) hm
      have Pd:(i,R'.length-1)∈(aG w' R' R'.length).filter (λt=>decide ((t.2:Int)=((R'.map ae).length:Int)-1)):=iJ.mpr ⟨HE,decide_eq_true zG.symm⟩;cases hf:(aG w' R' R'.length).filter (λt=>decide ((t.2:Int)=((R'.map ae).length:Int)-1)) with
      |nil=>rw [hf] at Pd;cases Pd
      |cons x l=>rw [hf] at e4;simp at e4
     refine ⟨_,rfl,_,rfl,_,rfl,_,rfl,w',R',R'.length-1,by rw [zG];rfl,g,bw,Ti,by omega,?_⟩
     refine ⟨RU,?_⟩
     have:=q _ (tK g Dc nc)
     rw [←eB] at this;exact this
 ·have nc:∀i,i<R'.length-1→R'.getD (R'.length-1) 0∉withinL w' R' i:=λi hi hm=>by
   have HE:=qG (w:=w') (R:=R') (i:=i) (j:=R'.length-1) hi (by omega) hm
   cases hf:aG w' R' R'.length with
   |nil=>rw [hf] at HE;cases HE
   |cons x l=>rw [hf] at e;simp at e
  refine ⟨_,rfl,_,rfl,_,rfl,_,rfl,w',R',R'.length-1,by rw [zG];rfl,g,bw,Ti,by omega,?_⟩
  refine ⟨RU,?_⟩
  have:=q _ (tK g Dc nc)
  rw [←eB] at this;exact this
variable {P:Program} {w:World} {mg:Str→Option Value} {base:Heap} {Z:DC} (T:Txt Z mg)
theorem Hg{w:W}(g:Good w)(A:Nat×Nat→Prop):cnt w A≤w.length*w.length:=by
 unfold cnt;exact jV (vT _ _) (zz g)
def Gx:cV:=λds P=>∃(w:W)(R:List Nat)(num:Int),ds= [aN w,ao R, .int num]∧Good w∧iL w∧w.length≤14∧(∃A,Disc w R A)∧∀Rs:List (List Nat),(∀R∈Rs,∃A,Disc w R A)→Rs.length≤300→P (.lst (Rs.map ao))
theorem tZ:FnOk P w Z.K mg base cP 4 T.d__law_rings.f T.d__law_rings.fd ["_law_turns","_law_ring","_law_number"] (aS Z Gx):=by
 have nd:=lW.nd;refine bc T.d__law_rings.F lW [0,0,0,1,0] (by decide) (λds R h=>by obtain ⟨_,_,_,rfl,_⟩:=h;rfl) (λbM A outer s H E ds R hr h=>?_)
 have hu:=hr.units
 refine ⟨_,(ah (oR 3 nd (oO ag))
   (ah (qg PassesOwn.never (aU As (ax aP rfl T.B.len aO (ab (aa 1) ag)) av (bF _)) (ah (rW false 3 (aa 1))
   (ah (aF false 1 nd (aA T.d__law_lesser (rK T) hr (ab (aa 0) (ab (aa 1) (ab (az b7 (aa 2) av) ag)))))
   (ah (aF false 2 nd (az e8 (aa 2) av))
   (ar (cL (aU As (ax aP rfl T.B.len aO (ab (aa 1) ag)) av (bF _)) (ah (aF false 4 nd (az b7 (aa 2) (ax aP rfl T.B.len aO (ab (aa 1) ag))))
   (ah (aF false 2 nd (az e8 (aa 2) (ax aP rfl T.B.len aO (ab (aa 1) ag))))
   (ar (aF false 1 nd (az bC (bg (aa 1) (bp (aa 4)) bN) (bg (aa 1) bN (bp (aa 4)))))))) bH))))))
   (ar (aM (aa 3))))),?_⟩
 obtain ⟨w',R',num,rfl,g,B,bw,⟨A0,D0⟩,q⟩:=h;have c0:=Hg g A0;have c1:w'.length*w'.length≤14*14:=Nat.mul_le_mul bw bw;refine ⟨by show 0≤sizeLine;decide,?_⟩
 refine ou (λm ρ=>∃(R:List Nat)(num:Int)(Rs:List (List Nat))(o4:Option D),ρ= [some (aN w'),some (ao R),some (.int num),some (.lst (Rs.map ao)),o4]∧(R.length=2∨∃A,Disc w' R A∧cnt w' A<m)∧(∀R∈Rs,∃A,Disc w' R A)∧Rs.length+m≤200) (cnt w' A0+1) ⟨R',num,[],_,rfl, .inr ⟨A0,D0,by omega⟩,(λR h=>nomatch h),(by show 0+(cnt w' A0+1)≤200;omega)⟩ ?_
 rintro m _ ⟨R,num,Rs,o4,rfl,hd,Hz,hm⟩;have lR:(R.map ae).length=R.length:=List.length_map _;have lS:(Rs.map ao).length=Rs.length:=List.length_map _;refine ⟨_,rfl,?_⟩;dsimp only [u6,xJ];refine ⟨_,rfl,cu (λe=>?_) (λe=>?_)⟩
 ·have e2:2<R.length:=by have:=of_decide_eq_true e;omega
  obtain ⟨A,Dc,hc⟩:=hd.resolve_left (by omega)
  refine ⟨_,rfl,_,rfl,trivial,gy (by rw [lS];omega),?_⟩
  refine ⟨_,rfl,_,rfl,_,rfl,(by show (0:Int)<90;decide),w',R,_,rfl,g,B,bw,A,Dc,λR2 h2=>⟨trivial,?_⟩⟩
  refine ⟨_,rfl,⟨by decide,by decide⟩,trivial,?_⟩
  have eS:(.lst (Rs.map ao++ [ao R]):D)= .lst ((Rs++ [R]).map ao):=by rw [fh];rfl
  have JQ:∀R'∈Rs++ [R],∃A,Disc w' R' A:=λR' h'=>by
   rcases dF.mp h' with h'|h'
   ·exact Hz R' h'
   ·rw [ja.mp h'];exact ⟨A,Dc⟩
  have Fi:(R2.map ae).length=R2.length:=List.length_map _;refine lJ [some (aN w'),some (ao R2),some (.int (num / 90)),some (.lst (Rs.map ao++ [ao R])),o4] rfl ?_;rw [eS];refine ⟨_,rfl,?_⟩;dsimp only [u6,xJ];refine ⟨_,rfl,cu (λe=>?_) (λe=>?_)⟩
  ·have e3:2<R2.length:=by have:=of_decide_eq_true e;omega
   obtain ⟨A',GW,qj⟩:=h2.resolve_left (by omega)
   have C6:=(GW.nh g).qC g;have e1:(0:Int)<((R2.map ae).length:Int):=by rw [Fi];omega
   refine ⟨_,rfl,_,rfl,e1,trivial,?_⟩;refine ⟨_,rfl,_,rfl,⟨e1,by rw [Fi];omega⟩,trivial,?_⟩
   have m1:=gw (num / 90) ((R2.map ae).length:Int) e1;refine lJ [some (aN w'),some (ao R2),some (.int (num / 90 / ((R2.map ae).length:Int))),some (.lst ((Rs++ [R]).map ao)),some (.int (num / 90%((R2.map ae).length:Int)))] rfl ?_;generalize num / 90%((R2.map ae).length:Int)=at_ at m1;obtain ⟨a,rfl⟩:∃a:Nat,at_=(a:Int):=⟨at_.toNat,by omega⟩
   rw [Fi] at m1;have ca:cutD (R2.map ae) (some (a:Int)) none=(R2.drop a).map ae:=by rw [cX _ _ (by rw [Fi];omega),jU]
   have cb:cutD (R2.map ae) none (some (a:Int))=(R2.take a).map ae:=by rw [cK _ _ (by rw [Fi];omega),jd]
   have l2:(R2.drop a++R2.take a).length=R2.length:=by rw [cy,dE,b8];omega
   have kU:(cutD (R2.map ae) (some (a:Int)) none).length+(cutD (R2.map ae) none (some (a:Int))).length≤sizeLine:=by
    rw [ca,cb,List.length_map,List.length_map];exact small (by rw [cy] at l2;omega)
   have er:(.lst (cutD (R2.map ae) (some (a:Int)) none++cutD (R2.map ae) none (some (a:Int))):D)=ao (R2.drop a++R2.take a):=by rw [ca,cb];unfold ao;rw [fh]
   refine ⟨_,rfl,_,rfl,_,rfl,_,rfl,kU,trivial,?_⟩;refine ⟨m-1,by omega,R2.drop a++R2.take a,num / 90 / ((R2.map ae).length:Int),Rs++ [R],some (.int (a:Int)),?_, .inr ⟨A',?_,by omega⟩,JQ,by rw [cy];simp;omega⟩
   ·rw [←er];rfl
   ·have:=GW
    rw [←jT a R2] at this;exact this.ud
  ·refine ⟨m-1,by omega,R2,num / 90,Rs++ [R],o4,rfl,?_,JQ,by rw [cy];simp;omega⟩
   rcases h2 with h2| ⟨A',GW,qj⟩
   ·exact .inl h2
   ·exact .inr ⟨A',GW,by omega⟩
 ·exact ⟨_,rfl,q Rs Hz (by omega)⟩
end p9
namespace L2
open PySem PySem.Spec PyProof.Rows
section
variable {Z:DC} {X:Cx} {md:List Nat} {rn:Nat} {e:Expr} {pos p2:Pos} {te:bh} {t:nF} {lo hi:Option Expr} {tl th:xA}
def Ui(te:bh)(tl th:xA):nF:=λρ P=>te ρ λx=>tl ρ λlo=>th ρ λhi=>match x with
 | .lst l=>P (cutD l lo hi)
 |_=>False
theorem Ck(he:DE Z X e te)(hl:DO Z X lo tl)(hu:DO Z X hi th):DF Z X 1 (.Subscript e (.Slice lo hi none p2) pos) (Ui te tl th):=by
 refine (vH yV he hl hu).imp ?_;rintro σ H Q ⟨G,ρ,P,s,en,h,q⟩;refine ⟨G,ρ,_,s,en,h,λd hd v G1 H1 x1 dv=>?_⟩;refine ⟨G1,ρ,_,x1.sub,en.mono x1.gg,hd,λl hl G2 H2 x2=>?_⟩;refine ⟨G2,ρ,_,x2.sub,(en.mono x1.gg).mono x2.gg,hl,λu hu G3 H3 x3=>?_⟩;have x:=(x1.trans x2).trans x3;have dv:=(dv.mono x2.gg).mono x3.gg;cases dv<;>first|exact hu.elim|skip
 rename_i h e
 refine ⟨_,_,rfl,cD.of (x3.sub _ _ h),λp hn=>?_⟩;obtain ⟨o1,o2,o3⟩:=t8 x hn (wy e l u);exact q _ hu _ _ _ _ (x.side hn) o1 o2 o3
def KZ(t:nF):eD:=λE ρ=>t ρ λds=>E.rt (.lst ds)
theorem Ew(he:DF Z X rn e t):DSt Z X md rn (.Return (some e) pos) (KZ t):=(BM he).imp λD σ H ⟨B,ρ,E,⟨G,fp,S⟩,h,M⟩=>by
 let F:Addr→Prop:=λb=>∃i,b∈fp i
 have s:=S.ex.sub
 have x0:Ext B.G₀ B.H₀ (plus G H F) H:=⟨S.ex.gg.trans (h7 s),jK s,S.ex.hh,λb hb hg=>by
  rw [jJ (λ⟨i,hi⟩=>hb (S.nw i b hi).1)];exact S.ex.off b hb hg⟩
 refine ⟨plus G H F,ρ,_,jK s,⟨S.len,λi d h=>?_⟩,h,λds hd v f G' H' x o nd nw=>M.rt _ hd v f G' H' (x0.trans x) o nd λb hb=>⟨S.ex.hh.free (nw b hb).1,(nw b hb).2⟩⟩;obtain ⟨v,hv,o⟩:=S.at_ i d h;exact ⟨v,hv,o.dv (h7 s) λb hb u e=>by rw [lN ⟨i,hb⟩];exact e⟩
end
end L2
namespace p9
open PySem L2 Wb
variable {P:Program} {w:World} {mg:Str→Option Value} {base:Heap} {Z:DC} (T:Txt Z mg)
theorem sg(r:List Nat):(ao r).py=some (m7 r):=by
 unfold ao m7;rw [D.py,iy (g:=nD) (λn=>rfl)];rfl
theorem xY(a b:List Nat):PyData.eqv (m7 a) (m7 b)=decide (a=b):=by
 by_cases e:a=b
 ·rw [decide_eq_true e];exact (vf a b).mpr e
 ·rw [decide_eq_false e]
  apply ur.mpr;exact λz=>e ((vf a b).mp z)
theorem Ee{v w:List Nat}{P:D→Prop}(h:P (.bl (decide (v=w)))):Hh (ao v) (ao w) P:=by
 refine ⟨_,_,sg v,sg w,by have:=lu v;omega,?_⟩
 rw [if_neg dW,xY];exact h
theorem xU{v w:List Nat}{P:D→Prop}(h:P (.bl (!decide (v=w)))):Hk (ao v) (ao w) P:=by
 refine ⟨_,_,sg v,sg w,by have:=lu v;omega,?_⟩
 rw [if_pos rfl,xY];exact h
def Gs:cV:=λds P=>∃(l:List Nat)(x:Nat),ds= [ao l,ae x]∧l.length≤100∧x∈l∧P (ao (bY l x))
theorem xa:FnOk P w Z.K mg base cP 1 T.d_begun_at.f T.d_begun_at.fd ["ring","p"] (aS Z Gs):=by
 have nd:=pL.nd;refine bc T.d_begun_at.F pL [0,0,0] (by decide) (λds R h=>by obtain ⟨_,_,rfl,_⟩:=h;rfl) (λbM A outer s H E ds R hr h=>?_)
 have hu:=hr.units
 refine ⟨_,(ah (aF false 2 nd (hJ (aa 0) (aa 1)))
   (ar (aM (az bC (bg (aa 0) (bp (aa 2)) bN) (bg (aa 0) bN (bp (aa 2))))))),?_⟩
 obtain ⟨l,x,rfl,h1,hx,q⟩:=h;have ll:(l.map ae).length=l.length:=List.length_map _;have il:=eu.mpr hx;refine ⟨_,rfl,_,rfl,_,rfl,rfl,bO _,_,_,(aR hx).1,(aR hx).2.1,(aR hx).2.2,trivial,?_⟩;have ca:cutD (l.map ae) (some ((l.idxOf x:Nat):Int)) none=(l.drop (l.idxOf x)).map ae:=by rw [cX _ _ (by rw [ll];omega),jU]
 have cb:cutD (l.map ae) none (some ((l.idxOf x:Nat):Int))=(l.take (l.idxOf x)).map ae:=by rw [cK _ _ (by rw [ll];omega),jd]
 have kU:(cutD (l.map ae) (some ((l.idxOf x:Nat):Int)) none).length+(cutD (l.map ae) none (some ((l.idxOf x:Nat):Int))).length≤sizeLine:=by
  rw [ca,cb,List.length_map,List.length_map,dE,b8];exact small (by omega)
 have er:(.lst (cutD (l.map ae) (some ((l.idxOf x:Nat):Int)) none++cutD (l.map ae) none (some ((l.idxOf x:Nat):Int))):D)=ao (bY l x):=by rw [ca,cb];unfold ao bY;rw [fh]
 rw [←er] at q;exact ⟨_,rfl,_,rfl,_,rfl,_,rfl,kU,q⟩
def y1:cV:=λds P=>∃(w:W)(R:List Nat)(i:Nat),ds= [.eT w,ao R,ae i]∧Good w∧w.length≤14∧gF w R∧i<R.length∧P (ao (withinL w R i))
theorem eM:FnOk P w Z.K mg base cP 2 T.d_within_at.f T.d_within_at.fd ["web","ring","i"] (tN Z 1 y1):=by
 have nd:=ng.nd;refine vh 1 T.d_within_at.F ng [0,0,0,0] (by decide) (λds R h=>by obtain ⟨_,_,_,rfl,_⟩:=h;rfl) (λbM A outer s H E ds R hr h=>?_)
 have hu:=hr.units
 refine ⟨_,(ah (aF false 3 nd (aA T.d_begun_at (xa T) hr (ab (bD (qf T.W (aa 0) T.m_turns.m (mZ T) (hr.mono (by decide)) T.m_turns.b) (bD (aa 1) (aa 2))) (ab (bD (aa 1) (az b7 (az bC (aa 2) av) (ax aP rfl T.B.len aO (ab (aa 1) ag)))) ag))))
   (ar (Ew (Ck (aa 3) (bp av) (bp (hJ (aa 3) (bD (aa 1) (az j9 (aa 2) av)))))))),?_⟩
 obtain ⟨w',R',i,rfl,g,bw,Ti,hi,q⟩:=h;have lR:(R'.map ae).length=R'.length:=List.length_map _;have h3:=Ti.len;have e0:(0:Int)<((R'.map ae).length:Int):=by rw [lR];omega
 have ML:=Ti.lt g (aw hi);have rl:=dA g (R'.getD i 0);have nm:=Ti.next hi;refine ⟨_,rfl,w',rfl,w',rfl,bw,_,rfl,_,rfl,_,dN hi,_,gL ML,_,rfl,_,rfl,_,rfl,e0,_,vA hi,row w' (R'.getD i 0),R'.getD ((i+1)%R'.length) 0,rfl,by omega,nm,trivial,?_⟩
 have et:=kj nm;have pm:=Ti.F3 g hi;have yL:R'.getD (bB R' i) 0∈bY (row w' (R'.getD i 0)) (R'.getD ((i+1)%R'.length) 0):=by rw [et];exact cv _ pm
 refine ⟨_,rfl,_,rfl,_,rfl,_,rfl,_,rfl,_,vJ hi,rfl,bO _,_,_,(aR yL).1,(aR yL).2.1,(aR yL).2.2,?_⟩
 have eb:(R'.getD ((i+1)%R'.length) 0==R'.getD (bB R' i) 0)=false:=by
  rw [beq_eq_false_iff_ne];exact (Ti.pn hi).symm
 have ei:(bY (row w' (R'.getD i 0)) (R'.getD ((i+1)%R'.length) 0)).idxOf (R'.getD (bB R' i) 0)=(iz (row w' (R'.getD i 0)) (R'.getD ((i+1)%R'.length) 0)).idxOf (R'.getD (bB R' i) 0)+1:=by
  rw [et,wa,eb];rfl
 have pl:=eu.mpr pm;have Ms:=kh nm
 have ef:(.lst (cutD ((bY (row w' (R'.getD i 0)) (R'.getD ((i+1)%R'.length) 0)).map ae) (some (1:Int)) (some (((bY (row w' (R'.getD i 0)) (R'.getD ((i+1)%R'.length) 0)).idxOf (R'.getD (bB R' i) 0):Nat):Int))):D)=ao (withinL w' R' i):=by
  have:=u4 (bY (row w' (R'.getD i 0)) (R'.getD ((i+1)%R'.length) 0)) 1 ((bY (row w' (R'.getD i 0)) (R'.getD ((i+1)%R'.length) 0)).idxOf (R'.getD (bB R' i) 0)) (by omega) (by rw [mz,ei];omega)
  rw [u3,show (some (1:Int))=some ((1:Nat):Int) from rfl,this,ei,et,List.take_succ_cons,g9];rfl
 rw [←ef] at q;exact q
end p9
namespace L2
open PySem PySem.Spec PyProof.Rows
theorem fc.ok{P:Program}{w:World}{H:Hp}{h:Heap}{a:Addr}{b:Bool}{ns:List Int}(x:fc b a ns h):cJ P w H h a (.ext (fc b a ns)):=by
 refine ⟨x,let ⟨o,_,_,_,ho,_⟩:=x;⟨o,ho⟩,λh1 h2 p k=>?_⟩;obtain ⟨o,es,ep,t,ho,r⟩:=p;exact ⟨o,es,ep,t,k o ho,r⟩
theorem qF.elems{P:Program}{w:World}{es:Array (Int×Value)}{ns:List Int}(i:qF es ns):ElemsOf (intKind P w) es.toList:=λe he=>by
 obtain ⟨k,t,rfl⟩:=i.1 e he;exact ⟨⟨k,by simp [intKind,Value.isInt],rfl⟩,rfl⟩
theorem vp:∀{es:List (Int×Value)}{ms:List Int},(∀e∈es,∃k t,e=(hashInt k,Value.int k t))→IntsAre (es.map (·.2)) ms→∀k,k∈ms↔∃e∈es,Value.isInt k e.2=true
 | [],_,_,h,k=>by cases h;simp
 |e::es,ms,ha,h,k=>by
  obtain ⟨j,t,rfl⟩:=ha e (b4 ..);cases h with
  |cons n t' h=>
   have ih:=vp (λe he=>ha e (cv _ he)) h k;rw [b9,ih]
   constructor
   ·rintro (rfl| ⟨e,he,q⟩)
    ·exact ⟨_,b4 ..,by simp [Value.isInt]⟩
    ·exact ⟨e,cv _ he,q⟩
   ·rintro ⟨e,he,q⟩
    rcases b9.mp he with rfl|he
    ·left;simp [Value.isInt] at q;exact q.symm
    ·exact .inr ⟨e,he,q⟩
theorem qF.mem{P:Program}{w:World}{es:Array (Int×Value)}{ns:List Int}(i:qF es ns)(k:Int):k∈ns↔∃e∈es.toList,(intKind P w).is k e.2=true:=by
 obtain ⟨a,_,ms,b,c⟩:=i;rw [←c.mem_iff];exact vp a b k
theorem vo:∀{vs:List Value}{ms:List Int},IntsAre vs ms→vs.length=ms.length
 |_,_, .nil=>rfl
 |_,_, .cons _ _ h=>congrArg (·+1) (vo h)
theorem qF.size{es:Array (Int×Value)}{ns:List Int}(i:qF es ns):es.size=ns.length:=by
 obtain ⟨_,_,ms,b,c⟩:=i;rw [←c.length_eq,←vo b,List.length_map,gO]
theorem _root_.PySem.fY.Gn{b:Bool}{o:Obj}{es:Array (Int×Value)}{ep:Nat}{t:SetTable}(S:fY b o es ep t):es.size≤306:=by
 have:=S.few
 rcases S.tok.few with h|h|h|h<;>omega
theorem fc.setOf{P:Program}{w:World}{h:Heap}{a:Addr}{b:Bool}{ns:List Int}(x:fc b a ns h):h.SetOf (intKind P w) a (λk=>decide (k∈ns)) ns.length:=by
 obtain ⟨o,es,ep,t,ho,S,i⟩:=x;refine ⟨o,es,ep,t,ho,S.ex,S.dat,i.elems,λk=>?_,?_,S.fits,i.size⟩
 ·rw [decide_eq_true_eq];exact i.mem k
 ·have:=S.Gn
  show es.size<4096;omega
def vn(ns:List Int)(k:Int):List Int:=if k∈ns then ns else ns++ [k]
section
variable {X:Cx}
theorem Inv.BV{pins:List (Addr×Obj)}{σ:St}{H:Hp}{s:Shared}{a:Addr}{b:Bool}{ns:List Int}(I:Inv X pins σ H s)(h:H a=some (.ext (fc b a ns))):fc b a ns s.heap:=(I.hok a _ h).1
theorem FU{p pos:Pos}(hg:Gl X "set")(hm:X.mg "set"=none):PE X (.Call (.Name "set" p) [] [] pos) (λσ H Q=>∀q,H q=none→Q (.ref q) (upd H q (.ext (fc (eE X.w) q [])))):=by
 intro pins s σ H Q I h;refine wpAny_Call_Name_kw (g7 I hg hm (u:= .type "set") (by decide+kernel) ?_ (by decide) (by decide))
 refine PyProof.Rows.callWith_type rfl (PyProof.Rows.evalArgs_nil3 (wq ?_));have hn:=I.hok.fresh (br _);refine ⟨.ref s.heap.objs.size,_,I.laid (t':=s.toks) (λb o e=>Heap.get?_push_of_some _ e) (br _) (o:= .ext (fc (eE X.w) s.heap.objs.size [])) (fc.ok ⟨_,_,_,_,Heap.get?_push_size _ rfl,fY.new X.w,?_⟩),rfl,h _ hn⟩;exact ⟨λe he=>by simp at he,kN,[],by simpa using IntsAre.nil, .refl _⟩
theorem Ay:OpR X (compareOp .NotIn) (λx y H Q=>∃k p b ns,x= .int k∧y= .ref p∧H p=some (.ext (fc b p ns))∧Q (.bl (!decide (k∈ns))) H):=by
 intro pins s σ H x y v u Q I rx ry h;obtain ⟨k,p,b,ns,rfl,rfl,hp,q⟩:=h;obtain ⟨t,rfl⟩:=rx;cases ry;exact wpAny_notInSet_of (knd:=intKind X.prog X.w) (k:=k) (by simp [intKind,Value.isInt]) rfl (I.BV hp).setOf ⟨.bl _,H,I.tok _,rfl,q⟩
def Mo(w:World):V→List V→Hp→VK→Prop:=λx vs H Q=>∃l b ns k,x= .ref l∧vs= [.int k]∧H l=some (.ext (fc b l ns))∧b=eE w∧ns.length≤300∧Q .bf (upd H l (.ext (fc b l (vn ns k))))
theorem Fw:GX X "set.add" (Mo X.w):=by
 intro pins s σ H x vs v us Q I rx rv h;obtain ⟨l,b,ns,k,rfl,rfl,hl,rfl,hz,q⟩:=h;cases rx;obtain ⟨u,rfl,ru⟩:=rv.one;obtain ⟨tk,rfl⟩:=ru;obtain ⟨o,es,ep,t,ho,S,i⟩:=I.BV hl;have hT:s.TypeIs (.ref l) "set":=⟨o,ho,S.ex.1⟩;refine wpAny_call_entry F.slot_set_add hT F.entry_set_add ?_ (F.args_set_add_2 _ _);unfold Builtin.«set.add» Builtin.Frozenset.oneOther;simp only [List.isEmpty_nil,bind_assoc];unfold Builtin.Frozenset.addrOf setAdd;refine wpAny_bind (wpAny_pure ?_)
 try dsimp only
 refine wpAny_bind (wpAny_pure ?_)
 try dsimp only
 refine wpAny_bind ?_;refine wpAny_holding ?_;have hk:(intKind X.prog X.w).is k (.int k tk)=true:=by simp [intKind,Value.isInt]
 refine wpAny_bind ((intKind X.prog X.w).pyHash hk ?_);refine xm (s:={s with toks:=s.toks+1}) ho S i.elems hk (by rw [i.size];omega) (λhm=>?_) λnm h' o' ji zI t' sb ik S' pm=>?_
 ·show wpAny _ _ (ret Value.none) _ _ _
  have o9:k∈ns:=(i.mem k).mpr hm;rw [vn,if_pos o9] at q
  have e:upd H l (.ext (fc (eE X.w) l ns))=H:=by
   funext c
   by_cases z:c=l
   ·subst z;rw [aB];exact hl.symm
   ·rw [aD z]
  rw [e] at q;exact wpAny_pure ⟨_,rfl, .bf,H,I.tok _,rfl,q⟩
 ·show wpAny _ _ (ret Value.none) _ _ _
  have o9:k∉ns:=λz=>nm ((i.mem k).mp z);rw [vn,if_neg o9] at q
  have i':qF ji (ns++ [k]):=by
   obtain ⟨a1,a2,ms,a3,a4⟩:=i;refine ⟨λe he=>?_,?_,?_⟩
   ·rcases dF.mp (pm.mem_iff.mp he) with h|h
    ·exact a1 e h
    ·rw [ja] at h;exact ⟨k,tk,h⟩
   ·rw [fg]
    refine ⟨a2,by simp,λx hx y hy z=>o9 ?_⟩
    rw [ja] at hy;rw [←hy,←z];exact hx
   ·have a5:IntsAre ((es.toList++ [((intKind X.prog X.w).hash k,Value.int k tk)]).map (·.2)) (ms++ [k]):=by
     rw [fh];clear a4 pm;generalize es.toList.map (·.2)=vs at a3
     induction a3 with
     |nil=>exact .cons k tk .nil
     |cons n t _ ih=>exact .cons n t ih
    obtain ⟨W5,b1,b2⟩:=tH (pm.map (·.2)) a5;exact ⟨W5,b1,b2.trans (a4.append_right _)⟩
  have I':=I.write (h':=h') (t':=s.toks+1) (x:=l) (e:=l) (o:= .ext (fc (eE X.w) l (ns++ [k]))) (by rw [hl];trivial) (.inl rfl) (λb u hb e=>sb.extBut b u hb e) ⟨o',ik⟩ (fc.ok ⟨o',ji,zI,t',ik,S',i'⟩)
  exact wpAny_pure ⟨_,rfl, .bf,_,I',rfl,q⟩
def RX(r:V→List V→Hp→VK→Prop)(to:TE)(t:TA):TE:=λσ H Q=>to σ H λx H1=>(∃p b ns,x= .ref p∧H1 p=some (.ext (fc b p ns)))∧t σ H1 λxs H2=>r x xs H2 Q
variable {o e:Expr} {es:List Expr} {to:TE} {t:TA} {name:Str} {apos bo:Pos} {id:String} {r:V→List V→Hp→VK→Prop}
theorem Iy(pa:PlainAttrs "set")(slot:Slot "set" name id)(Fb:typeOf (.builtin id)=pure (.type "method_descriptor"))(hm:GX X id r)(ho:PE X o to)(ha:PA X (e::es) t)
  (eI:attributeBase o name X.env (eval o X.env)=eval o X.env:=by rfl)
  (jz:((backTo bo (starEach (e::es) X.env)).all (λx=>!x.1)&&(backToKw bo (keywordEach [] X.env)).all (λx=>x.1.isSome)
   &&decide ((e::es).length+([]:List Keyword).length+(if ([]:List Keyword).isEmpty then 0 else 1)<30))=true:=by rfl)
  (dq:(apos.endLine==bo.line)=true:=by rfl) (hs:starEach (e::es) X.env=(false,eval e X.env)::starEach es X.env:=by rfl) (e6:(backTo bo (starEach es X.env)).any (·.1)=false:=by rfl):
  PE X (.Call (.Attribute o name apos) (e::es) [] bo) (RX r to t):=by
 intro pins s σ H Q I h;refine wpAny_Call_method_late eI jz dq rfl (thn (ho pins s σ H _ I h) λv s1 ⟨x,H1,I1,r1,ty,q1⟩=>?_);obtain ⟨p,b,ns,rfl,hp⟩:=ty;cases r1;obtain ⟨oo,_,_,_,Pk,S,_⟩:=I1.BV hp;refine ⟨"set",id,pa,slot,Fb,⟨oo,Pk,S.ex.1⟩,λa ea=>?_,?_⟩
 ·cases ea;exact ⟨oo,Pk,S.ex.2.1⟩
 have hA:=ha bo pins s1 σ H1 _ I1 q1;rw [hs] at hA ⊢;refine Calls.callWith_builtin (by show (false|| (backTo bo (starEach es X.env)).any (·.1))=false;rw [e6]<;>rfl) (Calls.evalArgs_plain ?_)
 exact thn hA λus s2 ⟨vs,H2,I2,r2,q2⟩=>hm pins s2 σ H2 (.ref p) vs (.ref p) us Q I2 rfl r2 q2
theorem uP(hc:X.calm=true):cC X (.builtin "sorted") (λxs H Q=>∃(p:Addr)(ns:List Int),xs= [.ref p]∧H p=some (.ext (fc (eE X.w) p ns))∧ns.length<64∧∀(q:Addr)(ms:List Int),H q=none→ms.Perm ns→ms.Pairwise (·≤·)→Q (.ref q) (upd H q (.lst (ms.map V.int)))):=by
 intro pins s σ H xs us Q I rv h;obtain ⟨p,ns,rfl,hp,hz,q⟩:=h;obtain ⟨u,rfl,ru⟩:=rv.one;cases ru;obtain ⟨o,es,ep,t,ho,S,i⟩:=I.BV hp;obtain ⟨_,_,YK,i1,i2⟩:=id i;refine yY (I.ok.hd hc) ho S i1 (by rw [i.size];exact hz) λh' tk c out e ms old le hg hI pm rP=>?_
 have fr:H c=none:=I.hok.fresh le;have dq:64≤sizeLine:=by decide
 have EY:=(pm.trans i2).length_eq;exact ⟨.ref c,_,I.laid (t':=tk) old le (o:= .lst (ms.map V.int)) ⟨by rw [List.length_map];omega,out.toList,e,kr hI,by simpa using hg⟩,rfl,q c ms fr (pm.trans i2) rP⟩
end
section
variable {Z:DC} {X:Cx} {B:Bs} {md:List Nat} {rn:Nat} {ρ:DN} {σ:St} {H G:Hp} {fp:Nat→List Addr} {a e k o:Expr} {ta te tk tp:bh} {pos apos bo p2:Pos}
def NZ(neg:Bool):fJ:=λa b P=>∃k bb ns,a= .int k∧b= .set bb ns∧P (.bl (if neg=true then !decide (k∈ns) else decide (k∈ns)))
theorem Av:OpR X (compareOp .NotIn) (bS Z (NZ true)):=by
 refine Ay.imp ?_;rintro x y H Q ⟨G,a,b,P,s,da,db,⟨k,bb,ns,rfl,rfl,h⟩,q⟩;cases da;cases db with
 |set hp=>exact ⟨k,_,_,ns,rfl,rfl,s _ _ hp,q _ h _ G H (.refl s) (.bl _)⟩
def Ha(w:World):cV:=λds P=>∃ns:List Int,ds= [.set (eE w) ns]∧ns.length<64∧∀ms:List Int,ms.Perm ns→ms.Pairwise (·≤·)→P (.lst (ms.map D.int))
theorem Cb(hc:X.calm=true):cC X (.builtin "sorted") (gP Z (Ha X.w)):=by
 refine (uP hc).imp ?_;rintro xs H Q ⟨G,ds,P,s,dv,⟨ns,rfl,hl,hp⟩,q⟩;cases dv with
 |cons a as=>
  cases as;cases a with
  |set h=>
   refine ⟨_,ns,rfl,s _ _ h,hl,λp ms hn h1 h2=>?_⟩;exact q _ (hp ms h1 h2) _ _ _ (.new s hn) (.lst aB (.ints ms))
def K1(w:World)(i:Nat):eD:=λE ρ=>E.nx (ρ.set i (some (.set (eE w) [])))
theorem Ex(i:Nat){x:Str}{pos' p:Pos}(hN:X.N.Nodup)(hg:Gl X "set")(z4:X.mg "set"=none)(hm:md.getD i 0=99:=by rfl)(hi:X.N[i]? =some x:=by rfl)(hx:Loc X.env.scope x:=by first|exact Or.inl rfl|exact Or.inr rfl)(hs:swapsWith (.Call (.Name "set" p) [] [] p2) (some (.Name x pos')) pos.line X.env=pure false:=by rfl)
  (hf:X.fn x=true∨X.env.scope.names.lookup x=some .local:=by first|exact .inl rfl|exact .inr rfl|assumption):DSt Z X md rn (.Assign [.Name x pos'] (.Call (.Name "set" p) [] [] p2) pos) (K1 X.w i):=by
 refine (r9 hN hi hx (FU hg z4) hs hf).imp ?_;rintro D σ H ⟨B,ρ,E,⟨G,fp,S⟩,h,M⟩;intro c hc;have gc:G c=none:=S.ex.sub.free hc;have x:Ext G H G (upd H c (.ext (fc (eE X.w) c []))):=⟨.refl _,S.ex.sub.trans (aV hc _),aV hc _,λ_ _ z=>z⟩;refine M.nx _ h _ _ ⟨G,_,(S.grow x).J8 hm (f:= [c]) (.inr (.inr ⟨c,_,rfl,aB,rfl, .inl ⟨rfl,_,[],rfl,rfl⟩⟩)) (by simp) (λb hb=>?_) λb hb j _ hj=>?_⟩
 ·rw [ja] at hb;subst hb
  exact ⟨S.ex.hh.free hc,(by rw [aB];exact λz=>nomatch z),gc⟩
 ·rw [ja] at hb;subst hb
  exact (S.nw j _ hj).2.1 hc
def KN(w:World)(md:List Nat)(m:Bool)(i:Nat)(te:bh):eD:=λE ρ=>∃ns,ρ[i]? =some (some (.set (eE w) ns))∧te (A5 md m ρ) λd=>∃k,d= .int k∧ns.length≤300∧E.nx (ρ.set i (some (.set (eE w) (vn ns k))))
theorem Eu(m:Bool)(i:Nat){x:Str}{px:Pos}(he:DE Z X e te)(hm:md.getD i 0=99:=by rfl)(hi:X.N[i]? =some x:=by rfl)(hv:sC X.env.scope x:=by first|exact Or.inl rfl|exact Or.inr (Or.inl rfl) |exact Or.inr (Or.inr rfl))(hd:(x==("__debug__":Str))=false:=by decide)(gu:(x==("__classdict__":Str))=false:=by decide)
  (eI:attributeBase (.Name x px) "add" X.env (eval (.Name x px) X.env)=eval (.Name x px) X.env:=by rfl)
  (jz:((backTo bo (starEach [e] X.env)).all (λx=>!x.1)&&(backToKw bo (keywordEach [] X.env)).all (λx=>x.1.isSome)&&decide (([e]:List Expr).length+([]:List Keyword).length+(if ([]:List Keyword).isEmpty then 0 else 1)<30))=true:=by rfl)
  (dq:(apos.endLine==bo.line)=true:=by rfl) (hs:starEach [e] X.env=(false,eval e X.env)::starEach [] X.env:=by rfl) (e6:(backTo bo (starEach [] X.env)).any (·.1)=false:=by rfl)
  (j6:swapsWith (.Call (.Attribute (.Name x px) "add" apos) [e] [] bo) none pos.line X.env=pure false:=by rfl):
  DSt Z X md rn (.Expr (.Call (.Attribute (.Name x px) "add" apos) [e] [] bo) pos) (KN X.w md m i te):=by
 refine (pH (Iy PySem.F.plainAttrs_set PySem.F.slot_set_add PySem.F.type_set_add Fw (pv i hi hv hd gu) (fS he ke hs) eI jz dq hs e6) j6).imp ?_;rintro D σ H ⟨B,ρ,E,⟨G,fp,S⟩,⟨ns,h1,h⟩,M⟩;obtain ⟨v0,Fc,o0⟩:=S.at_ i _ h1;rw [hm] at o0;obtain ⟨l,rfl,hl,_⟩:=o0.J7;refine ⟨_,Fc,⟨l,_,_,rfl,hl⟩,S.ev m h λd hd=>?_⟩;obtain ⟨k,rfl,hz,hn⟩:=hd;refine ⟨by cases m<;>trivial,λv G' H' S' x dv=>?_⟩
 cases dv;obtain ⟨v1,Pt,o1⟩:=S'.at_ i _ h1;rw [Fc] at Pt;cases Pt;rw [hm] at o1;obtain ⟨l',e',UN,HD⟩:=o1.J7;cases e';refine ⟨l,_,ns,k,rfl,rfl,UN,rfl,hz,M.nx _ hn _ _ ⟨G',fp,S'.mut Fc (b:=l) (by rw [HD];simp) ?_⟩⟩
 rw [hm,HD];exact .inr (.inr ⟨l,_,rfl,aB,rfl, .inl ⟨rfl,_,_,rfl,rfl⟩⟩)
def NY(md:List Nat)(i:Nat)(te:bh):eD:=λE ρ=>∃ds,ρ[i]? =some (some (.lst ds))∧te (dU md ρ) λd=>∃zs,d= .lst zs∧ds.length+zs.length≤sizeLine∧E.nx (ρ.set i (some (.lst (ds++zs))))
theorem Ht(i:Nat){x:Str}{px:Pos}(he:DE Z X e te)(hm:md.getD i 0=1:=by rfl)(hi:X.N[i]? =some x:=by rfl)(hv:sC X.env.scope x:=by first|exact Or.inl rfl|exact Or.inr (Or.inl rfl) |exact Or.inr (Or.inr rfl))(hd:(x==("__debug__":Str))=false:=by decide)(gu:(x==("__classdict__":Str))=false:=by decide)
  (eI:attributeBase (.Name x px) "extend" X.env (eval (.Name x px) X.env)=eval (.Name x px) X.env:=by rfl)
  (jz:((backTo bo (starEach [e] X.env)).all (λx=>!x.1)&&(backToKw bo (keywordEach [] X.env)).all (λx=>x.1.isSome)&&decide (([e]:List Expr).length+([]:List Keyword).length+(if ([]:List Keyword).isEmpty then 0 else 1)<30))=true:=by rfl)
  (dq:(apos.endLine==bo.line)=true:=by rfl) (hs:starEach [e] X.env=(false,eval e X.env)::starEach [] X.env:=by rfl) (e6:(backTo bo (starEach [] X.env)).any (·.1)=false:=by rfl)
  (j6:swapsWith (.Call (.Attribute (.Name x px) "extend" apos) [e] [] bo) none pos.line X.env=pure false:=by rfl):
  DSt Z X md rn (.Expr (.Call (.Attribute (.Name x px) "extend" apos) [e] [] bo) pos) (NY md i te):=by
 refine (pH (xc PySem.F.plainAttrs_list PySem.F.slot_list_extend PySem.F.type_list_extend An (pv i hi hv hd gu) (fS he ke hs) eI jz dq hs e6) j6).imp ?_;rintro D σ H ⟨B,ρ,E,⟨G,fp,S⟩,⟨ds,h1,h⟩,M⟩;obtain ⟨l,xs,_,_,e2,e3,_⟩:=S.one hm h1;refine ⟨_,e2,ty_list e3,S.ev false h λd hd=>⟨trivial,λv G' H' S' x dv=>?_⟩⟩;obtain ⟨zs,rfl,h2,h3⟩:=hd;obtain ⟨l',oF,oP,e1,iN,rA,bz,put⟩:=S'.one hm h1;cases e1;rw [e2] at iN;cases iN;cases dv with
 | @lst b ys _ hb dz=>
  exact ⟨l,b,oF,ys,rfl,rfl,rA,S'.ex.sub _ _ hb,by rw [bz.length,dz.length];exact h2,M.nx _ h3 _ _ ⟨G',fp,put _ _ (bz.append dz)⟩⟩
end
section
variable {Z:DC} {X:Cx} {md:List Nat} {rn:Nat} {elt t0 i0 t1 i1:Expr} {f0 f1:List Expr} {scope:Scope} {pos:Pos} {wi cx:gE} {g g1:dj} {tt b6:cW} {te:bh} {src:List (Option Nat)} {NC:List Str}
def JP(wi:gE)(g:dj)(tt:cW)(cx:gE)(g1:dj)(b6:cW)(te:bh)(src:List (Option Nat)):nF:=λρ P=>wi ρ λds=>gJ g tt cx g1 b6 te ds (ui src ρ) [] λout=>P out
theorem CM:∀σ H Q,tM Z 1 (JP wi g tt cx g1 b6 te src) σ H Q→BZ (nX Z wi) (lG Z g) (liftT Z tt) (nX Z cx) (lG Z g1) (liftT Z b6) (cY Z te) src σ H Q:=by
 rintro σ H Q ⟨G,ρ,P,s,en,h,q⟩;refine ⟨G,ρ,_,s,en,h,λds hd J G1 H1 x1 it Ad hA=>?_⟩;refine ⟨λi m dX H2=>m=ds.length-i∧i≤ds.length∧∃cz acc,CS Z G1 H1 Ad cz acc dX H2∧gJ g tt cx g1 b6 te (ds.drop i) cz acc λout=>P out,⟨_,rfl,cn _,_,[], .begin x1.sub hA ((en.mono x1.gg).src src),hd⟩,?_⟩;rintro i m dX H2 ⟨rfl,hi,cz,acc,c,hl⟩
 by_cases b0:i<ds.length
 ·have c0:=c
  obtain ⟨G2,ys,s1,s2,s3,off,gA,j4,bz,K7⟩:=c;obtain ⟨go,_,yld⟩:=it G2 H2 s1 s2 i;refine .inr ⟨go b0,λay H'=>∃aC b5,CS Z G1 H1 Ad aC b5 ay H'∧gJ g tt cx g1 b6 te (ds.drop (i+1)) aC b5 λout=>P out,λay H' n=>⟨ds.length-(i+1),by omega,rfl,b0,n⟩,λx H3 y=>?_⟩
  obtain ⟨G3,d,x3,ER,dv⟩:=yld x H3 b0 y;rw [jw ER] at hl;refine ⟨G3,cz,d,_,x3.sub,K7.mono x3.gg,dv,hl,λaW h1 eF oT=>?_⟩;refine ⟨G3,aW,_,x3.sub,oT,h1,λb hb G5 H5 x5=>?_⟩;have gN:=x3.trans x5;have pA:∀{G jW:Hp},Ext G2 H2 G jW→G Ad=none:=λx=>x.off Ad (by rw [j4];exact λz=>nomatch z) gA
  have jG:∀{G jW:Hp},Ext G2 H2 G jW→∀b,H1 b≠none→G1 b=none→G b=none:=λx b h1 h2=>x.off b (eQ s3 h1) (off b h1 h2);cases b with
  |false=>exact cO ⟨aW,acc,⟨G5,ys,s1.trans gN.gg,gN.sub,s3.trans gN.hh,jG gN,pA gN,gN.hh _ _ j4,bz.mono gN.gg,oT.mono x5.gg⟩,by simpa using hb⟩
  |true=>
   refine ed ⟨G5,aW,_,x5.sub,oT.mono x5.gg,(by simpa using hb),λes LA J1 G6 H6 x6 wV=>?_⟩
   have x:=gN.trans x6;have c6:CS Z G6 H6 Ad aW acc eF H6→True:=λ_=>trivial
   refine ⟨λk m mf H7=>m=es.length-k∧k≤es.length∧∃(uH:DN)(kY:List D),(∃(G:Hp)(ys:List V),aH G6 G∧aH G H7∧aH H1 H7∧(∀b,H1 b≠none→G1 b=none→G b=none)∧G Ad=none∧H7 Ad=some (.lst ys)∧au Z G ys kY∧cR Z G mf uH)∧
    lcW g1 b6 te (es.drop k) uH kY λcz ju=>gJ g tt cx g1 b6 te (ds.drop (i+1)) cz ju λout=>P out,
    ⟨_,rfl,cn _,aW,acc,⟨G6,ys, .refl _,x.sub,s3.trans x.hh,jG x,pA x,x.hh _ _ j4,bz.mono x.gg,(oT.mono x5.gg).mono x6.gg⟩,LA⟩,?_⟩
   rintro k m mf H7 ⟨rfl,hk,uH,kY,⟨G7,xo,a1,a2,a3,a4,a5,a6,a7,a8⟩,wN⟩;have Lf:aH G1 G6:=s1.trans x.gg
   by_cases tD:k<es.length
   ·obtain ⟨Li,_,GR⟩:=wV G7 H7 a1 a2 k
    refine .inr ⟨Li tD,λay H'=>∃(aC:DN)(b5:List D),(∃(G:Hp)(ys:List V),aH G6 G∧aH G H'∧aH H1 H'∧(∀b,H1 b≠none→G1 b=none→G b=none)∧G Ad=none∧H' Ad=some (.lst ys)∧au Z G ys b5∧cR Z G ay aC)∧
     lcW g1 b6 te (es.drop (k+1)) aC b5 λcz ju=>gJ g tt cx g1 b6 te (ds.drop (i+1)) cz ju λout=>P out,λay H' n=>⟨es.length-(k+1),by omega,rfl,tD,n⟩,λy H8 hy=>?_⟩
    obtain ⟨G8,d8,x8,Ly,K5⟩:=GR y H8 tD hy;rw [jw Ly] at wN;refine ⟨G8,uH,d8,_,x8.sub,a8.mono x8.gg,K5,wN,λxw h9 Yi wG=>?_⟩;refine ⟨G8,xw,_,x8.sub,wG,h9,λb hb DB DD uq=>?_⟩;have xx:=x8.trans uq;have oA:∀{G jW:Hp},Ext G7 H7 G jW→G Ad=none:=λx=>x.off Ad (by rw [a6];exact λz=>nomatch z) a5
    have oB:∀{G jW:Hp},Ext G7 H7 G jW→∀b,H1 b≠none→G1 b=none→G b=none:=λx b h1 h2=>x.off b (eQ a3 h1) (a4 b h1 h2);cases b with
    |false=>exact cO ⟨xw,kY,⟨DB,xo,a1.trans xx.gg,xx.sub,a3.trans xx.hh,oB xx,oA xx,xx.hh _ _ a6,a7.mono xx.gg,wG.mono uq.gg⟩,by simpa using hb⟩
    |true=>
     refine ed ⟨DB,xw,_,uq.sub,wG.mono uq.gg,(by simpa using hb),λd' mJ v Kf DH GQ Ey=>?_⟩
     have xz:=xx.trans GQ;refine ⟨xo,xz.hh _ _ a6,by rw [a7.length];exact mJ.1,xw,_,⟨Kf,xo++ [v],a1.trans xz.gg,λb o e=>?_,λb o e=>?_,oB xz,oA xz,aB,(a7.mono xz.gg).snoc Ey,(wG.mono uq.gg).mono GQ.gg⟩,mJ.2⟩
     ·rw [aD (aT e (oA xz))];exact xz.sub _ _ e
     ·rw [aD (aT e hA)];exact (a3.trans xz.hh) _ _ e
   ·have e:es.drop k= []:=uz (by omega)
    rw [e] at wN;exact .inl ⟨(wV G7 H7 a1 a2 k).2.1 (by omega),uH,kY,⟨G7,xo,Lf.trans a1,a2,a3,a4,a5,a6,a7,a8⟩,wN⟩
 ·have e:ds.drop i= []:=uz (by omega)
  rw [e] at hl;obtain ⟨G2,ys,s1,s2,s3,off,gA,j4,bz,en⟩:=c;refine .inl ⟨(it G2 H2 s1 s2 i).2.1 (by omega),q _ hl (.ref Ad) [Ad] G2 H2 ⟨x1.gg.trans s1,s2,x1.hh.trans s3,λb hb hg=>off b (eQ x1.hh hb) (x1.off b hb hg)⟩ (.inl ⟨Ad,ys,acc,[],rfl,rfl,j4,rfl,bz.own⟩) (by simp) λb hb=>?_⟩
  have:b=Ad:=by simpa using hb
  subst this;exact ⟨x1.hh.free hA,(by rw [j4];exact λz=>nomatch z),gA⟩
theorem zC(i:Nat){x:Str}{px gM:Pos}(hc:X.calm=true)(hN:X.N.Nodup)(c:bW X scope)(dg:cE scope X.N src NC)(hi:DI Z X t0 i0 wi)
  (hg:∀ex s H,DG Z (bP X scope NC ex s H) t0 g) (ht:∀ex s H,rm Z (bP X scope NC ex s H) f0 tt) (mK:∀ex s H,DI Z (bP X scope NC ex s H) t1 i1 cx) (tB:∀ex s H,DG Z (bP X scope NC ex s H) t1 g1)
  (tF:∀ex s H,rm Z (bP X scope NC ex s H) f1 b6) (he:∀ex s H,DE Z (bP X scope NC ex s H) elt te)
  (j6:swapsWith (.ListComp elt [⟨t0,i0,f0,0⟩,⟨t1,i1,f1,0⟩] scope pos) (some (.Name x px)) gM.line X.env=pure true:=by rfl) (hm:md.getD i 0=1:=by rfl) (lF:X.N[i]? =some x:=by rfl) (hx:Loc X.env.scope x:=by first|exact Or.inl rfl|exact Or.inr rfl)
  (hf:X.fn x=true∨X.env.scope.names.lookup x=some .local:=by first|exact .inl rfl|exact .inr rfl|assumption)
  (hs:∀x,foldedSetIterable i0 X.env x=pure x:=by intro _;rfl) (pb:∀env x,foldedSetIterable i1 env x=pure x:=by intro _ _;rfl):
  DSt Z X md rn (.Assign [.Name x px] (.ListComp elt [⟨t0,i0,f0,0⟩,⟨t1,i1,f1,0⟩] scope pos) gM) (Ei md i (JP wi g tt cx g1 b6 te src)):=by
 refine (ub hc hN lF hx c dg hi hg ht mK tB tF he j6 hf hs pb).imp ?_;rintro D σ H ⟨B,ρ,E,⟨G,fp,S⟩,h,M⟩;exact CM σ H _ (qv hm S h M)
end
section
variable {Z:DC} {X:Cx}
theorem pF(ns:List Int):∀n,n≤ns.length→preSum (λi=>ns.getD i 0) n=(ns.take n).sum
 |0,_=>by simp [preSum]
 |n+1,h=>by
  have:=pF ns n (by omega)
  rw [preSum,this,List.take_succ_eq_append_getElem (by omega),List.sum_append,aJ,bq (by omega)]
  simp
theorem zv(hc:X.calm=true):cC X (.builtin "sum") (λxs H Q=>∃(p:Addr)(ns:List Int),xs= [.ref p]∧H p=some (.lst (ns.map V.int))∧Q (.int ns.sum) H):=by
 intro pins s σ H xs us Q I rv h;obtain ⟨p,ns,rfl,hp,q⟩:=h;obtain ⟨u,rfl,ru⟩:=rv.one;cases ru;obtain ⟨its,r,pl,hz⟩:=I.list (cD.of hp);have hl:=r.length;rw [List.length_map] at hl;refine call_sum_walkG (wpAny_pyIter_list pl.isList ?_)
 have b0:p<s.heap.objs.size:=by
  obtain ⟨o,ho,_⟩:=pl.isList;exact Heap.lt_size ho
 have wO:p≠s.heap.objs.size:=cc b0;refine ⟨_,_,_,its.toArray.size,_,_,λi=>ns.getD i 0,rfl,Walks.list (show X.A.in1.handled=none from I.ok.hd hc) s.heap.objs.size p wO its.toArray,⟨⟨_,Heap.get?_push_size _ rfl,rfl,rfl⟩,pl.isList.push _⟩,?_,?_,λh' tk t' kk=>?_⟩
 ·intro b hb
  show b<(s.heap.push _).objs.size;rw [size_push'];simp only [b9,uE,or_false] at hb
  rcases hb with rfl|rfl
  ·exact uu _
  ·exact Nat.lt_succ_of_lt b0
 ·intro i v hv
  have z6:its[i]? =some v:=by simpa using hv
  have hi:i<its.length:=(fA.mp z6).1;obtain ⟨w,hw,AM⟩:=r.get (i:=i) (x:= .int (ns.getD i 0)) (by rw [eC,aJ,bq (by omega)];rfl)
  rw [hw] at z6;cases z6;exact AM
 ·have kept:∀b o,s.heap.get? b=some o→h'.get? b=some o:=λb o e=>kk b o (by simp;exact cc (Heap.lt_size e)) (Heap.get?_push_of_some _ e)
  have e:preSum (λi=>ns.getD i 0) its.toArray.size=ns.sum:=by
   rw [cB,←hl,pF ns _ (br _),List.take_of_length_le (br _)]
  rw [e];exact ⟨.int _,H,I.kept kept,⟨_,rfl⟩,q⟩
def Nk:cV:=λds P=>∃ns:List Int,ds= [.lst (ns.map D.int)]∧P (.int ns.sum)
theorem Hf(hc:X.calm=true):cC X (.builtin "sum") (gP Z Nk):=by
 refine (zv hc).imp ?_;rintro xs H Q ⟨G,ds,P,s,dv,⟨ns,rfl,hp⟩,q⟩;cases dv with
 |cons a as=>
  cases as;cases a with
  |lst h e=>exact ⟨_,ns,rfl,by rw [←tj e];exact s _ _ h,q _ hp _ G H (.refl s) (.int _)⟩
theorem He:bootBuiltins "sum"=some (.builtin "sum"):=by decide+kernel
end
section
variable {Z:DC} {X:Cx}
def D4:cV:=λds P=>∃ns:List (Nat×Nat),ds= [.lst (ns.map pairD)]∧ns.length<64∧∀ms:List (Nat×Nat),ms.Perm ns→ms.Pairwise Wb.lexLe→P (.lst (ms.map pairD))
theorem nH(hu:X.A.units+64<cLine):cC X (.builtin "sorted") (gP Z D4):=by
 refine (uO hu).imp ?_;rintro xs H Q ⟨G,ds,P,s,dv,⟨ns,rfl,hl,hp⟩,q⟩;cases dv with
 |cons a as=>
  cases as;cases a with
  | @lst p oF ds h e=>
   obtain ⟨L,rfl,h2,h3⟩:=vd e;have hL:L.length=ns.length:=by rw [←h2];simp
   refine ⟨_,L,rfl,cD.of (s _ _ h),λp hp=>s _ _ (h3 p hp),by omega,λp M hn m1 m2=>?_⟩
   have pm:(M.map (·.2)).Perm ns:=by rw [←h2];exact m1.map _
   have hM:B8 (upd G p (.lst (M.map λe=>V.ref e.1))) M:=λx hx=>aV (s.free hn) _ _ _ (h3 x (m1.mem_iff.mp hx));exact q _ (hp _ pm m2) _ _ _ (.new s hn) (.lst aB hM.dv)
end
end L2
namespace Wb
section
variable {α:Type}
open Classical in
noncomputable def num(P:α→Prop)(l:List α):Nat:=(l.filter λx=>decide (P x)).length
theorem bA(P:α→Prop)(a:α)(l:List α):(P a→num P (a::l)=num P l+1)∧(¬P a→num P (a::l)=num P l):=by
 unfold num
 constructor
 ·intro h;rw [List.filter_cons_of_pos (by simpa using h)];rfl
 ·intro h;rw [List.filter_cons_of_neg (by simpa using h)]
theorem bJ{P Q:α→Prop}:∀{l:List α},(∀x∈l,P x↔Q x)→num P l=num Q l
 | [],_=>rfl
 |a::l,h=>by
  have ih:=bJ (P:=P) (Q:=Q) (l:=l) λx hx=>h x (cv _ hx)
  by_cases c:P a
  ·rw [(bA P a l).1 c,(bA Q a l).1 ((h a (b4 ..)).mp c),ih]
  ·rw [(bA P a l).2 c,(bA Q a l).2 (λz=>c ((h a (b4 ..)).mpr z)),ih]
theorem eo{P Q:α→Prop}:∀{l:List α},(∀x∈l,P x→Q x→False)→num (λx=>P x∨Q x) l=num P l+num Q l
 | [],_=>rfl
 |a::l,h=>by
  have ih:=eo (P:=P) (Q:=Q) (l:=l) λx hx=>h x (cv _ hx)
  by_cases c:P a
  ·have nq:¬Q a:=λz=>h a (b4 ..) c z
   rw [(bA _ a l).1 (Or.inl c),(bA P a l).1 c,(bA Q a l).2 nq,ih];omega
  ·by_cases d:Q a
   ·rw [(bA _ a l).1 (Or.inr d),(bA P a l).2 c,(bA Q a l).1 d,ih];omega
   ·rw [(bA _ a l).2 (λz=>z.elim c d),(bA P a l).2 c,(bA Q a l).2 d,ih]
theorem jE{P:α→Prop}{l:List α}(h:∀x∈l,¬P x):num P l=0:=by
 unfold num;rw [List.filter_eq_nil_iff.mpr (by simpa using h)];rfl
theorem lI{a:α}:∀{l:List α},l.Nodup→a∈l→num (λx=>x=a) l=1
 | [],_,h=>by cases h
 |b::l,nd,h=>by
  obtain ⟨n1,n2⟩:=gf.mp nd
  by_cases c:b=a
  ·subst c
   rw [(bA (λx=>x=b) b l).1 rfl,jE (P:=λx=>x=b) λx hx e=>n1 (by rw [←e];exact hx)]
  ·rw [(bA (λx=>x=a) b l).2 c,lI n2 ((b9.mp h).resolve_left λz=>c z.symm)]
theorem eJ:∀{S l:List α},S.Nodup→l.Nodup→(∀x∈S,x∈l)→num (λx=>x∈S) l=S.length
 | [],l,_,_,_=>jE λx _ h=>by cases h
 |a::S,l,ns,nl,h=>by
  obtain ⟨n1,n2⟩:=gf.mp ns;have e:num (λx=>x∈a::S) l=num (λx=>x=a∨x∈S) l:=bJ λx _=>b9;rw [e,eo (P:=λx=>x=a) (Q:=λx=>x∈S) (λx _ h1 h2=>n1 (by rw [←h1];exact h2)),lI nl (h a (b4 ..)),eJ n2 nl λx hx=>h x (cv _ hx),eU]
  omega
end
theorem lh(w:W)(A:Nat×Nat→Prop):cnt w A=num A (aI w):=rfl
theorem yP{l:List Nat}(nd:l.Nodup){P:Nat→Prop}(h:∀x∈l,P x→P (af l x)){a:Nat}(ha:a∈l)(pa:P a):∀x∈l,P x:=by
 have pos:0<l.length:=zh ha;have ia:=eu.mpr ha
 have key:∀k,P (l.getD ((l.idxOf a+k)%l.length) 0):=by
  intro k
  induction k with
  |zero=>
   rw [Nat.add_zero,eV ia,aJ,bq ia]
   have:l[l.idxOf a]=a:=fH ia
   show P (l[l.idxOf a]);rw [this];exact pa
  |succ k ih=>
   have b0:(l.idxOf a+k)%l.length<l.length:=je _ pos
   have:=h _ (aw b0) ih
   rw [h8 nd b0] at this;rw [show l.idxOf a+(k+1)=l.idxOf a+k+1 by omega]
   rw [Nat.mod_add_mod] at this;exact this
 intro x hx;have ix:=eu.mpr hx
 have:=key (l.idxOf x+l.length-l.idxOf a)
 rw [show l.idxOf a+(l.idxOf x+l.length-l.idxOf a)=l.idxOf x+l.length by omega,Nat.add_mod_right,eV ix,aJ,bq ix] at this
 have e:l[l.idxOf x]=x:=fH ix;have this:P (l[l.idxOf x]):=this;rw [e] at this;exact this
section
variable {w:W} {R:List Nat} {A:Nat×Nat→Prop}
theorem Disc.closed(g:Good w)(D:Disc w R A){p q:Nat}(hp:p∉R)(h:A (p,q)):∀r∈row w p,A (p,r):=by
 refine yP (g.nod p) (P:=λr=>A (p,r)) (λx hx a=>?_) (D.dart _ h) h;have s:=(D.sym p x hx (λz=>hp z.1) (λz=>hp (by rw [z.2];exact ba z.1))).mp a
 exact (D.face (x,p) (g.sym _ _ hx)).mp s
def jf(R:List Nat)(A:Nat×Nat→Prop)(p:Nat):Prop:=p∉R∧∃q,A (p,q)
noncomputable def jA(w:W)(R:List Nat)(A:Nat×Nat→Prop):Nat:=num (jf R A) (List.range w.length)
theorem wu(g:Good w)(B:iL w)(D:Disc w R A){i j:Nat}(rD:i<j)(hj:j<R.length)(h:R.getD j 0∈withinL w R i):
  ∃S:Nat×Nat→Prop,Disc w ((R.take (j+1)).drop i) (λd=>A d∧S d)∧Disc w (R.drop j++R.take (i+1)) (λd=>A d∧¬S d):=by
 have hi:i<R.length:=by omega
 have hw:=(bV g D hi).mp h
 have hB:(R.drop (i+1)).take (j-i-1)≠ []:=by
  intro e;have e:=congrArg List.length e;simp only [b8,dE,iI] at e;have e:j=i+1:=by omega
  refine ku g D hi ?_;rw [eV (by omega),←e];exact h
 have hC:R.drop (j+1)++R.take i≠ []:=by
  intro e;have e:=congrArg List.length e;simp only [cy,b8,dE,iI] at e;refine hw.2 ?_;unfold bB;rw [if_pos (by omega),show j=R.length-1 by omega]
 rw [EK rD hj,EL rD hj];have s3:=sh rD hj;generalize hP:R.take i=P at*;generalize hp:R.getD i 0=p at*;generalize Ur:(R.drop (i+1)).take (j-i-1)=BB at*;generalize hq:R.getD j 0=q at*;generalize Us:R.drop (j+1)=CC at*;have D0:Disc w (P++p::(BB++q::CC)) A:=s3▸D
 have D1:Disc w (p::(BB++q::(CC++P))) A:=by
  have:=D0.ud
  simpa using this
 have qu:=D1.nd;have e1:p::(BB++q::(CC++P))=(p::BB)++ [q]++(CC++P):=by simp
 have Fy:(p::(BB++ [q])).Nodup:=by
  rw [e1] at qu
  have:=(fg.mp qu).1
  simpa using this
 have bl:1≤BB.length:=rd.mpr hB
 have tie:∀x∈p::(BB++ [q]),af (p::(BB++ [q])) x∈row w x:=λx hx=>by
  have hx:x∈p::BB∨x=q:=by simpa [or_assoc] using hx
  rcases hx with hx|rfl
  ·have:=kq (a:=p::BB) (z:=q) (b:=CC++P) (by rw [←e1];exact qu) hx
   rw [←e1] at this;rw [show p::(BB++ [q])=(p::BB)++ [q] by simp,←this]
   exact g.sym _ _ (D1.ring x (by rw [e1];exact fo _ (fo _ hx))).1
  ·rw [cI Fy]
   exact g.sym _ _ (D.dart _ hw.1)
 obtain ⟨S,bd⟩:=B.ring g Fy (by simp;omega) tie
 by_cases c:S (af (p::(BB++q::(CC++P))) p,p)
 ·exact ⟨S,parted g D1 rfl hB hC hw.1 bd c⟩
 ·exact ⟨λd=>¬S d,parted g D1 rfl hB hC hw.1 bd.neg c⟩
variable {v m:Nat} {y:Nat→Nat}
def xF(v:Nat)(y:Nat→Nat)(k:Nat)(d:Nat×Nat):Prop:=d=(y k,v)∨d=(v,y (k+1))∨d=(y (k+1),y k)
theorem xF.cnt(g:Good w)(D:Disc w R A)(F:At w R v m y){k:Nat}(hk:k<m):num (xF v y k) (aI w)=3:=by
 have nd:=cq g;have a:=F.yi g D k hk;have b:=(F.yD g D hk).2.2;have n0:=F.ne g (k:=k) (by omega)
 have n1:=F.ne g (k:=k+1) (by omega)
 have e:num (xF v y k) (aI w)=num (λd=>d=(y k,v)∨(d=(v,y (k+1))∨d=(y (k+1),y k))) (aI w):=rfl;rw [e,eo (P:=λd=>d=(y k,v)) (Q:=λd=>d=(v,y (k+1))∨d=(y (k+1),y k)),eo (P:=λd=>d=(v,y (k+1))) (Q:=λd=>d=(y (k+1),y k)),lI nd (bI.mpr (D.dart _ a.1)),lI nd (bI.mpr (D.dart _ a.2)),lI nd (bI.mpr (D.dart _ b))]
 ·rintro x _ rfl h
  exact n1 (Prod.mk.inj h).1.symm
 ·rintro x _ rfl (h|h)
  ·exact n0 (Prod.mk.inj h).1
  ·exact n0 (Prod.mk.inj h).2.symm
theorem cm.cnt(g:Good w)(D:Disc w R A)(F:At w R v m y):∀j,j≤m→num (cm v j y) (aI w)=3*j
 |0,_=>jE λx _ ⟨k,hk,_⟩=>by omega
 |j+1,hj=>by
  have e:num (cm v (j+1) y) (aI w)=num (λd=>cm v j y d∨xF v y j d) (aI w):=bJ λd _=>by
   constructor
   ·rintro ⟨k,hk,h⟩
    by_cases c:k=j
    ·subst c;exact .inr h
    ·exact .inl ⟨k,by omega,h⟩
   ·rintro (⟨k,hk,h⟩ |h)
    ·exact ⟨k,by omega,h⟩
    ·exact ⟨j,by omega,h⟩
  have inj:=F.fan.inj;rw [e,eo,cm.cnt g D F j (by omega),xF.cnt g D F (by omega)]
  ·omega
  ·rintro x _ ⟨k,hk,h⟩ h'
   have ne:∀i,i≤m→y i≠v:=λi hi=>F.ne g hi
   rcases h with rfl|rfl|rfl<;>rcases h' with h'|h'|h'
   ·have:=inj _ _ (by omega) (by omega) (Prod.mk.inj h').1;omega
   ·exact ne k (by omega) (Prod.mk.inj h').1
   ·exact ne j (by omega) (Prod.mk.inj h').2.symm
   ·exact ne j (by omega) (Prod.mk.inj h').1.symm
   ·have:=inj _ _ (by omega) (by omega) (Prod.mk.inj h').2;omega
   ·exact ne (j+1) (by omega) (Prod.mk.inj h').1.symm
   ·exact ne k (by omega) (Prod.mk.inj h').2
   ·exact ne (k+1) (by omega) (Prod.mk.inj h').1
   ·have:=inj _ _ (by omega) (by omega) (Prod.mk.inj h').2;omega
theorem Dy(g:Good w)(D:Disc w R A)(F:At w R v 1 y)(hR:R= [y 0,y 1,v])(d:Nat×Nat)(h:A d):cm v 1 y d:=by
 apply Classical.byContradiction;intro hn;have nd:=D.nd;have s0:af R (y 0)=y 1:=by rw [hR];exact bT (a:= []) (by rw [hR] at nd;exact nd)
 have s1:af R (y 1)=v:=F.pv;have s2:af R v=y 0:=F.nx.symm;have m0:y 0∈R:=by rw [hR];simp
 have m1:y 1∈R:=by rw [hR];simp
 have m2:v∈R:=F.vm;have mR:∀p∈R,p=y 0∨p=y 1∨p=v:=λp hp=>by rw [hR] at hp;simpa using hp
 have t0:cm v 1 y (y 0,v):=⟨0,by omega, .inl rfl⟩
 have t1:cm v 1 y (v,y 1):=⟨0,by omega, .inr (.inl rfl)⟩
 have t2:cm v 1 y (y 1,y 0):=⟨0,by omega, .inr (.inr rfl)⟩
 have tr:∀p q,cm v 1 y (p,q)→q∈R∧p=af R q:=by
  rintro p q ⟨k,hk,h⟩
  have:k=0:=by omega
  subst this
  rcases h with h|h|h<;>obtain ⟨rfl,rfl⟩:=Prod.mk.inj h
  ·exact ⟨m2,s2.symm⟩
  ·exact ⟨m1,s1.symm⟩
  ·exact ⟨m0,s0.symm⟩
 have rev:∀p q,A (p,q)→¬cm v 1 y (p,q)→A (q,p)∧¬cm v 1 y (q,p):=λp q a n=>by
  have n1:¬(p∈R∧q=af R p):=λz=>(D.ring p z.1).2.2 (by rw [←z.2];exact a)
  have n2:¬(q∈R∧p=af R q):=by
   rintro ⟨hq,rfl⟩
   rcases mR q hq with rfl|rfl|rfl
   ·rw [s0] at n;exact n t2
   ·rw [s1] at n;exact n t1
   ·rw [s2] at n;exact n t0
  refine ⟨(D.sym p q (D.dart _ a) n1 n2).mp a,λt=>?_⟩;exact n1 (tr _ _ t)
 have all:∀p q,A (p,q)→¬cm v 1 y (p,q)→∀r∈row w p,A (p,r)∧¬cm v 1 y (p,r):=λp q a n=>by
  refine yP (g.nod p) (P:=λr=>A (p,r)∧¬cm v 1 y (p,r)) (λx hx z=>?_) (D.dart _ a) ⟨a,n⟩;obtain ⟨z1,z2⟩:=rev p x z.1 z.2;have hd:aK w (x,p):=g.sym _ _ hx;exact ⟨(D.face _ hd).mp z1,λt=>z2 ((F.Kd g D hd).mpr t)⟩
 obtain ⟨p,q⟩:=d
 have go:∀r,Reach w p r→∀s∈row w r,A (r,s)∧¬cm v 1 y (r,s):=by
  intro r hr
  induction hr with
  |refl=>exact all p q h hn
  | @step b c _ hc ih=>
   obtain ⟨a,n⟩:=ih c hc;obtain ⟨a',n'⟩:=rev _ _ a n;exact all c b a' n'
 have hp:p<w.length:=bG (D.dart _ h);have hv:v<w.length:=bG (F.fan.mem 0 (by omega))
 have hr:Reach w p v:=((g.con p hp).symm g.sym).trans (g.con v hv);exact (go v hr (y 1) (F.fan.mem 1 (by omega))).2 t1
theorem sT(w:W)(A S:Nat×Nat→Prop):cnt w A=cnt w (λd=>A d∧S d)+cnt w (λd=>A d∧¬S d):=by
 rw [lh,lh,lh,←eo (λx _ h h'=>h'.2 h.2)];refine bJ λx _=>?_
 by_cases c:S x
 ·exact ⟨λa=> .inl ⟨a,c⟩,λz=>z.elim (·.1) (·.1)⟩
 ·exact ⟨λa=> .inr ⟨a,c⟩,λz=>z.elim (·.1) (·.1)⟩
theorem ED(g:Good w)(B:iL w):∀(n:Nat){R:List Nat}{A:Nat×Nat→Prop},Disc w R A→cnt w A≤n→cnt w A+6=6*jA w R A+3*R.length:=by
 intro n
 induction n with
 |zero=>
  intro R A D hn;obtain ⟨p,hp⟩:∃p,p∈R:=⟨R.getD 0 0,aw (by have:=D.len;omega)⟩
  have a:=(D.ring p hp).2.1
  have:=mj (w:=w) (A:=A) (A':=λ_=>False) (λ_ z=>z.elim) (D.dart _ a) a id
  omega
 |succ n ih=>
  intro R A D hn;have len:=D.len
  by_cases c:∃i,i<R.length-1∧R.getD (R.length-1) 0∈withinL w R i
  ·obtain ⟨i,hi,hc⟩:=c
   obtain ⟨S,E1,E2⟩:=wu g B D hi (by omega) hc
   have sp:=sT w A S;have x1:=ih E1;have x2:=ih E2
   have p1:0<cnt w (λd=>A d∧S d):=by
    obtain ⟨p,hp⟩:∃p,p∈(R.take (R.length-1+1)).drop i:=⟨_,aw (i:=0) (by have:=E1.len;omega)⟩
    have a:=(E1.ring p hp).2.1
    have:=mj (w:=w) (A:=λd=>A d∧S d) (A':=λ_=>False) (λ_ z=>z.elim) (E1.dart _ a) a id
    omega
   have p2:0<cnt w (λd=>A d∧¬S d):=by
    obtain ⟨p,hp⟩:∃p,p∈R.drop (R.length-1)++R.take (i+1):=⟨_,aw (i:=0) (by have:=E2.len;omega)⟩
    have a:=(E2.ring p hp).2.1
    have:=mj (w:=w) (A:=λd=>A d∧¬S d) (A':=λ_=>False) (λ_ z=>z.elim) (E2.dart _ a) a id
    omega
   have x1:=x1 (by omega)
   have x2:=x2 (by omega)
   have RP:∀p,p∈(R.take (R.length-1+1)).drop i→p∈R:=λp h=>List.mem_of_mem_take (List.mem_of_mem_drop h);have RQ:∀p,p∈R.drop (R.length-1)++R.take (i+1)→p∈R:=λp h=>(dF.mp h).elim List.mem_of_mem_drop List.mem_of_mem_take
   have Nz:∀p,p∈R→p∈(R.take (R.length-1+1)).drop i∨p∈R.drop (R.length-1)++R.take (i+1):=λp h=>by
    rw [show R.length-1+1=R.length by omega,List.take_length]
    rw [←jT i R] at h
    rcases dF.mp h with h|h
    ·refine .inr (eW _ ?_)
     rw [List.take_add_one];exact fo _ h
    ·exact .inl h
   have key:jA w R A=jA w ((R.take (R.length-1+1)).drop i) (λd=>A d∧S d)+jA w (R.drop (R.length-1)++R.take (i+1)) (λd=>A d∧¬S d):=by
    unfold jA;rw [←eo]
    ·refine bJ λp _=>?_
     constructor
     ·rintro ⟨hp,q,a⟩
      by_cases s:S (p,q)
      ·exact .inl ⟨λz=>hp (RP p z),q,a,s⟩
      ·exact .inr ⟨λz=>hp (RQ p z),q,a,s⟩
     ·rintro (⟨hp,q,a,s⟩ | ⟨hp,q,a,s⟩)
      ·refine ⟨λz=>?_,q,a⟩
       rcases Nz p z with z|z
       ·exact hp z
       ·
        have cl:=E1.closed g hp ⟨a,s⟩;obtain ⟨b,hb,eb⟩:=pG E2.nd z;have r:=(E2.ring b hb);rw [eb] at r
        have:=cl b r.1
        exact r.2.1.2 this.2
      ·refine ⟨λz=>?_,q,a⟩
       rcases Nz p z with z|z
       ·have cl:=E2.closed g hp ⟨a,s⟩
        obtain ⟨b,hb,eb⟩:=pG E1.nd z;have r:=(E1.ring b hb);rw [eb] at r
        have:=cl b r.1
        exact this.2 r.2.1.2
       ·exact hp z
    ·rintro p _ ⟨hp,q,a,s⟩ ⟨_,q',a',s'⟩
     exact s' (E1.closed g hp ⟨a,s⟩ q' (D.dart _ a')).2
   rw [dE,b8] at x1;rw [cy,dE,b8] at x2;omega
  ·have no:∀i,i<R.length-1→R.getD (R.length-1) 0∉withinL w R i:=λi hi h=>c ⟨i,hi,h⟩
   have hl:R.length-1<R.length:=by omega
   obtain ⟨m,y,F,e0,em,ew⟩:=i8 g D hl;have pos:=F.at_.fan.pos;have b0:=F.lt;rw [show R.length-1+1=R.length by omega,oH] at e0
   have ep:bB R (R.length-1)=R.length-2:=by unfold bB;rw [if_neg (by omega)];omega
   rw [ep] at em;have sp:=sh (R:=R) (i:=R.length-2) (j:=R.length-1) (by omega) hl
   rw [show R.length-1-(R.length-2)-1=0 by omega,show R.length-1+1=R.length by omega,List.drop_length,List.take_zero,kM,←em] at sp
   have pl:(R.take (R.length-2)).length=R.length-2:=by rw [b8];omega
   have p0:(R.take (R.length-2)).getD 0 0=y 0:=by
    rw [e0,aJ,nk (by omega),←aJ]
   have uS:∀k,0<k→k<m→y k∉R:=λk h1 h2 hR=>by
    obtain ⟨i,hi,ei⟩:=fq.mp hR;have Ez:R.getD i 0=y k:=by rw [←ei,aJ,bq hi];rfl
    have hm:y k∈withinL w R (R.length-1):=by rw [ew];exact fD.mpr ⟨k,h1,h2,rfl⟩
    rw [←Ez] at hm;have hs:=dD g D hl hi hm
    have ne:i≠R.length-1:=by
     intro z;refine F.at_.ne g (k:=k) (by omega) ?_
     rw [←Ez,z]
    exact no i (by omega) hs
   generalize hv:R.getD (R.length-1) 0=v at F sp;have tc:=cm.cnt g D F.at_ m (br _);have sc:=sT w A (cm v m y)
   have st:cnt w (λd=>A d∧cm v m y d)=3*m:=by
    rw [lh,←tc];exact bJ λd _=>⟨λz=>z.2,λz=>⟨F.at_.Sa g D z,z⟩⟩
   by_cases c3:3≤(R.take (R.length-2)).length+m
   ·have E:=tQ g D F.at_ sp p0 (λe=>by rw [e] at pl;simp at pl;omega) uS c3
    have x:=ih E (by omega)
    have W8:((List.range (m-1)).map λk=>y (k+1)).Nodup:=by
     rw [zg,jb];refine List.Pairwise.imp_of_mem ?_ List.pairwise_lt_range;intro a b ha hb wL e;have ha:=cg.mp ha;have hb:=cg.mp hb
     have:=F.at_.fan.inj _ _ (by omega) (by omega) e
     omega
    have key:jA w R A=jA w (cG (R.take (R.length-2)) m y) (λd=>A d∧¬cm v m y d)+(m-1):=by
     have e1:num (λp=>p∈(List.range (m-1)).map λk=>y (k+1)) (List.range w.length)=m-1:=by
      rw [eJ W8 me,List.length_map,gd];intro p hp;obtain ⟨k,hk,rfl⟩:=bx.mp hp;have hk:=cg.mp hk;exact cg.mpr (g.rng _ _ (F.at_.fan.mem (k+1) (by omega)))
     unfold jA;rw [←e1,←eo]
     ·refine bJ λp _=>?_
      have yM:∀q∈R.take (R.length-2),q∈R:=λq h=>List.mem_of_mem_take h;have vR:v∈R:=F.at_.vm;have Ye:y 0∈R:=by rw [F.at_.nx];exact ba vR
      constructor
      ·rintro ⟨hp,q,a⟩
       by_cases z:p∈cG (R.take (R.length-2)) m y
       ·rcases dG.mp z with z| ⟨k,h1,h2,rfl⟩
        ·exact absurd (yM p z) hp
        ·by_cases km:k=m
         ·exact absurd (km▸F.at_.pm) hp
         ·exact .inr (fD.mpr ⟨k,by omega,by omega,rfl⟩)
       ·refine .inl ⟨z,q,a,?_⟩
        rintro ⟨k,hk,h|h|h⟩
        ·have e:=(Prod.mk.inj h).1
         by_cases k0:k=0
         ·rw [k0] at e;exact hp (e▸Ye)
         ·exact z (dG.mpr (.inr ⟨k,by omega,by omega,e⟩))
        ·exact hp ((Prod.mk.inj h).1▸vR)
        ·exact z (dG.mpr (.inr ⟨k+1,by omega,by omega,(Prod.mk.inj h).1⟩))
      ·rintro (⟨hp,q,a,nt⟩ |h)
       ·refine ⟨λz=>?_,q,a⟩
        rw [sp] at z
        rcases dF.mp z with z|z
        ·exact hp (dG.mpr (.inl z))
        ·have z:p=y m∨p=v:=by simpa using z
         rcases z with rfl|rfl
         ·exact hp (dG.mpr (.inr ⟨m,by omega,by omega,rfl⟩))
         ·obtain ⟨k,k1,k2,rfl⟩:=Whole.between g D F a
          exact nt ⟨k-1,by omega, .inr (.inl (by rw [show k-1+1=k by omega]))⟩
       ·obtain ⟨k,k1,k2,rfl⟩:=fD.mp h
        exact ⟨uS k k1 k2,_,(F.at_.yi g D k k2).1⟩
     ·rintro p _ ⟨hp,_⟩ h
      obtain ⟨k,k1,k2,rfl⟩:=fD.mp h;exact hp (dG.mpr (.inr ⟨k,by omega,by omega,rfl⟩))
    rw [gv,pl] at x;omega
   ·have hm:m=1:=by omega
    have hr:R.length=3:=by omega
    subst hm
    have hR:R= [y 0,y 1,v]:=by
     have h1:R.take (R.length-2)= [y 0]:=by
      rw [hr] at pl p0 ⊢
      match R.take (3-2),pl,p0 with
      | [a],_,h=>rw [show a=y 0 from h]
     rw [h1] at sp;simpa using sp
    have only:=Dy g D F.at_ hR
    have z0:jA w R A=0:=by
     refine jE ?_;rintro p _ ⟨hp,q,a⟩;obtain ⟨k,hk,h⟩:=only _ a
     have:k=0:=by omega
     subst this;rw [hR] at hp
     rcases h with h|h|h<;>obtain ⟨rfl,_⟩:=Prod.mk.inj h<;>simp at hp
    have c0:cnt w (λd=>A d∧¬cm v 1 y d)=0:=jE λd _ z=>z.2 (only d z.1);omega
end
section
variable {w:W} {R:List Nat} {A:Nat×Nat→Prop}
theorem Disc.swap(D:Disc w R A){p q:Nat}(h:A (p,q))(n:p∉R∨q∉R):A (q,p):=by
 refine (D.sym p q (D.dart _ h) (λz=>?_) (λz=>?_)).mp h
 ·rcases n with n|n
  ·exact n z.1
  ·exact n (by rw [z.2];exact ba z.1)
 ·rcases n with n|n
  ·exact n (by rw [z.2];exact ba z.1)
  ·exact n z.1
theorem inn_start(g:Good w)(D:Disc w R A){i z:Nat}(hi:i<R.length)(h:z∈withinL w R i)(hz:z∉R):jf R A z:=
 ⟨hz,_,D.swap ((bV g D hi).mp h).1 (.inr hz)⟩
theorem CD(g:Good w)(D:Disc w R A){p q:Nat}(h:jf R A p)(hq:q∈row w p)(hz:q∉R):jf R A q:=by
 obtain ⟨h1,r,h2⟩:=h;exact ⟨hz,_,D.swap (D.closed g h1 h2 q hq) (.inl h1)⟩
theorem zK(g:Good w)(D:Disc w R A){M:Nat→Prop}(c1:∀i z,i<R.length→z∈withinL w R i→z∉R→M z)(c2:∀p q,M p→q∈row w p→q∉R→M q){p:Nat}(h:jf R A p):M p:=by
 apply Classical.byContradiction;intro nm
 have step:∀p q,(jf R A p∧¬M p)→q∈row w p→(jf R A q∧¬M q):=λp q ⟨hp,np⟩ hq=>by
  obtain ⟨h1,r,h2⟩:=hp;have a:=D.closed g h1 h2 q hq;have a':=D.swap a (.inl h1)
  by_cases c:q∈R
  ·exfalso
   have lt:=eu.mpr c;have e:R.getD (R.idxOf q) 0=q:=by rw [aJ,bq lt,fH lt];rfl
   refine np (c1 (R.idxOf q) p lt ((bV g D lt).mpr ⟨by rw [e];exact a',λz=>h1 ?_⟩) h1)
   rw [z];exact aw (dQ lt)
  ·exact ⟨⟨c,p,a'⟩,λmq=>np (c2 q p mq (g.sym _ _ hq) h1)⟩
 have b0:p<w.length:=by obtain ⟨_,q,a⟩:=h;exact bG (D.dart _ a)
 have all:∀{a b},Reach w a b→(jf R A b∧¬M b)→(jf R A a∧¬M a):=λ {a b} r=>by
  induction r with
  |refl=>exact id
  |step _ hr ih=>exact λhb=>ih (step _ _ hb (g.sym _ _ hr))
 have z0:=all (g.con p b0) ⟨h,nm⟩;have fwd:∀q,q<w.length→(jf R A q∧¬M q):=qI g z0 step;have hr:R.getD 0 0∈R:=aw (by have:=D.len;omega)
 exact (fwd _ (bG (g.sym _ _ (D.ring _ hr).1))).1.1 hr
theorem r6(g:Good w)(D:Disc w R A){p:Nat}(h:jf R A p):p<w.length:=by obtain ⟨_,q,a⟩:=h;exact bG (D.dart _ a)
theorem jy{R:List Nat}{k i:Nat}(hk:k<R.length)(hi:i<R.length):(R.drop k++R.take k).getD i 0=R.getD ((i+k)%R.length) 0:=by
 by_cases c:i+k<R.length
 ·rw [aJ,dP (by rw [dE];omega),uC,eV c,aJ,Nat.add_comm]
 ·rw [aJ,fG (by rw [dE];omega),dE,nk (by omega),xu (by omega),eV (by omega),aJ]
  congr 2
  omega
theorem jM(R:List Nat)(k:Nat):(R.drop k++R.take k).length=R.length:=by
 rw [cy,dE,b8];omega
theorem ma(w:W){R:List Nat}{k i:Nat}(hk:k<R.length)(hi:i<R.length):withinL w (R.drop k++R.take k) i=withinL w R ((i+k)%R.length):=by
 have e1:(R.drop k++R.take k).getD ((i+1)%(R.drop k++R.take k).length) 0=R.getD (((i+k)%R.length+1)%R.length) 0:=by
  rw [jM,jy hk (je _ (by omega)),Nat.mod_add_mod,Nat.mod_add_mod]
  congr 2;omega
 have e2:(R.drop k++R.take k).getD (bB (R.drop k++R.take k) i) 0=R.getD (bB R ((i+k)%R.length)) 0:=by
  have hp:bB (R.drop k++R.take k) i<R.length:=by
   have:=dQ (R:=R.drop k++R.take k) (i:=i) (by rw [jM];exact hi)
   rw [jM] at this;exact this
  rw [jy hk hp]
  congr 1
  unfold bB;rw [jM]
  by_cases c:i=0
  ·subst c
   rw [if_pos rfl,nB,eV hk]
   by_cases d:k=0
   ·rw [if_pos d,d,Nat.add_zero,eV (by omega)]
   ·rw [if_neg d,xu (by omega),eV (by omega)];omega
  ·rw [if_neg c]
   by_cases d:i+k<R.length
   ·rw [eV d,if_neg (by omega),eV (by omega)];omega
   ·rw [xu (a:=i+k) (by omega),eV (a:=i+k-R.length) (by omega)]
    by_cases z:i+k-R.length=0
    ·rw [if_pos z,eV (by omega)];omega
    ·rw [if_neg z,xu (by omega),eV (by omega)];omega
 unfold withinL;rw [e1,e2,jy hk hi]
end
theorem CU{α:Type}{P:α→Prop}{l m:List α}(h:l.Perm m):num P l=num P m:=(h.filter _).length_eq
theorem yB{α β:Type}{P:β→Prop}(f:α→β):∀l:List α,num P (l.map f)=num (λx=>P (f x)) l
 | []=>rfl
 |a::l=>by
  have ih:=yB (P:=P) f l
  by_cases c:P (f a)
  ·rw [iK,(bA P _ _).1 c,(bA (λx=>P (f x)) a l).1 c,ih]
  ·rw [iK,(bA P _ _).2 c,(bA (λx=>P (f x)) a l).2 c,ih]
def sw(d:Nat×Nat):Nat×Nat:=(d.2,d.1)
theorem GC(d:Nat×Nat):sw (sw d)=d:=rfl
theorem BX{a b:Nat×Nat}(h:sw a=sw b):a=b:=by rw [←GC a,h,GC]
theorem bK{α β:Type}{f:α→β}{l:List α}(nd:l.Nodup)(inj:∀a∈l,∀b∈l,f a=f b→a=b):(l.map f).Nodup:=by
 rw [zg,jb];exact (zg.mp nd).imp_of_mem λ {a b} ha hb wL e=>wL (inj a ha b hb e)
section
variable {w:W} {R:List Nat} {A:Nat×Nat→Prop}
theorem Cf(g:Good w):((aI w).map sw).Perm (aI w):=by
 refine (B3 (bK (cq g) λa _ b _ h=>BX h) (cq g)).mpr λd=>?_;rw [bx]
 constructor
 ·rintro ⟨e,he,rfl⟩
  exact bI.mpr (g.sym _ _ (bI.mp he))
 ·intro h
  exact ⟨sw d,bI.mpr (g.sym _ _ (bI.mp h)),rfl⟩
theorem Ie(g:Good w)(P:Nat×Nat→Prop):num (λd=>P (sw d)) (aI w)=num P (aI w):=by
 rw [←yB,CU (Cf g)]
def WD(w:W)(R:List Nat)(d:Nat×Nat):Prop:=∃i,i<R.length∧d.1=R.getD i 0∧d.2∈withinL w R i
theorem nj(g:Good w)(D:Disc w R A){i:Nat}(hi:i<R.length):(withinL w R i).Nodup:=by
 obtain ⟨m,y,F,_,_,ew⟩:=i8 g D hi;rw [ew];have hl:=F.lt;refine bK me λa ha b hb e=>?_;rw [cg] at ha hb
 have:=F.inj (a+1) (b+1) (by omega) (by omega) e
 omega
theorem WD.a(g:Good w)(D:Disc w R A){d:Nat×Nat}(h:WD w R d):A d:=by
 obtain ⟨i,hi,e,h⟩:=h
 have:=((bV g D hi).mp h).1
 rw [←e] at this;exact this
theorem iW{α β:Type}{f:α→List β}:∀{l:List α},l.Nodup→(∀a∈l,(f a).Nodup)→(∀a∈l,∀b∈l,∀x,x∈f a→x∈f b→a=b)→(l.flatMap f).Nodup
 | [],_,_,_=>kN
 |a::l,nd,h1,h2=>by
  obtain ⟨n1,n2⟩:=gf.mp nd;rw [jc,fg];refine ⟨h1 a (b4 ..),iW n2 (λb hb=>h1 b (cv _ hb)) (λb hb c hc=>h2 b (cv _ hb) c (cv _ hc)),λx hx y hy e=>?_⟩;obtain ⟨b,hb,hy⟩:=pX.mp hy;subst e
  have:=h2 a (b4 ..) b (cv _ hb) x hx hy
  exact n1 (by rw [this];exact hb)
def tm(w:W)(R:List Nat):List (Nat×Nat):=(List.range R.length).flatMap λi=>(withinL w R i).map λz=>(R.getD i 0,z)
theorem zH(w:W)(R:List Nat):(tm w R).length=((List.range R.length).map λi=>(withinL w R i).length).sum:=by
 unfold tm;rw [List.length_flatMap]
 congr 1
 refine vV λi _=>by simp
theorem Co(g:Good w)(D:Disc w R A):((List.range R.length).map λi=>(withinL w R i).length).sum=num (WD w R) (aI w):=by
 rw [←zH]
 have nd:(tm w R).Nodup:=by
  refine iW me (λi hi=>?_) λi hi j hj x hx hy=>?_
  ·exact bK (nj g D (cg.mp hi)) λa _ b _ e=>(Prod.mk.inj e).2
  ·obtain ⟨_,_,rfl⟩:=bx.mp hx
   obtain ⟨_,_,e⟩:=bx.mp hy;exact (getD_inj D.nd (cg.mp hj) (cg.mp hi) (Prod.mk.inj e).1).symm
 have mem:∀d,d∈tm w R↔WD w R d:=λd=>by
  unfold tm WD;rw [pX]
  constructor
  ·rintro ⟨i,hi,h⟩
   obtain ⟨z,hz,rfl⟩:=bx.mp h;exact ⟨i,cg.mp hi,rfl,hz⟩
  ·rintro ⟨i,hi,e,h⟩
   exact ⟨i,cg.mpr hi,bx.mpr ⟨d.2,h,by rw [←e]⟩⟩
 rw [←eJ nd (cq g) λd hd=>bI.mpr (D.dart _ (((mem d).mp hd).a g D))];exact bJ λd _=>mem d
theorem Ed(g:Good w)(B:iL w)(D:Disc w R A){L:List Nat}{cs ts:List (Nat×Nat)}(nL:L.Nodup)(hL:∀p,p∈L↔jf R A p)(nc:cs.Nodup)(hc:∀i j,(i,j)∈cs↔i<j∧j<R.length∧R.getD j 0∈withinL w R i)
  (nt:ts.Nodup) (ht:∀p q,(p,q)∈ts↔p<q∧q∈row w p∧p∈L∧q∈L):
  ((List.range R.length).map λi=>(withinL w R i).length).sum+ts.length+3=cs.length+3*L.length+R.length:=by
 have ee:=ED g B _ D (br _);have nd:=cq g;rw [Co g D]
 have r1:num (λd=>d.2∈R∧d.1=af R d.2) (aI w)=R.length:=by
  rw [←List.length_map (f:=λp=>(af R p,p)),←eJ (bK D.nd λa _ b _ e=>(Prod.mk.inj e).2) nd λd hd=>by
   obtain ⟨p,hp,rfl⟩:=bx.mp hd;exact bI.mpr (D.ring p hp).1]
  refine bJ λd _=>?_;rw [bx]
  constructor
  ·rintro ⟨a,b⟩;exact ⟨d.2,a,by rw [←b]⟩
  ·rintro ⟨p,hp,rfl⟩;exact ⟨hp,rfl⟩
 have r2:num (λd=>WD w R d∧d.2∈R) (aI w)=2*cs.length:=by
  have len:(cs.map (λt=>(R.getD t.1 0,R.getD t.2 0))++cs.map (λt=>(R.getD t.2 0,R.getD t.1 0))).length=2*cs.length:=by simp;omega
  have cl:∀t∈cs,t.1<t.2∧t.2<R.length:=λt ht=>let h:=(hc t.1 t.2).mp ht;⟨h.1,h.2.1⟩
  have nS:(cs.map (λt=>(R.getD t.1 0,R.getD t.2 0))++cs.map (λt=>(R.getD t.2 0,R.getD t.1 0))).Nodup:=by
   rw [fg];refine ⟨bK nc λa ha b hb e=>?_,bK nc λa ha b hb e=>?_,λx hx y hy e=>?_⟩
   ·have:=cl a ha;have:=cl b hb
    exact Prod.ext (getD_inj D.nd (by omega) (by omega) (Prod.mk.inj e).1) (getD_inj D.nd (by omega) (by omega) (Prod.mk.inj e).2)
   ·have:=cl a ha;have:=cl b hb
    exact Prod.ext (getD_inj D.nd (by omega) (by omega) (Prod.mk.inj e).2) (getD_inj D.nd (by omega) (by omega) (Prod.mk.inj e).1)
   ·obtain ⟨a,ha,rfl⟩:=bx.mp hx
    obtain ⟨b,hb,rfl⟩:=bx.mp hy
    have:=cl a ha;have:=cl b hb
    have:=getD_inj D.nd (i:=a.1) (j:=b.2) (by omega) (by omega) (Prod.mk.inj e).1
    have:=getD_inj D.nd (i:=a.2) (j:=b.1) (by omega) (by omega) (Prod.mk.inj e).2
    omega
  have mem:∀d,d∈(cs.map (λt=>(R.getD t.1 0,R.getD t.2 0))++cs.map (λt=>(R.getD t.2 0,R.getD t.1 0)))↔WD w R d∧d.2∈R:=λd=>by
   rw [dF,bx,bx]
   constructor
   ·rintro (⟨t,ht,rfl⟩ | ⟨t,ht,rfl⟩)
    ·have h:=(hc t.1 t.2).mp ht
     exact ⟨⟨t.1,by omega,rfl,h.2.2⟩,aw h.2.1⟩
    ·have h:=(hc t.1 t.2).mp ht
     exact ⟨⟨t.2,h.2.1,rfl,dD g D (by omega) h.2.1 h.2.2⟩,aw (by omega)⟩
   ·rintro ⟨⟨i,hi,e,h⟩,hr⟩
    have lt:=eu.mpr hr;have ej:R.getD (R.idxOf d.2) 0=d.2:=by rw [aJ,bq lt,fH lt];rfl
    rw [←ej] at h
    rcases Nat.lt_trichotomy i (R.idxOf d.2) with c|c|c
    ·exact .inl ⟨(i,R.idxOf d.2),(hc _ _).mpr ⟨c,lt,h⟩,Prod.ext e.symm ej⟩
    ·exfalso
     have a:=((bV g D hi).mp h).1;rw [←c] at a;exact g.irr _ (D.dart _ a)
    ·exact .inr ⟨(R.idxOf d.2,i),(hc _ _).mpr ⟨c,hi,dD g D hi lt h⟩,Prod.ext e.symm ej⟩
  rw [←len,←eJ nS nd λd hd=>bI.mpr (D.dart _ (((mem d).mp hd).1.a g D))];exact bJ λd _=>(mem d).symm
 have r3:num (λd=>d.1∉R∧A d∧d.2∉R) (aI w)=2*ts.length:=by
  have len:(ts++ts.map sw).length=2*ts.length:=by simp;omega
  have nS:(ts++ts.map sw).Nodup:=by
   rw [fg];refine ⟨nt,bK nt λa _ b _ e=>BX e,λx hx y hy e=>?_⟩;obtain ⟨b,hb,rfl⟩:=bx.mp hy;have h1:=((ht x.1 x.2).mp hx).1;have h2:=((ht b.1 b.2).mp hb).1;rw [e] at h1;have h1:b.2<b.1:=h1;omega
  have mem:∀d,d∈ts++ts.map sw↔d.1∉R∧A d∧d.2∉R:=λd=>by
   have tie:∀p q,(p,q)∈ts→p∉R∧A (p,q)∧q∉R:=λp q h=>by
    obtain ⟨_,h2,h3,h4⟩:=(ht p q).mp h;obtain ⟨n1,r,a⟩:=(hL p).mp h3;exact ⟨n1,D.closed g n1 a q h2,((hL q).mp h4).1⟩
   rw [dF,bx]
   constructor
   ·rintro (h| ⟨t,h,rfl⟩)
    ·exact tie d.1 d.2 h
    ·obtain ⟨n1,a,n2⟩:=tie t.1 t.2 h
     exact ⟨n2,D.swap a (.inl n1),n1⟩
   ·rintro ⟨n1,a,n2⟩
    have a':A (d.1,d.2):=a;have i1:d.1∈L:=(hL _).mpr ⟨n1,d.2,a⟩;have i2:d.2∈L:=(hL _).mpr ⟨n2,d.1,D.swap a' (.inl n1)⟩;have hd:=D.dart _ a;have ne:d.1≠d.2:=λz=>g.irr d.1 (by have:d.2∈row w d.1:=hd;rw [←z] at this;exact this)
    rcases Nat.lt_or_gt_of_ne ne with c|c
    ·exact .inl ((ht d.1 d.2).mpr ⟨c,hd,i1,i2⟩)
    ·exact .inr ⟨sw d,(ht d.2 d.1).mpr ⟨c,g.sym _ _ hd,i2,i1⟩,rfl⟩
  rw [←len,←eJ nS nd λd hd=>bI.mpr (D.dart _ ((mem d).mp hd).2.1)];exact bJ λd _=>(mem d).symm
 have r4:num (λd=>d.1∉R∧A d∧d.2∈R) (aI w)=num (λd=>WD w R d∧d.2∉R) (aI w):=by
  rw [←Ie g];refine bJ λd _=>?_;show (d.2∉R∧A (d.2,d.1)∧d.1∈R)↔_
  constructor
  ·rintro ⟨n1,a,hr⟩
   have lt:=eu.mpr hr;have ej:R.getD (R.idxOf d.1) 0=d.1:=by rw [aJ,bq lt,fH lt];rfl
   refine ⟨⟨R.idxOf d.1,lt,ej.symm,(bV g D lt).mpr ⟨by rw [ej];exact D.swap a (.inl n1),λz=>n1 ?_⟩⟩,n1⟩
   rw [z];exact aw (dQ lt)
  ·rintro ⟨h,n1⟩
   have a:A (d.1,d.2):=h.a g D;obtain ⟨i,hi,e,_⟩:=h;exact ⟨n1,D.swap a (.inr n1),by rw [e];exact aw hi⟩
 have w1:num (WD w R) (aI w)=num (λd=>WD w R d∧d.2∈R) (aI w)+num (λd=>WD w R d∧d.2∉R) (aI w):=by
  rw [←eo λd _ h1 h2=>h2.2 h1.2];refine bJ λd _=>⟨λh=>?_,λh=>h.elim (·.1) (·.1)⟩
  by_cases c:d.2∈R
  ·exact .inl ⟨h,c⟩
  ·exact .inr ⟨h,c⟩
 have a1:cnt w A=num (λd=>d.2∈R∧d.1=af R d.2) (aI w)+(num (WD w R) (aI w)+(num (λd=>d.1∉R∧A d∧d.2∈R) (aI w)+num (λd=>d.1∉R∧A d∧d.2∉R) (aI w))):=by
  have wr:∀d,WD w R d→d.1∈R:=λd ⟨i,hi,e,_⟩=>by rw [e];exact aw hi
  rw [lh,←eo λd _ h1 h2=>h2.2.2 h1.2.2,←eo (P:=WD w R) (Q:=λd=>(d.1∉R∧A d∧d.2∈R)∨(d.1∉R∧A d∧d.2∉R)) λd _ h1 h2=>h2.elim (λz=>z.1 (wr d h1)) λz=>z.1 (wr d h1),←eo (P:=λd:Nat×Nat=>d.2∈R∧d.1=af R d.2) λd _ h1 h2=>?_]
  ·refine bJ λd _=>⟨λa=>?_,λh=>?_⟩
   ·by_cases c:d.1∈R
    ·by_cases z:d.2∈R∧d.1=af R d.2
     ·exact .inl z
     ·right;left
      have lt:=eu.mpr c;have ej:R.getD (R.idxOf d.1) 0=d.1:=by rw [aJ,bq lt,fH lt];rfl
      refine ⟨R.idxOf d.1,lt,ej.symm,(bV g D lt).mpr ⟨by rw [ej];exact a,λe=>z ?_⟩⟩
      refine ⟨by rw [e];exact aw (dQ lt),?_⟩
      rw [e,fF D.nd lt,ej]
    ·right;right
     by_cases z:d.2∈R
     ·exact .inl ⟨c,a,z⟩
     ·exact .inr ⟨c,a,z⟩
   ·rcases h with h|h|h|h
    ·have:=(D.ring d.2 h.1).2.1
     rw [←h.2] at this;exact this
    ·exact h.a g D
    ·exact h.2.1
    ·exact h.2.1
  ·rcases h2 with ⟨i,hi,e,hw⟩ |h2|h2
   ·have:=((bV g D hi).mp hw).2
    refine this (cM D.nd h1.1 (aw (dQ hi)) ?_);rw [←h1.2,e,fF D.nd hi]
   ·exact h2.1 (by rw [h1.2];exact ba h1.1)
   ·exact h2.1 (by rw [h1.2];exact ba h1.1)
 have i1:jA w R A=L.length:=by
  unfold jA;rw [←eJ nL me λp hp=>cg.mpr (r6 g D ((hL p).mp hp))];exact bJ λp _=>(hL p).symm
 omega
end
section
variable {w:W} {R:List Nat} {A:Nat×Nat→Prop}
theorem xR(g:Good w)(D:Disc w R A){cs:List (Nat×Nat)}(nc:cs.Nodup)(hc:∀i j,(i,j)∈cs↔i<j∧j<R.length∧R.getD j 0∈withinL w R i):num (λd=>WD w R d∧d.2∈R) (aI w)=2*cs.length:=by
 have nd:=cq g;have len:(cs.map (λt=>(R.getD t.1 0,R.getD t.2 0))++cs.map (λt=>(R.getD t.2 0,R.getD t.1 0))).length=2*cs.length:=by simp;omega
 have cl:∀t∈cs,t.1<t.2∧t.2<R.length:=λt ht=>let h:=(hc t.1 t.2).mp ht;⟨h.1,h.2.1⟩
 have nS:(cs.map (λt=>(R.getD t.1 0,R.getD t.2 0))++cs.map (λt=>(R.getD t.2 0,R.getD t.1 0))).Nodup:=by
  rw [fg];refine ⟨bK nc λa ha b hb e=>?_,bK nc λa ha b hb e=>?_,λx hx y hy e=>?_⟩
  ·have:=cl a ha;have:=cl b hb
   exact Prod.ext (getD_inj D.nd (by omega) (by omega) (Prod.mk.inj e).1) (getD_inj D.nd (by omega) (by omega) (Prod.mk.inj e).2)
  ·have:=cl a ha;have:=cl b hb
   exact Prod.ext (getD_inj D.nd (by omega) (by omega) (Prod.mk.inj e).2) (getD_inj D.nd (by omega) (by omega) (Prod.mk.inj e).1)
  ·obtain ⟨a,ha,rfl⟩:=bx.mp hx
   obtain ⟨b,hb,rfl⟩:=bx.mp hy
   have:=cl a ha;have:=cl b hb
   have:=getD_inj D.nd (i:=a.1) (j:=b.2) (by omega) (by omega) (Prod.mk.inj e).1
   have:=getD_inj D.nd (i:=a.2) (j:=b.1) (by omega) (by omega) (Prod.mk.inj e).2
   omega
 have mem:∀d,d∈(cs.map (λt=>(R.getD t.1 0,R.getD t.2 0))++cs.map (λt=>(R.getD t.2 0,R.getD t.1 0)))↔WD w R d∧d.2∈R:=λd=>by
  rw [dF,bx,bx]
  constructor
  ·rintro (⟨t,ht,rfl⟩ | ⟨t,ht,rfl⟩)
   ·have h:=(hc t.1 t.2).mp ht
    exact ⟨⟨t.1,by omega,rfl,h.2.2⟩,aw h.2.1⟩
   ·have h:=(hc t.1 t.2).mp ht
    exact ⟨⟨t.2,h.2.1,rfl,dD g D (by omega) h.2.1 h.2.2⟩,aw (by omega)⟩
  ·rintro ⟨⟨i,hi,e,h⟩,hr⟩
   have lt:=eu.mpr hr;have ej:R.getD (R.idxOf d.2) 0=d.2:=by rw [aJ,bq lt,fH lt];rfl
   rw [←ej] at h
   rcases Nat.lt_trichotomy i (R.idxOf d.2) with c|c|c
   ·exact .inl ⟨(i,R.idxOf d.2),(hc _ _).mpr ⟨c,lt,h⟩,Prod.ext e.symm ej⟩
   ·exfalso
    have a:=((bV g D hi).mp h).1;rw [←c] at a;exact g.irr _ (D.dart _ a)
   ·exact .inr ⟨(R.idxOf d.2,i),(hc _ _).mpr ⟨c,hi,dD g D hi lt h⟩,Prod.ext e.symm ej⟩
 rw [←len,←eJ nS nd λd hd=>bI.mpr (D.dart _ (((mem d).mp hd).1.a g D))];exact bJ λd _=>(mem d).symm
theorem w4{α:Type}{P Q:α→Prop}:∀{l:List α},(∀x∈l,P x→Q x)→num P l≤num Q l
 | [],_=>br _
 |a::l,h=>by
  have ih:=w4 (l:=l) λx hx=>h x (cv _ hx);have h0:=h a (b4 ..);obtain ⟨p1,p2⟩:=bA P a l;obtain ⟨q1,q2⟩:=bA Q a l
  by_cases c:P a
  ·have:=p1 c;have:=q1 (h0 c);omega
  ·have:=p2 c
   by_cases c':Q a
   ·have:=q1 c';omega
   ·have:=q2 c';omega
theorem xT(g:Good w)(B:iL w)(D:Disc w R A)(bw:w.length≤14):cnt w A≤69:=by
 have e:=ED g B _ D (br _);have l3:=D.len
 have s:jA w R A+R.length≤w.length:=by
  have h1:num (λp=>p∈R) (List.range w.length)=R.length:=eJ D.nd me λp hp=>cg.mpr ((D.nh g).lt g hp);have h2:=eo (P:=jf R A) (Q:=λp=>p∈R) (l:=List.range w.length) λp _ h h'=>h.1 h'
  have h3:num (λp=>jf R A p∨p∈R) (List.range w.length)≤(List.range w.length).length:=by
   unfold num;exact vT _ _
  rw [gd] at h3;unfold jA;omega
 omega
theorem qH(g:Good w)(B:iL w)(D:Disc w R A)(bw:w.length≤14){cs:List (Nat×Nat)}(nc:cs.Nodup)(hc:∀i j,(i,j)∈cs↔i<j∧j<R.length∧R.getD j 0∈withinL w R i):cs.length<64:=by
 have h1:=xR g D nc hc;have h2:=xT g B D bw;have h3:num (λd=>WD w R d∧d.2∈R) (aI w)≤cnt w A:=w4 λd _ h=>h.1.a g D;omega
theorem Du(g:Good w)(B:iL w)(F:Full w R)(bw:w.length≤14):(cU (row w) w.length).length<64:=by
 have h1:=AZ g;rw [←td] at h1;have D:Disc w R λd=>aK w d∧¬bR R d.1 d.2:=F;have h2:=xT g B D bw;have C6:=(D.nh g).qC g
 have h3:num (λd:Nat×Nat=>bR R d.1 d.2) (aI w)≤R.length:=by
  have:num (λd:Nat×Nat=>d∈R.map λp=>(p,af R p)) (aI w)=(R.map λp=>(p,af R p)).length:=eJ (bK D.nd λa _ b _ e=>(Prod.mk.inj e).1) (cq g) λd hd=>by
   obtain ⟨p,hp,rfl⟩:=bx.mp hd;exact bI.mpr (g.sym _ _ (D.ring p hp).1)
  rw [List.length_map] at this;rw [←this];exact w4 λd _ h=>bx.mpr ⟨d.1,h.1,Prod.ext rfl h.2.symm⟩
 have h4:=eo (P:=λd:Nat×Nat=>aK w d∧¬bR R d.1 d.2) (Q:=λd=>bR R d.1 d.2) (l:=aI w) λd _ h h'=>h.2 h'
 have h5:num (λd:Nat×Nat=>(aK w d∧¬bR R d.1 d.2)∨bR R d.1 d.2) (aI w)=(aI w).length:=by
  have:num (λd:Nat×Nat=>d∈aI w) (aI w)=(aI w).length:=eJ (cq g) (cq g) λd h=>h
  rw [←this];refine bJ λd hd=>⟨λ_=>hd,λ_=>?_⟩
  by_cases c:bR R d.1 d.2
  ·exact .inr c
  ·exact .inl ⟨bI.mp hd,c⟩
 have h6:cnt w (λd=>aK w d∧¬bR R d.1 d.2)=num (λd:Nat×Nat=>aK w d∧¬bR R d.1 d.2) (aI w):=rfl;omega
end
end Wb
namespace p9
open PySem L2 Wb
variable {P:Program} {w:World} {mg:Str→Option Value} {base:Heap} {Z:DC} (T:Txt Z mg)
theorem Fm{g:dj}{cx:gE}{g1:dj}{b6:cW}{te:bh}{α β γ:Type}(I:DN→Prop)(J:α→DN→Prop)(enc:α→D)(f:α→List β)(gU:β→D)(p:α→β→Bool)(k:α→β→γ)(lA:γ→D)(JI:∀y ρ,J y ρ→I ρ):∀(ys:List α)(aC:DN)(acc:List γ)(P:List D→Prop),
  (∀y∈ys,∀aC,I aC→∀(Y:DN→List D→Prop),(∀aW,J y aW→Y aW ((f y).map gU))→g (enc y) aC λaW=>cx aW (Y aW))→
  (∀y∈ys,∀b∈f y,∀aC,J y aC→∀(Y:DN→D→Prop)(Nn:DN→Prop),(∀aW,J y aW→p y b=true→Y aW (lA (k y b)))→(∀aW,J y aW→p y b=false→Nn aW)→g1 (gU b) aC λaW=>b6 aW λc=>if c=true then te aW (Y aW) else Nn aW)→
  I aC→acc.length+(ys.flatMap λy=>((f y).filter (p y)).map (k y)).length≤sizeLine→(∀y∈ys,acc.length+(ys.flatMap λy=>((f y).filter (p y)).map (k y)).length+(f y).length≤sizeLine)→P ((acc++ys.flatMap λy=>((f y).filter (p y)).map (k y)).map lA)→gJ g mU cx g1 b6 te (ys.map enc) aC (acc.map lA) P
 | [],aC,acc,P,_,_,hI,_,_,h=>by
  show P (acc.map lA);simpa using h
 |y::ys,aC,acc,P,h1,h2,hI,hz,hy,h=>by
  have U6:=hy y (b4 ..);rw [jc,cy] at hz U6;refine h1 y (b4 ..) aC hI (λaW es=>lcW g1 b6 te es aW (acc.map lA) λcz ju=>gJ g mU cx g1 b6 te (ys.map enc) cz ju P) λaW Uy=>?_;refine pe (J y) gU (p y) (λb=>lA (k y b)) (f y) aW (acc.map lA) _ (λb hb cz Lo Y Nn hY hN=>?_) Uy (by rw [List.length_map];omega) λcz Lo=>?_
  ·exact h2 y (b4 ..) b hb cz Lo Y Nn hY hN
  ·have e:acc.map lA++((f y).filter (p y)).map (λb=>lA (k y b))=(acc++((f y).filter (p y)).map (k y)).map lA:=by rw [fh,fI];rfl
   rw [e];refine Fm I J enc f gU p k lA JI ys cz (acc++((f y).filter (p y)).map (k y)) P (λz hz=>h1 z (cv _ hz)) (λz hz=>h2 z (cv _ hz)) (JI y cz Lo) (by rw [cy];omega) (λz hz=>?_) ?_
   ·have:=hy z (cv _ hz)
    rw [jc,cy] at this;rw [cy];omega
   ·rw [jc] at h
    rw [uD];exact h
def Gy:cV:=λds P=>∃(w:W),ds= [.eT w]∧Good w∧w.length≤14∧(cU (row w) w.length).length<64∧∀ts:List (Nat×Nat),ts.Perm (cU (row w) w.length)→ts.Pairwise lexLe→P (.lst (ts.map pairD))
theorem w6:FnOk P w Z.K mg base cP 1 T.m_ties.f T.m_ties.fd ["self"] (aS Z Gy):=by
 have nd:=pJ.nd;refine bc T.m_ties.F pJ [0] (by decide) (λds R h=>by obtain ⟨_,rfl,_⟩:=h;rfl) (λbM A outer s H E ds R hr h=>?_)
 have hu:=hr.units;refine ⟨_,(ar (aM (ax (nH hu) rfl T.B.sorted ie (ab (Hm (NC:= ["p","row","q"]) (src:= [none,none,none]) rfl (mH (aq iY)) trivial (gI rfl T.B.enumerate (ab (xV T.W (aa 0)) ag)) (λ_ _ _=>(Bl 2 rfl (mn (bQ 0 (show (["p","row","q"]:List Str).Nodup from by decide+kernel)) (mn (bQ 1 (show (["p","row","q"]:List Str).Nodup from by decide+kernel)) xW)))) (λ_ _ _=>dJ) (λ_ _ _=>(bU (aa 1))) (λ_ _ _=>(bQ 2 (show (["p","row","q"]:List Str).Nodup from by decide+kernel))) (λ_ _ _=>(ij (aU tU (aa 0) (aa 2) (bF _)))) (λ_ _ _=>(fv (ab (aa 0) (ab (aa 2) ag))))) ag)))),?_⟩
 obtain ⟨w',rfl,g,bw,few,q⟩:=h
 have ee:gn (w'.map ao)=(List.range w'.length).map λ(j:Nat)=>D.tup [.int (j:Int),ao (row w' j)]:=by
  refine List.ext_getElem? λj=>?_;rw [eC]
  by_cases lt:j<w'.length
  ·rw [zj lt]
   cases e:(gn (w'.map ao))[j]? with
   |none=>
    have:=List.getElem?_eq_none_iff.mp e
    rw [nO,List.length_map] at this;omega
   |some d=>rw [(zd e).2];rfl
  ·rw [i9 (by rw [nO,List.length_map];omega),i9 (by rw [gd];omega)];rfl
 have tb:((List.range w'.length).flatMap λp=>((row w' p).filter λq=>decide (p<q)).map λq=>(p,q))=cU (row w') w'.length:=rfl
 have fl:∀n,n≤w'.length→(cU (row w') n).length≤n*14:=λn=>by
  induction n with
  |zero=>intro _;exact br _
  |succ n ih=>
   intro h
   have:=ih (by omega)
   have h2:=dA g n;have h3:=vT (λq=>decide (n<q)) (row w' n);unfold cU at this ⊢;rw [uF,vX,cy];simp only [jc,v9,nz,List.length_map];omega
 have Hy:=fl w'.length (br _);refine ⟨_,rfl,w',rfl,?_⟩;refine (?_:gJ _ _ _ _ _ _ (gn (w'.map ao)) _ _ _);rw [ee];refine Fm (λρ=>∃o0 o1 o2,ρ= [o0,o1,o2]) (λp ρ=>∃o2,ρ= [some (ae p),some (ao (row w' p)),o2]) _ (λp=>row w' p) ae (λp q=>decide (p<q)) (λp q=>(p,q)) pairD (λy ρ ⟨o2,e⟩=>⟨_,_,_,e⟩) (List.range w'.length) _ [] _ (λp hp aC hI Y hY=>?_) (λp hp b hb aC hI Y Nn hY hN=>?_) ⟨none,none,none,rfl⟩ ?_ (λp hp=>?_) ?_
 ·obtain ⟨o0,o1,o2,rfl⟩:=hI
  exact ⟨rfl,rfl,_,rfl,hY _ ⟨_,rfl⟩⟩
 ·obtain ⟨o2,rfl⟩:=hI
  refine ⟨_,rfl,_,rfl,_,rfl,?_⟩;refine (?_:if decide ((p:Int)<(b:Int))=true then _ else _);rw [show decide ((p:Int)<(b:Int))=decide (p<b) from decide_eq_decide.mpr (by omega)]
  exact cu (λe=>⟨_,rfl,_,rfl,by show 2≤sizeLine;decide,hY _ ⟨_,rfl⟩ e⟩) (λe=>hN _ ⟨_,rfl⟩ e)
 ·rw [tb,iI,nB];exact small (by omega)
 ·have:=dA g p
  rw [tb,iI,nB];exact small (by omega)
 ·rw [tb,kM]
  exact ⟨_,rfl,few,q⟩
theorem CG{ms:List Int}{ns:List Nat}(pm:ms.Perm (ns.map λ(n:Nat)=>(n:Int)))(rP:ms.Pairwise (·≤·))(nd:ns.Nodup):∃L:List Nat,ms.map D.int=L.map ae∧L.Pairwise (·<·)∧L.Perm ns:=by
 have e:∀m∈ms,((m.toNat:Nat):Int)=m:=λm hm=>by
  obtain ⟨n,_,rfl⟩:=bx.mp (pm.mem_iff.mp hm);simp
 have pn:(ms.map Int.toNat).Perm ns:=by
  have:=pm.map Int.toNat
  rw [fI] at this;rw [show (Int.toNat∘λ(n:Nat)=>(n:Int))=id from by funext n;simp] at this
  simpa using this
 refine ⟨ms.map Int.toNat,?_,?_,pn⟩
 ·rw [fI]
  exact vV λm hm=>by show D.int m=ae m.toNat;unfold ae;rw [e m hm]
 ·have jD:=pn.nodup_iff.mpr nd
  rw [zg,jb] at jD;rw [jb]
  exact (rP.and jD).imp λ {a b} ⟨h1,h2⟩=>by
   have:a.toNat≤b.toNat:=Int.toNat_le_toNat h1
   omega
theorem lZ{w:W}{R:List Nat}{i:Nat}(g:Good w)(bw:w.length≤14)(Ti:gF w R)(hi:i<R.length):(withinL w R i).length≤14:=by
 rw [g9]
 have:=kh (Ti.next (i:=i) hi)
 have h2:=dA g (R.getD i 0);rw [b8];omega
def AW:cV:=λds P=>∃(w:W)(R:List Nat)(A:Nat×Nat→Prop),ds= [.eT w,ao R]∧Good w∧w.length≤14∧Disc w R A∧∀L:List Nat,L.Pairwise (·<·)→(∀p,p∈L↔jf R A p)→P (ao L)
theorem fR:FnOk P w Z.K mg base cP 3 T.d_points_within.f T.d_points_within.fd ["web","ring"] (aS Z AW):=by
 have nd:=i6.nd;refine bc T.d_points_within.F i6 [0,0,0,1,99,0] (by decide) (λds R h=>by obtain ⟨_,_,_,rfl,_⟩:=h;rfl) (λbM A outer s H E ds R hr h=>?_)
 have hu:=hr.units
 refine ⟨_,(ah (aF false 2 nd (qf T.W (aa 0) T.m_turns.m (mZ T) (hr.mono (by decide)) T.m_turns.b))
   (ah (zC 3 (NC:= ["i","p","web","ring"]) (src:= [none,none,some 0,some 1]) rfl nd (mH (aq fb)) ⟨rfl,rfl,rfl,rfl,trivial⟩ (nJ rfl T.B.range (ab (ax aP rfl T.B.len aO (ab (aa 1) ag)) ag)) (λ_ _ _=>(bQ 0 (show (["i","p","web","ring"]:List Str).Nodup from by decide+kernel))) (λ_ _ _=>dJ) (λ_ _ _=>(bU (aA T.d_within_at ((eM T).imp Dg) hr (ab (aa 2) (ab (aa 3) (ab (aa 0) ag)))))) (λ_ _ _=>(bQ 1 (show (["i","p","web","ring"]:List Str).Nodup from by decide+kernel))) (λ_ _ _=>dJ) (λ_ _ _=>(aa 1)))
   (ah (Ex 4 nd rfl T.x_set)
   (ah (qg PassesOwn.never (j0 (aa 3)) (ah (Bn 5 3 nd)
   (ar (cL (DW.dt (rY (aU vD (aa 5) (aa 1) (by with_unfolding_all rfl)) (oS (aU Av (aa 5) (aa 4) (by with_unfolding_all rfl))))) (ah (Eu false 4 (aa 5))
   (ar (Ht 3 (bD (aa 2) (aa 5))))) bH))))
   (ar (aM (ax (Cb rfl) rfl T.B.sorted ie (ab (aa 4) ag)))))))),?_⟩
 obtain ⟨w',R',A',rfl,g,bw,D',q⟩:=h;have Ti:=D'.nh g;have C6:=Ti.qC g;have lR:(R'.map ae).length=R'.length:=List.length_map _;have wl:∀i,i<R'.length→(withinL w' R' i).length≤14:=λi hi=>lZ g bw Ti hi;refine ⟨_,rfl,w',rfl,w',rfl,bw,trivial,?_⟩;refine ⟨_,rfl,⟨by omega,by show ((R'.map ae).length:Int)<2^62;omega⟩,?_⟩
 rw [show (((R'.map ae).length:Int)).toNat=R'.length by omega,oh]
 have fl:∀n,n≤R'.length→((List.range n).flatMap λi=>withinL w' R' i).length≤n*14:=λn=>by
  induction n with
  |zero=>intro _;simp
  |succ n ih=>
   intro h
   have:=ih (by omega)
   have:=wl n (by omega)
   rw [uF,vX,cy];simp only [jc,v9,nz];omega
 have Hy:=fl R'.length (br _);refine yq (λρ=>∃o0 o1,ρ= [o0,o1,some (.eT w'),some (ao R')]) ae (λi=>withinL w' R' i) ae (List.range R'.length) _ [] _ (λi hi aC hI Y hY=>?_) (λi hi b hb aC hI Y hY=>?_) ⟨none,none,rfl⟩ (by rw [iI,nB];exact small (by omega)) ?_
 ·obtain ⟨o0,o1,rfl⟩:=hI
  exact ⟨_,rfl,_,rfl,_,rfl,w',R',i,rfl,g,bw,Ti,cg.mp hi,hY _ ⟨_,_,rfl⟩⟩
 ·obtain ⟨o0,o1,rfl⟩:=hI
  exact ⟨_,rfl,hY _ ⟨_,_,rfl⟩⟩
 rw [kM]
 have start:∀z,z∈((List.range R'.length).flatMap λi=>withinL w' R' i)↔∃i,i<R'.length∧z∈withinL w' R' i:=λz=>by
  rw [pX];exact ⟨λ⟨i,hi,h⟩=>⟨i,cg.mp hi,h⟩,λ⟨i,hi,h⟩=>⟨i,cg.mpr hi,h⟩⟩
 generalize ((List.range R'.length).flatMap λi=>withinL w' R' i)=GP at start Hy
 refine ou (λm ρ=>∃(ws ms:List Nat)(o5:Option D),ρ= [some (.eT w'),some (ao R'),some (aN w'),some (.lst (ws.map ae)),some (.set (eE w) (ms.map λ(n:Nat)=>(n:Int))),o5]∧ms.Nodup∧(∀p∈ms,jf R' A' p)∧(∀z∈ws,z∉R'→jf R' A' z)∧
  (∀z∈GP,z∉R'→z∈ms∨z∈ws)∧(∀p∈ms,∀q∈row w' p,q∉R'→q∈ms∨q∈ws)∧m=ws.length+20*(20-ms.length)∧ws.length≤200+20*ms.length) (GP.length+400) ?_ ?_
 ·exact ⟨GP,[],_,rfl,kN,(λp hp=>nomatch hp),λz hz n=>let ⟨i,hi,h⟩:=(start z).mp hz;inn_start g D' hi h n,λz hz _=> .inr hz,(λp hp=>nomatch hp),rfl,(by show GP.length≤200+0;omega)⟩
 rintro m _ ⟨ws,ms,o5,rfl,nm,hm,hw,c1,c2,em,hz⟩
 have ml:ms.length≤14:=by
  have:=aX (m:=List.range w'.length) nm λp hp=>cg.mpr (r6 g D' (hm p hp))
  rw [gd] at this;omega
 refine ⟨_,rfl,rfl,?_⟩
 rcases List.eq_nil_or_concat ws with rfl| ⟨pT,p,e⟩
 ·refine cO ?_
  refine ⟨_,rfl,_,rfl,by rw [List.length_map];omega,λks pm rP=>?_⟩
  obtain ⟨L,e1,e2,e3⟩:=CG pm rP nm;rw [e1];refine q L e2 λp=>?_;rw [e3.mem_iff];refine ⟨hm p,λhp=>?_⟩;refine zK g D' (M:=λx=>x∈ms) (λi z hi h n=>?_) (λp q hp hq n=>?_) hp
  ·rcases c1 z ((start z).mpr ⟨i,hi,h⟩) n with h|h
   ·exact h
   ·cases h
  ·rcases c2 p hp q hq n with h|h
   ·exact h
   ·cases h
 ·rw [xr] at e
  subst e;rw [show vP (.lst ((pT++ [p]).map ae))=true by simp [vP]]
  refine ed ?_;rw [cy] at em hz;simp only [uA] at em hz;refine ⟨pT.map ae,ae p,by rw [fh];rfl,?_⟩
  have JV:∀x:Nat,decide ((x:Int)∈ms.map λ(n:Nat)=>(n:Int))=decide (x∈ms):=λx=>by
   refine decide_eq_decide.mpr ?_;rw [bx]
   exact ⟨λ⟨y,hy,e⟩=>by have:y=x:=by omega
                        rw [←this];exact hy,λh=>⟨x,h,rfl⟩⟩
  have keep:∀(F:DN→Prop),(p∈R'∨p∈ms)→(∀ρ,(∃(ws ms:List Nat)(o5:Option D),ρ= [some (.eT w'),some (ao R'),some (aN w'),some (.lst (ws.map ae)),some (.set (eE w) (ms.map λ(n:Nat)=>(n:Int))),o5]∧ms.Nodup∧(∀p∈ms,jf R' A' p)∧(∀z∈ws,z∉R'→jf R' A' z)∧
    (∀z∈GP,z∉R'→z∈ms∨z∈ws)∧(∀p∈ms,∀q∈row w' p,q∉R'→q∈ms∨q∈ws)∧m-1=ws.length+20*(20-ms.length)∧ws.length≤200+20*ms.length)→F ρ)→
    F [some (.eT w'),some (ao R'),some (aN w'),some (.lst (pT.map ae)),some (.set (eE w) (ms.map λ(n:Nat)=>(n:Int))),some (ae p)]:=λF hp hF=>by
   have drop:∀z,z∉R'→(z∈ms∨z∈pT++ [p])→(z∈ms∨z∈pT):=λz n h=>by
    rcases h with h|h
    ·exact .inl h
    ·rcases dF.mp h with h|h
     ·exact .inr h
     ·rw [ja] at h
      subst h
      rcases hp with hp|hp
      ·exact absurd hp n
      ·exact .inl hp
   exact hF _ ⟨pT,ms,_,rfl,nm,hm,λz hz=>hw z (fo _ hz),λz hz n=>drop z n (c1 z hz n),λx hx y hy n=>drop y n (c2 x hx y hy n),by omega,by omega⟩
  refine ⟨_,rfl,_,rfl,rfl,bO _,_,rfl,?_⟩;refine (?_:if (if true=true then !inD (ae p) (R'.map ae) else _)=true then _ else _);rw [if_pos rfl,fO];refine cu (λnr=>?_) (λnr=>?_)
  ·have nr:p∉R':=by simpa using nr
   refine ⟨_,rfl,_,rfl,_,_,_,rfl,rfl,_,rfl,?_⟩;refine (?_:if (if true=true then !decide ((p:Int)∈ms.map λ(n:Nat)=>(n:Int)) else _)=true then _ else _);rw [if_pos rfl,JV];refine cu (λnq=>?_) (λnq=>?_)
   ·have nq:p∉ms:=by simpa using nq
    have ip:jf R' A' p:=hw p (by simp) nr
    have b0:=r6 g D' ip;have rl:=dA g p;refine ⟨_,rfl,_,rfl,p,rfl,by rw [List.length_map];omega,?_⟩
    refine ⟨_,rfl,_,rfl,_,rfl,_,gL b0,_,rfl,(by rw [List.length_map,List.length_map];exact small (by omega)),?_⟩
    have e1:vn (ms.map λ(n:Nat)=>(n:Int)) (p:Int)=(ms++ [p]).map λ(n:Nat)=>(n:Int):=by
     unfold vn;rw [if_neg (by have:=JV p;rw [decide_eq_false nq] at this;exact of_decide_eq_false this),fh];rfl
    refine ⟨(pT++row w' p).length+20*(20-(ms++ [p]).length),by rw [cy,cy,uA];omega,pT++row w' p,ms++ [p],some (ae p),?_,?_,?_,?_,?_,?_,rfl,?_⟩
    ·rw [←e1,show (pT++row w' p).map ae=pT.map ae++(row w' p).map ae from fh ..];rfl
    ·rw [fg]
     refine ⟨nm,by simp,λx hx y hy z=>nq ?_⟩
     rw [ja] at hy;rw [←hy,←z];exact hx
    ·intro x hx
     rcases dF.mp hx with hx|hx
     ·exact hm x hx
     ·rw [ja] at hx;rw [hx];exact ip
    ·intro z hz n
     rcases dF.mp hz with hz|hz
     ·exact hw z (fo _ hz) n
     ·exact CD g D' ip hz n
    ·intro z hz n
     rcases c1 z hz n with h|h
     ·exact .inl (fo _ h)
     ·rcases dF.mp h with h|h
      ·exact .inr (fo _ h)
      ·exact .inl (eW _ h)
    ·intro x hx y hy n
     rcases dF.mp hx with hx|hx
     ·rcases c2 x hx y hy n with h|h
      ·exact .inl (fo _ h)
      ·rcases dF.mp h with h|h
       ·exact .inr (fo _ h)
       ·exact .inl (eW _ h)
     ·rw [ja] at hx
      subst hx;exact .inr (eW _ hy)
    ·rw [cy,cy,uA];omega
   ·have nq:p∈ms:=by simpa using nq
    exact keep _ (.inr nq) λρ h=>⟨m-1,by omega,h⟩
  ·have nr:p∈R':=by simpa using nr
   refine cO ?_;exact keep _ (.inl nr) λρ h=>⟨m-1,by omega,h⟩
def AU:cV:=λds P=>∃(w:W)(R:List Nat)(A:Nat×Nat→Prop),ds= [.eT w,ao R]∧Good w∧iL w∧w.length≤14∧Disc w R A∧∀cs:List (Nat×Nat),cs.Nodup→cs.Pairwise lexLe→(∀i j,(i,j)∈cs↔i<j∧j<R.length∧R.getD j 0∈withinL w R i)→P (.lst (cs.map pairD))
theorem t4:FnOk P w Z.K mg base cP 3 T.d_chords.f T.d_chords.fd ["web","ring"] (aS Z AU):=by
 have nd:=ug.nd;refine bc T.d_chords.F ug [0,0,0] (by decide) (λds R h=>by obtain ⟨_,_,_,rfl,_⟩:=h;rfl) (λbM A outer s H E ds R hr h=>?_)
 have hu:=hr.units
 refine ⟨_,(ah (zD 2 (NC:= ["i","p","ring","web"]) (src:= [none,none,some 1,some 0]) rfl nd (mH (aq jN)) ⟨rfl,rfl,rfl,rfl,trivial⟩ (nJ rfl T.B.range (ab (ax aP rfl T.B.len aO (ab (aa 1) ag)) ag)) (λ_ _ _=>(bQ 0 (show (["i","p","ring","web"]:List Str).Nodup from by decide+kernel))) (λ_ _ _=>dJ) (λ_ _ _=>(bU (aA T.d_within_at ((eM T).imp Dg) hr (ab (aa 3) (ab (aa 2) (ab (aa 0) ag)))))) (λ_ _ _=>(bQ 1 (show (["i","p","ring","web"]:List Str).Nodup from by decide+kernel))) (λ_ _ _=>(ij (aU n6 (aa 1) (aa 2) (by with_unfolding_all rfl)))) (λ_ _ _=>(fv (ab (aa 0) (ab (hJ (aa 2) (aa 1)) ag)))))
   (ar (aM (ax (nH hu) rfl T.B.sorted ie (ab (jZ (NC:= ["i","j"]) (src:= [none,none]) rfl (mH (aq jN)) trivial (bU (aa 2)) (λ_ _ _=>(Bl 2 rfl (mn (bQ 0 (show (["i","j"]:List Str).Nodup from by decide+kernel)) (mn (bQ 1 (show (["i","j"]:List Str).Nodup from by decide+kernel)) xW)))) (λ_ _ _=>(ij (aU tU (aa 0) (aa 1) (bF _)))) (λ_ _ _=>(fv (ab (aa 0) (ab (aa 1) ag))))) ag))))),?_⟩
 obtain ⟨w',R',A',rfl,g,B,bw,D',q⟩:=h;have Ti:=D'.nh g;have C6:=Ti.qC g;have lR:(R'.map ae).length=R'.length:=List.length_map _;have wl:∀i,i<R'.length→(withinL w' R' i).length≤14:=λi hi=>lZ g bw Ti hi;refine ⟨_,rfl,⟨by omega,by show ((R'.map ae).length:Int)<2^62;omega⟩,?_⟩
 rw [show (((R'.map ae).length:Int)).toNat=R'.length by omega,oh]
 have fl:∀n,n≤R'.length→((List.range n).flatMap λi=>((withinL w' R' i).filter λb=>decide (b∈R')).map λb=>(i,R'.idxOf b)).length≤n*14:=λn=>by
  induction n with
  |zero=>intro _;simp
  |succ n ih=>
   intro h
   have:=ih (by omega)
   have:=wl n (by omega)
   have h3:=vT (λb=>decide (b∈R')) (withinL w' R' n);rw [uF,vX,cy];simp only [jc,v9,nz,List.length_map];omega
 have Hy:=fl R'.length (br _);refine Fm (λρ=>∃o0 o1,ρ= [o0,o1,some (ao R'),some (.eT w')]) (λi ρ=>∃o1,ρ= [some (ae i),o1,some (ao R'),some (.eT w')]) ae (λi=>withinL w' R' i) ae (λi b=>decide (b∈R')) (λi b=>(i,R'.idxOf b)) pairD (λy ρ ⟨o2,e⟩=>⟨_,_,e⟩) (List.range R'.length) _ [] _ (λi hi aC hI Y hY=>?_) (λi hi b hb aC hI Y Nn hY hN=>?_) ⟨none,none,rfl⟩ (by rw [iI,nB];exact small (by omega)) (λi hi=>by have:=wl i (cg.mp hi);rw [iI,nB];exact small (by omega)) ?_
 ·obtain ⟨o0,o1,rfl⟩:=hI
  exact ⟨_,rfl,_,rfl,_,rfl,w',R',i,rfl,g,bw,Ti,cg.mp hi,hY _ ⟨_,rfl⟩⟩
 ·obtain ⟨o1,rfl⟩:=hI
  refine ⟨_,rfl,_,rfl,rfl,bO _,_,rfl,?_⟩;refine (?_:if (if false=true then _ else inD (ae b) (R'.map ae))=true then _ else _);rw [if_neg dW,fO];refine cu (λe=>?_) (λe=>hN _ ⟨_,rfl⟩ e);have Lw:b∈R':=of_decide_eq_true e;exact ⟨_,rfl,_,rfl,_,rfl,_,rfl,rfl,bO _,_,_,(aR Lw).1,(aR Lw).2.1,(aR Lw).2.2,by show 2≤sizeLine;decide,hY _ ⟨_,rfl⟩ e⟩
 rw [kM]
 have mem:∀t,t∈((List.range R'.length).flatMap λi=>((withinL w' R' i).filter λb=>decide (b∈R')).map λb=>(i,R'.idxOf b))↔t.1<R'.length∧t.2<R'.length∧R'.getD t.2 0∈withinL w' R' t.1:=λt=>by
  rw [pX]
  constructor
  ·rintro ⟨i,hi,h⟩
   obtain ⟨b,hb,rfl⟩:=bx.mp h;obtain ⟨h1,h2⟩:=iJ.mp hb;have h2:b∈R':=of_decide_eq_true h2;have lt:=eu.mpr h2;have ej:R'.getD (R'.idxOf b) 0=b:=by rw [aJ,bq lt,fH lt];rfl
   exact ⟨cg.mp hi,lt,by show R'.getD (R'.idxOf b) 0∈withinL w' R' i;rw [ej];exact h1⟩
  ·rintro ⟨h1,h2,h3⟩
   refine ⟨t.1,cg.mpr h1,bx.mpr ⟨R'.getD t.2 0,iJ.mpr ⟨h3,decide_eq_true (aw h2)⟩,?_⟩⟩;have e:R'.getD t.2 0=R'[t.2]:=by rw [aJ,bq h2];rfl
   rw [e,D'.nd.idxOf_getElem t.2 h2]
 have nod:((List.range R'.length).flatMap λi=>((withinL w' R' i).filter λb=>decide (b∈R')).map λb=>(i,R'.idxOf b)).Nodup:=by
  refine iW me (λi hi=>?_) λi hi j hj x hx hy=>?_
  ·refine bK ((nj g D' (cg.mp hi)).filter _) λa ha b hb e=>?_
   have ha:a∈R':=of_decide_eq_true (iJ.mp ha).2;have hb:b∈R':=of_decide_eq_true (iJ.mp hb).2;have e:R'.idxOf a=R'.idxOf b:=(Prod.mk.inj e).2;have la:=eu.mpr ha;have lb:=eu.mpr hb;have e1:=fH la;have e2:=fH lb;rw [←e1,←e2]
   congr 1
  ·obtain ⟨_,_,rfl⟩:=bx.mp hx
   obtain ⟨_,_,e⟩:=bx.mp hy;exact (Prod.mk.inj e).1.symm
 generalize ((List.range R'.length).flatMap λi=>((withinL w' R' i).filter λb=>decide (b∈R')).map λb=>(i,R'.idxOf b))=ps at mem nod Hy;refine ⟨trivial,?_⟩;refine ⟨_,rfl,pe (λρ=>∃o0 o1,ρ= [o0,o1]) pairD (λt=>decide (t.1<t.2)) pairD ps _ [] _ (λt ht aC hI Y Nn hY hN=>?_) ⟨none,none,rfl⟩ (by rw [iI,nB];exact small (by omega)) λaC hI=>?_⟩
 ·obtain ⟨o0,o1,rfl⟩:=hI
  refine ⟨rfl,rfl,?_⟩;refine ⟨_,rfl,_,rfl,_,rfl,?_⟩;refine (?_:if decide ((t.1:Int)<(t.2:Int))=true then _ else _);rw [show decide ((t.1:Int)<(t.2:Int))=decide (t.1<t.2) from decide_eq_decide.mpr (by omega)]
  exact cu (λe=>⟨_,rfl,_,rfl,by show 2≤sizeLine;decide,hY _ ⟨_,_,rfl⟩ e⟩) (λe=>hN _ ⟨_,_,rfl⟩ e)
 ·rw [kM]
  have mc:∀i j,(i,j)∈ps.filter (λt:Nat×Nat=>decide (t.1<t.2))↔i<j∧j<R'.length∧R'.getD j 0∈withinL w' R' i:=λi j=>by
   rw [iJ,mem,decide_eq_true_eq]
   constructor
   ·rintro ⟨⟨h1,h2,h3⟩,h4⟩;exact ⟨h4,h2,h3⟩
   ·rintro ⟨h4,h2,h3⟩;exact ⟨⟨Nat.lt_trans h4 h2,h2,h3⟩,h4⟩
  exact ⟨_,rfl,qH g B D' bw (nod.filter _) mc,λcs pm rP=>q cs (pm.nodup_iff.mpr (nod.filter _)) rP λi j=>by rw [pm.mem_iff];exact mc i j⟩
variable {P:Program} {w:World} {mg:Str→Option Value} {base:Heap} {Z:DC} (T:Txt Z mg)
theorem AK{a b:List Nat}(ha:a.Pairwise (·<·))(hb:b.Pairwise (·<·))(h:∀p,p∈a↔p∈b):a=b:=by
 have na:a.Nodup:=ha.imp λh=>cc h;have nb:b.Nodup:=hb.imp λh=>cc h;exact List.Perm.eq_of_pairwise (λ_ _ _ _ h1 h2=>absurd h1 (Nat.lt_asymm h2)) ha hb ((B3 na nb).mpr h)
theorem CL{a b:List (Nat×Nat)}(ha:a.Pairwise lexLe)(hb:b.Pairwise lexLe)(na:a.Nodup)(nb:b.Nodup)(h:∀p,p∈a↔p∈b):a=b:=
 List.Perm.eq_of_pairwise (λ_ _ _ _=>CK) ha hb ((B3 na nb).mpr h)
theorem Dd{L:List Nat}{P:D→Prop}(hl:L.length<64)(h:∀M:List Nat,M.Perm L→M.Pairwise (·≤·)→P (ao M)):Bc [ao L] P:=by
 refine ⟨L.map λ(n:Nat)=>(n:Int),by unfold ao;rw [fI];rfl,by rw [List.length_map];exact hl,λms pm rP=>?_⟩
 have e:∀m∈ms,((m.toNat:Nat):Int)=m:=λm hm=>by
  obtain ⟨n,_,rfl⟩:=bx.mp (pm.mem_iff.mp hm);simp
 have pn:(ms.map Int.toNat).Perm L:=by
  have:=pm.map Int.toNat
  rw [fI] at this;rw [show (Int.toNat∘λ(n:Nat)=>(n:Int))=id from by funext n;simp] at this
  simpa using this
 have:=h (ms.map Int.toNat) pn (by
  rw [jb];exact rP.imp λ {a b} h1=>Int.toNat_le_toNat h1)
 unfold ao at this;rw [fI] at this;rw [show ms.map D.int=ms.map (ae∘Int.toNat) from vV λm hm=>by show D.int m=ae m.toNat;unfold ae;rw [e m hm]]
 exact this
theorem Gi{L:List Nat}(h:L.Pairwise (·<·)):L.Pairwise (·≤·):=h.imp λh=>oG h
theorem Fn{a b:List Nat}(ha:a.Pairwise (·≤·))(hb:b.Pairwise (·≤·))(h:a.Perm b):a=b:=
 List.Perm.eq_of_pairwise (λ_ _ _ _ h1 h2=>Nat.le_antisymm h1 h2) ha hb h
def jk(k:Nat×Nat):PyData:= .tuple [nD k.1,nD k.2]
theorem Mj(k:Nat×Nat):(pairD k).py=some (jk k):=by
 unfold pairD;rw [D.py,fw,fw,fw];rfl
theorem ve(a b:Nat×Nat):PyData.eqv (jk a) (jk b)=true↔a=b:=by
 unfold jk nD;simp [PyData.eqv,PyData.eqvAll]
 constructor
 ·rintro ⟨h1,h2⟩;exact Prod.ext (by omega) (by omega)
 ·rintro rfl;exact ⟨rfl,rfl⟩
theorem wC(l:List (Nat×Nat)):(PyData.list (l.map jk)).depth≤64:=by
 rw [PyData.depth]
 have:=gD (f:=jk) (k:=10) (λn=>by unfold jk nD;simp [PyData.depth,PyData.depthAll]) l
 omega
theorem vM(l:List (Nat×Nat)):(D.lst (l.map pairD)).py=some (.list (l.map jk)):=by rw [D.py,iy Mj];rfl
theorem zJ(l m:List (Nat×Nat)):PyData.eqv (.list (l.map jk)) (.list (m.map jk))=decide (l=m):=by
 rw [PyData.eqv]
 by_cases e:l=m
 ·rw [decide_eq_true e];exact (iS ve l m).mpr e
 ·rw [decide_eq_false e]
  apply ur.mpr;exact λz=>e ((iS ve l m).mp z)
theorem zy{l m:List (Nat×Nat)}{P:D→Prop}(h:P (.bl (!decide (l=m)))):Hk (.lst (l.map pairD)) (.lst (m.map pairD)) P:=by
 refine ⟨_,_,vM l,vM m,wC l,?_⟩;rw [if_pos rfl,zJ];exact h
variable {P:Program} {w:World} {mg:Str→Option Value} {base:Heap} {Z:DC} (T:Txt Z mg)
def AV:cV:=λds P=>∃(w:W)(R:List Nat)(A:Nat×Nat→Prop),ds= [.eT w,ao R]∧Good w∧iL w∧w.length≤14∧(cU (row w) w.length).length<64∧Disc w R A∧P (.bl true)
theorem sum_nat(l:List Nat):(l.map λ(n:Nat)=>(n:Int)).sum=((l.sum:Nat):Int):=by
 induction l with
 |nil=>rfl
 |cons a l ih=>rw [iK,List.sum_cons,List.sum_cons,ih];omega
theorem Dw{w:W}(g:Good w):(cU (row w) w.length).length≤w.length*w.length:=by
 have:∀n,(cU (row w) n).length≤n*w.length:=λn=>by
  induction n with
  |zero=>exact cn _
  |succ n ih=>
   have h2:=dA g n;have h3:=vT (λq=>decide (n<q)) (row w n);unfold cU at ih ⊢;rw [uF,vX,cy,Nat.succ_mul];simp only [jc,v9,nz,List.length_map];omega
 exact this _
theorem Dx{w:W}{p q:Nat}:(p,q)∈cU (row w) w.length↔p<w.length∧p<q∧q∈row w p:=by
 unfold cU;rw [pX]
 constructor
 ·rintro ⟨x,hx,h⟩
  obtain ⟨y,hy,e⟩:=bx.mp h;obtain ⟨h1,h2⟩:=iJ.mp hy;cases e;exact ⟨cg.mp hx,of_decide_eq_true h2,h1⟩
 ·rintro ⟨h1,h2,h3⟩
  exact ⟨p,cg.mpr h1,bx.mpr ⟨q,iJ.mpr ⟨h3,decide_eq_true h2⟩,rfl⟩⟩
theorem y9{w:W}(g:Good w):(cU (row w) w.length).Nodup:=by
 unfold cU;refine iW me (λa _=>bK ((g.nod a).filter _) λx _ y _ e=>(Prod.mk.inj e).2) λa _ b _ x hx hy=>?_;obtain ⟨_,_,rfl⟩:=bx.mp hx;obtain ⟨_,_,e⟩:=bx.mp hy;exact (Prod.mk.inj e).1.symm
theorem qy:FnOk P w Z.K mg base cP 4 T.d__law_counted.f T.d__law_counted.fd ["_law_web_here","_law_ring"] (aS Z AV):=by
 have nd:=jQ.nd;refine bc T.d__law_counted.F jQ [0,0,0,0,0] (by decide) (λds R h=>by obtain ⟨_,_,_,rfl,_⟩:=h;rfl) (λbM A outer s H E ds R hr h=>?_)
 have hu:=hr.units
 refine ⟨_,(ah (aF false 2 nd (ax (Hf rfl) rfl T.B.sum He (ab (jZ (NC:= ["_law_i","_law_web_here","_law_ring"]) (src:= [none,some 0,some 1]) rfl (mH (aq cQ)) ⟨rfl,rfl,rfl,rfl,trivial⟩ (nJ rfl T.B.range (ab (ax aP rfl T.B.len aO (ab (aa 1) ag)) ag)) (λ_ _ _=>(bQ 0 (show (["_law_i","_law_web_here","_law_ring"]:List Str).Nodup from by decide+kernel))) (λ_ _ _=>dJ) (λ_ _ _=>(ax aP rfl T.B.len aO (ab (aA T.d_within_at ((eM T).imp Dg) hr (ab (aa 1) (ab (aa 2) (ab (aa 0) ag)))) ag)))) ag)))
   (ah (aF false 3 nd (aA T.d_points_within (fR T) hr (ab (aa 0) (ab (aa 1) ag))))
   (ah (aF false 4 nd (ax aP rfl T.B.len aO (ab (jZ (NC:= ["_law_two","_law_inner"]) (src:= [none,some 3]) rfl (mH (aq cQ)) ⟨rfl,rfl,trivial⟩ (bU (qf T.W (aa 0) T.m_ties.m (w6 T) (hr.mono (by decide)) T.m_ties.b)) (λ_ _ _=>(bQ 0 (show (["_law_two","_law_inner"]:List Str).Nodup from by decide+kernel))) (λ_ _ _=>(ij (DW.dt (rY (aU n6 (bD (aa 0) av) (aa 1) (by with_unfolding_all rfl)) (oS (aU n6 (bD (aa 0) av) (aa 1) (by with_unfolding_all rfl))))))) (λ_ _ _=>(aa 0))) ag)))
   (ah (cL (DW.dt (nN (aU (qw hu) (aa 3) (ax Ca rfl T.B.sorted ie (ab (aa 3) ag)) (bF _)) (mx (aU (qw hu) (jZ (NC:= ["_law_point","_law_ring"]) (src:= [none,some 1]) rfl (mH (aq cQ)) ⟨rfl,rfl,trivial⟩ (bU (aa 3)) (λ_ _ _=>(bQ 0 (show (["_law_point","_law_ring"]:List Str).Nodup from by decide+kernel))) (λ_ _ _=>(ij (aU n6 (aa 0) (aa 1) (by with_unfolding_all rfl)))) (λ_ _ _=>(aa 0))) (dZ ag) (bF _))))) (ar (aM lq)) bH)
   (ar (aM (Bh (n5 hu) (az bC (az j9 (aa 2) (ax aP rfl T.B.len aO (ab (aA T.d_chords (t4 T) hr (ab (aa 0) (ab (aa 1) ag))) ag))) (aa 4)) (az j9 (az bC (az r8 av (ax aP rfl T.B.len aO (ab (aa 3) ag))) (ax aP rfl T.B.len aO (ab (aa 1) ag))) av) (bF _)))))))),?_⟩
 obtain ⟨w',R',A',rfl,g,B,bw,hT,D',q⟩:=h;have Ti:=D'.nh g;have C6:=Ti.qC g;have lR:(R'.map ae).length=R'.length:=List.length_map _;have wl:∀i,i<R'.length→(withinL w' R' i).length≤14:=λi hi=>lZ g bw Ti hi;refine ⟨_,rfl,⟨by omega,by show ((R'.map ae).length:Int)<2^62;omega⟩,?_⟩
 rw [show (((R'.map ae).length:Int)).toNat=R'.length by omega,oh]
 refine iU (ρ:= [none,some (.eT w'),some (ao R')]) ae (λi=>ae (withinL w' R' i).length) (List.range R'.length) _ (λi hi Y h=>?_) rfl (small (by rw [gd];omega)) λaC=>?_
 ·refine ⟨_,rfl,_,rfl,_,rfl,w',R',i,rfl,g,bw,Ti,cg.mp hi,?_⟩
  refine (?_:Y (D.int ((((withinL w' R' i).map ae).length:Nat):Int)));rw [List.length_map];exact h
 refine ⟨(List.range R'.length).map λi=>(((withinL w' R' i).length:Nat):Int),by rw [fI];rfl,trivial,?_⟩
 have es:((List.range R'.length).map λi=>(((withinL w' R' i).length:Nat):Int)).sum=((((List.range R'.length).map λi=>(withinL w' R' i).length).sum:Nat):Int):=by
  rw [←sum_nat,fI];rfl
 rw [es];refine ⟨_,rfl,_,rfl,w',R',A',rfl,g,bw,D',λL sL mL=>⟨trivial,?_⟩⟩;have nL:L.Nodup:=sL.imp λh=>cc h
 have lL:L.length≤14:=by
  have:=aX (m:=List.range w'.length) nL λp hp=>cg.mpr (r6 g D' ((mL p).mp hp))
  rw [gd] at this;omega
 refine ⟨_,rfl,w',rfl,w',rfl,g,bw,hT,λts pm rP=>?_⟩
 have tl:ts.length≤400:=by
  have:=pm.length_eq
  have h2:=Dw g;have h3:w'.length*w'.length≤14*14:=Nat.mul_le_mul bw bw;omega
 refine iq (ρ:= [none,some (ao L)]) pairD (λt=>decide (t.1∈L)&&decide (t.2∈L)) pairD ts _ [] _ (λt ht Y Nn t1 t2=>?_) ⟨none,rfl⟩ (by rw [iI,nB];exact small (by omega)) λaC=>?_
 ·refine ⟨_,rfl,_,rfl,_,rfl,rfl,bO _,_,rfl,?_⟩
  refine (?_:if (if false=true then _ else inD (ae t.1) (L.map ae))=true then _ else _);rw [if_neg dW,fO];refine cu (λe1=>?_) (λe1=>?_)
  ·refine ⟨_,rfl,_,rfl,_,rfl,rfl,bO _,_,rfl,?_⟩
   refine (?_:if (if false=true then _ else inD (ae t.2) (L.map ae))=true then _ else _);rw [if_neg dW,fO];exact cu (λe2=>⟨_,rfl,t1 (by rw [e1,e2];rfl)⟩) (λe2=>t2 (by rw [e1,e2];rfl))
  ·exact cO (t2 (by rw [e1];rfl))
 rw [kM]
 have tt:∀p q,(p,q)∈ts.filter (λt=>decide (t.1∈L)&&decide (t.2∈L))↔p<q∧q∈row w' p∧p∈L∧q∈L:=λp q=>by
  rw [iJ,pm.mem_iff,Dx];simp only [rh,decide_eq_true_eq]
  constructor
  ·rintro ⟨⟨h1,h2,h3⟩,h4,h5⟩;exact ⟨h2,h3,h4,h5⟩
  ·rintro ⟨h2,h3,h4,h5⟩;exact ⟨⟨bG h3,h2,h3⟩,h4,h5⟩
 have nt:(ts.filter (λt=>decide (t.1∈L)&&decide (t.2∈L))).Nodup:=(pm.nodup_iff.mpr (y9 g)).filter _;generalize ts.filter (λt=>decide (t.1∈L)&&decide (t.2∈L))=us at tt nt;refine ⟨trivial,?_⟩;have eL:∀M:List Nat,M.Perm L→M.Pairwise (·≤·)→M=L:=λM h1 h2=>Fn h2 (Gi sL) h1;refine ⟨_,rfl,_,rfl,?_⟩;dsimp only [u6];refine Dd (by omega) λM h1 h2=>?_
 rw [eL M h1 h2];refine xU ⟨_,rfl,vt (by rw [decide_eq_true rfl];rfl) ?_⟩
 have OG:∀l:List Nat,(PyData.list (l.map nD)).depth≤64:=λl=>by have:=lu l;unfold m7 at this;omega
 refine ⟨_,rfl,iq (ρ:= [none,some (ao R')]) ae (λp=>decide (p∈R')) ae L _ [] _ (λp hp Y Nn t1 t2=>?_) ⟨none,rfl⟩ (by rw [iI,nB];exact small (by omega)) λaC=>?_⟩
 ·refine ⟨_,rfl,_,rfl,rfl,bO _,_,rfl,?_⟩
  refine (?_:if (if false=true then _ else inD (ae p) (R'.map ae))=true then _ else _);rw [if_neg dW,fO];exact cu (λe=>⟨_,rfl,t1 e⟩) (λe=>t2 e)
 have ee:L.filter (λp=>decide (p∈R'))= []:=List.filter_eq_nil_iff.mpr λp hp z=>((mL p).mp hp).1 (of_decide_eq_true z);rw [kM,ee];refine ⟨by show 0≤sizeLine;decide,ne_nil (l:= []) (ps:= []) rfl (OG []) ⟨_,rfl,cO ?_⟩⟩
 refine ⟨_,rfl,_,rfl,_,rfl,w',R',A',rfl,g,B,bw,D',λcs nc sc mc=>?_⟩;have key:=Ed g B D' nL mL nc mc nt tt;refine ⟨_,rfl,_,rfl, .inl ⟨by decide,by decide⟩,_,rfl,?_⟩
 refine sZ ?_;rw [decide_eq_true (by dsimp only;rw [List.length_map,List.length_map,List.length_map,List.length_map];omega)]
 exact q
def Dj:cV:=λds P=>∃(w:W)(R:List Nat)(A:Nat×Nat→Prop),ds= [.eT w,ao R]∧Good w∧iL w∧w.length≤14∧Disc w R A∧∀S:List (Nat×Nat),S.Nodup→S.Pairwise lexLe→(∀p q,(p,q)∈S↔p<q∧q∈R∧WD w R (p,q))→P (.lst (S.map pairD))
def ends(R:List Nat)(t:Nat×Nat):Nat×Nat:=(min (R.getD t.1 0) (R.getD t.2 0),max (R.getD t.1 0) (R.getD t.2 0))
theorem Fu(a b:Nat):(if (b:Int)<(a:Int) then (b:Int) else (a:Int))=((min a b:Nat):Int):=by split<;>omega
theorem Fs(a b:Nat):(if (b:Int)>(a:Int) then (b:Int) else (a:Int))=((max a b:Nat):Int):=by split<;>omega
theorem fZ:FnOk P w Z.K mg base cP 4 T.d__law_named_chords.f T.d__law_named_chords.fd ["_law_web_here","_law_ring"] (aS Z Dj):=by
 have nd:=f6.nd;refine bc T.d__law_named_chords.F f6 [0,0,1,0,0] (by decide) (λds R h=>by obtain ⟨_,_,_,rfl,_⟩:=h;rfl) (λbM A outer s H E ds R hr h=>?_)
 have hu:=hr.units
 refine ⟨_,(ah (oR 2 nd (oO ag))
   (ah (eZ rfl PassesOwn.never (bU (aA T.d_chords (t4 T) hr (ab (aa 0) (ab (aa 1) ag)))) (fN 2 rfl (bu (aQ 3 nd) (bu (aQ 4 nd) dk))) (ah (cL (DW.dt (nN (aU tU (aa 3) av (bF _)) (nN (aU FE (aa 3) (aa 4) (bF _)) (mx (aU FE (aa 4) (ax aP rfl T.B.len aO (ab (aa 1) ag)) (bF _)))))) (ar (aM fu)) bH)
   (ar (rW false 2 (fv (ab (ax (Eb rfl) rfl T.B.min Hd (ab (bD (aa 1) (aa 3)) (ab (bD (aa 1) (aa 4)) ag))) (ab (ax (Ea rfl) rfl T.B.max Hc (ab (bD (aa 1) (aa 3)) (ab (bD (aa 1) (aa 4)) ag))) ag)))))))
   (ar (aM (ax (nH hu) rfl T.B.sorted ie (ab (aa 2) ag)))))),?_⟩
 obtain ⟨w',R',A',rfl,g,B,bw,D',q⟩:=h;have Ti:=D'.nh g;have C6:=Ti.qC g;have lR:(R'.map ae).length=R'.length:=List.length_map _;refine ⟨by show 0≤sizeLine;decide,?_⟩
 refine ⟨_,rfl,_,rfl,w',R',A',rfl,g,B,bw,D',λcs nc sc mc=>?_⟩;have cl:=qH g B D' bw nc mc;refine cT (λk ρ=>∃o3 o4,ρ= [some (.eT w'),some (ao R'),some (.lst ((cs.take k).map (pairD∘ends R'))),o3,o4]) ⟨none,none,rfl⟩ ?_ ?_
 ·rintro k d _ hd ⟨o3,o4,rfl⟩ A hA
  obtain ⟨t,ht,rfl⟩:=dM hd;have hm:=(mc t.1 t.2).mp (f7 ht);have kl:=(fA.mp ht).1;refine ⟨rfl,rfl,?_⟩;refine ⟨_,rfl,_,rfl,vt (decide_eq_false (by omega)) ?_⟩
  refine ⟨_,rfl,_,rfl,_,rfl,vt (decide_eq_false (by omega)) ?_⟩
  refine ⟨_,rfl,_,rfl,_,rfl,vt (decide_eq_false (by rw [lR];omega)) ?_⟩
  have a1:=dN (ns:=R') (p:=t.1) (by omega)
  have a2:=dN (ns:=R') (p:=t.2) (by omega)
  refine ⟨_,rfl,_,rfl,_,rfl,_,a1,_,rfl,_,rfl,_,a2,_,_,rfl,?_⟩;refine ⟨_,rfl,_,rfl,_,a1,_,rfl,_,rfl,_,a2,_,_,rfl,?_⟩;refine ⟨by show 2≤sizeLine;decide,trivial,gy (by rw [List.length_map,b8];omega),?_⟩
  refine hA _ ⟨some (ae t.1),some (ae t.2),?_⟩;rw [List.take_succ,ht];simp only [Option.toList_some,fh,iK,List.map_nil];rw [show (pairD∘ends R') t= .tup [.int (if ((R'.getD t.2 0:Nat):Int)<((R'.getD t.1 0:Nat):Int) then ((R'.getD t.2 0:Nat):Int) else ((R'.getD t.1 0:Nat):Int)), .int (if ((R'.getD t.2 0:Nat):Int)>((R'.getD t.1 0:Nat):Int) then ((R'.getD t.2 0:Nat):Int) else ((R'.getD t.1 0:Nat):Int))] by rw [Fu,Fs];rfl]
  rfl
 ·rintro _ ⟨o3,o4,rfl⟩
  rw [List.length_map,List.take_length];refine ⟨_,rfl,cs.map (ends R'),by rw [fI],by rw [List.length_map];omega,λS pm rP=>?_⟩
  have nE:(cs.map (ends R')).Nodup:=by
   refine bK nc λa ha b hb e=>?_;have h1:=(mc a.1 a.2).mp ha;have h2:=(mc b.1 b.2).mp hb;have n1:R'.getD a.1 0≠R'.getD a.2 0:=λz=>by have:=getD_inj D'.nd (by omega) (by omega) z;omega
   have n2:R'.getD b.1 0≠R'.getD b.2 0:=λz=>by have:=getD_inj D'.nd (by omega) (by omega) z;omega
   obtain ⟨e1,e2⟩:=Prod.mk.inj e;have c:(R'.getD a.1 0=R'.getD b.1 0∧R'.getD a.2 0=R'.getD b.2 0)∨(R'.getD a.1 0=R'.getD b.2 0∧R'.getD a.2 0=R'.getD b.1 0):=by omega
   rcases c with ⟨c1,c2⟩ | ⟨c1,c2⟩
   ·exact Prod.ext (getD_inj D'.nd (by omega) (by omega) c1) (getD_inj D'.nd (by omega) (by omega) c2)
   ·have:=getD_inj D'.nd (i:=a.1) (j:=b.2) (by omega) (by omega) c1
    have:=getD_inj D'.nd (i:=a.2) (j:=b.1) (by omega) (by omega) c2
    omega
  refine q S (pm.nodup_iff.mpr nE) rP λx y=>?_;rw [pm.mem_iff,bx]
  constructor
  ·rintro ⟨t,ht,e⟩
   obtain ⟨h1,h2,h3⟩:=(mc t.1 t.2).mp ht;have n1:R'.getD t.1 0≠R'.getD t.2 0:=λz=>by have:=getD_inj D'.nd (by omega) (by omega) z;omega
   obtain ⟨e1,e2⟩:=Prod.mk.inj e
   rcases Nat.lt_or_gt_of_ne n1 with c|c
   ·have ex:x=R'.getD t.1 0:=by omega
    have ey:y=R'.getD t.2 0:=by omega
    subst ex;subst ey;exact ⟨c,aw h2,t.1,by omega,rfl,h3⟩
   ·have ex:x=R'.getD t.2 0:=by omega
    have ey:y=R'.getD t.1 0:=by omega
    subst ex;subst ey;exact ⟨c,aw (by omega),t.2,h2,rfl,dD g D' (by omega) h2 h3⟩
  ·rintro ⟨h1,h2,i,hi,h3,h4⟩
   have h3:x=R'.getD i 0:=h3;have h4:y∈withinL w' R' i:=h4;have lt:=eu.mpr h2;have ej:R'.getD (R'.idxOf y) 0=y:=by rw [aJ,bq lt,fH lt];rfl
   rw [←ej] at h4
   rcases Nat.lt_trichotomy i (R'.idxOf y) with c|c|c
   ·refine ⟨(i,R'.idxOf y),(mc _ _).mpr ⟨c,lt,h4⟩,?_⟩
    unfold ends;rw [ej,←h3];exact Prod.ext (by show min x y=x;omega) (by show max x y=y;omega)
   ·rw [c,ej] at h3;omega
   ·refine ⟨(R'.idxOf y,i),(mc _ _).mpr ⟨c,hi,dD g D' hi lt h4⟩,?_⟩
    unfold ends;rw [ej,←h3];exact Prod.ext (by show min y x=x;omega) (by show max y x=y;omega)
def Dl:cV:=λds P=>∃(w:W)(R:List Nat)(A:Nat×Nat→Prop)(a:Nat),ds= [.eT w,ao R,ae a]∧Good w∧iL w∧w.length≤14∧Disc w R A∧a<R.length∧P (.bl true)
theorem Gj{R:List Nat}{a x:Nat}:x∈R.drop a++R.take a↔x∈R:=by
 rw [dF,Or.comm,←dF,jT]
theorem WD.ud{w:W}{R:List Nat}{a:Nat}(ha:a<R.length)(d:Nat×Nat):WD w (R.drop a++R.take a) d↔WD w R d:=by
 unfold WD;rw [jM]
 constructor
 ·rintro ⟨i,hi,e,h⟩
  rw [jy ha hi] at e;rw [ma w ha hi] at h;exact ⟨(i+a)%R.length,je _ (by omega),e,h⟩
 ·rintro ⟨i,hi,e,h⟩
  have hj:(i+(R.length-a))%R.length<R.length:=je _ (by omega)
  have ej:((i+(R.length-a))%R.length+a)%R.length=i:=by
   rw [Nat.mod_add_mod,show i+(R.length-a)+a=i+R.length by omega,Nat.add_mod_right,eV hi]
  exact ⟨(i+(R.length-a))%R.length,hj,by rw [jy ha hj,ej];exact e,by rw [ma w ha hj,ej];exact h⟩
theorem rL:FnOk P w Z.K mg base cP 5 T.d__law_turned.f T.d__law_turned.fd ["_law_web_here","_law_ring","_law_at"] (aS Z Dl):=by
 have nd:=kD.nd;refine bc T.d__law_turned.F kD [0,0,0,0,0,0] (by decide) (λds R h=>by obtain ⟨_,_,_,_,rfl,_⟩:=h;rfl) (λbM A outer s H E ds R hr h=>?_)
 have hu:=hr.units
 refine ⟨_,(ah (aF false 3 nd (az bC (bg (aa 1) (bp (aa 2)) bN) (bg (aa 1) bN (bp (aa 2)))))
   (ah (oQ rfl PassesOwn.never (nK rfl T.B.range (ab (ax aP rfl T.B.len aO (ab (aa 1) ag)) ag)) (aQ 4 nd) (ar (cL (aU (qw hu) (aA T.d_within_at ((eM T).imp Dg) hr (ab (aa 0) (ab (aa 3) (ab (aa 4) ag)))) (aA T.d_within_at ((eM T).imp Dg) hr (ab (aa 0) (ab (aa 1) (ab (az b7 (az bC (aa 4) (aa 2)) (ax aP rfl T.B.len aO (ab (aa 1) ag))) ag)))) (bF _)) (ar (aM lq)) bH)))
   (ah (aF false 5 nd (aA T.d__law_named_chords (fZ T) hr (ab (aa 0) (ab (aa 1) ag))))
   (ah (cL (DW.dt (nN (aU tT (aa 5) fu (bF _)) (mx (aU (qw hu) (aA T.d__law_named_chords (fZ T) hr (ab (aa 0) (ab (aa 3) ag))) (aa 5) (bF _))))) (ar (aM lq)) bH)
   (ar (aM (Bh (n5 hu) (aA T.d_points_within (fR T) hr (ab (aa 0) (ab (aa 3) ag))) (aA T.d_points_within (fR T) hr (ab (aa 0) (ab (aa 1) ag))) (bF _)))))))),?_⟩
 obtain ⟨w',R',A',a,rfl,g,B,bw,D',ha,q⟩:=h;have Ti:=D'.nh g;have C6:=Ti.qC g;have h3:=D'.len;have lR:(R'.map ae).length=R'.length:=List.length_map _;have ca:cutD (R'.map ae) (some (a:Int)) none=(R'.drop a).map ae:=by rw [cX _ _ (by rw [lR];omega),jU]
 have cb:cutD (R'.map ae) none (some (a:Int))=(R'.take a).map ae:=by rw [cK _ _ (by rw [lR];omega),jd]
 have kU:(cutD (R'.map ae) (some (a:Int)) none).length+(cutD (R'.map ae) none (some (a:Int))).length≤sizeLine:=by
  rw [ca,cb,List.length_map,List.length_map,dE,b8];exact small (by omega)
 have er:(.lst (cutD (R'.map ae) (some (a:Int)) none++cutD (R'.map ae) none (some (a:Int))):D)=ao (R'.drop a++R'.take a):=by rw [ca,cb];unfold ao;rw [fh]
 have D2:Disc w' (R'.drop a++R'.take a) A':=by
  have:=D'
  rw [←jT a R'] at this;exact this.ud
 have T2:=D2.nh g;refine ⟨_,rfl,_,rfl,_,rfl,_,rfl,kU,trivial,?_⟩;refine lJ [some (.eT w'),some (ao R'),some (ae a),some (ao (R'.drop a++R'.take a)),none,none] (by rw [←er];rfl) ?_
 have wd:∀d,WD w' (R'.drop a++R'.take a) d↔WD w' R' d:=λd=>WD.ud ha d;have wr:∀i,i<R'.length→withinL w' (R'.drop a++R'.take a) i=withinL w' R' ((i+a)%R'.length):=λi hi=>ma w' ha hi;have mr:∀x,x∈R'.drop a++R'.take a↔x∈R':=λx=>Gj;have lr:=jM R' a;generalize R'.drop a++R'.take a=R2 at D2 T2 wd wr mr lr;refine ⟨_,rfl,⟨by omega,by show ((R'.map ae).length:Int)<2^62;omega⟩,?_⟩
 rw [show (((R'.map ae).length:Int)).toNat=R'.length by omega]
 refine qh (λi ρ=>∃o4,ρ= [some (.eT w'),some (ao R'),some (ae a),some (ao R2),o4,none]) ⟨none,rfl⟩ ?_ ?_
 ·rintro i _ hi ⟨o4,rfl⟩ A hA
  have e0:(0:Int)<((R'.map ae).length:Int):=by rw [lR];omega
  refine ⟨_,rfl,_,rfl,_,rfl,w',R2,i,rfl,g,bw,T2,by omega,?_⟩
  have em:((i:Int)+(a:Int))%((R'.map ae).length:Int)=(((i+a)%R'.length:Nat):Int):=by rw [lR,Int.natCast_emod,Int.natCast_add]
  refine ⟨_,rfl,_,rfl,_,rfl,_,rfl,_,rfl,e0,w',R',(i+a)%R'.length,by show [_,_,D.int (((i:Int)+(a:Int))%((R'.map ae).length:Int))]=_;rw [em];rfl,g,bw,Ti,je _ (by omega),?_⟩
  rw [wr i hi];refine xU ⟨_,rfl,vt (by rw [decide_eq_true rfl];rfl) ?_⟩
  exact hA _ ⟨some (ae i),rfl⟩
 ·rintro _ ⟨o4,rfl⟩
  refine ⟨_,rfl,_,rfl,w',R',A',rfl,g,B,bw,D',λS nS sS mS=>⟨trivial,?_⟩⟩;refine ⟨_,rfl,_,rfl,cO ?_⟩;refine ⟨_,rfl,_,rfl,w',R2,A',rfl,g,B,bw,D2,λS2 W6 XR WJ=>?_⟩
  have eS:S2=S:=CL XR sS W6 nS λt=>by
   have h1:=WJ t.1 t.2;have h2:=mS t.1 t.2;rw [wd,mr] at h1;exact h1.trans h2.symm
  subst eS;refine ⟨_,rfl,zy ⟨_,rfl,vt (by rw [decide_eq_true rfl];rfl) ?_⟩⟩
  refine ⟨_,rfl,_,rfl,w',R2,A',rfl,g,bw,D2,λL2 s2 m2=>?_⟩;refine ⟨_,rfl,_,rfl,w',R',A',rfl,g,bw,D',λL s1 m1=>?_⟩
  have eL:L2=L:=AK s2 s1 λp=>by
   rw [m1 p,m2 p];unfold jf;rw [mr]
  subst eL;refine Ee ?_;rw [decide_eq_true rfl];exact q
variable {P:Program} {w:World} {mg:Str→Option Value} {base:Heap} {Z:DC} (T:Txt Z mg)
theorem Ih:FnOk P w Z.K mg base cP 7 T.d_law.f T.d_law.fd ["_law_script"] (aS Z BW):=by
 have nd:=BU.nd;refine bc T.d_law.F BU [0,0,0,0,0] (by decide) (λds R h=>by obtain ⟨_,rfl,_⟩:=h;rfl) (λbM A outer s H E ds R hr h=>?_)
 have hu:=hr.units
 refine ⟨_,(ah (wD (aA T.d__law_built (tW T) hr (ab (aa 0) ag)) (fN 2 rfl (bu (aQ 1 nd) (bu (aQ 2 nd) dk))))
   (ah (aF false 3 nd (aA T.d__law_web (w9 T) hr (ab (aa 1) ag)))
   (ah (eZ rfl PassesOwn.never (bU (aA T.d__law_rings (tZ T) hr (ab (aa 1) (ab (aa 2) (ab (aA T.d__law_drawn (fQ T) hr (ab (aA T.d__law_cell_at (dr T) hr (ab (aa 0) (ab av ag))) ag)) ag))))) (aQ 4 nd) (ar (cL (DW.dt (nN (mw (j0 (aA T.d__law_counted (qy T) hr (ab (aa 3) (ab (aa 4) ag))))) (mx (mw (j0 (aA T.d__law_turned (rL T) hr (ab (aa 3) (ab (aa 4) (ab (az b7 (aA T.d__law_cell_at (dr T) hr (ab (aa 0) (ab av ag))) (ax aP rfl T.B.len aO (ab (aa 4) ag))) ag))))))))) (ar (aM lq)) bH)))
   (ar (aM lq))))),?_⟩
 obtain ⟨ns,rfl,tE,q⟩:=h;refine ⟨_,rfl,ns,rfl,λF R' g B h3 bw Fl=>?_⟩;refine ⟨rfl,rfl,?_⟩;refine ⟨_,rfl,F,rfl,g,by omega,bw,trivial,?_⟩
 refine ⟨_,rfl,_,rfl,_,rfl,ns,2,rfl,λv1=>⟨v1,rfl,λv2=>⟨F,R',v2,rfl,g,B,bw,⟨_,Fl⟩,λRs Hz hl=>?_⟩⟩⟩;refine cT (λj ρ=>∃o4,ρ= [some (.jR ns),some (aN F),some (ao R'),some (.eT F),o4]) ⟨none,rfl⟩ ?_ ?_
 ·rintro j d _ hd ⟨o4,rfl⟩ A hA
  obtain ⟨R1,Cs,rfl⟩:=dM hd;obtain ⟨A1,D1⟩:=Hz R1 (f7 Cs);have Yw:=D1.len;have lR:(R1.map ae).length=R1.length:=List.length_map _;have e0:(0:Int)<((R1.map ae).length:Int):=by rw [lR];omega
  refine ⟨_,rfl,_,rfl,F,R1,A1,rfl,g,B,bw,Du g B Fl bw,D1,rfl,cO ?_⟩;refine ⟨_,rfl,_,rfl,_,rfl,ns,3,rfl,λv3=>?_⟩;refine ⟨_,rfl,e0,?_⟩;have m1:=gw v3 ((R1.map ae).length:Int) e0;obtain ⟨a,ea⟩:∃a:Nat,v3%((R1.map ae).length:Int)=(a:Int):=⟨(v3%((R1.map ae).length:Int)).toNat,by omega⟩
  rw [ea] at m1;refine ⟨F,R1,A1,a,by show [_,_,D.int (v3%((R1.map ae).length:Int))]=_;rw [ea];rfl,g,B,bw,D1,by omega,rfl,cO ?_⟩
  exact hA _ ⟨some (ao R1),rfl⟩
 ·rintro _ ⟨o4,rfl⟩
  exact q
theorem all_mk{l:PySem.W.OpenLaw}{w:World}{K:PySem.W.Frag}{h:Heap}{mg:Str→Option Value}{fa C:Addr}{MJ:Tok}(X:K.In h)(G:h.Ns mainGlobals mg)(UI:mg "law"=some (.ref fa))
  {d0:Addr} {Xm SK:Option Addr} {XU:Array (Option Value)} {Xc We TM Xx Nl Tp:Value}
  {d1:Addr} {Xn SM:Option Addr} {XW:Array (Option Value)} {Xd Wf TN FZ Nm Tq:Value}
  {d2:Addr} {Xo SN:Option Addr} {IS:Array (Option Value)} {Xe Wg TQ yL Np Tr:Value}
  {d3:Addr} {Xp SO:Option Addr} {XX:Array (Option Value)} {Xf Wh TR Xy Nq Ts:Value}
  {d4:Addr} {Xq SQ:Option Addr} {XY:Array (Option Value)} {Xg Wi TU Xz Nr Tt:Value}
  {d5:Addr} {Xr SR:Option Addr} {XZ:Array (Option Value)} {Xh Wj TV XA Nt Tu:Value}
  {d6:Addr} {Xs SS:Option Addr} {X0:Array (Option Value)} {Xi Wk TX XB Nu Tv:Value}
  {d7:Addr} {Xt SU:Option Addr} {X1:Array (Option Value)} {Xj Wl TY XE Nv Tw:Value}
  {d8:Addr} {Xu SV:Option Addr} {X2:Array (Option Value)} {Xk Wm TZ XF Nw Tx:Value}
  {d9:Addr} {Xv SW:Option Addr} {X3:Array (Option Value)} {Xl Wn T3 XG Nx Tz:Value}
  {Kr:Addr} {Qy MZ:Option Addr} {Rv:Array (Option Value)} {Qh PL Of QT Jn NA:Value}
  {Ks:Addr} {Qz M1:Option Addr} {Rw:Array (Option Value)} {Qi PM Og QU Jo NB:Value}
  {Kt:Addr} {QA M3:Option Addr} {Rx:Array (Option Value)} {Qj PN Oh QV Jp ND:Value}
  {Ku:Addr} {QB M4:Option Addr} {Ry:Array (Option Value)} {Qk PQ Oi QW Jq NF:Value}
  {Kv:Addr} {QC M5:Option Addr} {Rz:Array (Option Value)} {Ql PR Oj QX Jr NG:Value}
  {Kw:Addr} {QD M6:Option Addr} {RA:Array (Option Value)} {Qm PU Ol QY Js NH:Value}
  {Kx:Addr} {QE M7:Option Addr} {RB:Array (Option Value)} {Qn PV Om QZ Jt NI:Value}
  {Ky:Addr} {QF M8:Option Addr} {RC:Array (Option Value)} {Qo PX Oo Q0 Ju NJ:Value}
  {Kz:Addr} {QG M9:Option Addr} {RD:Array (Option Value)} {Qp PY Oq Q1 Jv NK:Value}
  {KA:Addr} {QH Na:Option Addr} {RE:Array (Option Value)} {Qq PZ Ot Q2 Jw NL:Value}
  {KC:Addr} {QI Nb:Option Addr} {RF:Array (Option Value)} {Qr P0 Ou Q3 Jx NM:Value}
  {KD:Addr} {QJ Nc:Option Addr} {RG:Array (Option Value)} {Qs P1 Ov Q4 Jy NN:Value}
  {KG:Addr} {QK Nd:Option Addr} {RH:Array (Option Value)} {Qt P2 Ow Q5 Jz NO:Value}
  {KH:Addr} {QL Nf:Option Addr} {RJ:Array (Option Value)} {Qu P4 Ox Q6 JA NP:Value}
  {KI:Addr} {QM Ng:Option Addr} {RK:Array (Option Value)} {Qv P5 Oy Q7 JB NQ:Value}
  {KJ:Addr} {QN Nh:Option Addr} {RL:Array (Option Value)} {Qw P6 Oz Q8 JC NS:Value}
  {KL:Addr} {QO Ni:Option Addr} {RM:Array (Option Value)} {Qx P7 OA Q9 JD NT:Value}
  {i0:Addr} {Vf Vr:Option Addr} {VJ:Array (Option Value)} {U9 Vl Vx VD PC VQ:Value}
  {i1:Addr} {Vg Vs:Option Addr} {VL:Array (Option Value)} {Va Vm Vy VE PD VR:Value}
  {i2:Addr} {Vh Vt:Option Addr} {VM:Array (Option Value)} {Vb Vn Vz VF PF VS:Value}
  {i3:Addr} {Vi Vu:Option Addr} {VN:Array (Option Value)} {Vc Vo VA VG PH VT:Value}
  {i4:Addr} {Vj Vv:Option Addr} {VO:Array (Option Value)} {Vd Vp VB VH PJ VU:Value}
  {i5:Addr} {Vk Vw:Option Addr} {VP:Array (Option Value)} {Ve Vq VC VI PK VV:Value}
  (gC:PySem.W.nsIn K mainGlobals "Web"=some (some (.ref C)))
  (a0:fX K "is_among" d0)
  (l0:eH K "is_among" "is_among" lP d0 Xm SK XU Xc We TM Xx Nl Tp)
  (c0:PySem.W.codeIn K Nl "is_among"=true)
  (k0:PySem.W.keepIn K (.ref d0)=true)
  (a1:fX K "alien_fault" d1)
  (l1:eH K "alien_fault" "alien_fault" iE d1 Xn SM XW Xd Wf TN FZ Nm Tq)
  (c1:PySem.W.codeIn K Nm "alien_fault"=true)
  (k1:PySem.W.keepIn K (.ref d1)=true)
  (a2:fX K "self_fault" d2)
  (l2:eH K "self_fault" "self_fault" jt d2 Xo SN IS Xe Wg TQ yL Np Tr)
  (c2:PySem.W.codeIn K Np "self_fault"=true)
  (k2:PySem.W.keepIn K (.ref d2)=true)
  (a3:fX K "twice_fault" d3)
  (l3:eH K "twice_fault" "twice_fault" iH d3 Xp SO XX Xf Wh TR Xy Nq Ts)
  (c3:PySem.W.codeIn K Nq "twice_fault"=true)
  (k3:PySem.W.keepIn K (.ref d3)=true)
  (a4:fX K "lone_fault" d4)
  (l4:eH K "lone_fault" "lone_fault" js d4 Xq SQ XY Xg Wi TU Xz Nr Tt)
  (c4:PySem.W.codeIn K Nr "lone_fault"=true)
  (k4:PySem.W.keepIn K (.ref d4)=true)
  (a5:fX K "reached_from_first" d5)
  (l5:eH K "reached_from_first" "reached_from_first" cN d5 Xr SR XZ Xh Wj TV XA Nt Tu)
  (c5:PySem.W.codeIn K Nt "reached_from_first"=true)
  (k5:PySem.W.keepIn K (.ref d5)=true)
  (a6:fX K "apart_fault" d6)
  (l6:eH K "apart_fault" "apart_fault" iF d6 Xs SS X0 Xi Wk TX XB Nu Tv)
  (c6:PySem.W.codeIn K Nu "apart_fault"=true)
  (k6:PySem.W.keepIn K (.ref d6)=true)
  (a7:fX K "first_fault" d7)
  (l7:eH K "first_fault" "first_fault" iG d7 Xt SU X1 Xj Wl TY XE Nv Tw)
  (c7:PySem.W.codeIn K Nv "first_fault"=true)
  (k7:PySem.W.keepIn K (.ref d7)=true)
  (a8:fX K "begun_at" d8)
  (l8:eH K "begun_at" "begun_at" lO d8 Xu SV X2 Xk Wm TZ XF Nw Tx)
  (c8:PySem.W.codeIn K Nw "begun_at"=true)
  (k8:PySem.W.keepIn K (.ref d8)=true)
  (a9:fX K "within_at" d9)
  (l9:eH K "within_at" "within_at" kn d9 Xv SW X3 Xl Wn T3 XG Nx Tz)
  (c9:PySem.W.codeIn K Nx "within_at"=true)
  (k9:PySem.W.keepIn K (.ref d9)=true)
  (So:fX K "chords" Kr)
  (Wq:eH K "chords" "chords" jN Kr Qy MZ Rv Qh PL Of QT Jn NA)
  (SY:PySem.W.codeIn K Jn "chords"=true)
  (VW:PySem.W.keepIn K (.ref Kr)=true)
  (Sq:fX K "points_within" Ks)
  (Wr:eH K "points_within" "points_within" fb Ks Qz M1 Rw Qi PM Og QU Jo NB)
  (S0:PySem.W.codeIn K Jo "points_within"=true)
  (VX:PySem.W.keepIn K (.ref Ks)=true)
  (Sr:fX K "_law_cell_at" Kt)
  (Ws:eH K "_law_cell_at" "_law_cell_at" gS Kt QA M3 Rx Qj PN Oh QV Jp ND)
  (S5:PySem.W.codeIn K Jp "_law_cell_at"=true)
  (VY:PySem.W.keepIn K (.ref Kt)=true)
  (Ss:fX K "_law_drawn" Ku)
  (Wt:eH K "_law_drawn" "_law_drawn" jo Ku QB M4 Ry Qk PQ Oi QW Jq NF)
  (S6:PySem.W.codeIn K Jq "_law_drawn"=true)
  (VZ:PySem.W.keepIn K (.ref Ku)=true)
  (Su:fX K "_law_grown" Kv)
  (Wu:eH K "_law_grown" "_law_grown" jq Kv QC M5 Rz Ql PR Oj QX Jr NG)
  (S7:PySem.W.codeIn K Jr "_law_grown"=true)
  (V0:PySem.W.keepIn K (.ref Kv)=true)
  (Sv:fX K "_law_named" Kw)
  (Wv:eH K "_law_named" "_law_named" dR Kw QD M6 RA Qm PU Ol QY Js NH)
  (S8:PySem.W.codeIn K Js "_law_named"=true)
  (V1:PySem.W.keepIn K (.ref Kw)=true)
  (Sw:fX K "_law_built" Kx)
  (Ww:eH K "_law_built" "_law_built" jn Kx QE M7 RB Qn PV Om QZ Jt NI)
  (S9:PySem.W.codeIn K Jt "_law_built"=true)
  (V2:PySem.W.keepIn K (.ref Kx)=true)
  (Sx:fX K "_law_web" Ky)
  (Wx:eH K "_law_web" "_law_web" iZ Ky QF M8 RC Qo PX Oo Q0 Ju NJ)
  (Ta:PySem.W.codeIn K Ju "_law_web"=true)
  (V3:PySem.W.keepIn K (.ref Ky)=true)
  (Sy:fX K "_law_within" Kz)
  (Wy:eH K "_law_within" "_law_within" iD Kz QG M9 RD Qp PY Oq Q1 Jv NK)
  (Tb:PySem.W.codeIn K Jv "_law_within"=true)
  (V4:PySem.W.keepIn K (.ref Kz)=true)
  (Sz:fX K "_law_chords" KA)
  (Wz:eH K "_law_chords" "_law_chords" fT KA QH Na RE Qq PZ Ot Q2 Jw NL)
  (Tc:PySem.W.codeIn K Jw "_law_chords"=true)
  (V5:PySem.W.keepIn K (.ref KA)=true)
  (SA:fX K "_law_halves" KC)
  (WA:eH K "_law_halves" "_law_halves" iB KC QI Nb RF Qr P0 Ou Q3 Jx NM)
  (Td:PySem.W.codeIn K Jx "_law_halves"=true)
  (V6:PySem.W.keepIn K (.ref KC)=true)
  (SD:fX K "_law_lesser" KD)
  (WB:eH K "_law_lesser" "_law_lesser" fU KD QJ Nc RG Qs P1 Ov Q4 Jy NN)
  (Te:PySem.W.codeIn K Jy "_law_lesser"=true)
  (V7:PySem.W.keepIn K (.ref KD)=true)
  (SE:fX K "_law_rings" KG)
  (WC:eH K "_law_rings" "_law_rings" jr KG QK Nd RH Qt P2 Ow Q5 Jz NO)
  (Tf:PySem.W.codeIn K Jz "_law_rings"=true)
  (V8:PySem.W.keepIn K (.ref KG)=true)
  (SG:fX K "_law_counted" KH)
  (WE:eH K "_law_counted" "_law_counted" cQ KH QL Nf RJ Qu P4 Ox Q6 JA NP)
  (Tg:PySem.W.codeIn K JA "_law_counted"=true)
  (V9:PySem.W.keepIn K (.ref KH)=true)
  (SH:fX K "_law_named_chords" KI)
  (WG:eH K "_law_named_chords" "_law_named_chords" eO KI QM Ng RK Qv P5 Oy Q7 JB NQ)
  (Th:PySem.W.codeIn K JB "_law_named_chords"=true)
  (Wa:PySem.W.keepIn K (.ref KI)=true)
  (SJ:fX K "_law_turned" KJ)
  (WH:eH K "_law_turned" "_law_turned" iC KJ QN Nh RL Qw P6 Oz Q8 JC NS)
  (Tj:PySem.W.codeIn K JC "_law_turned"=true)
  (Wc:PySem.W.keepIn K (.ref KJ)=true)
  (MV:fX K "law" KL)
  (WI:eH K "law" "law" AQ KL QO Ni RM Qx P7 OA Q9 JD NT)
  (Tn:PySem.W.codeIn K JD "law"=true)
  (Wd:PySem.W.keepIn K (.ref KL)=true)
  (m0:PySem.W.findIn K (.ref C) "__init__"=some (some (.ref i0)))
  (f0:PySem.W.isFn K (.ref i0)=true)
  (WY:eH K "__init__" "Web.__init__" dO i0 Vf Vr VJ U9 Vl Vx VD PC VQ)
  (WK:PySem.W.codeIn K PC "Web.__init__"=true)
  (WR:PySem.W.keepIn K (.ref i0)=true)
  (m1:PySem.W.findIn K (.ref C) "many"=some (some (.ref i1)))
  (f1:PySem.W.isFn K (.ref i1)=true)
  (WZ:eH K "many" "Web.many" qV i1 Vg Vs VL Va Vm Vy VE PD VR)
  (WL:PySem.W.codeIn K PD "Web.many"=true)
  (WS:PySem.W.keepIn K (.ref i1)=true)
  (m2:PySem.W.findIn K (.ref C) "turns"=some (some (.ref i2)))
  (f2:PySem.W.isFn K (.ref i2)=true)
  (W0:eH K "turns" "Web.turns" g8 i2 Vh Vt VM Vb Vn Vz VF PF VS)
  (WM:PySem.W.codeIn K PF "Web.turns"=true)
  (WT:PySem.W.keepIn K (.ref i2)=true)
  (m3:PySem.W.findIn K (.ref C) "ties"=some (some (.ref i3)))
  (f3:PySem.W.isFn K (.ref i3)=true)
  (W2:eH K "ties" "Web.ties" iY i3 Vi Vu VN Vc Vo VA VG PH VT)
  (WN:PySem.W.codeIn K PH "Web.ties"=true)
  (WU:PySem.W.keepIn K (.ref i3)=true)
  (m4:PySem.W.findIn K (.ref C) "tied"=some (some (.ref i4)))
  (f4:PySem.W.isFn K (.ref i4)=true)
  (W3:eH K "tied" "Web.tied" qW i4 Vj Vv VO Vd Vp VB VH PJ VU)
  (WO:PySem.W.codeIn K PJ "Web.tied"=true)
  (WV:PySem.W.keepIn K (.ref i4)=true)
  (m5:PySem.W.findIn K (.ref C) "behind"=some (some (.ref i5)))
  (f5:PySem.W.isFn K (.ref i5)=true)
  (W4:eH K "behind" "Web.behind" m8 i5 Vk Vw VP Ve Vq VC VI PK VV)
  (WQ:PySem.W.codeIn K PK "Web.behind"=true)
  (WW:PySem.W.keepIn K (.ref i5)=true)
  (Xw:PySem.W.plainGet K C Str.empty=true)
  (zX:PySem.W.hasDictIn K C=true)
  (XH:PySem.W.plainOver K C=true)
  (XS:PySem.W.findIn K (.ref C) "__setattr__"=some (some (.builtin "object.__setattr__")))
  (WX:PySem.W.makesIn K C=true)
  (Wo:PySem.W.keepIn K (.ref C)=true)
  (nR:PySem.W.findIn K (.ref C) "rows"=some none)
  (To:PySem.W.nsIn K mainGlobals "MOST_POINTS"=some (some (.int 14 MJ)))
  (Sf:PySem.W.nsIn K mainGlobals "len"=some none)
  (Jg:PySem.W.nsIn K mainGlobals "range"=some none)
  (Sg:PySem.W.nsIn K mainGlobals "max"=some none)
  (Sh:PySem.W.nsIn K mainGlobals "min"=some none)
  (ze:PySem.W.nsIn K mainGlobals "enumerate"=some none)
  (Sk:PySem.W.nsIn K mainGlobals "zip"=some none)
  (GS:PySem.W.nsIn K mainGlobals "sorted"=some none)
  (Sd:PySem.W.nsIn K mainGlobals "all"=some none)
  (xp:PySem.W.nsIn K mainGlobals "isinstance"=some none)
  (Se:PySem.W.nsIn K mainGlobals "int"=some none)
  (MO:PySem.W.nsIn K mainGlobals "bool"=some none)
  (MP:PySem.W.nsIn K mainGlobals "list"=some none)
  (Jh:PySem.W.nsIn K mainGlobals "tuple"=some none)
  (Sj:PySem.W.nsIn K mainGlobals "sum"=some none)
  (A7:PySem.W.nsIn K mainGlobals "reversed"=some none)
  (Si:PySem.W.nsIn K mainGlobals "set"=some none)
  :∃fd:FuncData,(∀(s:Shared)(v:Value),BindsTo s fd ⟨[v],[]⟩ [("_law_script",v)])∧∀base:Heap,K.In base→base.Ns mainGlobals mg→FnOk l.prog w K mg base cP 40 fa fd ["_law_script"] (L2.pO K):=by
 have e:=UI.symm.trans (PySem.W.mg_of X G MV);cases e;have E0:=oX (st:=dO) WY WK WR;have e0:=E0.binds (ps:= ["self","turns"]) (λ_ _ _ _ _ _ _ hl=>by obtain ⟨_,_,rfl⟩:=L2.mX hl;rfl)
 let Z:DC:=⟨K,C⟩
 let T:Txt Z mg:=⟨⟨PySem.W.mg_none_of X G Sf,PySem.W.mg_none_of X G Jg,PySem.W.mg_none_of X G Sg,PySem.W.mg_none_of X G Sh,PySem.W.mg_none_of X G ze,PySem.W.mg_none_of X G Sk,PySem.W.mg_none_of X G GS,PySem.W.mg_none_of X G Sd,PySem.W.mg_none_of X G xp,PySem.W.mg_none_of X G Se,PySem.W.mg_none_of X G MO,PySem.W.mg_none_of X G MP,PySem.W.mg_none_of X G Jh,PySem.W.mg_none_of X G Sj,PySem.W.mg_none_of X G A7⟩,PySem.W.mg_none_of X G Si, .of X G a0 l0 c0 k0 (λ_ _ _ _ _ _ _ hl=>by obtain ⟨_,_,rfl⟩:=L2.mX hl;rfl), .of X G a1 l1 c1 k1 (λ_ _ _ _ _ _ _ hl=>by obtain ⟨_,rfl⟩:=L2.gW hl;rfl), .of X G a2 l2 c2 k2 (λ_ _ _ _ _ _ _ hl=>by obtain ⟨_,rfl⟩:=L2.gW hl;rfl), .of X G a3 l3 c3 k3 (λ_ _ _ _ _ _ _ hl=>by obtain ⟨_,rfl⟩:=L2.gW hl;rfl), .of X G a4 l4 c4 k4 (λ_ _ _ _ _ _ _ hl=>by obtain ⟨_,rfl⟩:=L2.gW hl;rfl), .of X G a5 l5 c5 k5 (λ_ _ _ _ _ _ _ hl=>by obtain ⟨_,rfl⟩:=L2.gW hl;rfl), .of X G a6 l6 c6 k6 (λ_ _ _ _ _ _ _ hl=>by obtain ⟨_,rfl⟩:=L2.gW hl;rfl), .of X G a7 l7 c7 k7 (λ_ _ _ _ _ _ _ hl=>by obtain ⟨_,rfl⟩:=L2.gW hl;rfl), .of X G a8 l8 c8 k8 (λ_ _ _ _ _ _ _ hl=>by obtain ⟨_,_,rfl⟩:=L2.mX hl;rfl), .of X G a9 l9 c9 k9 (λ_ _ _ _ _ _ _ hl=>by obtain ⟨_,_,_,rfl⟩:=L2.ph hl;rfl), .of X G So Wq SY VW (λ_ _ _ _ _ _ _ hl=>by obtain ⟨_,_,rfl⟩:=L2.mX hl;rfl), .of X G Sq Wr S0 VX (λ_ _ _ _ _ _ _ hl=>by obtain ⟨_,_,rfl⟩:=L2.mX hl;rfl), .of X G Sr Ws S5 VY (λ_ _ _ _ _ _ _ hl=>by obtain ⟨_,_,rfl⟩:=L2.mX hl;rfl), .of X G Ss Wt S6 VZ (λ_ _ _ _ _ _ _ hl=>by obtain ⟨_,rfl⟩:=L2.gW hl;rfl), .of X G Su Wu S7 V0 (λ_ _ _ _ _ _ _ hl=>by obtain ⟨_,rfl⟩:=L2.gW hl;rfl), .of X G Sv Wv S8 V1 (λ_ _ _ _ _ _ _ hl=>by obtain ⟨_,_,_,rfl⟩:=L2.ph hl;rfl), .of X G Sw Ww S9 V2 (λ_ _ _ _ _ _ _ hl=>by obtain ⟨_,rfl⟩:=L2.gW hl;rfl), .of X G Sx Wx Ta V3 (λ_ _ _ _ _ _ _ hl=>by obtain ⟨_,rfl⟩:=L2.gW hl;rfl), .of X G Sy Wy Tb V4 (λ_ _ _ _ _ _ _ hl=>by obtain ⟨_,_,_,rfl⟩:=L2.ph hl;rfl), .of X G Sz Wz Tc V5 (λ_ _ _ _ _ _ _ hl=>by obtain ⟨_,_,rfl⟩:=L2.mX hl;rfl), .of X G SA WA Td V6 (λ_ _ _ _ _ _ _ hl=>by obtain ⟨_,_,_,rfl⟩:=L2.ph hl;rfl), .of X G SD WB Te V7 (λ_ _ _ _ _ _ _ hl=>by obtain ⟨_,_,_,rfl⟩:=L2.ph hl;rfl), .of X G SE WC Tf V8 (λ_ _ _ _ _ _ _ hl=>by obtain ⟨_,_,_,rfl⟩:=L2.ph hl;rfl), .of X G SG WE Tg V9 (λ_ _ _ _ _ _ _ hl=>by obtain ⟨_,_,rfl⟩:=L2.mX hl;rfl), .of X G SH WG Th Wa (λ_ _ _ _ _ _ _ hl=>by obtain ⟨_,_,rfl⟩:=L2.mX hl;rfl), .of X G SJ WH Tj Wc (λ_ _ _ _ _ _ _ hl=>by obtain ⟨_,_,_,rfl⟩:=L2.ph hl;rfl), .of X G MV WI Tn Wd (λ_ _ _ _ _ _ _ hl=>by obtain ⟨_,rfl⟩:=L2.gW hl;rfl),⟨⟨Xw,zX,XH,XS⟩,nR⟩,PySem.W.mg_of X G gC,i0,_,E0,⟨WX,m0,f0,Wo⟩,e0, .of m1 f1 WZ WL WS (λ_ _ _ _ _ _ _ hl=>by obtain ⟨_,rfl⟩:=L2.gW hl;rfl), .of m2 f2 W0 WM WT (λ_ _ _ _ _ _ _ hl=>by obtain ⟨_,rfl⟩:=L2.gW hl;rfl), .of m3 f3 W2 WN WU (λ_ _ _ _ _ _ _ hl=>by obtain ⟨_,rfl⟩:=L2.gW hl;rfl), .of m4 f4 W3 WO WV (λ_ _ _ _ _ _ _ hl=>by obtain ⟨_,_,_,rfl⟩:=L2.ph hl;rfl), .of m5 f5 W4 WQ WW (λ_ _ _ _ _ _ _ hl=>by obtain ⟨_,_,_,rfl⟩:=L2.ph hl;rfl),⟨MJ,PySem.W.mg_of X G To⟩⟩
 exact ⟨_,λs v=> .of_eq rfl,λbase _ _=>(((Ih (P:=l.prog) (w:=w) (base:=base) T).mono (by decide)).imp (L2.HR (Z:=Z)))⟩
theorem walk{l:PySem.W.OpenLaw}{q:Program}{loose:List Str}{XP:(Str→Option Value)→Heap→Prop}{YP:World→Heap→Prop}{d:DefRec}{K:Params→PySem.W.Frag}(hn:l.most=some 63)(zY:d.params.defaults= [])
  (hY:∀(w:World)(h:Heap),YP w h→(K w.params).In h)
  (F:∀(w:World)(mg:Str→Option Value)(fa:Addr)(h:Heap),(K w.params).In h→h.Ns mainGlobals mg→mg d.name=some (.ref fa)→
   ∃fd:FuncData,(∀(s:Shared)(u:Value),BindsTo s fd ⟨[u],[]⟩ [("_law_script",u)])∧∀base:Heap,(K w.params).In base→base.Ns mainGlobals mg→FnOk l.prog w (K w.params) mg base cP 40 fa fd ["_law_script"] (pO (K w.params))):
  PySem.W.WalkO q loose XP YP l.row.toRowW d [] (λf vs=>PySem.call f vs):=L2.MM 40 (by decide) hn zY hY F
end p9
def PySem.W.Fast.tw13979565331779984058:Nat:=0
def PySem.W.Fast.tw11840890147328906914:Nat:=0
def PySem.W.Fast.tw16979138006233604658:Nat:=0
def PySem.W.Fast.tw15683057020994634976:Nat:=0
def PySem.W.Fast.tw1135693918693147946:Nat:=0
def PySem.W.Fast.tw4532943279747465803:Nat:=0
def PySem.W.Fast.tw652149577320815636:Nat:=0
def PySem.W.Fast.tw12960198211017507262:Nat:=0
def PySem.W.Fast.tw13462859847945437339:Nat:=0
def PySem.W.Fast.tw6821741264191785865:Nat:=0
def PySem.W.Fast.tw17518536540593925822:Nat:=0
def PySem.W.Fast.tw16077606282175257552:Nat:=0
def PySem.W.Fast.tw3622754461458188685:Nat:=0
def PySem.W.Fast.tw4246139016187289967:Nat:=0
def PySem.W.Fast.tw15382796901762293444:Nat:=0
def PySem.W.Fast.tw9222740506156065272:Nat:=0
def PySem.W.Fast.tw1431850929693909743:Nat:=0
def PySem.W.Fast.tw8232467294300513921:Nat:=0
def PySem.W.Fast.tw738624705030256155:Nat:=0
def PySem.W.Fast.tw9227831959948651171:Nat:=0
def PySem.W.Fast.tw16506686423741307607:Nat:=0
def PySem.W.Fast.tw16371957647684841344:Nat:=0
def PySem.W.Fast.tw14549023544597816530:Nat:=0
def PySem.W.Fast.tw7660643531930855233:Nat:=0
def PySem.W.Fast.tw13184478323228678900:Nat:=0
def PySem.W.Fast.tw16871858195291843984:Nat:=0
def PySem.W.Fast.tw7632390299345874272:Nat:=0
def PySem.W.Fast.tw6959508725695394783:Nat:=0
def PySem.W.Fast.tw15398731705856298044:Nat:=0
def PySem.W.Fast.tw9617251477578055099:Nat:=0
def PySem.W.Fast.tw10514007690651279183:Nat:=0
def PySem.W.Fast.tw18047021372005035191:Nat:=0
def PySem.W.Fast.tw6504693432772017432:Nat:=0
def PySem.W.Fast.tw7497365437242352971:Nat:=0
def PySem.W.Fast.tw7827411941002754768:Nat:=0
def PySem.W.Fast.tw6174154588597687528:Nat:=0
def PySem.W.Fast.tw8228372583167402569:Nat:=0
def PySem.W.Fast.tw11725560271165619899:Nat:=0
def PySem.W.Fast.tw5585671866839483132:Nat:=0
def PySem.W.Fast.tw12660985503093481763:Nat:=0
def PySem.W.Fast.tw2974811179420211157:Nat:=0
def PySem.W.Fast.tw12003979707523636744:Nat:=0
def PySem.W.Fast.tw15213003602254931619:Nat:=0
def PySem.W.Fast.tw15585791684940807016:Nat:=0
def PySem.W.Fast.tw12409554630030893336:Nat:=0
def PySem.W.Fast.tw13296921164517864763:Nat:=0
def PySem.W.Fast.tw6674345978929929675:Nat:=0
def PySem.W.Fast.tw757972361249699029:Nat:=0
def PySem.W.Fast.tw5065590882659391139:Nat:=0
def PySem.W.Fast.tw3577745951870217371:Nat:=0
def PySem.W.Fast.tw18377752813492951257:Nat:=0
def PySem.W.Fast.tw34669087441243282:Nat:=0
def PySem.W.Fast.tw14179300385112342083:Nat:=0
def PySem.W.Fast.tw1463943955931866971:Nat:=0
def PySem.W.Fast.tw6526214931854253251:Nat:=0
def PySem.W.Fast.tw11808580773683690218:Nat:=0
def PySem.W.Fast.tw15820521079895397556:Nat:=0
def PySem.W.Fast.tw346401105888422996:Nat:=0
def PySem.W.Fast.tw6363059894985712687:Nat:=0
def PySem.W.Fast.tw4944747688067374223:Nat:=0
def PySem.W.Fast.tw3813344386901298908:Nat:=0
def PySem.W.Fast.tw14826601145879292694:Nat:=0
def PySem.W.Fast.tw1397390701255945775:Nat:=0
def PySem.W.Fast.tw10261260951429150104:Nat:=0
def PySem.W.Fast.tw11716858109942616357:Nat:=0
def PySem.W.Fast.tw14574310421721630869:Nat:=0
def PySem.W.Fast.tw14100461315755145613:Nat:=0
def PySem.W.Fast.tw14914997739719109436:Nat:=0
def PySem.W.Fast.tw11164972394187808489:Nat:=0
def PySem.W.Fast.tw16163134340735260012:Nat:=0
def PySem.W.Fast.tw10003606652397506522:Nat:=0
def PySem.W.Fast.tw5576761831780447563:Nat:=0
def PySem.W.Fast.tw3699160848735704418:Nat:=0
open PySem PySem.W PyProof.Rows
set_option maxRecDepth 100000 in
set_option maxHeartbeats 0 in
theorem PySem.Challenge.cw_mapdye_k35_whole_counts_and_turned_rings_holds : PySem.Challenge.rw_mapdye_k35_whole_counts_and_turned_rings.Holds := by
 w_on;o_law;k_head;(case hw=>w_witness2)
 k_fill
 refine p9.walk (l:=PySem.Challenge.rw_mapdye_k35_whole_counts_and_turned_rings) rfl rfl (λw h Y=>PySem.W.kIn_of Y) ?F
 case F=>
  intro w mg fa h KX G z4
  refine' p9.all_mk KX G z4 ?_ ?_ ?_ ?_ ?_ ?_ ?_ ?_ ?_ ?_ ?_ ?_ ?_ ?_ ?_ ?_ ?_ ?_ ?_ ?_ ?_ ?_ ?_ ?_ ?_ ?_ ?_ ?_ ?_ ?_ ?_ ?_ ?_ ?_ ?_ ?_ ?_ ?_ ?_ ?_ ?_ ?_ ?_ ?_ ?_ ?_ ?_ ?_ ?_ ?_ ?_ ?_ ?_ ?_ ?_ ?_ ?_ ?_ ?_ ?_ ?_ ?_ ?_ ?_ ?_ ?_ ?_ ?_ ?_ ?_ ?_ ?_ ?_ ?_ ?_ ?_ ?_ ?_ ?_ ?_ ?_ ?_ ?_ ?_ ?_ ?_ ?_ ?_ ?_ ?_ ?_ ?_ ?_ ?_ ?_ ?_ ?_ ?_ ?_ ?_ ?_ ?_ ?_ ?_ ?_ ?_ ?_ ?_ ?_ ?_ ?_ ?_ ?_ ?_ ?_ ?_ ?_ ?_ ?_ ?_ ?_ ?_ ?_ ?_ ?_ ?_ ?_ ?_ ?_ ?_ ?_ ?_ ?_ ?_ ?_ ?_ ?_ ?_ ?_ ?_ ?_ ?_ ?_ ?_ ?_ ?_ ?_ ?_ ?_ ?_ ?_ ?_ ?_ ?_ ?_ ?_ ?_ ?_ ?_ ?_ ?_ ?_ ?_
  all_goals (try (show _=_;k_is))
