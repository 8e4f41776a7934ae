import PyProof.Rows.All
import Wide.All
import OpenK.AllK
import Wide.FinOn
import Lean
import PyProof.EqAt
import PyProof.EqKinds
import PyProof.TupleCall
import PyProof.RaisesMany
import KE.KSortTup
import PyProof.NeKinds
import PyProof.SetKind
import PyProof.SetRoads
import PyProof.SetNew
import PyProof.WalksS
import PyProof.CollectWalk
import PyProof.TupleKey
import PyProof.IsRules
import PyProof.InstEq
import KE.KRevIter
import PyProof.FitsBits
import PyProof.P3Eq
import PyProof.ListRange
import PyProof.MeetsSeq
import PyProof.DictRoadsH
import PyProof.DictTruth
import PyProof.MinMaxWalk
import PyProof.Rows.SetFrom
import PySem.Challenge.RW_mapdye_k22_whole_filled
local macro_rules|`(tactic|subst_eqs)=>`(tactic|first|exact Or.inl rfl|exact Or.inr rfl|exact Or.inr (Or.inl rfl)|exact Or.inr (Or.inr rfl)|assumption)
local macro_rules|`(tactic|bv_omega)=>`(tactic|exact ⟨rfl,rfl,rfl,by decide+kernel,rfl,by decide+kernel,by decide+kernel⟩)
local macro_rules|`(#[$x,$y,*])=>`(⟨$x,$y,*⟩)
local macro_rules|`(#[$x])=>`(⟨$x⟩)
local macro_rules|`(tactic|exists $x,*)=>`(tactic|refine⟨$x,* ,?_⟩)
open PySem.W renaming Frag→ac,findIn→am,keepIn→ar,emptyDict→aA,codeIn→bd,fnOf→bj,instObj→bv,kitOne→bx,isFn→bD,plainGet→b4,hasDictIn→b5,nsIn→b6,OpenLaw→ca,lookIn→cb,specialIn→ce,plainOver→cf,methodObj→cp,takesIn→cs,takerIn→cx,makesIn→cy,mroIn→dn,WalkO→dy
open List renaming range→ad,replicate→ak,length→bi,lookup→bm,Nodup→dc
open PySem renaming Spec→bc,Within→cr,SetTable→da,call→db
open Array renaming replicate→c3
abbrev ir:=@if_neg
abbrev ls:=@if_pos
abbrev FM:=@decide_eq_true
abbrev FS:=@congrArg
abbrev GM:=@decide_eq_false
abbrev KF:=@of_decide_eq_true
abbrev M2:=@if_false
abbrev On:=@of_decide_eq_false
abbrev aav:=@beq_eq_false_iff_ne
abbrev aax:=@if_true
abbrev aaC:=@beq_iff_eq
abbrev aaE:=@decide_eq_decide
abbrev aaK:=@getElem?_pos
abbrev abQ:=@bne_self_eq_false
open PySem renaming wpAny_bind→be,wpAny_pure→mo,wpAny_holding→KM,wpAny_call_entry→SB,wpAny_truthy_bool→SL,wpAny_newObj_type→SZ,wpAny_setState_of→UF,codeAny_builtin→aao,mem_of_lookup→aaw,wpAny_askSetting→aay,wpAny_passesOwn→aaz,wpAny_standAt→aaA,plainId_quiet→aaB,codeAny_mono→aaD,wpAny_rule→aaG,wpAny_Call_Name_kw→aaH,call_meets→aaM,wpAny_of_eq→aaO,codeAny_of_tree→aaQ,wpAny_comprehension_free→aaT,wpAny_callSpecial?_slot→aa0,wpAny_pyIter_list→aa1,wpAny_Call_method_late→aa4,wpAny_newList→aa8,wpAny_execs_nil→abl,wpAny_ite_false→abp,wpAny_setEntries_of→abw,wpAny_ite_true→abA,sizeLine_eq→abD,wpAny_pyHash_tuple→abJ,wpAny_attempt→abO,wpAny_typeOf→abU,wpAny_forIn_list→abY,wpAny_specialOf→ab7,codeAny_compStart_list→ace,wpAny_setField→aco,wpAny_call→acq,codeAny_loop→acv,sub_set_self→acB
open PySem.Heap renaming get?_push_of_some→tz,lt_size→FB,get?_push_size→GE,get?_update_self→aap,get?_update_other→aaI,size_update→aaN,get?_push_ne→aa2,get?_update_ne→abv,size_push→acm
open PyProof.Rows renaming wpS_bind→AC,wpS_pure→Fk,wpS_mono→P3,wpS_forRange→SC,callWith_type1→aaL,wpS_get→aaP,size_push'→aaY,wpS_modify→aaZ,wpS_lift→abb,slot_tuple_getitem→abk,args_list_sort→aby,assignInOrder_cons→abE,listUpdate_at→abN,subscriptTail_builtinR→acd,seqEpoch_at→acf,sortedAll_old→acr,sortedAll_at→acw,plain_sorted→acx,entry_sorted→acy,args_sorted1→acz,collect_list→acA
open Classical renaming byContradiction→Da
open Option.some renaming inj→Do
open PySem.PassesOwn renaming never→Gc
open PyProof.Rows.KeyOrd renaming kle_trans→GT,kle_of_klt→Pi,kle_refl→aan,klt_of_kle_of_klt→aaU
open Prod.mk renaming inj→IR
open PySem.W renaming mg_none_of→KB,kia_one→UV,mg_of→aba,plainGet_of→abu,callWith_K→abG,cellsFrom_some→aca
open PySem.F renaming plainAttrs_list→Os,slot_list_append→aat,type_list_append→aau,args_tuple_add_2→abT,entry_tuple_add→abZ,slot_tuple_add→acb
open Prod renaming ext→PP
open PySem.Around renaming under_plainId→Wp
open List.cons renaming inj→W1
open List.Perm renaming append_left→aaq,eq_of_pairwise→aaX,append_right→aa6
open List.Pairwise renaming imp_of_mem→aar
open PySem.Heap.SameBut renaming update→aas
open PyProof.Rows.F renaming plain_set_update_loop→aaF,entry_set_update_loop→ab0
open PySem.Calls renaming callWith_builtin→aaJ,call_function_entry→aaR,evalArgs_plain→abn,Name_function_global→abL
open PySem.SeqAt.EqAt renaming int_int→aaS
open Array renaming size_setIfInBounds→aaV,getElem?_setIfInBounds→abz,toList_inj→abV,toList_filterMap→ach
open PySem.Obj renaming data_mapFields→aaW
open Nat renaming add_mod_right→aa3,max_eq_right→abe,ne_of_gt→abm,min_eq_left→abq,lt_of_le_of_lt→abH,lt_trichotomy→abR,not_lt_zero→ab6,le_of_eq→acs,succ_mul→acu,lt_or_ge→acD
open List renaming pairwise_lt_range→aa5,all_cons→aa7,take_succ_eq_append_getElem→abc,not_mem_nil→abd,pairwise_reverse→abg,eq_nil_or_concat→abh,pairwise_flatten→abi,count_cons_of_ne→abj,range_succ→abo,exists_mem_of_length_pos→abr,filterMap_cons→abt,flatMap_append→abx,countP_eq_length_filter→abB,count_set→abC,mem_filterMap→abF,filter_append→abK,any_cons→abM,count_replicate_self→abS,isEmpty_nil→abX,filter_cons_of_pos→ab1,filter_cons_of_neg→ab2,of_mem_zip→ab3,find?_some→ab4,idxOf_cons→ab9,getElem_replicate→aci,drop_drop→acn,count_nil→acp
open Bool renaming not_true→aa9,or_eq_true→ab8,false_and→ack
open Int renaming natCast_emod→abf,emod_lt_of_pos→abI,emod_nonneg→ab5
open PySem.MeetsSeq3 renaming plain_eq_loop→abP
open PySem.SetTable renaming toList_insertAt→abW,insertAt_perm→acg
open Option renaming map_eq_some_iff→acj
open Nat.succ renaming inj→acC
theorem ag{g:Prop}(h:∀G:Prop,(g->G)->G):g:=h g id
set_option hygiene false in
local macro_rules|`(tactic|rfl')=>`(tactic|refine ag fun G0 k0=>?_)
set_option hygiene false in
local macro_rules|`(tactic|ac_rfl)=>`(tactic|refine k0 ?_)
set_option Elab.async false
set_option linter.all false
set_option maxRecDepth 100000
abbrev aG:= @List.length_map
abbrev ck:= @List.getD_eq_getElem?_getD
abbrev b8:= @List.getElem?_eq_getElem
abbrev bB:= @List.mem_cons_self
abbrev bP:= @List.mem_cons_of_mem
abbrev dQ:= @List.getElem?_eq_some_iff
abbrev bH:= @List.mem_append
abbrev cC:= @List.mem_singleton
abbrev cE:= @List.length_append
abbrev c9:= @List.nodup_append
abbrev aX:= @List.mem_map
abbrev bo:= @List.mem_cons
abbrev cN:= @List.mem_append_right
abbrev bN:= @List.length_cons
abbrev bb:= @Nat.le_refl
abbrev b7:= @List.getElem?_map
abbrev cD:= @Array.length_toList
abbrev bS:= @List.nodup_cons
abbrev dM:= @List.mem_of_getElem?
abbrev bT:= @List.map_cons
abbrev dD:= @Bool.false_ne_true
abbrev eW:= @Array.getElem?_toList
abbrev bV:= @Nat.ne_of_lt
abbrev dN:= @List.size_toArray
abbrev b9:= @List.map_map
abbrev c8:= @List.map_append
abbrev fj:= @List.mem_append_left
abbrev dE:= @List.mem_range
abbrev fk:= @Bool.false_eq_true
abbrev iu:= @List.getElem?_eq_none
abbrev iU:= @List.take_append_drop
abbrev fZ:= @List.flatten_cons
abbrev f6:= @List.append_assoc
abbrev lE:= @List.getElem?_append_right
abbrev f7:= @List.append_nil
abbrev f9:= @List.length_set
abbrev mH:= @List.perm_ext_iff_of_nodup
abbrev gO:= @List.length_take
abbrev gP:= @Nat.mod_eq_of_lt
abbrev mI:= @List.getElem?_append_left
abbrev i5:= @Nat.lt_of_lt_of_le
abbrev iV:= @List.pairwise_map
abbrev nY:= @List.nodup_iff_pairwise_ne
abbrev lF:= @List.getElem?_set_self
abbrev jR:= @Array.toList_append
abbrev nZ:= @List.drop_eq_getElem_cons
abbrev gQ:= @List.nodup_nil
abbrev i6:= @List.mem_flatten
abbrev fm:= @Nat.zero_le
abbrev lG:= @List.getElem?_set_ne
abbrev qq:= @Array.getElem?_eq_getElem
abbrev jS:= @Nat.le_of_not_lt
abbrev rF:= @List.idxOf_lt_length_iff
abbrev n5:= @List.getElem?_range
abbrev uv:= @List.getElem?_cons_succ
abbrev n6:= @List.getElem?_set
abbrev n9:= @List.length_range
abbrev rG:= @List.getElem?_of_mem
abbrev rH:= @List.count_cons_self
abbrev uw:= @List.length_pos_of_mem
abbrev mJ:= @List.length_nil
abbrev mK:= @List.perm_append_comm
abbrev qr:= @List.length_drop
abbrev wk:= @List.take_of_length_le
abbrev qs:= @List.mem_reverse
abbrev zV:= @List.pairwise_iff_getElem
abbrev rJ:= @List.ext_getElem?
abbrev rK:= @Nat.lt_succ_of_lt
abbrev zW:= @List.set_eq_of_length_le
abbrev qt:= @List.mem_filter
abbrev zX:= @List.getElem?_replicate
abbrev jT:= @Nat.mod_lt
abbrev wo:= @List.getLast?_concat
abbrev og:= @Nat.lt_irrefl
abbrev Bu:= @Array.getElem?_eq_some_iff
abbrev zY:= @List.drop_eq_nil_of_le
abbrev ux:= @Bool.eq_false_iff
abbrev uy:= @List.count_append
abbrev wq:= @List.flatten_append
abbrev rL:= @List.foldl_cons
abbrev zZ:= @List.length_replicate
abbrev oh:= @Nat.le_trans
abbrev uz:= @List.lookup_cons
abbrev uA:= @List.getElem_mem
abbrev wu:= @Int.toNat_natCast
abbrev Fq:= @Array.getD_eq_getD_getElem?
abbrev z0:= @List.replicate_succ
abbrev z3:= @List.reverse_append
abbrev qu:= @Nat.zero_add
abbrev rM:= @List.sum_cons
abbrev wx:= @List.cons_append
abbrev z4:= @List.getElem_idxOf
abbrev rN:= @Nat.add_comm
abbrev rO:= @Nat.sub_self
abbrev wy:= @List.nil_append
abbrev Bv:= @List.mem_iff_getElem
abbrev Bw:= @List.mem_of_mem_take
abbrev z5:= @List.flatMap_cons
abbrev z6:= @Array.toList_push
abbrev Fs:= @List.eraseIdx_cons_succ
abbrev zH:= @List.length_eq_zero_iff
abbrev vy:= @List.getElem_of_mem
abbrev qm:= @List.take_zero
abbrev sQ:= @Bool.and_eq_true
abbrev sR:= @List.nodup_range
abbrev zI:= @List.drop_of_length_le
abbrev vz:= @List.getElem?_drop
abbrev vA:= @Array.size_extract
abbrev vB:= @List.count_pos_iff
abbrev zJ:= @List.length_singleton
abbrev C6:= @Array.perm_iff_toList_perm
abbrev zK:= @Array.toList_reverse
abbrev zL:= @List.reverse_reverse
abbrev zM:= @List.pairwise_append
abbrev nF:= @Nat.le_succ
abbrev sS:= @Nat.mul_le_mul
abbrev qo:= @List.map_nil
abbrev qp:= @Nat.mod_self
abbrev vC:= @List.filter_cons
abbrev C7:= @List.getElem?_take_of_lt
abbrev vD:= @List.mem_flatMap
abbrev C8:= @List.pairwise_singleton
abbrev sT:= @List.map_take
abbrev zN:= @List.append_of_mem
abbrev zO:= @List.find?_eq_none
abbrev C9:= @Array.getElem?_eq_none
abbrev zP:= @List.reverse_perm
abbrev zQ:= @List.getElem?_inj
abbrev sU:= @Nat.le_of_lt
abbrev Dc:= @List.concat_eq_append
abbrev zR:= @Nat.lt_succ_self
abbrev zS:= @List.take_length
abbrev zT:= @List.all_eq_true
abbrev vE:= @List.map_drop
abbrev Dd:= @List.getD_cons_succ
abbrev De:= @List.map_congr_left
abbrev Df:= @List.length_pos_iff
abbrev HA:= @List.mem_of_find?_eq_some
abbrev vG:= @List.map_set
abbrev Dg:= @List.getElem?_take
abbrev Dh:= @List.pairwise_cons
abbrev zU:= @List.take_succ
namespace L2
open PySem PySem.Spec PyProof.Rows
abbrev Key:=Sum Int Str
def MU:Key->Value->Bool
 | .inl k,v=>Value.isInt k v
 | .inr x,v=>Value.isStrOf x v
def XQ(w:World):Key->Int
 | .inl k=>hashInt k
 | .inr x=>hashStr w x
theorem dP:∀{k:Key}{v:Value},MU k v=true->(∃i t,k=Sum.inl i/\v=Value.int i t)\/(∃x t,k=Sum.inr x/\v=Value.str x t)
 | .inl i,v,h=>by
  obtain⟨t,e⟩:=Value.isInt_shape (k:=i) (v:=v) h;exact .inl #[i,t,rfl,e]
 | .inr x,v,h=>by
  obtain⟨t,e⟩:=Value.isStrOf_shape (x:=x) (v:=v) h;exact .inr #[x,t,rfl,e]
theorem PK(a b:Int):decide ((Sum.inl a:Key)=Sum.inl b)=(a==b):=by
 by_cases e:a=b
 .subst e;simp
 .have h:¬(Sum.inl a:Key)=Sum.inl b:=λq=>e (Sum.inl.inj q)
  rw[GM h];exact(aav.mpr e).symm
theorem PQ(a b:Str):decide ((Sum.inr a:Key)=Sum.inr b)=decide (a=b):=by
 by_cases e:a=b
 .subst e;simp
 .have h:¬(Sum.inr a:Key)=Sum.inr b:=λq=>e (Sum.inr.inj q)
  rw[GM h,GM e]
theorem PL(a:Int)(b:Str):decide ((Sum.inl a:Key)=Sum.inr b)=false:=GM (λq=>nomatch q)
theorem PN(a:Str)(b:Int):decide ((Sum.inr a:Key)=Sum.inl b)=false:=GM (λq=>nomatch q)
def yE(prog:Program)(w:World):PySem.KeyKind prog w Key where
 is:=MU
 hash:=XQ w
 inj:=λv a b g f=>by
  rcases dP g with ⟨i,t,rfl,rfl⟩ | ⟨x,t,rfl,rfl⟩
  .rcases dP f with ⟨j,u,rfl,e⟩ | ⟨y,u,rfl,e⟩
   .injection e with c _;rw[c]
   .exact nomatch e
  .rcases dP f with ⟨j,u,rfl,e⟩ | ⟨y,u,rfl,e⟩
   .exact nomatch e
   .injection e with c _;rw[c]
 byValue:=λk v h=>by
  rcases dP h with ⟨i,t,rfl,rfl⟩ | ⟨x,t,rfl,rfl⟩<;>rfl
 pyHash:=λd h=>by
  rcases dP d with ⟨i,t,rfl,rfl⟩ | ⟨x,t,rfl,rfl⟩
  .exact wpAny_pyHash_int h
  .exact wpAny_pyHash_str h
 eqBool:=λl d h=>by
  rcases dP l with ⟨i,t,rfl,rfl⟩ | ⟨x,t,rfl,rfl⟩
  .rcases dP d with ⟨j,u,rfl,rfl⟩ | ⟨y,u,rfl,rfl⟩
   .rw[PK] at h;exact wpAny_eqBool_int h
   .rw[PL] at h;exact SeqAt.EqAt.int_str i t y u _ _ _ _ h
  .rcases dP d with ⟨j,u,rfl,rfl⟩ | ⟨y,u,rfl,rfl⟩
   .rw[PN] at h;exact SeqAt.EqAt.str_int x t j u _ _ _ _ h
   .rw[PQ] at h;exact wpAny_eqBool_str h
 «strs»:=λk x t v h=>by
  rcases dP h with ⟨i,u,rfl,e⟩ | ⟨y,u,rfl,e⟩
  .exact nomatch e
  .injection e with c _
   subst c;cases v<;>rfl
inductive V where
 |non|bl (b:Bool) |int (i:Int) |str (x:Str) |Je (b:Array UInt8) |FY (b:UInt64) |ref (a:Addr) |ty (n:String)
 deriving DecidableEq
def RelV:V->Value->Prop
 | .non,u=>u=Value.none
 | .bl b,u=>u=Value.bool b
 | .int i,u=>∃t,u=Value.int i t
 | .str x,u=>∃t,u=Value.str x t
 | .Je b,u=>∃t,u=Value.bytes b t
 | .FY b,u=>∃t,u=Value.float b t
 | .ref a,u=>u=Value.ref a
 | .ty n,u=>u=Value.type n
abbrev Vals:List V->List Value->Prop:=Paired RelV
theorem Vals.length{xs:List V}{a:List Value}(r:Vals xs a):xs.length=a.length:=Paired.length r
theorem Vals.get:∀{xs:List V}{a:List Value}{i:Nat}{x:V},Vals xs a->xs[i]? =some x->∃u,a[i]? =some u/\RelV x u
 |_,_,_,_, .nil,e=>by simp at e
 |_,_,0,_, .cons r _,e=>by simp at e;subst e;exact#[_,rfl,r]
 |_,_,i+1,x, .cons _ t,e=>by
  obtain⟨u,b,c⟩:=Vals.get (i:=i) (x:=x) t (by simpa using e)
  exact#[u,by simpa using b,c]
theorem Vals.set{x:V}(r:RelV x u):∀{a:List V}{b:List Value}(i:Nat),Vals a b->Vals (a.set i x) (b.set i u)
 |_,_,_, .nil=> .nil
 |_,_,0, .cons _ t=> .cons r t
 |_,_,i+1, .cons q t=> .cons q (Vals.set r i t)
theorem Vals.append:∀{a b:List V}{c d:List Value},Vals a c->Vals b d->Vals (a++b) (c++d)
 |_,_,_,_, .nil,s=>s
 |_,_,_,_, .cons r t,s=> .cons r (Vals.append t s)
theorem Vals.take:∀{xs:List V}{a:List Value}(n:Nat),Vals xs a->Vals (xs.take n) (a.take n)
 |_,_,0,_=> .nil
 |_,_,_+1, .nil=> .nil
 |_,_,n+1, .cons r t=> .cons r (Vals.take n t)
theorem Vals.drop:∀{xs:List V}{a:List Value}(n:Nat),Vals xs a->Vals (xs.drop n) (a.drop n)
 |_,_,0,r=>r
 |_,_,_+1, .nil=> .nil
 |_,_,n+1, .cons _ t=>Vals.drop n t
def oE:Option V->Option Value->Prop
 |some v,some u=>RelV v u
 |none,none=>True
 |_,_=>False
def KV{a:Type}:List (a×V)->List (a×Value)->Prop:=Paired λ(p:a×V)(q:a×Value)=>p.1=q.1/\RelV p.2 q.2
def kV:Key->V
 | .inl i=> .int i
 | .inr x=> .str x
inductive HO where
  |lst (xs:List V)
  |tup (xs:List V)
  |dK (fE:List (Key×V)) |dT (fE:List (List Key×V))
  |set (S:Int->Bool) (n:Nat)
  |ins (C dx:Addr) (fs:List (Str×V))
  |own (x:Addr)
  |xd (fs:List (Str×V))
  |met (f x:Addr)
  |rng (lo hi:Int)
  |tF (o:Obj) (u:HO)
  |Hl (ps:Array Value)
  |ext (φ:Heap->Prop)
abbrev Hp:=Addr->Option HO
def upd(H:Hp)(a:Addr)(o:HO):Hp:=λb=>if b=a then some o else H b
theorem ax{a:Addr}{o:HO}:upd H a o a=some o:=by unfold upd;rw[ls rfl]
theorem aB{a b:Addr}{o:HO}(h:b≠a):upd H a o b=H b:=by unfold upd;rw[ir h]
theorem aW{H:Hp}{a b:Addr}{o:HO}(h:H a=some o)(c:H b=none):a≠b:=by
 intro e;subst e;rw[h] at c;cases c
section
variable (P:Program) (w:World)
def eC(H:Hp)(h:Heap)(a:Addr):HO->Prop
 | .lst c=>c.length<=sizeLine/\∃(b:List Value)(n:Nat),Vals c b/\h.get? a=some {cls:= .type "list",data:= .seq b.toArray n}
 | .tup c=>c.length<=sizeLine/\∃b:List Value,Vals c b/\IsTup h a b.toArray
 | .dK e=>e.length<=sizeLine/\(a==sysModules)=false/\∃j,KV e j/\h.DictOf (yE P w) a j
 | .dT e=>e.length<=sizeLine/\(a==sysModules)=false/\∃c:List (List Key×Addr×Value),
   Paired (λ(p:List Key×V)(q:List Key×Addr×Value)=>p.1=q.1/\H q.2.1=some (.tup (p.1.map kV))/\RelV p.2 q.2.2) e c/\
   ∃o k r,h.get? a=some o/\o.ExactDict/\o.data= .dict k r/\k.toList=c.map (entryOfKey (tupleKind (yE P w)))/\(c.map (·.1)).Nodup
 | .set S n=>h.SetOf (intKind P w) a S n
 | .ins C g fs=>H g=some (.own a)/\fs.length<=1000/\g≠a/\h.get? a=some (bv C g)/\
   ∃d,h.Ns1 g d/\(∀f,oE (fs.lookup f) (d f))/\cr d (fs.map (·.1))
 | .own _=>∃o,h.get? a=some o
 | .xd fs=>∃d,h.Ns1 a d/\∀f,oE (fs.lookup f) (d f)
 | .rng lo s=>∃t u v,h.get? a=some {cls:= .type "range",data:= .fields [.int lo t, .int s u, .int 1 v].toArray}
 | .tF o u=>h.get? a=some o/\eC H h a u
 | .Hl y=>h.get? a=some {cls:= .none,data:= .fields y}
 | .met f x=>h.get? a=some (cp (.ref f) (.ref x))
 | .ext i=>i h/\(∃o,h.get? a=some o)/\∀l m:Heap,i l->(∀o,l.get? a=some o->m.get? a=some o)->i m
def jU(H:Hp)(h:Heap):Prop:=∀a o,H a=some o->eC P w H h a o
end
section
variable {P:Program} {w:World} {H H':Hp} {h h':Heap} {a:Addr} {o:HO}
theorem eC.lt(x:eC P w H h a o):a<h.objs.size:=by
 cases o with
 |lst b=>obtain⟨_,_,_,_,e⟩:=x;exact FB e
 |tup b=>obtain⟨_,_,_,p⟩:=x;exact p.lt
 |dK c=>obtain⟨_,_,_,_,o,_,_,e,_⟩:=x;exact FB e
 |dT c=>obtain⟨_,_,_,_,o,_,_,e,_⟩:=x;exact FB e
 |set S n=>obtain⟨o,_,_,_,e,_⟩:=x;exact FB e
 |ins C d fs=>obtain⟨_,_,_,e,_⟩:=x;exact FB e
 |own y=>obtain⟨_,e⟩:=x;exact FB e
 |xd fs=>obtain⟨_,⟨_,_,_,e,_⟩,_⟩:=x;exact FB e
 |rng lo g=>obtain⟨_,_,_,e⟩:=x;exact FB e
 |tF i u=>obtain⟨e,_⟩:=x;exact FB e
 |Hl j=>exact FB (show h.get? a=some _ from x)
 |met f y=>exact FB (show h.get? a=some _ from x)
 |ext k=>obtain⟨_,⟨_,e⟩,_⟩:=x;exact FB e
theorem Paired.RS:∀{c:List e}{d:List g},Paired F c d->(∀a b,F a b->G a b)->Paired G c d
 |_,_, .nil,_=> .nil
 |_,_, .cons r t,f=> .cons (f _ _ r) (Paired.RS t f)
theorem eC.wg(x:eC P w H h a o)(k:∀b u,(b=a\/H b=some (.own a))->h.get? b=some u->h'.get? b=some u)
  (E:∀b,H b=some (.own a)->H' b=some (.own a)) (F:∀b m,H b=some (.tup m)->H' b=some (.tup m)):eC P w H' h' a o:=by
 induction o with
 |lst m=>obtain⟨z,l,n,r,e⟩:=x;exact#[z,l,n,r,k _ _ (.inl rfl) e]
 |tup m=>obtain⟨z,l,r,g,e,c⟩:=x;exact#[z,l,r,g,k _ _ (.inl rfl) e,c]
 |dK G=>obtain⟨z,y,I,r,g,i,j,e,c⟩:=x;exact#[z,y,I,r,g,i,j,k _ _ (.inl rfl) e,c]
 |dT G=>
  obtain⟨z,y,m,r,g,i,j,e,c⟩:=x;exact#[z,y,m,Paired.RS r λp q z=>#[z.1,F _ _ z.2.1,z.2.2],g,i,j,k _ _ (.inl rfl) e,c]
 |set S n=>obtain⟨g,i,j,t,e,c⟩:=x;exact#[g,i,j,t,k _ _ (.inl rfl) e,c]
 |ins C N fs=>
  rfl';obtain⟨d,z,ne,e,s,⟨A,i,j,L,c⟩,r⟩:=x;ac_rfl;exact#[E _ d,z,ne,k _ _ (.inl rfl) e,s,#[A,i,j,k _ _ (.inr d) L,c],r]
 |own y=>obtain⟨g,e⟩:=x;exact#[g,k _ _ (.inl rfl) e]
 |xd fs=>obtain⟨s,⟨A,i,j,e,c⟩,r⟩:=x;exact#[s,#[A,i,j,k _ _ (.inl rfl) e,c],r]
 |rng lo Q=>obtain⟨t,u,v,e⟩:=x;exact#[t,u,v,k _ _ (.inl rfl) e]
 |tF g u M=>obtain⟨e,q⟩:=x;exact#[k _ _ (.inl rfl) e,M q]
 |Hl B=>
  have e:h.get? a=some {cls:= .none,data:= .fields B}:=x;show h'.get? a=some {cls:= .none,data:= .fields B};exact k a _ (.inl rfl) e
 |met f y=>
  have e:h.get? a=some (cp (.ref f) (.ref y)):=x;show h'.get? a=some (cp (.ref f) (.ref y));exact k a _ (.inl rfl) e
 |ext R=>obtain⟨p,⟨o,e⟩,st⟩:=x;exact#[st _ _ p λo q=>k _ _ (.inl rfl) q,#[o,k _ _ (.inl rfl) e],st]
theorem jU.lt(x:jU P w H h)(e:H a=some o):a<h.objs.size:=(x a o e).lt
theorem jU.fresh(x:jU P w H h)(e:h.objs.size<=a):H a=none:=by
 cases q:H a with
 |none=>rfl
 |some u=>exact absurd (i5 (x.lt q) e) (og _)
theorem jU.kept(x:jU P w H h)(k:∀b u,h.get? b=some u->h'.get? b=some u):jU P w H h':=λa o e=>
 (x a o e).wg (λb u _ q=>k b u q) (λ_ q=>q) λ_ _ q=>q
theorem jU.laid(x:jU P w H h)(k:∀b u,h.get? b=some u->h'.get? b=some u)(g:h.objs.size<=a)(new:eC P w (upd H a o) h' a o):jU P w (upd H a o) h':=λb u e=>by
 have d:=x.fresh g
 by_cases f:b=a
 .subst f;rw[ax] at e;cases e;exact new
 .rw[aB f] at e
  exact(x b u e).wg (λc v _ q=>k c v q) (λc q=>by rw[aB (aW q d)];exact q) λc i q=>by rw[aB (aW q d)];exact q
end
def Rd(H:Hp)(a:Addr)(u:HO):Prop:=H a=some u\/∃o,H a=some (.tF o u)
theorem Rd.ok{P:Program}{w:World}{H:Hp}{a:Addr}(r:Rd H a u)(x:jU P w H h):eC P w H h a u:=by
 rcases r with r| ⟨o,r⟩
 .exact x a u r
 .obtain⟨_,q⟩:=x a _ r
  exact q
def OK:Option HO->Prop
 |some (.lst _)=>True
 |some (.dK _)=>True
 |some (.dT _)=>True
 |some (.set _ _)=>True
 |some (.ins _ _ _)=>True
 |some (.ext _)=>True
 |_=>False
section
variable {P:Program} {w:World} {H:Hp} {h h':Heap} {x e:Addr} {o':HO}
theorem jU.write(ok:jU P w H h)(a:OK (H x))(j:e=x\/H e=some (.own x))(k:∀b u,b≠e->h.get? b=some u->h'.get? b=some u)(n:∃u,h'.get? e=some u)
  (new:eC P w (upd H x o') h' x o'):jU P w (upd H x o') h':=λb u q=>by
 have l:∀c y,H c=some (.own y)->c≠x:=λc y r z=>by subst z;rw[r] at a;exact a
 have o:∀c d,H c=some (.tup d)->c≠x:=λc d r z=>by subst z;rw[r] at a;exact a
 by_cases f:b=x
 .subst f;rw[ax] at q;cases q;exact new
 .rw[aB f] at q
  by_cases g:b=e
  .have m:H b=some (.own x):=by
    rcases j with z|z
    .exact absurd (g.trans z) f
    .rw[g];exact z
   obtain⟨v,p⟩:=n;rw[q] at m;cases m;exact#[v,by rw[g];exact p]
  .refine(ok b u q).wg (λc v i r=>k c v ?_ r) (λc r=>by rw[aB (l c b r)];exact r) λc d r=>by rw[aB (o c d r)];exact r
   rcases i with rfl|i
   .exact g
   .rintro rfl
    rcases j with z|z
    .exact l c b i z
    .rw[i] at z;cases z;exact f rfl
end
structure Un (fs ex:List Addr) (H H':Hp) (h h':Heap):Prop where
 keep:∀b o,h.get? b=some o->H b=none->b∉fs->b∉ex->h'.get? b=some o
 slot:∀b o,h.get? b=some o->H b=none->b∈fs->b∉ex->∃sl,h'.get? b=some {o with slots:=sl}
 free:∀b o,h.get? b=some o->H b=none->b∉ex->H' b=none
 there:∀b o,h.get? b=some o->b∉ex->∃o',h'.get? b=some o'
 tups:∀b xs,H b=some (.tup xs)->H' b=some (.tup xs)
 frzs:∀b o u,H b=some (.tF o u)->H' b=some (.tF o u)
 tbls:∀b ps,H b=some (.Hl ps)->∃more,H' b=some (.Hl (ps++more))
section
variable {fs TC ex qX:List Addr} {H H1 H2:Hp} {h h1 h2 h':Heap} {a x e:Addr} {o:HO}
theorem Un.any(u:Un fs ex H H1 h h1)(q:h.get? b=some c)(n:H b=none)(d:b∉ex):∃g,h1.get? b=some {c with slots:=g}:=by
 by_cases f:b∈fs
 .exact u.slot b c q n f d
 .exact#[c.slots,u.keep b c q n f d]
theorem Un.kept(k:∀b u,h.get? b=some u->h'.get? b=some u):Un fs ex H H h h':=
 #[λb c q _ _ _=>k b c q,λb c q _ _ _=>#[c.slots,k b c q],λ_ _ _ n _=>n,λb c q _=>#[c,k b c q],λ_ _ q=>q,λ_ _ _ q=>q,λ_ d q=>#[#[],by rw[q];simp]]
theorem Un.refl:Un fs ex H H h h:=Un.kept λ_ _ q=>q
theorem Un.laid(k:∀b u,h.get? b=some u->h'.get? b=some u)(d:h.objs.size<=a)(c:H a=none):Un fs ex H (upd H a o) h h' where
 keep:=λb u q _ _ _=>k b u q
 slot:=λb u q _ _ _=>#[u.slots,k b u q]
 free:=λb u q n _=>by rw[aB (bV (i5 (FB q) d))];exact n
 there:=λb u q _=>#[u,k b u q]
 tups:=λb f q=>by rw[aB (aW q c)];exact q
 frzs:=λb u f q=>by rw[aB (aW q c)];exact q
 tbls:=λb g q=>#[#[],by rw[aB (aW q c),q];simp]
theorem Un.write(c:OK (H x))(j:e=x\/H e=some (.own x))(k:∀b u,b≠e->h.get? b=some u->h'.get? b=some u)(l:∃u,h'.get? e=some u):Un fs ex H (upd H x o) h h':=by
 have f:∀b,H b=none->b≠x:=λb n z=>by subst z;rw[n] at c;exact c
 have g:∀b,H b=none->b≠e:=λb n z=>by
  subst z
  rcases j with r|r
  .exact f b n r
  .rw[n] at r;cases r
 have d:∀b u,H b=some u->¬OK (some u)->b≠x:=λb u q m z=>by subst z;rw[q] at c;exact m c
 refine#[λb u q n _ _=>k b u (g b n) q,λb u q n _ _=>#[u.slots,k b u (g b n) q],λb u q n _=>by rw[aB (f b n)];exact n,λb u q _=>?_,
  λb p q=>by rw[aB (d b _ q λz=>z)];exact q,λb u p q=>by rw[aB (d b _ q λz=>z)];exact q,λb s q=>#[#[],by rw[aB (d b _ q λz=>z),q];simp]]
 by_cases i:b=e
 .subst i;exact l
 .exact#[u,k b u i q]
end
def Q4(h:Heap)(H:Hp):List Addr:=(ad h.objs.size).filter λa=>(H a).isSome
def tJ(h:Heap)(H:Hp):Heap:=PySem.W.hideAll h (Q4 h H)
theorem F9(h:Heap)(H:Hp):(tJ h H).objs.size=h.objs.size:=PySem.W.hideAll_size _ _
theorem JP(e:h.get? b=some o)(n:H b=none):(tJ h H).get? b=some o:=
 PySem.W.hideAll_get _ e λa=>by
  have q:(H b).isSome=true:=(qt.mp a).2;rw[n] at q;simp at q
theorem Ni(e:(tJ h H).get? b=some o):h.get? b=some o/\H b=none:=by
 have a:h.get? b=some o:=PySem.W.of_hideAll (Q4 h H) e;exists a;cases q:H b with
 |none=>rfl
 |some x=>
  have c:b∈Q4 h H:=qt.mpr #[dE.mpr (FB a),by simp[q]]
  have z:(tJ h H).get? b=none:=PySem.W.hideAll_none (Q4 h H) c;rw[z] at e;cases e
structure Mod (K:ac) (mg:Str->Option Value) (base:Heap):Prop where
 kin:K.In base
 glob:base.Ns mainGlobals mg
 blt:∃mb,base.Ns builtinsNs mb/\∀x:Str,x≠"__name__"->mb x=bootBuiltins x
 nolimit:base.NoLimit
structure Cx where
 prog:Program
 w:World
 K:ac
 mg:Str->Option Value
 base:Heap
 A:Around
 N:List Str
 s₀:Shared
 H₀:Hp
 env:Env
 outer:List Env
 stack:List Env
 ex:List Addr
 fn:Str->Bool
 calm:Bool
 pn:List (Addr×Obj)
 xe:Value->Shared->Prop
def yk(l:List Env):List Addr:=l.filterMap (·.frame)
abbrev Cx.fs(X:Cx):List Addr:=yk X.outer
def kN(a:Scope)(x:Str):Prop:=a.names.lookup x=some .local\/a.names.lookup x=some .cell\/a.names.lookup x=some .free
def Loc(a:Scope)(x:Str):Prop:=a.names.lookup x=some .local\/a.names.lookup x=some .cell
def Look(env:Env)(h:Heap)(m:Str->Option Value)(x:Str)(u:Value):Prop:=
 (env.kindOf x=some .local/\m x=some u)\/((env.kindOf x=some .cell\/env.kindOf x=some .free)/\∃c,env.cells.lookup x=some c/\h.IsCell c (some u))
structure Cx.Ok (X:Cx):Prop where
 mod:Mod X.K X.mg X.base
 kind:X.env.scope.kind= .function
 glob:X.env.globals=mainGlobals
 blt:X.env.builtins=builtinsNs
 above:X.s₀.heap.objs.size<=X.env.locals
 inj:∀x y c,X.env.cells.lookup x=some c->X.env.cells.lookup y=some c->x=y
 has:∀x,(X.env.kindOf x=some .cell\/X.env.kindOf x=some .free)->∃c,X.env.cells.lookup x=some c
 cab:∀x c,X.fn x=true->X.env.cells.lookup x=some c->X.s₀.heap.objs.size<=c
 hd:X.calm=true->X.A.handled=none
 frames:X.A.frames=some X.stack
 stk:X.stack=X.outer\/(X.stack=X.env::X.outer/\X.env.frame=some X.env.locals)
 exf:∀b∈X.ex,b≠X.env.locals/\∀x c,X.env.cells.lookup x=some c->c≠b
 bs:∀b o,X.base.get? b=some o->X.s₀.heap.get? b=some o/\X.H₀ b=none
 bsz:X.base.objs.size<=X.s₀.heap.objs.size
 noex:∀b o,X.base.get? b=some o->b∉X.ex
 exfs:∀b∈X.ex,b∉X.fs
 funs:X.s₀.heap.FunFrames X.base X.outer
 frf:∀b∈X.fs,X.H₀ b=none
structure Inv (X:Cx) (pins:List (Addr×Obj)) (σ:List (Option V)) (H:Hp) (s:Shared):Prop where
 ok:X.Ok
 os:s.os=X.s₀.os
 bare:AllBare s.gens
 base:Un X.fs X.ex X.H₀ H X.s₀.heap s.heap
 loc:∃m,s.heap.Ns X.env.locals m/\∀(i:Nat)(x:Str)(v:V),X.N[i]? =some x->σ[i]? =some (some v)->kN X.env.scope x->∃u,RelV v u/\Look X.env s.heap m x u
 cell:∀x c,X.env.cells.lookup x=some c->∃v,s.heap.IsCell c v
 free:H X.env.locals=none
 freeC:∀x c,X.env.cells.lookup x=some c->H c=none
 pin:∀p∈X.pn++pins,s.heap.get? p.1=some p.2/\H p.1=none/\p.1≠X.env.locals/\p.1∉X.fs/\∀v,p.2.data≠ .cell v
 hok:jU X.prog X.w H s.heap
 len:σ.length=X.N.length
section
variable {X:Cx} {pins:List (Addr×Obj)} {σ:List (Option V)} {H H':Hp} {s:Shared} {h':Heap}
theorem Cx.Ok.Yl(ok:X.Ok)(e:X.base.get? b=some o):b∉X.fs:=λa=>by
 have:=(ok.funs.mem a).1
 rw[e] at this;cases this
theorem Inv.bs(I:Inv X pins σ H s):∀b o,X.base.get? b=some o->s.heap.get? b=some o/\H b=none:=λb o e=>
 #[I.base.keep b o (I.ok.bs b o e).1 (I.ok.bs b o e).2 (I.ok.Yl e) (I.ok.noex b o e),I.base.free b o (I.ok.bs b o e).1 (I.ok.bs b o e).2 (I.ok.noex b o e)]
theorem Inv.bk(I:Inv X pins σ H s):∀b o,X.base.get? b=some o->s.heap.get? b=some o:=λb o e=>(I.bs b o e).1
theorem Inv.mod(I:Inv X pins σ H s):Mod X.K X.mg X.base:=I.ok.mod
theorem Inv.jH(I:Inv X pins σ H s):X.K.In s.heap:=I.ok.mod.kin.keeps I.bk
theorem Inv.lt(I:Inv X pins σ H s):X.env.locals<s.heap.objs.size:=let #[_,a,_]:=I.loc;a.lt
theorem Inv.sz(I:Inv X pins σ H s):X.s₀.heap.objs.size<=s.heap.objs.size:=oh I.ok.above (sU I.lt)
theorem Inv.RZ(I:Inv X pins σ H s)(h:s.heap.objs.size<=a):a∉X.fs:=λb=>by
 obtain⟨_,o,c,_⟩:=I.ok.funs.mem b;exact absurd (i5 (FB c) (oh I.sz h)) (og _)
theorem Inv.FL(I:Inv X pins σ H s):∀x c,X.env.cells.lookup x=some c->c≠X.env.locals:=λx c e z=>by
 obtain⟨v,o,a,b⟩:=I.cell x c e;obtain⟨m,⟨g,h,i,d,f,_⟩,_⟩:=I.loc;rw[z,d] at a;cases a;rw[f] at b;cases b
theorem Inv.funs(I:Inv X pins σ H s):s.heap.FunFrames X.base X.outer:=by
 have all:∀(l:List Env),(∀b∈yk l,b∈X.fs)->X.s₀.heap.FunFrames X.base l->s.heap.FunFrames X.base l:=by
  intro l
  induction l with
  |nil=>intro _ _;trivial
  |cons env r g=>
   intro f h;rfl';obtain⟨j,⟨L,o,a,k,m,n⟩,p⟩:=h;have c:L∈X.fs:=f L (by unfold yk;rw[abt,a];exact bB)
   obtain⟨t,e⟩:=I.base.slot L o m (I.ok.frf L c) c λz=>I.ok.exfs L z c;ac_rfl;exact#[j,#[L,_,a,k,e,n],g (λb d=>f b (by unfold yk;rw[abt,a];exact bP _ d)) p]
 exact all X.outer (λ_ d=>d) I.ok.funs
theorem Inv.stack(I:Inv X pins σ H s):s.heap.FunFrames X.base X.stack:=by
 rcases I.ok.stk with e| ⟨e,a⟩
 .rw[e];exact I.funs
 .rw[e]
  obtain⟨m,b,_⟩:=I.loc;refine .cons (by rw[I.ok.kind];decide) a b ?_ I.funs
  exact Heap.get?_none_of_le (oh I.ok.bsz I.ok.above)
theorem Inv.CO(I:Inv X pins σ H s):∀b∈yk X.stack,b∈X.env.locals::X.fs:=λb a=>by
 rcases I.ok.stk with e| ⟨e,c⟩
 .rw[e] at a;exact bP _ a
 .rw[e] at a
  unfold yk at a;rw[abt,c] at a;exact a
theorem Inv.E9(I:Inv X pins σ H s):∀b∈yk X.stack,H b=none:=λb a=>by
 rcases bo.mp (I.CO b a) with e|a
 .rw[e];exact I.free
 .obtain⟨_,o,c,_⟩:=I.ok.funs.mem a
  exact I.base.free b o c (I.ok.frf b a) λz=>I.ok.exfs b z a
theorem Inv.step{g':Array GenState}{t':Nat}{d':Drawn}{ch:List Addr}(I:Inv X pins σ H s)
  (t:∀b∈ch,(b∈X.ex\/X.s₀.heap.objs.size<=b)/\b≠X.env.locals/\(∀x c,X.env.cells.lookup x=some c->c≠b)/\∀p∈X.pn++pins,p.1≠b)
  (keep:∀b o,b≠X.env.locals->b∉X.fs->b∉ch->s.heap.get? b=some o->H b=none->h'.get? b=some o)
  (slot:∀b o,b≠X.env.locals->b∈X.fs->b∉ch->s.heap.get? b=some o->H b=none->∃E,h'.get? b=some {o with slots:=E}) (free:∀b o,b∉ch->s.heap.get? b=some o->H b=none->H' b=none)
  (there:∀b o,b∉ch->s.heap.get? b=some o->∃y,h'.get? b=some y)
  (tups:∀b xs,H b=some (.tup xs)->H' b=some (.tup xs)) (frzs:∀b o u,H b=some (.tF o u)->H' b=some (.tF o u)) (tbls:∀b C,H b=some (.Hl C)->∃more,H' b=some (.Hl (C++more)))
  (O:∀m,s.heap.Ns X.env.locals m->h'.Ns X.env.locals m) (hok:jU X.prog X.w H' h') (P:AllBare g'):
  Inv X pins σ H' {s with heap:=h',gens:=g',drawn:=d',toks:=t'}:=by
 have J:∀b o,X.s₀.heap.get? b=some o->b≠X.env.locals:=λb o e=>bV (i5 (FB e) I.ok.above)
 have Gx:∀b o,X.s₀.heap.get? b=some o->b∉X.ex->b∉ch:=λb o e a h=>by
  rcases(t b h).1 with z|z
  .exact a z
  .exact absurd (i5 (FB e) z) (og _)
 have f:∀x c,X.env.cells.lookup x=some c->∀v,s.heap.IsCell c v->h'.IsCell c v:=λx c e v #[o,j,F]=>by
  have A:c∉ch:=λz=>(t c z).2.2.1 x c e rfl
  by_cases L:c∈X.fs
  .obtain⟨E,q⟩:=slot c o (I.FL x c e) L A j (I.freeC x c e)
   exact#[_,q,F]
  .exact#[o,keep c o (I.FL x c e) L A j (I.freeC x c e),F]
 refine#[I.ok,I.os,P,#[λb o e n h a=>?_,λb o e n h a=>?_,λb o e n a=>?_,λb o e a=>?_,λb xs e=>tups b xs (I.base.tups b xs e),λb o xs e=>frzs b o xs (I.base.frzs b o xs e),λb C e=>?_],?_,λx c e=>?_,?_,λx c e=>?_,λp M=>?_,hok,I.len]
 .exact keep b o (J b o e) h (Gx b o e a) (I.base.keep b o e n h a) (I.base.free b o e n a)
 .obtain⟨E,g⟩:=I.base.slot b o e n h a
  obtain⟨G,B⟩:=slot b _ (J b o e) h (Gx b o e a) g (I.base.free b o e n a);exact#[G,B]
 .obtain⟨y,g⟩:=I.base.there b o e a
  exact free b y (Gx b o e a) g (I.base.free b o e n a)
 .obtain⟨y,g⟩:=I.base.there b o e a
  exact there b y (Gx b o e a) g
 .obtain⟨Q,g⟩:=I.base.tbls b C e
  obtain⟨R,B⟩:=tbls b _ g;exact#[Q++R,by rw[B,Array.append_assoc]]
 .obtain⟨m,S,T⟩:=I.loc
  refine#[m,O m S,λi x v g B U=>?_];obtain⟨u,r,l⟩:=T i x v g B U;exists u,r
  rcases l with l| ⟨k,c,e,z⟩
  .exact .inl l
  .exact .inr #[k,c,e,f x c e _ z]
 .obtain⟨v,z⟩:=I.cell x c e
  exact#[v,f x c e v z]
 .obtain⟨m,⟨o,_,_,j,_⟩,_⟩:=I.loc
  exact free _ o (λz=>(t _ z).2.1 rfl) j I.free
 .obtain⟨v,o,j,F⟩:=I.cell x c e
  exact free c o (λz=>(t c z).2.2.1 x c e rfl) j (I.freeC x c e)
 .obtain⟨e,n,ne,N,d⟩:=I.pin p M
  have A:p.1∉ch:=λz=>(t p.1 z).2.2.2 p M rfl;exact#[keep p.1 p.2 ne N A e n,free p.1 p.2 A e n,ne,N,d]
theorem Inv.un{t':Nat}(I:Inv X pins σ H s)(u:Un X.fs [] H H' s.heap h')(hok:jU X.prog X.w H' h'):Inv X pins σ H' {s with heap:=h',toks:=t'}:=by
 rfl';obtain⟨m,⟨o,p,q,d,r⟩,_⟩:=id I.loc;obtain⟨t,h⟩:=u.any d I.free (by simp)
 ac_rfl
 exact I.step (g':=s.gens) (d':=s.drawn) (ch:= []) (λ_ z=>nomatch z) (λb o _ c _ e n=>u.keep b o e n c (by simp)) (λb o _ c _ e n=>u.slot b o e n c (by simp)) (λb o _ e n=>u.free b o e n (by simp)) (λb o _ e=>u.there b o e (by simp)) u.tups u.frzs u.tbls (λv i=>by
  rfl';obtain⟨x,j,k,f,l⟩:=i;ac_rfl;rw[d] at f;cases f;exact#[_,j,k,h,l]) hok I.bare
theorem Inv.call{g':Array GenState}{t':Nat}{d':Drawn}{ch:List Addr}(I:Inv X pins σ H s)(u:Un (yk X.stack) ch H H' s.heap h')(hok:jU X.prog X.w H' h')(j:AllBare g')
  (g:∀b∈ch,(b∈X.ex\/X.s₀.heap.objs.size<=b)/\b≠X.env.locals/\(∀x c,X.env.cells.lookup x=some c->c≠b)/\∀p∈X.pn++pins,p.1≠b):
  Inv X pins σ H' {s with heap:=h',gens:=g',drawn:=d',toks:=t'}:=by
 rfl';obtain⟨m,⟨o,A,B,h,r⟩,_⟩:=id I.loc;obtain⟨C,f⟩:=u.any h I.free λz=>(g _ z).2.1 rfl;ac_rfl
 exact I.step (ch:=ch) g (λb o f l a e n=>u.keep b o e n (λz=>(bo.mp (I.CO b z)).elim f l) a) (λb o _ _ a e n=>u.any e n a) (λb o a e n=>u.free b o e n a) (λb o a e=>u.there b o e a) u.tups u.frzs u.tbls (λE q=>by
  rfl';obtain⟨F,t,v,i,y⟩:=q;ac_rfl;rw[h] at i;cases i;exact#[_,t,v,f,y]) hok j
theorem Inv.turned{t':Nat}{it:Addr}(I:Inv X pins σ H s)(k:∀b o,b≠it->s.heap.get? b=some o->h'.get? b=some o)(g:H it=none)(d:it≠X.env.locals)
  (h:it∈X.ex\/X.s₀.heap.objs.size<=it) (i:∀x c,X.env.cells.lookup x=some c->c≠it) (j:∀p∈X.pn++pins,p.1≠it):Inv X pins σ H {s with heap:=h',toks:=t'}:=by
 have f:∀b u,H b=some u->b≠it:=λb u e z=>by rw[z,g] at e;cases e
 refine I.step (g':=s.gens) (d':=s.drawn) (ch:= [it]) (λb l=>?_) (λb o _ _ a e _=>k b o (λz=>a (by simp[z])) e) (λb o _ _ a e _=>#[o.slots,k b o (λz=>a (by simp[z])) e]) (λ_ _ _ _ n=>n)
  (λb o a e=>#[o,k b o (λz=>a (by simp[z])) e]) (λ_ _ e=>e) (λ_ _ _ e=>e) (λb B e=>#[#[],by rw[e];simp]) (λm t=>?_) (λb u e=>?_) I.bare
 .have e:b=it:=by simpa using l
  subst e;exact#[h,d,i,j]
 .obtain⟨o,w,y,A,r⟩:=t
  exact#[o,w,y,k _ o (Ne.symm d) A,r]
 .refine(I.hok b u e).wg (λc v a q=>k c v ?_ q) (λ_ q=>q) λ_ _ q=>q
  rcases a with z|z
  .rw[z];exact f b u e
  .exact f c _ z
theorem Inv.tok(I:Inv X pins σ H s)(t:Nat):Inv X pins σ H {s with toks:=t}:=I.un (h':=s.heap) (t':=t) Un.refl I.hok
theorem Inv.kept{t':Nat}(I:Inv X pins σ H s)(k:∀b u,s.heap.get? b=some u->h'.get? b=some u):Inv X pins σ H {s with heap:=h',toks:=t'}:=I.un (Un.kept k) (I.hok.kept k)
theorem Inv.laid{a:Addr}{o:HO}{t':Nat}(I:Inv X pins σ H s)(k:∀b u,s.heap.get? b=some u->h'.get? b=some u)(c:s.heap.objs.size<=a)(new:eC X.prog X.w (upd H a o) h' a o):
  Inv X pins σ (upd H a o) {s with heap:=h',toks:=t'}:=I.un (Un.laid k c (I.hok.fresh c)) (I.hok.laid k c new)
theorem Inv.write{x e:Addr}{o:HO}{t':Nat}(I:Inv X pins σ H s)(a:OK (H x))(c:e=x\/H e=some (.own x))(k:∀b u,b≠e->s.heap.get? b=some u->h'.get? b=some u)(d:∃u,h'.get? e=some u)
  (new:eC X.prog X.w (upd H x o) h' x o):Inv X pins σ (upd H x o) {s with heap:=h',toks:=t'}:=I.un (Un.write a c k d) (I.hok.write a c k d new)
theorem Inv.t7(I:Inv X pins σ H s)(h:∀p∈a,s.heap.get? p.1=some p.2/\H p.1=none/\p.1≠X.env.locals/\p.1∉X.fs/\∀v,p.2.data≠ .cell v):Inv X a σ H s:=
 #[I.ok,I.os,I.bare,I.base,I.loc,I.cell,I.free,I.freeC,λp b=>(bH.mp b).elim (λz=>I.pin p (fj _ z)) (h p),I.hok,I.len]
theorem Bd{N:List Str}(c:N.Nodup){i j:Nat}{x:Str}(a:N[i]? =some x)(b:N[j]? =some x):i=j:=by
 obtain⟨f,d⟩:=dQ.mp a;obtain⟨g,e⟩:=dQ.mp b;exact(List.getElem_inj c).mp (d.trans e.symm)
theorem store_ok2(I:Inv X pins σ H s)(hN:X.N.Nodup)(O:X.N[i]? =some x)(B:Loc X.env.scope x)(r:RelV v u)
  (h:∀S,Inv X pins (σ.set i (some v)) H S->(∃a,Heap.SameBut a s.heap S.heap/\(a=X.env.locals\/X.env.cells.lookup x=some a))->Q () S) (hf:X.fn x=true\/X.env.scope.names.lookup x=some .local:=by subst_eqs):wpAny M A (storeName X.env x u) Q E s:=by
 obtain⟨m,T,hl⟩:=id I.loc;have WW:(X.env.scope.kind== .class|| (X.env.scope.kind== .module&&X.env.locals !=X.env.globals))=false:=by rw[I.ok.kind];rfl
 have RL:i<σ.length:=by rw[I.len];exact(dQ.mp O).1
 have FL:=I.FL
 have g:∀{a:Addr}{L:Heap},(∃o,s.heap.get? a=some o/\H a=none)->Heap.SameBut a s.heap L->jU X.prog X.w H L:=λ {a L} ha f b ob e=>by
  obtain⟨_,_,BZ⟩:=ha;refine(I.hok b ob e).wg (λc P t q=>(f.2 c ?_).trans q) (λ_ q=>q) λ_ _ q=>q;rintro rfl
  rcases t with rfl|t
  .rw[BZ] at e;cases e
  .rw[BZ] at t;cases t
 rcases B with F|F
 .refine wpAny_storeName_local F T (λL U f=>?_) WW
  obtain⟨oL,_,_,Am,_⟩:=id T;refine h _ #[I.ok,I.os,I.bare,#[λb o e n G B=>?_,λb o e n G B=>?_,I.base.free,λb o e B=>?_,I.base.tups,I.base.frzs,I.base.tbls],#[_,U,λj y Y l C Z=>?_],λy c e=>?_,I.free,I.freeC,λp hp=>?_,g #[oL,Am,I.free] f,by simpa using I.len] #[_,f, .inl rfl]
  .exact(f.2 b (bV (i5 (FB e) I.ok.above))).trans (I.base.keep b o e n G B)
  .obtain⟨sl,l⟩:=I.base.slot b o e n G B
   exact#[sl,(f.2 b (bV (i5 (FB e) I.ok.above))).trans l]
  .obtain⟨o',l⟩:=I.base.there b o e B
   exact#[o',(f.2 b (bV (i5 (FB e) I.ok.above))).trans l]
  .by_cases J:j=i
   .subst J
    rw[O] at l;cases l;rw[lF RL] at C;cases C;exact#[u,r, .inl #[F,by simp]]
   .rw[lG (Ne.symm J)] at C
    obtain⟨u',r',q⟩:=hl j y Y l C Z;exists u',r'
    rcases q with ⟨k,e⟩ | ⟨k,c,e,z⟩
    .refine .inl #[k,?_]
     have:y≠x:=λe=>J (Bd hN l (e▸O))
     simp[this,e]
    .exact .inr #[k,c,e,z.sameBut f (FL y c e)]
  .obtain⟨P,z⟩:=I.cell y c e
   exact#[P,z.sameBut f (FL y c e)]
  .obtain⟨e,n,ne,nf,d⟩:=I.pin p hp
   exact#[(f.2 p.1 ne).trans e,n,ne,nf,d]
 .have T5:X.fn x=true:=by
   rcases hf with z|z
   .exact z
   .rw[z] at F;cases F
  obtain⟨c,t⟩:=I.ok.has x (.inl F);obtain⟨P,z⟩:=I.cell x c t;refine wpAny_storeName_cell I.ok.kind F t z (λL tH f=>?_);obtain⟨oc,Xl,Xm⟩:=id z;refine h {s with heap:=L} #[I.ok,I.os,I.bare,#[λb o e n G B=>?_,λb o e n G B=>?_,I.base.free,λb o e B=>?_,I.base.tups,I.base.frzs,I.base.tbls],#[m,T.sameBut f (Ne.symm (FL x c t)),λj y Y l C Z=>?_],λy R e=>?_,I.free,I.freeC,λp hp=>?_,g #[oc,Xl,I.freeC x c t] f,by simpa using I.len] #[c,f, .inr t]
  .exact(f.2 b (bV (i5 (FB e) (I.ok.cab x c T5 t)))).trans (I.base.keep b o e n G B)
  .obtain⟨sl,l⟩:=I.base.slot b o e n G B
   exact#[sl,(f.2 b (bV (i5 (FB e) (I.ok.cab x c T5 t)))).trans l]
  .obtain⟨o',l⟩:=I.base.there b o e B
   exact#[o',(f.2 b (bV (i5 (FB e) (I.ok.cab x c T5 t)))).trans l]
  .by_cases J:j=i
   .subst J
    rw[O] at l;cases l;rw[lF RL] at C;cases C;exact#[u,r, .inr #[.inl F,c,t,tH]]
   .rw[lG (Ne.symm J)] at C
    obtain⟨u',r',q⟩:=hl j y Y l C Z;exists u',r'
    rcases q with q| ⟨k,R,e,z'⟩
    .exact .inl q
    .refine .inr #[k,R,e,z'.sameBut f ?_]
     rintro rfl;exact J (Bd hN l (I.ok.inj _ _ _ e t▸O))
  .by_cases WT:R=c
   .subst WT;exact#[_,tH]
   .obtain⟨w2,z2⟩:=I.cell y R e
    exact#[w2,z2.sameBut f WT]
  .obtain⟨e,n,ne,nf,d⟩:=I.pin p hp
   refine#[(f.2 p.1 ?_).trans e,n,ne,nf,d];intro q;rw[q,Xl] at e;have q':oc=p.2:=Do e;exact d P (by rw[<-q'];exact Xm)
theorem mE{x:Str}{v:V}(I:Inv X pins σ H s)(b:X.N.Nodup)(c:X.N[i]? =some x)(d:Loc X.env.scope x)(r:RelV v u)
  (h:∀a,Inv X pins (σ.set i (some v)) H a->Q () a) (e:X.fn x=true\/X.env.scope.names.lookup x=some .local:=by subst_eqs):wpAny M A (storeName X.env x u) Q E s:=
 store_ok2 I b c d r (λa f _=>h a f) e
theorem Inv.SD{ch:List Addr}(I:Inv X pins σ H s)(d:a.os=s.os)(u:Un (yk X.stack) ch H H' s.heap a.heap)(hok:jU X.prog X.w H' a.heap)(f:AllBare a.gens)
  (g:∀b∈ch,(b∈X.ex\/X.s₀.heap.objs.size<=b)/\b≠X.env.locals/\(∀x c,X.env.cells.lookup x=some c->c≠b)/\∀p∈X.pn++pins,p.1≠b):Inv X pins σ H' a:=by
 obtain⟨i,g',d',t',h⟩:=a;have e:h=s.os:=d;subst e;exact I.call (g':=g') (t':=t') (d':=d') u hok f g
end
abbrev XK:=Value->Option Addr->Hp->Prop
abbrev St:=List (Option V)
abbrev VK:=V->Hp->Prop
abbrev TE:=St->Hp->VK->Prop
abbrev TT:=St->Hp->(Bool->Hp->Prop)->Prop
abbrev TA:=St->Hp->(List V->Hp->Prop)->Prop
structure Ends where
 nx:St->Hp->Prop
 rt:VK
 bk:St->Hp->Prop:=λ_ _=>False
 ct:St->Hp->Prop:=λ_ _=>False
abbrev TS:=Ends->St->Hp->Prop
def EP(X:Cx)(a:List (Addr×Obj))(c:St)(Q:VK)(u:Value)(d:Shared):Prop:=∃v b,Inv X a c b d/\RelV v u/\Q v b
def TP(X:Cx)(a:List (Addr×Obj))(d:St)(Q:Bool->Hp->Prop)(b:Bool)(e:Shared):Prop:=∃c,Inv X a d c e/\Q b c
def AP(X:Cx)(a:List (Addr×Obj))(d:St)(Q:List V->Hp->Prop)(e:List Value)(f:Shared):Prop:=∃b c,Inv X a d c f/\Vals b e/\Q b c
def SP(X:Cx)(a:List (Addr×Obj))(D:Ends)(f:Flow)(d:Shared):Prop:=
 match f with
 | .next=>∃c b,Inv X a c b d/\D.nx c b
 | .brk=>∃c b,Inv X a c b d/\D.bk c b
 | .cont=>∃c b,Inv X a c b d/\D.ct c b
 | .ret u=>∃v c b,Inv X a c b d/\RelV v u/\D.rt v b
def PE(X:Cx)(e:Expr)(t:TE):Prop:=
 ∀(a:List (Addr×Obj))(s:Shared)(b:St)(H:Hp)(Q:VK),Inv X a b H s->t b H Q->wpAny (model X.prog X.w) X.A (eval e X.env) (EP X a b Q) X.xe s
def PT(X:Cx)(e:Expr)(t:TT):Prop:=
 ∀(a:List (Addr×Obj))(s:Shared)(b:St)(H:Hp)(Q:Bool->Hp->Prop),Inv X a b H s->t b H Q->wpAny (model X.prog X.w) X.A (isTrue e X.env (eval e X.env)) (TP X a b Q) X.xe s
def PW(X:Cx)(e:Expr)(t:TT):Prop:=
 ∀(b:Sem Value)(a:List (Addr×Obj))(s:Shared)(c:St)(H:Hp)(Q:Bool->Hp->Prop),Inv X a c H s->t c H Q->wpAny (model X.prog X.w) X.A (isTrue e X.env b) (TP X a c Q) X.xe s
theorem PW.pt(h:PW X e t):PT X e t:=h _
def PA(X:Cx)(d:List Expr)(t:TA):Prop:=
 ∀(b:Pos)(a:List (Addr×Obj))(s:Shared)(c:St)(H:Hp)(Q:List V->Hp->Prop),Inv X a c H s->t c H Q->wpAny (model X.prog X.w) X.A (spliced (backTo b (starEach d X.env))) (AP X a c Q) X.xe s
def PS(X:Cx)(st:Stmt)(t:TS):Prop:=
 ∀(a:List (Addr×Obj))(s:Shared)(b:St)(H:Hp)(D:Ends),Inv X a b H s->t D b H->wpAny (model X.prog X.w) X.A (exec st X.env) (SP X a D) X.xe s
def oj(X:Cx)(st:List Stmt)(t:TS):Prop:=
 ∀(a:List (Addr×Obj))(s:Shared)(b:St)(H:Hp)(D:Ends),Inv X a b H s->t D b H->wpAny (model X.prog X.w) X.A (execs st X.env) (SP X a D) X.xe s
theorem thn{Q c:b->Shared->Prop}(h:wpAny M A t Q E s)(d:∀a s,Q a s->c a s):wpAny M A t c E s:=wpAny_mono h d λ_ _ x=>x
section
variable {X:Cx}
def Sl(i:Nat):TE:=λa H Q=>∃v,a[i]? =some (some v)/\Q v H
def tC(v:V):TE:=λ_ H Q=>Q v H
theorem CA(k:X.N[i]? =some x)(n:kN X.env.scope x)(f:(x==("__debug__":Str))=false:=by decide)(o:(x==("__classdict__":Str))=false:=by decide):PE X (.Name x d) (Sl i):=by
 intro b s p H Q I h;rfl';obtain⟨v,e,h⟩:=h;obtain⟨m,t,w⟩:=I.loc;obtain⟨u,r,l⟩:=w i x v k e n;have fin:EP X b p Q u s:=#[v,H,I,r,h];ac_rfl
 rcases l with ⟨a,y⟩ | ⟨a,c,g,j⟩
 .exact wpAny_Name (wpAny_loadName_local I.ok.kind a t y fin) f
 .rcases a with a|a
  .exact wpAny_Name (wpAny_loadName_cell I.ok.kind a g j fin) f
  .exact wpAny_Name (wpAny_loadName_free I.ok.kind a g j fin o) f
theorem Qt{i j pos}:PE X (.Constant (.int i) j pos) (tC (.int i)):=λ_ _ _ H _ I h=>wpAny_Constant_int #[.int i,H,I.tok _,#[_,rfl],h]
theorem UZ{b j pos}:PE X (.Constant (.bool b) j pos) (tC (.bl b)):=λ_ _ _ H _ I h=>Constant_bool #[.bl b,H,I,rfl,h]
theorem Qv{j pos}:PE X (.Constant .none j pos) (tC .non):=λ_ _ _ H _ I h=>Constant_none #[.non,H,I,rfl,h]
theorem Qz{x j pos}:PE X (.Constant (.str x) j pos) (tC (.str x)):=λ_ _ _ H _ I h=>Calls.Constant_str #[.str x,H,I.tok _,#[_,rfl],h]
def Gl(X:Cx)(x:Str):Prop:=X.env.kindOf x=some .globalImplicit
theorem yz(I:Inv X a c H s)(d:Gl X x)(e:X.mg x=some u)(h:Q u s)
  (f:(x==("__debug__":Str))=false:=by decide):wpAny (model X.prog X.w) X.A (eval (.Name x b) X.env) Q E s:=
 abL I.ok.kind d (Calls.loadGlobal_global (by rw[I.ok.glob];exact I.mod.glob.keeps I.bk) e h) f
theorem qD{u:Value}(I:Inv X a c H s)(d:Gl X x)(e:X.mg x=none)(f:bootBuiltins x=some u)(h:Q u s)
  (g:x≠"__name__":=by decide) (i:(x==("__debug__":Str))=false:=by decide):wpAny (model X.prog X.w) X.A (eval (.Name x b) X.env) Q E s:=by
 obtain⟨l,j,k⟩:=I.mod.blt;exact abL I.ok.kind d (Calls.loadGlobal_builtin (by rw[I.ok.glob];exact I.mod.glob.keeps I.bk) e (by rw[I.ok.blt];exact j.keeps I.bk) ((k x g).trans f) h) i
theorem EN{v:V}(b:Gl X x)(c:X.mg x=some u)(r:RelV v u)(d:(x==("__debug__":Str))=false:=by decide):PE X (.Name x a) (tC v):=
 λ_ _ _ H _ I h=>yz I b c #[v,H,I,r,h] d
theorem Nw(b:Gl X x)(c:X.mg x=none)(d:bootBuiltins x=some u)(r:RelV v u)(e:x≠"__name__":=by decide)(f:(x==("__debug__":Str))=false:=by decide):PE X (.Name x a) (tC v):=
 λ_ _ _ H _ I h=>qD I b c d #[v,H,I,r,h] e f
variable {a b:Expr} {ta tb:TE} {pos:Pos}
variable {tA CP:TT} {rest:List Expr}
def YU(t u:TT):TT:=λd H Q=>t d H λc e=>if c=true then u d e Q else Q false e
def tOr(t u:TT):TT:=λd H Q=>t d H λc e=>if c=true then Q true e else u d e Q
def Y3(t:TT):TT:=λd H Q=>t d H λc e=>Q (!c) e
theorem NT(f:PT X a tA):PW X (.BoolOp .And [a] pos) tA:=by
 intro i d s g H Q I h;refine isTrue_and (thn (f d s g H Q I h) λc j e=>?_);cases c with
 |true=>exact isTrue_and_nil e
 |false=>exact e
theorem QG(f:PT X a tA):PW X (.BoolOp .Or [a] pos) tA:=by
 intro i d s g H Q I h;refine isTrue_or (thn (f d s g H Q I h) λc j e=>?_);cases c with
 |false=>exact isTrue_or_nil e
 |true=>exact e
theorem QF(j:PT X a tA)(k:PW X (.BoolOp .And (b::rest) pos) CP):PW X (.BoolOp .And (a::b::rest) pos) (YU tA CP):=by
 intro l d s e H Q I h;refine isTrue_and (thn (j d s e H _ I h) λc m #[f,g,i]=>?_);cases c with
 |true=>exact k l d m e f Q g i
 |false=>exact#[f,g,i]
theorem U3(j:PT X a tA)(k:PW X (.BoolOp .Or (b::rest) pos) CP):PW X (.BoolOp .Or (a::b::rest) pos) (tOr tA CP):=by
 intro l d s e H Q I h;refine isTrue_or (thn (j d s e H _ I h) λc m #[f,g,i]=>?_);cases c with
 |true=>exact#[f,g,i]
 |false=>exact k l d m e f Q g i
theorem QE(e:PT X a tA):PT X (.UnaryOp .Not a pos) (Y3 tA):=by
 intro d s f H Q I h;exact isTrue_not (e d s f H (λc g=>Q (!c) g) I h)
def Vg(f g:TE):TE:=λd H Q=>f d H λx e=>∃c,x= .bl c/\if c=true then g d e Q else Q (.bl false) e
def Vm(d:TE):TE:=λe H Q=>d e H λx f=>∃c,x= .bl c/\Q (.bl (!c)) f
theorem Qx{op}(h:PE X a t):PE X (.BoolOp op [a] pos) t:=λc s d H Q I hw=>BoolOp_one (h c s d H Q I hw)
theorem Qp(j:PE X a ta)(k:PE X (.BoolOp .And (b::rest) pos) tb):PE X (.BoolOp .And (a::b::rest) pos) (Vg ta tb):=by
 intro d s f H Q I h;refine BoolOp_and (thn (j d s f H _ I h) λv l m=>?_);rfl';obtain⟨x,g,i,o,e⟩:=m;obtain⟨c,rfl,e⟩:=e;ac_rfl;subst o;refine SL ?_;cases c with
 |true=>exact k d l f g Q i e
 |false=>exact#[.bl false,g,i,rfl,e]
theorem Qw(f:PE X a ta):PE X (.UnaryOp .Not a pos) (Vm ta):=by
 intro d s g H Q I h;refine UnaryOp_ (thn (f d s g H _ I h) λv n i=>?_);rfl';obtain⟨x,k,l,m,e⟩:=i;obtain⟨c,rfl,e⟩:=e;ac_rfl;subst m;exact not_of (SL #[.bl (!c),k,l,rfl,e])
def tIf(t:TT)(f g:TE):TE:=λd H Q=>t d H λc e=>if c=true then f d e Q else g d e Q
theorem Kh(l:PT X c tA)(m:PE X a ta)(n:PE X b tb):PE X (.IfExp c a b pos) (tIf tA ta tb):=by
 intro e s f H Q I h;refine wpAny_IfExp (thn (l e s f H _ I h) λd g #[i,j,k]=>?_);cases d with
 |true=>exact m e g f i Q j k
 |false=>exact n e g f i Q j k
end
def cY(K:ac)(H:Hp)(a:Addr)(c:List V):Prop:=
 Rd H a (.lst c)\/
  ∃(o:Obj)(b:Array Value)(n:Nat),K.lookup a=some o/\o.cls= .type "list"/\o.dict=none/\o.data= .seq b n/\b.size<=sizeLine/\Vals c b.toList
def fg(K:ac)(H:Hp)(a:Addr)(c:List V):Prop:=
 Rd H a (.tup c)\/
  ∃(o:Obj)(b:Array Value)(n:Nat),K.lookup a=some o/\o.cls= .type "tuple"/\o.data= .seq b n/\b.size<=sizeLine/\Vals c b.toList
def VT:Value->Option V
 | .none=>some .non
 | .bool b=>some (.bl b)
 | .int i _=>some (.int i)
 | .str x _=>some (.str x)
 | .bytes b _=>some (.Je b)
 | .float b _=>some (.FY b)
 | .ref a=>some (.ref a)
 | .type n=>some (.ty n)
 |_=>none
theorem RelV.abs(r:RelV x u):VT u=some x:=by
 cases x with
 |non=>cases r;rfl
 |bl _=>cases r;rfl
 |int _=>obtain⟨t,rfl⟩:=r;rfl
 |str _=>obtain⟨t,rfl⟩:=r;rfl
 |Je _=>obtain⟨t,rfl⟩:=r;rfl
 |FY _=>obtain⟨t,rfl⟩:=r;rfl
 |ref _=>cases r;rfl
 |ty _=>cases r;rfl
theorem RelV.inj{x y:V}(r:RelV x u)(q:RelV y u):x=y:=Do (r.abs.symm.trans q.abs)
theorem Vals.inj:∀{a b:List V}{c:List Value},Vals a c->Vals b c->a=b
 |_,_,_, .nil, .nil=>rfl
 |_,_,_, .cons r t, .cons d e=>by rw[r.inj d,Vals.inj t e]
section
variable {X:Cx} {pins:List (Addr×Obj)} {σ:St} {H:Hp} {s:Shared} {a:Addr} {xs ys:List V}
theorem cY.of{K:ac}(h:H a=some (.lst xs)):cY K H a xs:= .inl (.inl h)
theorem fg.of{K:ac}(h:H a=some (.tup xs)):fg K H a xs:= .inl (.inl h)
theorem Inv.list(I:Inv X pins σ H s)(h:cY X.K H a xs):∃its:List Value,Vals xs its/\PlainL s.heap a its.toArray/\xs.length<=sizeLine:=by
 rcases h with h| ⟨o,its,n,b,c,d,f,g,r⟩
 .obtain⟨z,its,n,r,e⟩:=h.ok I.hok
  exact#[its,r,#[_,n,e,rfl,rfl,rfl],z]
 .refine#[its.toList,r,#[o,n,I.jH a o b,c,d,by simpa using f],?_]
  have e:=r.length;simp only[cD] at e;lia
theorem Inv.tuple(I:Inv X pins σ H s)(h:fg X.K H a xs):∃its:List Value,Vals xs its/\IsTup s.heap a its.toArray/\xs.length<=sizeLine:=by
 rcases h with h| ⟨o,its,n,b,c,d,f,r⟩
 .obtain⟨z,its,r,p⟩:=h.ok I.hok
  exact#[its,r,p,z]
 .refine#[its.toList,r,#[o,I.jH a o b,c,n,by simpa using d],?_]
  have e:=r.length;simp only[cD] at e;lia
theorem Inv.Bb(I:Inv X pins σ H s)(h:cY X.K H a xs)(h':cY X.K H a ys):xs=ys:=by
 rfl';obtain⟨c,r,⟨o,n,e,_,_,d⟩,_⟩:=I.list h;obtain⟨b,j,⟨m,p,f,_,_,g⟩,_⟩:=I.list h';ac_rfl;rw[e] at f;cases f;rw[d] at g
 injection g with k _
 have:c=b:=by simpa using FS Array.toList k
 subst this;exact r.inj j
theorem Inv.Ho(I:Inv X pins σ H s)(h:fg X.K H a xs)(h':fg X.K H a ys):xs=ys:=by
 obtain⟨c,r,⟨o,e,_,n,d⟩,_⟩:=I.tuple h;obtain⟨b,i,⟨k,f,_,l,g⟩,_⟩:=I.tuple h';rw[e] at f;cases f;rw[d] at g
 injection g with j _
 have:c=b:=by simpa using FS Array.toList j
 subst this;exact r.inj i
end
abbrev Cx.rD(X:Cx)(E:Value->Shared->Prop):Cx:={X with xe:=E}
abbrev Cx.lM(X:Cx):Cx:=X.rD λ_ _=>False
theorem Cx.Ok.rD{X:Cx}(ok:X.Ok)(E:Value->Shared->Prop):(X.rD E).Ok:=
 #[ok.mod,ok.kind,ok.glob,ok.blt,ok.above,ok.inj,ok.has,ok.cab,ok.hd,ok.frames,ok.stk,ok.exf,ok.bs,ok.bsz,ok.noex,ok.exfs,ok.funs,ok.frf]
theorem Cx.Ok.lC{X:Cx}(ok:(X.rD E).Ok):X.Ok:=
 #[ok.mod,ok.kind,ok.glob,ok.blt,ok.above,ok.inj,ok.has,ok.cab,ok.hd,ok.frames,ok.stk,ok.exf,ok.bs,ok.bsz,ok.noex,ok.exfs,ok.funs,ok.frf]
section
variable {X:Cx} {pins:List (Addr×Obj)} {σ:St} {H:Hp} {s:Shared} {E:Value->Shared->Prop}
theorem Inv.rD(I:Inv X pins σ H s)(E:Value->Shared->Prop):Inv (X.rD E) pins σ H s:=#[I.ok.rD E,I.os,I.bare,I.base,I.loc,I.cell,I.free,I.freeC,I.pin,I.hok,I.len]
theorem Inv.lC(I:Inv (X.rD E) pins σ H s):Inv X pins σ H s:=#[I.ok.lC,I.os,I.bare,I.base,I.loc,I.cell,I.free,I.freeC,I.pin,I.hok,I.len]
theorem SP.lC{D:Ends}{f:Flow}{s':Shared}(h:SP (X.rD E) pins D f s'):SP X pins D f s':=by
 cases f with
 |next=>obtain⟨aH,H',I,q⟩:=h;exact#[aH,H',I.lC,q]
 |brk=>obtain⟨aH,H',I,q⟩:=h;exact#[aH,H',I.lC,q]
 |cont=>obtain⟨aH,H',I,q⟩:=h;exact#[aH,H',I.lC,q]
 |ret u=>obtain⟨v,aH,H',I,r,q⟩:=h;exact#[v,aH,H',I.lC,r,q]
theorem oj.lM{st:List Stmt}{t:TS}(h:oj X.lM st t):oj X st t:=λa s b H D I hw=>
 wpAny_mono (h a s b H D (I.rD _) hw) (λ_ _ q=>q.lC) λ_ _ z=>False.elim z
end
section
variable {X:Cx} {st:Stmt} {rest:List Stmt} {t u:TS} {e:Expr} {te:TE} {pos:Pos}
def Vl:TS:=λD a H=>D.nx a H
def Y6(t u:TS):TS:=λD a H=>t {D with nx:=u D} a H
theorem yW:oj X [] Vl:=λ_ _ a H _ I h=>abl #[a,H,I,h]
theorem dB(h1:PS X st t)(h2:oj X rest u):oj X (st::rest) (Y6 t u):=by
 intro pins s σ H D I h;refine wpAny_execs_cons (thn (h1 pins s σ H {D with nx:=u D} I h) λf s1 q=>?_)
 cases f with
 |next=>
  obtain⟨aH,H',I',q⟩:=q;exact h2 pins s1 aH H' D I' q
 |ret v=>exact q
 |brk=>exact q
 |cont=>exact q
theorem pM(h1:PS X st t):oj X [st] t:=by
 intro pins s σ H D I h;refine wpAny_execs_cons (thn (h1 pins s σ H D I h) λf s1 q=>?_);cases f with
 |next=>exact wpAny_execs_nil q
 |ret v=>exact q
 |brk=>exact q
 |cont=>exact q
theorem Inv.quiet(I:Inv X a b H s):interactive X.env=false:=by simp[interactive,I.ok.kind]
def Vj(b:TE):TS:=λD a H=>b a H λ_ c=>D.nx a c
theorem fW(c:PE X e te)(d:swapsWith e none pos.line X.env=pure false:=by rfl):PS X (.Expr e pos) (Vj te):=by
 intro a s b H D I h;exact wpAny_Expr_any (thn (c a s b H _ I h) λv j #[x,f,g,k,i]=>#[b,f,g,i]) I.quiet d
def Y5(a:TE):TS:=λD b H=>a b H D.rt
theorem m9(c:PE X e te):PS X (.Return (some e) pos) (Y5 te):=by
 intro a s b H D I h;exact wpAny_Return_some (thn (c a s b H _ I h) λv j #[x,d,f,g,i]=>#[x,b,d,f,g,i])
def Y1(c:TT)(t u:TS):TS:=λD a H=>c a H λb d=>if b=true then t D a d else u D a d
theorem GR(m:PT X c tc)(n:oj X a t)(o:oj X b u):PS X (.If c a b pos) (Y1 tc t u):=by
 intro f s g H D I h;refine wpAny_If (thn (m f s g H _ I h) λd i #[j,k,l]=>?_);cases d with
 |true=>exact n f i g j D k l
 |false=>exact o f i g j D k l
def Q1:TS:=λ_ _ _=>False
theorem Ko:PS X st Q1:=λ_ _ _ _ _ _ h=>h.elim
end
abbrev TG:=V->St->Hp->(St->Hp->Prop)->Prop
abbrev z9:=List V->St->Hp->(St->Hp->Prop)->Prop
def PG(X:Cx)(a:Expr)(t:TG):Prop:=
 ∀(b:List (Addr×Obj))(s:Shared)(c:St)(H:Hp)(v:V)(u:Value)(Q:St->Hp->Prop),Inv X b c H s->RelV v u->t v c H Q->
  wpAny (model X.prog X.w) X.A (assign a X.env u) (λ_ f=>∃d e,Inv X b d e f/\Q d e) X.xe s
def Bz(X:Cx)(g:List Expr)(t:z9):Prop:=
 ∀(a:List (Addr×Obj))(s:Shared)(b:St)(H:Hp)(c:List V)(d:List Value)(Q:St->Hp->Prop),Inv X a b H s->Vals c d->t c b H Q->
  wpAny (model X.prog X.w) X.A (assignInOrder ((assignEach g X.env).map (·.2)) d) (λ_ h=>∃e f,Inv X a e f h/\Q e f) X.xe s
abbrev K7:=V->V->V->Hp->(Hp->Prop)->Prop
def Rg(X:Cx)(t:K7):Prop:=
 ∀(a:List (Addr×Obj))(s:Shared)(b:St)(H:Hp)(o i v:V)(c d u:Value)(Q:Hp->Prop),Inv X a b H s->RelV o c->RelV i d->RelV v u->t o i v H Q->
  wpAny (model X.prog X.w) X.A (setItem c d u) (λ_ f=>∃e,Inv X a b e f/\Q e) X.xe s
section
variable {X:Cx} {pos:Pos}
def Mg(i:Nat):TG:=λv a H Q=>Q (a.set i (some v)) H
theorem t6{i:Nat}(b:X.N.Nodup)(c:X.N[i]? =some x)(d:Loc X.env.scope x)(e:X.fn x=true\/X.env.scope.names.lookup x=some .local:=by subst_eqs):PG X (.Name x f) (Mg i):=by
 intro a s j H v u Q I r h;exact wpAny_assign_Name (mE I b c d r (λk g=>#[_,H,g,h]) e)
def WD:z9:=λa b H Q=>a= []/\Q b H
def TJ(t:TG)(u:z9):z9:=λa b H Q=>∃v r,a=v::r/\t v b H λc d=>u r c d Q
theorem yU:Bz X [] WD:=by
 intro a s b H c d Q I r h;obtain⟨e,h⟩:=h;subst e;cases r;exact assignInOrder_nil #[b,H,I,h]
theorem qK(c:PG X e t)(d:Bz X b u)
  (f:(assignEach (e::b) X.env).map (·.2)=assign e X.env::(assignEach b X.env).map (·.2):=by rfl):Bz X (e::b) (TJ t u):=by
 intro a s g H w x Q I r h;obtain⟨v,y,i,h⟩:=h;subst i;cases r with
 |cons r j=>
  rw[f];refine abE (thn (c a s g H _ _ _ I r h) λ_ k l=>?_);rfl';obtain⟨n,o,p,q⟩:=l;ac_rfl;exact d a k n o _ _ Q p j q
def WG(K:ac)(n:Nat)(t:z9):TG:=λv c H Q=>∃a b,v= .ref a/\fg K H a b/\b.length=n/\t b c H Q
theorem CB(i:X.calm=true)(h:Bz X d t)
  (j:(assignEach d X.env).length=n:=by rfl) (l:(assignEach d X.env).findIdx? (·.1)=none:=by rfl):PG X (.Tuple d k pos) (WG X.K n t):=by
 intro c s f H v u Q I r hw;rfl';obtain⟨a,p,q,w,x,hw⟩:=hw;subst q;subst r;obtain⟨y,g,z,F⟩:=I.tuple w;ac_rfl;refine assign_Tuple_tuple (I.ok.hd i) z (by simp[j,<-x,g.length]) l λA B=>?_
 have C:Inv X c f H {s with heap:=A}:=I.kept (t':=s.toks) λb o e=>B b o (bV (FB e)) e
 exact h c _ f H p _ Q C (g) hw
def WE(b c:TE)(t:K7):TG:=λv a H Q=>b a H λo d=>c a d λi e=>t o i v e λf=>Q a f
theorem qJ(l:PE X o g)(m:PE X i j)(n:Rg X t)
  (p:∀v,assign (.Subscript o i pos) X.env v=(do
   let b <-holding [v] (eval o X.env)
   let c <-holding [v,b] (eval i X.env)
   standAt pos
   holding [v,b,c] (setItem b c v)
   release [v,b,c] []):=by intro _;rfl):PG X (.Subscript o i pos) (WE g j t):=by
 intro a s f H v u Q I r h;rw[p];refine be (KM (thn (l a s f H _ I h) λb q d=>?_));rfl';obtain⟨x,w,z,A,B⟩:=d;ac_rfl;refine be (KM (thn (m a q f w _ z B) λc C d=>?_));rfl';obtain⟨y,E,F,G,J⟩:=d;ac_rfl;refine be (aaA (be (KM (thn (n a C f E x y v b c u _ F A G r J) λ_ O d=>?_))));rfl';obtain⟨L,M,N⟩:=d;ac_rfl;exact wpAny_release #[f,L,M,N]
def Sh(b:TE)(g:TG):TS:=λD a H=>b a H λx c=>g x a c D.nx
theorem lh(f:PE X e c)(i:PG X b g)(j:swapsWithSole [b] e pos.line X.env=pure false:=by rfl)(hw:swappedStores [b] e X.env=pure none:=by rfl)
  (k:(assignEach [b] X.env).map (·.2)= [assign b X.env]:=by rfl):PS X (.Assign [b] e pos) (Sh c g):=by
 intro a s d H D I h;refine wpAny_Assign_stores (thn (f a s d H _ I h) λv l #[x,m,n,o,p]=>?_) j hw;rw[k];exact thn (i a l d m x v _ n o p) λ_ r q=>q
theorem jY{i:Nat}(d:X.N.Nodup)(f:X.N[i]? =some x)(g:Loc X.env.scope x)(j:PE X e c)(k:swapsWith e (some (.Name x a)) pos.line X.env=pure false:=by rfl)(l:X.fn x=true\/X.env.scope.names.lookup x=some .local:=by subst_eqs):
  PS X (.Assign [.Name x a] e pos) (Sh c (Mg i)):=by
 intro b s m H D I h;refine wpAny_Assign_Name (thn (j b s m H _ I h) λv t #[y,n,o,p,q]=>?_) k;exact mE o d f g p (λu r=>#[_,n,r,q]) l
def Y4(i j:Nat)(b:TA):TS:=λD a H=>b a H λc d=>∃v w,c= [v,w]/\D.nx ((a.set i (some v)).set j (some w)) d
theorem QD{kt k2 GU}(C:X.calm=true)(n:X.N.Nodup)(E:X.N[i]? =some x)(F:X.N[j]? =some y)(G:i≠j)
  (r:X.env.scope.names.lookup x=some .local) (t:X.env.scope.names.lookup y=some .local) (J:PA X [a,b] m)
  (hw:swappedStores [.Tuple [.Name x k, .Name y py] kt pt] (.Tuple [a,b] k2 GU) X.env=pure (some [x,y]))
  (L:swapsWithSole [.Tuple [.Name x k, .Name y py] kt pt] (.Tuple [a,b] k2 GU) pos.line X.env=pure false:=by rfl):
  PS X (.Assign [.Tuple [.Name x k, .Name y py] kt pt] (.Tuple [a,b] k2 GU) pos) (Y4 i j m):=by
 intro c s u H D I h;rw[exec_Assign_arm];refine be (aaA ?_);rw[L];refine be (mo ?_);rw[ir (by decide)]
 refine be (Tuple_ (thn (J _ c s u H _ I h) λM d O=>?_));obtain⟨vs,z,P,Q,l⟩:=O;obtain⟨v,w,R,l⟩:=l;subst R
 obtain⟨f,g,rfl,S,T⟩:∃f g,M= [f,g]/\RelV v f/\RelV w g:=by
  cases Q with
  |cons p q=>
   cases q with
   |cons U Y=>
    cases Y;exact#[_,_,rfl,p,U]
 refine SZ ?_ (by show 2<=sizeLine;decide)
 have Z:Inv X c u z {d with heap:=d.heap.push {cls:= .type "tuple",data:= .seq [f,g].toArray}}:=P.kept (t':=d.toks) λb o e=>tz _ e
 rw[hw];refine be (mo ?_);show wpAny (model X.prog X.w) X.A (do rule "assign.swapped-stores";let items <-unpackItems (.ref d.heap.objs.size) 2 none;assignInOrder [λv=>bindName X.env y v,λv=>bindName X.env x v] items.reverse;pure Flow.next) _ _ _
 refine be (aaG (be (unpackItems_tuple (items:= [f,g].toArray) (I.ok.hd C) (IsTup.new d.heap _) λh' wK=>?_)));have I3:=Z.kept (h':=h') (t':=d.toks) λb o e=>wK b o (bV (FB e)) e;show wpAny _ _ (assignInOrder [λv=>bindName X.env y v,λv=>bindName X.env x v] [g,f]>>=λ_=>pure Flow.next) _ _ _;refine be (abE (wpAny_bindName (mE I3 n F (.inl t) T (λs2 I4=>?_) (.inr t))));refine abE (wpAny_bindName (mE I4 n E (.inl r) S (λs3 B=>assignInOrder_nil (mo ?_)) (.inr r)));rw[List.set_comm _ _ (Ne.symm G)] at B;exact#[_,z,B,l]
end
section
variable {X:Cx} {pos:Pos}
def Q2(c:TT)(h:TS):TS:=λD a H=>∃W:Nat->St->Hp->Prop,(∃m,W m a H)/\∀m a H,W m a H->
 c a H λb d=>if b=true then ∃N:St->Hp->Prop,(∀e f,N e f->∃g,g<m/\W g e f)/\h {D with nx:=N,ct:=N,bk:=D.nx} a d else D.nx a d
theorem Kq{c:Expr}{body:List Stmt}{tc:TT}{tb:TS}(hp:PassesOwn (model X.prog X.w) X.A X.env X.xe)(hc:PT X c tc)(hb:oj X body tb):PS X (.While c body [] pos) (Q2 tc tb):=by
 intro pins s σ H D I h;obtain⟨W,⟨m0,w0⟩,turn⟩:=h;refine wpAny_While (codeAny_whileLoop (λn s'=>∃aH H',Inv X pins aH H' s'/\W n aH H') ?_ m0 #[σ,H,I,w0]);intro n s1 Vx;rfl';obtain⟨HC,H1,I1,w1⟩:=Vx;ac_rfl;refine wpAny_passesOwn hp (thn (hc pins s1 HC H1 _ I1 (turn n HC H1 w1)) λb s2 bF=>?_);rfl';obtain⟨H2,I2,q2⟩:=bF;ac_rfl;cases b with
 |true=>
  rfl';obtain⟨N,hN,q2⟩:=q2;ac_rfl;rw[if_pos rfl];refine wpAny_passesOwn hp (thn (hb pins s2 HC H2 _ I2 q2) λf s3 q3=>?_);cases f with
  |next=>
   obtain⟨xa,H3,I3,n3⟩:=q3;obtain⟨m',hm,w3⟩:=hN xa H3 n3;exact#[m',hm,xa,H3,I3,w3]
  |cont=>
   obtain⟨xa,H3,I3,n3⟩:=q3;obtain⟨m',hm,w3⟩:=hN xa H3 n3;exact#[m',hm,xa,H3,I3,w3]
  |brk=>exact q3
  |ret v=>exact q3
 |false=>
  rw[if_neg dD];exact wpAny_execs_nil #[HC,H2,I2,q2]
end
structure It where
 go:Nat->Hp->Prop
 yld:Nat->Hp->V->Hp->Prop
 stop:Nat->Hp->Prop
def gB(X:Cx)(a:List (Addr×Obj))(H:Hp)(b:Addr):Prop:=
 H b=none/\b≠X.env.locals/\b∉X.fs/\(b∈X.ex\/X.s₀.heap.objs.size<=b)/\(∀x c,X.env.cells.lookup x=some c->c≠b)/\∀p∈X.pn++a,p.1≠b
theorem Inv.Ia(I:Inv X a g H s)(d:s.heap.objs.size<=b)(h:f b=none):gB X a f b:=by
 refine#[h,abm (i5 I.lt d),I.RZ d, .inr (oh I.sz d),λx c e z=>?_,λp i z=>?_]
 .obtain⟨v,q⟩:=I.cell x c e
  exact absurd (i5 q.lt (by rw[z];exact d)) (og _)
 .exact absurd (i5 (FB (I.pin p i).1) (by rw[z];exact d)) (og _)
structure Turn (P:Program) (w:World) (K:ac) (tg:Expr) (J:It) (fp:List Addr) (it:Addr) (tn:Nat->Heap->Prop):Prop where
 mem:it∈fp
 obj:∀i h,tn i h->∀b∈fp,∃o,h.get? b=some o/\∀v,o.data≠ .cell v
 keep:∀i h h',tn i h->(∀b∈fp,∀o,h.get? b=some o->h'.get? b=some o)->tn i h'
 item:∀(X:Cx),X.prog=P->X.w=w->X.K=K->X.calm=true->∀(i:Nat)(pins:List (Addr×Obj))(s:Shared)(σ:St)(H:Hp)(E:Value->Shared->Prop),Inv X pins σ H s->(∀b∈fp,gB X pins H b)->tn i s.heap->J.go i H->
  wpAny (model P w) X.A (pyNext (.ref it)) (λr s1=>∃u,r=some u/\
   wpAny (model P w) X.A (letOwnedTupleGo tg (.ref it) u) (λ_ s2=>∃x H',Inv X pins σ H' s2/\RelV x u/\J.yld i H x H'/\tn (i+1) s2.heap/\∀b∈fp,H' b=none) E s1) E s
 done:∀(X:Cx),X.prog=P->X.w=w->X.K=K->X.calm=true->∀(i:Nat)(pins:List (Addr×Obj))(s:Shared)(σ:St)(H:Hp)(E:Value->Shared->Prop),Inv X pins σ H s->(∀b∈fp,gB X pins H b)->tn i s.heap->J.stop i H->
  wpAny (model P w) X.A (pyNext (.ref it)) (λr s1=>r=none/\Inv X pins σ H s1) E s
 self:∀(A:Around)(i:Nat)(s:Shared)(Q:Value->Shared->Prop)(E:Value->Shared->Prop),tn i s.heap->Q (.ref it) s->wpAny (model P w) A (pyIter (.ref it)) Q E s
abbrev TI:=St->Hp->(It->Hp->Prop)->Prop
def VM(X:Cx)(a:List (Addr×Obj))(h:St)(i:Expr)(R:It->Hp->Prop)(j:Value)(d:Shared):Prop:=
 ∃(e:Addr)(f:List Addr)(g:Nat->Heap->Prop)(J:It)(c:Hp),j= .ref e/\Inv X a h c d/\Turn X.prog X.w X.K i J f e g/\g 0 d.heap/\(∀b∈f,gB X a c b)/\R J c
def PI(X:Cx)(c iter:Expr)(d:TI):Prop:=
 ∀(a:List (Addr×Obj))(s:Shared)(b:St)(H:Hp)(R:It->Hp->Prop),Inv X a b H s->d b H R->
  wpAny (model X.prog X.w) X.A (eval iter X.env) (λv e=>wpAny (model X.prog X.w) X.A (pyIter v) (VM X a b c R) X.xe e) X.xe s
theorem F0{M:Model}{A:Around}{E:Value->Shared->Prop}{s:Shared}{b:Expr}{c:Addr}{u:Value}{o:Obj}{n:String}{d:Array Value}{Q:Unit->Shared->Prop}(e:s.heap.get? c=some o)(f:o.cls= .type n)(g:o.data= .fields d)
  (i: ["enumerate","zip","dict_itemiterator","dict_reverseitemiterator","odict_iterator","itertools.zip_longest","itertools.pairwise"].contains n=false) (a:Q () s):wpAny M A (letOwnedTupleGo b (.ref c) u) Q E s:=by
 unfold letOwnedTupleGo
 cases b<;>first
  |exact wpAny_pure a
  | (cases u<;>first
    |exact wpAny_pure a
    | (refine wpAny_bind (wpAny_load e ?_)
       rw[f,g];show wpAny M A (if (["enumerate","zip","dict_itemiterator","dict_reverseitemiterator","odict_iterator","itertools.zip_longest","itertools.pairwise"].contains n&&d[0]? ==some (rawInt _))=true then _ else _) Q E s;rw[if_neg (by intro h;rw[i,Bool.false_and] at h;cases h)]
       exact wpAny_pure a))
def Ss(K:ac)(a:Addr):It:=
 #[λi H=>∃b x,cY K H a b/\b[i]? =some x,λi H x c=>c=H/\∀b,cY K H a b->b[i]? =some x,λi H=>∃b,cY K H a b/\b.length<=i]
def Su(K:ac)(a:Addr):It:=
 #[λi H=>∃b x,fg K H a b/\b[i]? =some x,λi H x c=>c=H/\∀b,fg K H a b->b[i]? =some x,λi H=>∃b,fg K H a b/\b.length<=i]
def OJ(lo:Int)(n:Nat):It:=#[λi _=>i<n,λi H x a=>a=H/\x= .int (lo+i),λi _=>n<=i]
theorem Hr{P:Program}{w:World}{K:ac}{R:Expr}(a g:Addr):Turn P w K R (Ss K a) [g] g (λi h=>h.IsListIter g a i) where
 mem:=by simp
 obj:=λi h st b j=>by
  have e:b=g:=by simpa using j
  subst e;obtain⟨o,e,c,d⟩:=st;exact#[o,e,λv z=>by rw[d] at z;cases z]
 keep:=λi h l st k=>st.at λo e=>k g (by simp) o e
 item:=by
  intro X q hw r N i f s O H E I m st t;rfl';subst q hw r;obtain⟨T,x,n,A⟩:=t;obtain⟨B,C,p,U⟩:=I.list n;obtain⟨u,Y,Z⟩:=C.get A;obtain⟨F,G,f2,J,L,M⟩:=m g (by simp)
  ac_rfl;refine wpAny_pyNext_list_item st p.isList (x:=u) (by simpa using Y) λl Q sb=>?_
  have I1:Inv X f O H {s with heap:=l}:=I.turned (t':=s.toks) (λb o j e=>(sb.2 b j).trans e) F G J L M
  obtain⟨o,e,c,d⟩:=id Q;exact#[u,rfl,F0 (s:={s with heap:=l}) e c d (by decide) #[x,H,I1,Z,#[rfl,λys hy=>by rw[I.Bb hy n];exact A],Q,λb j=>(m b j).1]]
 done:=by
  intro X q hw r N i f s O H E I m st t;rfl';subst q hw r;obtain⟨T,n,A⟩:=t;obtain⟨B,C,p,U⟩:=I.list n;obtain⟨F,G,f2,J,L,M⟩:=m g (by simp)
  have hl:=C.length;ac_rfl;exact wpAny_pyNext_list_end (I.ok.hd N) st p.isList (by simp;lia) λl eb=>#[rfl,I.turned (t':=s.toks) (λb o j e=>eb b o j e) F G J L M]
 self:=λ_ _ _ _ _ st h=>wpAny_pyIter_listiter st h
theorem Fh{P:Program}{w:World}{K:ac}{Q:Expr}(a g:Addr):Turn P w K Q (Su K a) [g] g (λi h=>h.IsTupleIter g a i) where
 mem:=by simp
 obj:=λi h st b j=>by
  have e:b=g:=by simpa using j
  subst e;obtain⟨o,e,c,d⟩:=st;exact#[o,e,λv z=>by rw[d] at z;cases z]
 keep:=λi h m st k=>st.at λo e=>k g (by simp) o e
 item:=by
  intro X r hw t M i f s N H E I n st y;subst r hw t;obtain⟨R,x,q,A⟩:=y;obtain⟨l,B,p,S⟩:=I.tuple q;obtain⟨u,T,U⟩:=B.get A;obtain⟨C,F,Y,G,J,L⟩:=n g (by simp)
  refine wpAny_pyNext_tuple_item st (show s.heap.IsTuple a l.toArray from p) (x:=u) (by simpa using T) λm O Z=>?_
  have I1:Inv X f N H {s with heap:=m}:=I.turned (t':=s.toks) (λb o j e=>(Z.2 b j).trans e) C F G J L
  obtain⟨o,e,c,d⟩:=id O;exact#[u,rfl,F0 (s:={s with heap:=m}) e c d (by decide) #[x,H,I1,U,#[rfl,λys hy=>by rw[I.Ho hy q];exact A],O,λb j=>(n b j).1]]
 done:=by
  intro X r hw t M i f s N H E I n st y;subst r hw t;obtain⟨R,q,A⟩:=y;obtain⟨l,B,p,S⟩:=I.tuple q;obtain⟨C,F,Y,G,J,L⟩:=n g (by simp)
  have hl:=B.length;exact wpAny_pyNext_tuple_end (I.ok.hd M) st (show s.heap.IsTuple a l.toArray from p) (by simp;lia) λm eb=>#[rfl,I.turned (t':=s.toks) (λb o j e=>eb b o j e) C F G J L]
 self:=λ_ _ _ _ _ st h=>wpAny_pyIter_tupleiter st h
theorem Ff{P:Program}{w:World}{K:ac}{G:Expr}(a:Addr)(lo:Int)(n:Nat):Turn P w K G (OJ lo n) [a] a (λi h=>IsRangeIter h a (lo+(i:Nat)*1) ((n:Int)-(i:Nat)) 1) where
 mem:=by simp
 obj:=λi h st b d=>by
  have e:b=a:=by simpa using d
  subst e
  exact#[_,st,λv z=>by
   have J:Data.fields _=Data.cell v:=z;cases J]
 keep:=λi h f st k=>k a (by simp) _ st
 item:=by
  intro X j hw l m i c s B H E I g st p;subst j hw l;rfl';obtain⟨r,u,M,x,y,A⟩:=g a (by simp)
  ac_rfl;have W:=Walks.range (prog:=X.prog) (w:=X.w) (I.ok.hd m) a lo 1 n;refine W.item i s _ _ p st λv f C N F O=>?_;obtain⟨t,rfl⟩:=N;have Q:Inv X c B H {s with heap:=f,toks:=C}:=I.turned (λb o d e=>O b o (by simpa using d) e) r u x y A
  refine#[_,rfl,F0 (s:={s with heap:=f,toks:=C}) (n:="range_iterator") F rfl rfl (by decide) #[.int (lo+i),H,Q,#[t,?_],#[rfl,rfl],F,λb d=>(g b d).1]]
  rw[Int.mul_one]
 done:=by
  intro X j hw l m i c s B H E I g st p;subst j hw l;rfl';obtain⟨r,u,M,x,y,A⟩:=g a (by simp)
  ac_rfl;exact wpAny_pyNext_range_end (I.ok.hd m) st (by have:n<=i:=p;lia) λf R=>#[rfl,I.turned (t':=s.toks) (λb o d e=>R b o d e) r u x y A]
 self:=λ_ _ _ _ _ st h=>wpAny_pyIter_rangeiter st h
section
variable {X:Cx} {tg:Expr}
def Ur(K:ac)(c:TE):TI:=λd H R=>c d H λx b=>∃a,x= .ref a/\(∃e,cY K b a e)/\R (Ss K a) b
def XA(K:ac)(c:TE):TI:=λd H R=>c d H λx b=>∃a,x= .ref a/\(∃e,fg K b a e)/\R (Su K a) b
theorem NH(j:PE X l i):PI X tg l (Ur X.K i):=by
 intro c s k H R I h;refine thn (j c s k H _ I h) λv d m=>?_;rfl';obtain⟨x,r,f,t,u⟩:=m;ac_rfl;rfl';obtain⟨a,e,⟨A,w⟩,q⟩:=u;subst e;subst t;obtain⟨y,B,p,C⟩:=f.list w;ac_rfl;refine aa1 p.isList ?_;refine#[d.heap.objs.size,[d.heap.objs.size],_,_,r,rfl,f.kept (t':=d.toks) λb o e=>tz _ e,Hr a _,#[_,GE _ rfl,rfl,rfl],λb z=>?_,q];have e:b=d.heap.objs.size:=by simpa using z
 subst e;exact f.Ia (bb _) (f.hok.fresh (bb _))
theorem QA(j:PE X l i):PI X tg l (XA X.K i):=by
 intro c s k H R I h;refine thn (j c s k H _ I h) λv d #[x,m,f,n,r]=>?_;obtain⟨a,e,⟨w,t⟩,q⟩:=r;subst e;cases n;obtain⟨g,y,p,z⟩:=f.tuple t;refine wpAny_pyIter_tuple (show d.heap.IsTuple a g.toArray from p) ?_;refine#[d.heap.objs.size,[d.heap.objs.size],_,_,m,rfl,f.kept (t':=d.toks) λb o e=>tz _ e,Fh a _,#[_,GE _ rfl,rfl,rfl],λb u=>?_,q];have e:b=d.heap.objs.size:=by simpa using u
 subst e;exact f.Ia (bb _) (f.hok.fresh (bb _))
theorem Ku{c:List (Addr×Obj)}{d:St}{H:Hp}{s:Shared}{R:It->Hp->Prop}{E:Value->Shared->Prop}{lo a:Int}{t u v:Tok}{f:Nat}(I:Inv X c d H s)(h: -(2^62)<=lo)(i:lo<2^62)(j: -(2^62)<=a)(k:a<2^62)
  (q:R (OJ lo (a-lo).toNat) H):wpAny (model X.prog X.w) X.A (pyIter (.ref s.heap.objs.size)) (VM X c d tg R) E {s with heap:=s.heap.push {cls:= .type "range",data:= .fields [.int lo t, .int a u, .int 1 v].toArray},toks:=f}:=by
 refine wpAny_pyIter_range (IsRange.new ..) (small_one h i j k) ?_;have g:Inv X c d H {s with heap:=s.heap.push {cls:= .type "range",data:= .fields [.int lo t, .int a u, .int 1 v].toArray},toks:=f}:=I.kept λb o e=>tz _ e
 refine#[(s.heap.push {cls:= .type "range",data:= .fields [.int lo t, .int a u, .int 1 v].toArray}).objs.size,[(s.heap.push {cls:= .type "range",data:= .fields [.int lo t, .int a u, .int 1 v].toArray}).objs.size],_,_,H,rfl,
  g.kept (t':=f) λb o e=>tz _ e,Ff _ lo (a-lo).toNat,?_,λb l=>?_,q]
 .have m:lo+((0:Nat):Int)*1=lo:=by simp
  have n:(((a-lo).toNat:Nat):Int)-((0:Nat):Int)=Builtin.Range.rangeSize lo a 1:=by rw[rangeSize_one];split<;>lia
  show IsRangeIter _ _ (lo+((0:Nat):Int)*1) ((((a-lo).toNat:Nat):Int)-((0:Nat):Int)) 1;rw[m,n];exact GE _ rfl
 .have e:b=(s.heap.push {cls:= .type "range",data:= .fields [.int lo t, .int a u, .int 1 v].toArray}).objs.size:=by simpa using l
  subst e;exact g.Ia (bb _) (g.hok.fresh (bb _))
def Us(a:TA):TI:=λb H R=>a b H λc d=>∃j:Int,c= [.int j]/\-(2^62)<=j/\j<2^62/\R (OJ 0 j.toNat) d
theorem GL(g:Gl X "range")(i:X.mg "range"=none)(k:PA X [a] f)(l:starEach [a] X.env= [(false,eval a X.env)]:=by rfl):PI X tg (.Call (.Name "range" p) [a] [] b) (Us f):=by
 intro c s m H R I h;refine Call_ (qD I g i boot_range (aaL (thn (k b c s m H _ I h) λw x #[y,z,n,o,d]=>?_) l rfl));obtain⟨j,e,d,u,q⟩:=d;subst e;cases o with
 |cons r v=>
  cases v;obtain⟨t,rfl⟩:=r;exact call_range_1 (Ku n (by lia) (by lia) d u (by simpa using q))
def Y0(e:TI)(g:TG)(f:TS):TS:=λD a H=>e a H λJ h=>∃W:Nat->Nat->St->Hp->Prop,(∃m,W 0 m a h)/\∀i m a H,W i m a H->
 (J.stop i H/\D.nx a H)\/(J.go i H/\∃N:St->Hp->Prop,(∀c b,N c b->∃d,d<m/\W (i+1) d c b)/\∀x b,J.yld i H x b->g x a b λj k=>f {D with nx:=N,ct:=N,bk:=D.nx} j k)
def m8(a:List Addr)(h:Heap):List (Addr×Obj):=a.filterMap λb=>(h.get? b).map λo=>(b,o)
theorem fi(c:b∈a)(e:h.get? b=some o):(b,o)∈m8 a h:=abF.mpr #[b,c,by rw[e];rfl]
theorem GD(c:p∈m8 a h):p.1∈a/\h.get? p.1=some p.2:=by
 obtain⟨b,d,e⟩:=abF.mp c;cases q:h.get? b with
 |none=>rw[q] at e;cases e
 |some o=>
  rw[q] at e;have f:(b,o)=p:=Do e;subst f;exact#[d,q]
theorem Inv.pinned(I:Inv X a f H s)(i:∀b∈c,gB X a H b)(j:∀b∈c,∃o,s.heap.get? b=some o/\∀v,o.data≠ .cell v):Inv X (a++m8 c s.heap) f H s:=
 I.t7 λp k=>(bH.mp k).elim (λz=>I.pin p (cN _ z)) λz=>by
  rfl';obtain⟨g,e⟩:=GD z;obtain⟨m,n,q,_⟩:=i p.1 g;obtain⟨o,h,d⟩:=j p.1 g;ac_rfl;rw[e] at h;cases h;exact#[e,m,n,q,d]
theorem Inv.j9(I:Inv X (a++pl) b H s):Inv X a b H s:=I.t7 λp c=>I.pin p (cN _ (fj _ c))
theorem IB(C:PassesOwn (model X.prog X.w) X.A X.env X.xe)(hc:X.calm=true)(hi:PI X tg iter Z)(hg:PG X tg g)(c:oj X t tb)
  (hs:∀x,foldedSetIterable iter X.env x=pure x:=by intro _;rfl):PS X (.For tg iter t [] P) (Y0 Z g tb):=by
 intro a s σ H D I h;refine wpAny_For (thn (hi a s σ H _ I h) λv s1 h1=>thn h1 λEp s2 h2=>?_) hs;rfl';obtain⟨it,E,tn,J,H2,e,I2,T,lY,f2,W,⟨m0,w0⟩,F⟩:=h2;subst e;ac_rfl;have j:∀{q:Hp},(∀b∈E,q b=none)->∀b∈E,gB X a q b:=λhn b c=>#[hn b c,(f2 b c).2];refine codeAny_forLoop_any (λn s'=>∃i G q,Inv X a G q s'/\tn i s'.heap/\(∀b∈E,q b=none)/\W i n G q) ?_ m0 #[0,σ,H2,I2,lY,λb c=>(f2 b c).1,w0];intro n s3 Vx;rfl';obtain⟨i,L,O,I3,w4,WB,w3⟩:=Vx;ac_rfl
 rcases F i n L O w3 with ⟨stop,qn⟩ | ⟨go,N,hN,step⟩
 .refine aaz C (thn (T.done X rfl rfl rfl hc i a s3 L O X.xe I3 (j WB) w4 stop) λr s4 B=>?_)
  obtain⟨R,I4⟩:=B;subst R;exact abl #[L,O,I4,qn]
 .refine aaz C (thn (T.item X rfl rfl rfl hc i a s3 L O X.xe I3 (j WB) w4 go) λr s4 B=>?_)
  obtain⟨u,R,h4⟩:=B;subst R;refine aaz C (thn h4 λ_ s5 B=>?_);rfl';obtain⟨x,H5,I5,r5,y5,S,Ai⟩:=B;ac_rfl;have Sq:=I5.pinned (j Ai) (T.obj _ _ S);refine aaz C (thn (hg _ s5 L H5 x u _ Sq r5 (step x H5 y5)) λ_ s6 B=>?_);rfl';obtain⟨U,H6,I6,q6⟩:=B;ac_rfl;refine aaz C (thn (c _ s6 U H6 _ I6 q6) λf Y y=>?_)
  have again:∀{k:St}{l:Hp},Inv X (a++m8 E s5.heap) k l Y->N k l->∃m,m<n/\∃i G q,Inv X a G q Y/\tn i Y.heap/\(∀b∈E,q b=none)/\W i m G q:=λ {k l} p M=>by
   obtain⟨m',hm,w7⟩:=hN k l M;refine#[m',hm,i+1,k,l,p.j9,T.keep _ _ _ S λb c o e=>(p.pin (b,o) (cN _ (cN _ (fi c e)))).1,λb c=>?_,w7];obtain⟨o,e,d⟩:=T.obj _ _ S b c;exact(p.pin (b,o) (cN _ (cN _ (fi c e)))).2.1
  cases f with
  |next=>obtain⟨k,l,p,M⟩:=y;exact again p M
  |cont=>obtain⟨k,l,p,M⟩:=y;exact again p M
  |brk=>obtain⟨k,l,p,y⟩:=y;exact#[k,l,p.j9,y]
  |ret v=>obtain⟨x7,k,l,p,r7,y⟩:=y;exact#[x7,k,l,p.j9,r7,y]
end
abbrev R2:=V->V->Hp->VK->Prop
def OpR(X:Cx)(f:Value->Value->Sem Value)(r:R2):Prop:=
 ∀(a:List (Addr×Obj))(s:Shared)(b:St)(H:Hp)(x y:V)(v u:Value)(Q:VK),Inv X a b H s->RelV x v->RelV y u->r x y H Q->
  wpAny (model X.prog X.w) X.A (f v u) (EP X a b Q) X.xe s
def cB(X:Cx)(f:Value)(r:List V->Hp->VK->Prop):Prop:=
 ∀(a:List (Addr×Obj))(s:Shared)(b:St)(H:Hp)(c:List V)(d:List Value)(Q:VK),Inv X a b H s->Vals c d->r c H Q->
  wpAny (model X.prog X.w) X.A (call f d) (EP X a b Q) X.xe s
def VQ(X:Cx)(r:V->Hp->(Bool->Hp->Prop)->Prop):Prop:=
 ∀(a:List (Addr×Obj))(s:Shared)(b:St)(H:Hp)(x:V)(v:Value)(Q:Bool->Hp->Prop),Inv X a b H s->RelV x v->r x H Q->
  wpAny (model X.prog X.w) X.A (truthy v) (TP X a b Q) X.xe s
def Ou(r:R2)(b c:TE):TE:=λa H Q=>b a H λx d=>c a d λy e=>r x y e Q
def rI(C:Int->Int->Prop)(g:Int->Int->V):R2:=λx y H Q=>∃i j,x= .int i/\y= .int j/\C i j/\Q (g i j) H
def Av(g:Int->Int->V):R2:=λx y H Q=>∃i j,x= .int i/\y= .int j/\Q (g i j) H
section
variable {X:Cx} {a b c:Expr} {ta tb tc:TE} {pos:Pos}
theorem Lh(l:PE X a ta)(m:PE X b tb){d:List (Addr×Obj)}{s:Shared}{e:St}{H:Hp}{R:V->V->Hp->Prop}(I:Inv X d e H s)
  (h:ta e H λx k=>tb e k λy g=>R x y g) {Q:Value->Shared->Prop} {f:Value->Value->Sem Value}
  (n:∀v u j x y g,Inv X d e g j->RelV x v->RelV y u->R x y g->wpAny (model X.prog X.w) X.A (f v u) Q X.xe j):
  wpAny (model X.prog X.w) X.A (eval a X.env) (λv i=>wpAny (model X.prog X.w) X.A (eval b X.env) (λu o=>wpAny (model X.prog X.w) X.A (f v u) Q X.xe o) X.xe i) X.xe s:=by
 refine thn (l d s e H _ I h) λv p #[x,k,q,r,t]=>?_;refine thn (m d p e k _ q t) λu j #[y,g,z,B,C]=>?_;exact n v u j x y g z r B C
theorem ND(f:OpR X (binaryOp e) r)(g:PE X a ta)(i:PE X b tb):PE X (.BinOp a e b pos) (Ou r ta tb):=by
 intro d s j H Q I h;exact wpAny_BinOp (Lh g i I h λv u k x y l m n o q=>f d k j l x y v u Q m n o q)
theorem UP{f:Value->Value->Sem Value}{C:Int->Int->Prop}{g:Int->Int->Int}
  (rule:∀(i j:Int)(t u:Tok)(s:Shared)(Q:Value->Shared->Prop)(E:Value->Shared->Prop),C i j->Q (.int (g i j) s.toks) {s with toks:=s.toks+1}->wpAny (model X.prog X.w) X.A (f (.int i t) (.int j u)) Q E s):
  OpR X f (rI C λi j=> .int (g i j)):=by
 intro d s n H x y v u Q I e k h;obtain⟨i,j,rfl,rfl,l,q⟩:=h;obtain⟨t,rfl⟩:=e;obtain⟨m,rfl⟩:=k;exact rule i j t m s _ _ l #[.int (g i j),H,I.tok _,#[_,rfl],q]
theorem Se{f:Value->Value->Sem Value}{g:Int->Int->Int}
  (rule:∀(i j:Int)(t u:Tok)(s:Shared)(Q:Value->Shared->Prop)(E:Value->Shared->Prop),Q (.int (g i j) s.toks) {s with toks:=s.toks+1}->wpAny (model X.prog X.w) X.A (f (.int i t) (.int j u)) Q E s):
  OpR X f (Av λi j=> .int (g i j)):=by
 intro d s m H x y v u Q I e k h;obtain⟨i,j,rfl,rfl,q⟩:=h;obtain⟨t,rfl⟩:=e;obtain⟨l,rfl⟩:=k;exact rule i j t l s _ _ #[.int (g i j),H,I.tok _,#[_,rfl],q]
theorem Ir{f:Value->Value->Sem Value}{g:Int->Int->Bool}
  (rule:∀(i j:Int)(t u:Tok)(s:Shared)(Q:Value->Shared->Prop)(E:Value->Shared->Prop),Q (.bool (g i j)) s->wpAny (model X.prog X.w) X.A (f (.int i t) (.int j u)) Q E s):
  OpR X f (Av λi j=> .bl (g i j)):=by
 intro d s m H x y v u Q I e k h;obtain⟨i,j,rfl,rfl,q⟩:=h;obtain⟨t,rfl⟩:=e;obtain⟨l,rfl⟩:=k;exact rule i j t l s _ _ #[.bl (g i j),H,I,rfl,q]
def Rf(i j:Int):Prop:=0<j/\j<1073741824
def HD(i j:Int):Prop:=(-(2^64)<i/\i<2^64)\/(-(2^64)<j/\j<2^64)
theorem HD.ok(h:HD i j):IntMulOk i j:=by
 rcases h with ⟨d,e⟩ | ⟨d,e⟩
 .exact .of_left (intBits_le_64 d e)
 .exact .of_right (intBits_le_64 d e)
theorem Qf:OpR X (binaryOp .Add) (Av λi j=> .int (i+j)):=Se λ_ _ _ _ _ _ _ q=>add_int q
theorem Qm:OpR X (binaryOp .Sub) (Av λi j=> .int (i-j)):=Se λ_ _ _ _ _ _ _ q=>sub_int q
theorem Qj:OpR X (binaryOp .Mult) (rI HD λi j=> .int (i*j)):=UP λ_ _ _ _ _ _ _ d q=>mul_int q d.ok
theorem Nq:OpR X (binaryOp .FloorDiv) (rI Rf λi j=> .int (i / j)):=UP λi j _ _ _ _ _ d q=>by
 have e:(0:Int)<j:=d.1;have f:j<1073741824:=d.2;exact floordiv_int (by lia) (by rw[Int.fdiv_eq_ediv_of_nonneg i (by lia)];exact q) (.inl (PyProof.noPylong_small (by lia)))
theorem Qi:OpR X (binaryOp .Mod) (rI (λ_ j=>0<j) λi j=> .int (i%j)):=UP λi j _ _ _ _ _ d q=>by
 have e:(0:Int)<j:=d;exact mod_int' (by lia) (by rw[Int.fmod_eq_emod_of_nonneg i (by lia)];exact q)
end
section
variable {X:Cx} {a b c:Expr} {ta tb tc:TE} {pos:Pos}
theorem BU(I:Inv X d f H s)(q:Q (.bl k) H)(e:k=g):EP X d f Q (.bool g) s:=by
 subst e;exact#[.bl k,H,I,rfl,q]
theorem UT:OpR X (compareOp .Lt) (Av λi j=> .bl (decide (i<j))):=Ir λ_ _ _ _ _ _ _ q=>lt_int q
theorem US:OpR X (compareOp .LtE) (Av λi j=> .bl (decide (i<=j))):=Ir λ_ _ _ _ _ _ _ q=>le_int q
theorem UR:OpR X (compareOp .Gt) (Av λi j=> .bl (decide (j<i))):=Ir λ_ _ _ _ _ _ _ q=>gt_int q
theorem UQ:OpR X (compareOp .GtE) (Av λi j=> .bl (decide (j<=i))):=Ir λ_ _ _ _ _ _ _ q=>ge_int q
theorem Qh:OpR X (compareOp .Is) (λx y H Q=>y= .non/\Q (.bl (decide (x= .non))) H):=by
 intro d s g H x y v u Q I e f h;obtain⟨rfl,q⟩:=h;subst f;refine is_none_gen (BU I q ?_)
 cases x<;>first
  | (cases e;rfl)
  | (obtain⟨t,rfl⟩:=e;rfl)
theorem Nu:OpR X (compareOp .IsNot) (λx y H Q=>y= .non/\Q (.bl (!decide (x= .non))) H):=by
 intro d s g H x y v u Q I e f h;obtain⟨rfl,q⟩:=h;subst f;refine isnot_none_gen (BU I q ?_)
 cases x<;>first
  | (cases e;rfl)
  | (obtain⟨t,rfl⟩:=e;rfl)
theorem OpR.or(h:OpR X f r)(k:OpR X f e):OpR X f (λx y H Q=>r x y H Q\/e x y H Q):=by
 intro d s g H x y v u Q I i j q
 rcases q with q|q
 .exact h d s g H x y v u Q I i j q
 .exact k d s g H x y v u Q I i j q
theorem bf(b:Expr)(h:d≠ .In:=by decide)(e:d≠ .NotIn:=by decide):behindInMarks d b=false:=by
 have f:(d==CmpOp.In)=false:=by cases d<;>first|rfl|exact absurd rfl h
 have g:(d==CmpOp.NotIn)=false:=by cases d<;>first|rfl|exact absurd rfl e
 cases b<;>simp[behindInMarks,f,g]
theorem Nx(f:OpR X (compareOp e) r)(g:PE X a ta)(i:PE X b tb)(j:behindInMarks e b=false):PE X (.Compare a [e] [b] pos) (Ou r ta tb):=by
 intro d s k H Q I h;exact wpAny_Compare1 (Lh g i I h λv u l x y m n o p q=>f d l k m x y v u Q n o p q) j
def Hk(t:TE):TT:=λd H Q=>t d H λx e=>∃k,x= .bl k/\Q k e
theorem NP(i:OpR X (compareOp f) r)(j:PE X a ta)(l:PE X b tb)(m:behindInMarks f b=false):PT X (.Compare a [f] [b] pos) (Hk (Ou r ta tb)):=by
 intro d s g H Q I h
 refine wpAny_isTrue_Compare1 (thn (j d s g H _ I h) λv n #[x,o,p,q,t]=>thn (l d n g o _ p t) λu w #[y,A,B,C,E]=>
  thn (i d w g A x y v u _ B q C E) λc M #[z,F,G,J,k,e,L]=>?_) m
 subst e;subst J;exact SL #[F,G,L]
def CQ(r f:R2)(g h tc:TE):TE:=λd H Q=>g d H λx i=>h d i λy j=>r x y j λz e=>∃k,z= .bl k/\
 (if k=true then tc d e λl m=>f y l m Q else Q (.bl false) e)
theorem Kg(q:OpR X (compareOp i) r)(t:OpR X (compareOp j) l)(w:PE X a ta)(A:PE X b tb)(B:PE X c tc)
  (C:lastMarks [i,j] [b,c]=false:=by with_unfolding_all rfl):PE X (.Compare a [i,j] [b,c] pos) (CQ r l ta tb tc):=by
 intro f s g H Q I h
 refine Compare_chain (thn (w f s g H _ I h) λv E #[x,F,G,J,L]=>chain_link (thn (A f E g F _ G L) λu M #[y,N,O,m,P]=>
  thn (q f M g N x y v u _ O J m P) λd R #[z,n,o,S,k,e,p]=>?_)) C
 subst e;subst S;refine SL ?_;cases k with
 |false=>exact ite_ff #[.bl false,n,o,rfl,p]
 |true=>exact ite_tt (chain_last (thn (B f R g n _ o p) λT U #[Y,Z,I4,r4,q4]=>t f U g Z y Y u T Q I4 m r4 q4))
theorem Kr(q:OpR X (compareOp i) r)(t:OpR X (compareOp j) l)(w:PE X a ta)(A:PE X b tb)(B:PE X c tc)
  (C:lastMarks [i,j] [b,c]=false:=by with_unfolding_all rfl):PT X (.Compare a [i,j] [b,c] pos) (Hk (CQ r l ta tb tc)):=by
 intro f s g H Q I h
 refine isTrue_chain (thn (w f s g H _ I h) λv E #[x,F,G,J,L]=>test_link (thn (A f E g F _ G L) λu M #[y,N,O,m,P]=>
  thn (q f M g N x y v u _ O J m P) λd R #[z,n,o,S,k,e,p]=>?_)) C
 subst e;subst S;refine SL ?_;cases k with
 |false=>
  rfl';obtain⟨k',U,Y⟩:=p;cases U;ac_rfl;exact ite_ff #[n,o,Y]
 |true=>
  refine ite_tt (test_last (thn (B f R g n _ o p) λZ s4 #[z',H4,I4,r4,q4]=>thn (t f s4 g H4 y z' u Z _ I4 m r4 q4) λd' s5 #[z2,H5,I5,r5,k2,e2,q5]=>?_));subst e2;subst r5;exact SL #[H5,I5,q5]
def K8(K:ac)(x:V)(H:Hp)(k:Bool):Prop:=
 match x with
 | .non=>k=false
 | .bl b=>k=b
 | .int i=>k=(i !=0)
 | .str y=>y.length<=sizeLine/\k=((y.length:Int) !=0)
 | .Je y=>y.size<=sizeLine/\k=((y.size:Int) !=0)
 | .ref p=>(∃d,cY K H p d/\k= !d.isEmpty)\/(∃d,fg K H p d/\k= !d.isEmpty)\/∃e,H p=some (.dK e)/\k= !e.isEmpty
 |_=>False
theorem En(r:KV e f):(!f.isEmpty)= !e.isEmpty:=by
 cases r<;>rfl
theorem vU(r:Vals e d):(!d.toArray.isEmpty)= !e.isEmpty:=by
 cases r<;>simp
theorem mU:(sizeLine:Nat)<2^63:=by rw[abD];decide
theorem IT:VQ X (λx H Q=>∃k,K8 X.K x H k/\Q k H):=by
 intro z s E H x v Q I j h;obtain⟨k,e,q⟩:=h;have F:=mU;have G:sizeLine=16777216:=abD;cases x with
 |non=>
  cases j;have d:k=false:=e;subst d;exact truthy_none #[H,I,q]
 |bl b=>
  cases j;have d:k=b:=e;subst d;exact SL #[H,I,q]
 |int i=>
  obtain⟨t,rfl⟩:=j;have d:k=(i !=0):=e;subst d;exact PySem.P.truthy_int #[H,I,q]
 |str y=>
  obtain⟨t,rfl⟩:=j;obtain⟨B,d⟩:y.length<=sizeLine/\k=((y.length:Int) !=0):=e;subst d;exact PySem.P.truthy_str (by lia) #[H,I.tok _,q]
 |Je y=>
  obtain⟨t,rfl⟩:=j;obtain⟨B,d⟩:y.size<=sizeLine/\k=((y.size:Int) !=0):=e;subst d;exact PySem.W.truthy_bytes (by lia) #[H,I.tok _,q]
 |ref p=>
  subst j;have d:(∃g,cY X.K H p g/\k= !g.isEmpty)\/(∃g,fg X.K H p g/\k= !g.isEmpty)\/∃l,H p=some (.dK l)/\k= !l.isEmpty:=e
  rcases d with ⟨g,n,d⟩ | ⟨g,n,d⟩ | ⟨l,n,d⟩
  .subst d
   obtain⟨u,r,pl,A⟩:=I.list n;have f:=r.length;exact wpAny_truthy_list pl.isList (by simp only[dN];lia) #[H,I.tok _,by rw[vU r];exact q]
  .subst d
   obtain⟨u,r,pl,A⟩:=I.tuple n;have f:=r.length;exact truthy_tuple pl (by simp only[dN];lia) #[H,I.tok _,by rw[vU r];exact q]
  .subst d
   obtain⟨A,C,o,r,m⟩:l.length<=sizeLine/\(p==sysModules)=false/\∃o,KV l o/\s.heap.DictOf (yE X.prog X.w) p o:=I.hok p _ n;have f:l.length=o.length:=Paired.length r;exact wpAny_truthy_dict C m (by lia) #[H,I.tok _,by rw[En r];exact q]
 |_=>exact(show False from e).elim
theorem Ks(i:PE X a ta)(j:∀d,isTrue a X.env d=(do let v <-d;standAt a.pos;holding [v] (truthy v))):
  PT X a (λf H Q=>ta f H λx g=>∃k,K8 X.K x g k/\Q k g):=by
 intro e s f H Q I h;exact isTrue_plain (thn (i e s f H _ I h) λv l #[x,m,n,o,p]=>IT e l f m x v Q n o p) (j _)
theorem vals1(r:Vals [x] d):∃u,d= [u]/\RelV x u:=by
 cases r with
 |cons e f=>cases f;exact#[_,rfl,e]
theorem vals2(r:Vals [x,y] d):∃u e,d= [u,e]/\RelV x u/\RelV y e:=by
 cases r with
 |cons f g=>
  cases g with
  |cons h i=>cases i;exact#[_,_,rfl,f,h]
theorem FF(g:X.calm=true):cB X (.builtin "max") (λe H Q=>∃i j,e= [.int i, .int j]/\Q (.int (if j>i then j else i)) H):=by
 intro f s m H e n Q I r h;rfl';obtain⟨i,j,rfl,q⟩:=h;obtain⟨u,p,rfl,⟨t,rfl⟩,⟨v,rfl⟩⟩:=vals2 r;ac_rfl;refine max_two_ints (I.ok.hd g) λw x k=>#[_,H,I.kept k,?_,q]
 by_cases d:j>i
 .rw[ls d,ls d];exact#[_,rfl]
 .rw[ir d,ir d];exact#[_,rfl]
theorem FG(g:X.calm=true):cB X (.builtin "min") (λe H Q=>∃i j,e= [.int i, .int j]/\Q (.int (if j<i then j else i)) H):=by
 intro f s m H e n Q I r h;rfl';obtain⟨i,j,rfl,q⟩:=h;obtain⟨u,p,rfl,⟨t,rfl⟩,⟨v,rfl⟩⟩:=vals2 r;ac_rfl;refine min_two_ints (I.ok.hd g) λw x k=>#[_,H,I.kept k,?_,q]
 by_cases d:j<i
 .rw[ls d,ls d];exact#[_,rfl]
 .rw[ir d,ir d];exact#[_,rfl]
end
structure xy (h:Heap) (x dx C:Addr) (mA:Str->Option Value):Prop where
 obj:h.get? x=some (bv C dx)
 ns:h.Ns1 dx mA
 ne:dx≠x
theorem Gs{h:Heap}(n:h.Ns1 c d):∃f,h.get? c=some f/\∀b,cb b f=some (d b):=by
 rfl';obtain⟨o,g,v,j,k,l,_,m⟩:=n;ac_rfl;refine#[o,j,λb=>?_];have e:=m b;unfold nsFind findBy at e;rw[<-Array.find?_toList] at e;unfold cb;rw[k];dsimp only
 split
 .rename_i y q
  rw[q] at e;exact FS some e
 .rename_i q
  rw[q] at e
  have a:g.toList.any (·.refKey)=false:=by
   rw[List.any_eq_false];intro y p;obtain⟨z,t,r⟩:=l y (Array.mem_toList_iff.mp p);simp[DictEntry.refKey,r]
  have s:¬g.toList.any (·.refKey)=true:=by rw[a];exact dD
  rw[ir s];exact FS some e
theorem xy.look(I:xy h x c C d):∃b,PySem.W.InstAt h x (bv C c) C (some b)/\∀a,cb a b=some (d a):=
 let #[b,e,f]:=Gs I.ns
 #[b,#[I.obj,rfl,rfl,e],f]
section
variable {prog:Program} {w:World} {A:Around} {E:Value->Shared->Prop} {s:Shared} {K:ac} {x dx C f:Addr} {mA:Str->Option Value} {name:Str} {v:Value}
theorem get_map(X:K.In s.heap)(I:xy s.heap x dx C mA)(b:b4 K C name=true)(c:b5 K C=true)
  (d:am K (.ref C) name=some none) (e:mA name=some v) (g:PySem.W.handedIn v=true) (h:Q v {s with toks:=s.toks+1}):
  wpAny (model prog w) A (getAttr (.ref x) name a) Q E s:=by
 obtain⟨j,J,i⟩:=I.look;exact PySem.W.get_value X J (abu b).1 (PySem.W.findObj_own c d rfl (by rw[i,e])) g h
theorem JD(X:K.In s.heap)(I:xy s.heap x dx C mA)(a:b4 K C name=true)
  (b:am K (.ref C) name=some (some (.ref f))) (c:bD K (.ref f)=true) (d:mA name=none) (h:Q (.ref f,[.ref x]) s):
  wpAny (model prog w) A (getMethod (.ref x) name pl) Q E s:=by
 obtain⟨e,J,g⟩:=I.look;exact PySem.W.method_fn X J (abu a).1 (abu a).2 b (aaC.mp c) (by show(cb name e).map (·.isSome)=some false;rw[g,d];rfl) h
theorem N4(X:K.In s.heap)(I:xy s.heap x dx C mA)
  (l:am K (.ref C) "__setattr__"=some (some (.builtin "object.__setattr__"))) (m:cf K C=true) (n:cx K C name=some none) (o:b5 K C=true)
  (hw:cr mA i) (F:i.length<=sizeLine)
  (h:∀c,xy c x dx C (λy=>if y=name then some v else mA y)->Heap.SameBut dx s.heap c->Q () {s with heap:=c,toks:=s.toks+2}):
  wpAny (model prog w) A (setAttr (.ref x) name v) Q E s:=by
 rfl';obtain⟨G,J,H⟩:=I.look;obtain⟨L,q,t⟩:=PySem.W.any_some o;ac_rfl;refine PySem.W.set_plain X J l (PySem.W.osa_open (s:={s with toks:=s.toks+1}) (r:=none) X J m n λb=>?_)
 have u:s.heap.get? x=some #[.ref C,some dx, .plain, #[]]:=I.obj;refine be (mo (be (be (wpAny_loadPart u (be (PySem.W.Looks.here (s:={s with toks:=s.toks+1}) (PySem.W.looks_clsIn X q) ?_))))))
 rw[t];refine mo (a:=some dx) (be (mo (be ?_)));refine wpAny_nsSet1 (s:={s with toks:=s.toks+1}) I.ns λc j k=>?_
 rfl';obtain⟨M,z,B,e,bI,g⟩:=j.count (PySem.Within.cons name v hw);ac_rfl;refine be (wpAny_lookBehind e (by rw[bI];exact pastItsLine_dict (oh g (by rw[bN];lia))) ?_)
 exact mo (h _ #[(k.2 _ (Ne.symm I.ne)).trans I.obj,j,I.ne] k)
theorem J7(X:K.In s.heap)(c:cy K C=true)
  (e:am K (.ref C) "__init__"=some (some (.ref f))) (i:PySem.W.typeIn K (.ref f)=some (.type "function"))
  (h:codeAny (model prog w) (A.under (.builtin "type.__call__" #[.ref C::a,b])) (.call (.ref f) #[.ref (s.heap.objs.size+1)::a,b]) (PySem.W.InitBack (s.heap.objs.size+1) R)
   {s with heap:=(s.heap.push aA).push (bv C s.heap.objs.size)}):
  codeAny (model prog w) A (.call (.ref C) #[a,b]) R s:=by
 obtain⟨j,g,d,t,os⟩:=s;exact PySem.W.make_core (PySem.W.makes_of X c) (PySem.W.looks_findIn X e) (λself=>PySem.W.bind_fn X self i) (.inl rfl) h
end
def jQ(f:Str)(v:V):List (Str×V)->List (Str×V)
 | []=> [(f,v)]
 | (g,x)::r=>if g=f then(g,v)::r else(g,x)::jQ f v r
theorem tS(f g:Str)(v:V):∀fs:List (Str×V),(jQ f v fs).lookup g=if g=f then some v else fs.lookup g
 | []=>by
  show bm g [(f,v)]=_
  by_cases h:g=f
  .have a:(g==f)=true:=aaC.mpr h
   simp only[bm,a,ls h]
  .have a:(g==f)=false:=aav.mpr h
   simp only[bm,a,ir h]
 | (k,x)::r=>by
  have c:=tS f g v r;rw[show jQ f v ((k,x)::r)=(if k=f then(k,v)::r else(k,x)::jQ f v r) from rfl]
  by_cases b:k=f
  .rw[ls b]
   by_cases h:g=k
   .have a:(g==k)=true:=aaC.mpr h
    simp only[bm,a,ls (h.trans b)]
   .have a:(g==k)=false:=aav.mpr h
    simp only[bm,a,ir (λe:g=f=>h (e.trans b.symm))]
  .rw[ir b]
   by_cases h:g=k
   .have a:(g==k)=true:=aaC.mpr h
    simp only[bm,a,ir (λe:g=f=>b (h.symm.trans e))]
   .have a:(g==k)=false:=aav.mpr h
    simp only[bm,a];exact c
theorem r6(f:Str)(v:V):∀fs:List (Str×V),f∈(jQ f v fs).map (·.1)/\∀g,g∈fs.map (·.1)->g∈(jQ f v fs).map (·.1)
 | []=>#[by simp[jQ],λg h=>by simp at h]
 | (k,x)::r=>by
  obtain⟨b,c⟩:=r6 f v r;rw[show jQ f v ((k,x)::r)=(if k=f then(k,v)::r else(k,x)::jQ f v r) from rfl]
  by_cases a:k=f
  .rw[ls a]
   subst a;exact#[by simp,λg h=>h]
  .rw[ir a]
   refine#[?_,λg h=>?_]
   .rw[bT]
    exact bP _ b
   .rw[bT] at h ⊢
    rcases bo.mp h with e|e
    .exact bo.mpr (.inl e)
    .exact bP _ (c g e)
theorem tO(f:Str)(v:V):∀fs:List (Str×V),(jQ f v fs).length<=fs.length+1
 | []=>by simp[jQ]
 | (k,x)::r=>by
  have b:=tO f v r;rw[show jQ f v ((k,x)::r)=(if k=f then(k,v)::r else(k,x)::jQ f v r) from rfl]
  by_cases a:k=f
  .rw[ls a,bN,bN];lia
  .rw[ir a,bN,bN];lia
theorem oE.some_of{v:V}{o:Option Value}(r:oE (some v) o):∃u,o=some u/\RelV v u:=by
 cases o with
 |none=>exact(show False from r).elim
 |some u=>exact#[u,rfl,r]
theorem oE.none_of(r:oE none o):o=none:=by
 cases o with
 |none=>rfl
 |some u=>exact(show False from r).elim
theorem F3(r:RelV v u):PySem.W.handedIn u=true:=by
 cases v with
 |non=>cases(show u=Value.none from r);rfl
 |bl b=>cases(show u=Value.bool b from r);rfl
 |int i=>obtain⟨t,e⟩:=(show ∃t,u=Value.int i t from r);cases e;rfl
 |str x=>obtain⟨t,e⟩:=(show ∃t,u=Value.str x t from r);cases e;rfl
 |Je b=>obtain⟨t,e⟩:=(show ∃t,u=Value.bytes b t from r);cases e;rfl
 |FY b=>obtain⟨t,e⟩:=(show ∃t,u=Value.float b t from r);cases e;rfl
 |ref a=>cases(show u=Value.ref a from r);rfl
 |ty n=>cases(show u=Value.type n from r);rfl
section
variable {P:Program} {w:World} {H H':Hp} {h h':Heap} {a C dx:Addr} {fs TC:List (Str×V)}
theorem tK(hok:jU P w H h)(e:H a=some (.ins C dx fs)):∃b,xy h a dx C b/\(∀f,oE (fs.lookup f) (b f))/\cr b (fs.map (·.1))/\fs.length<=1000/\H dx=some (.own a):=by
 obtain⟨d,z,ne,c,b,n,r,q⟩:=(show eC P w H h a (.ins C dx fs) from hok a _ e);exact#[b,#[c,n,ne],r,q,z,d]
end
structure xu (K:ac) (C:Addr):Prop where
 pg:b4 K C Str.empty=true
 hd:b5 K C=true
 po:cf K C=true
 sa:am K (.ref C) "__setattr__"=some (some (.builtin "object.__setattr__"))
theorem xu.get{K:ac}{C:Addr}(c:xu K C)(f:Str):b4 K C f=true:=c.pg
def mL(K:ac)(C:Addr)(f:Str):Prop:=am K (.ref C) f=some none
theorem mL.Vp{K:ac}{C:Addr}{f:Str}(n:mL K C f):cx K C f=some none:=by
 unfold cx;rw[show am K (.ref C) f=some none from n];rfl
structure Meth (K:ac) (C:Addr) (m:Str) (f:Addr):Prop where
 at_:am K (.ref C) m=some (some (.ref f))
 fn:bD K (.ref f)=true
 kp:ar K (.ref f)=true
section
variable {X:Cx} {pins:List (Addr×Obj)} {σ:St} {H:Hp} {s:Shared} {a C dx:Addr} {fs:List (Str×V)} {f:Str} {v:V} {A:Around} {E:Value->Shared->Prop}
theorem D9(I:Inv X pins σ H s)(e:H a=some (.ins C dx fs))(c:xu X.K C)(n:mL X.K C f)(l:fs.lookup f=some v)
  (h:∀u d,Inv X pins σ H d->RelV v u->Q u d):wpAny (model X.prog X.w) A (getAttr (.ref a) f b) Q E s:=by
 obtain⟨i,O,r,_,_,_⟩:=tK I.hok e;obtain⟨u,j,g⟩:=oE.some_of (v:=v) (o:=i f) (by rw[<-l];exact r f)
 exact get_map I.jH O (c.get f) c.hd n j (F3 g) (h u _ (I.tok _) g)
theorem vR{pl:Sem Bool}(I:Inv X pins σ H s)(e:H a=some (.ins C dx fs))(c:xu X.K C)(k:Meth X.K C m g)(l:fs.lookup m=none)
  (h:Q (.ref g,[.ref a]) s):wpAny (model X.prog X.w) A (getMethod (.ref a) m pl) Q E s:=by
 obtain⟨b,O,r,_,_,_⟩:=tK I.hok e;have d:b m=none:=oE.none_of (by rw[<-l];exact r m)
 exact JD I.jH O (c.get m) k.at_ k.fn d h
theorem E3(I:Inv X pins σ H s)(e:H a=some (.ins C dx fs))(c:xu X.K C)(n:mL X.K C f)(N:fs.length<1000)(m:RelV y u)
  (h:∀i,Inv X pins σ (upd H a (.ins C dx (jQ f y fs))) i->Q () i):wpAny (model X.prog X.w) A (setAttr (.ref a) f u) Q E s:=by
 rfl';obtain⟨j,O,r,k,_,l⟩:=tK I.hok e;have t:(fs.map (·.1)).length<=sizeLine:=by rw[aG,abD];lia
 ac_rfl;refine N4 I.jH O c.sa c.po n.Vp c.hd k t λB d F=>h _ ?_;have G:∃o,B.get? dx=some o:=let #[o,_,_,J,_]:=d.ns;#[o,J];refine I.write (x:=a) (e:=dx) (by rw[e];exact True.intro) (.inr l) (λb q L z=>(F.2 b L).trans z) G ?_
 refine#[by rw[aB O.ne];exact l,?_,O.ne,d.obj,_,d.ns,λg=>?_,λg M=>?_]
 .have:=tO f y fs;lia
 .show oE ((jQ f y fs).lookup g) (if g=f then some u else j g)
  rw[tS]
  by_cases q:g=f
  .rw[ls q,ls q];exact m
  .rw[ir q,ir q];exact r g
 .by_cases q:g=f
  .rw[q];exact(r6 f y fs).1
  .refine(r6 f y fs).2 g (k g λz=>M ?_)
   show(if g=f then some u else j g)=none;rw[ir q];exact z
theorem Inv.made(I:Inv X pins σ H s):Inv X pins σ (upd (upd H s.heap.objs.size (.own (s.heap.objs.size+1))) (s.heap.objs.size+1) (.ins C s.heap.objs.size []))
  {s with heap:=(s.heap.push aA).push (bv C s.heap.objs.size)}:=by
 have c:(s.heap.push aA).get? s.heap.objs.size=some aA:=GE s.heap rfl
 have d:((s.heap.push aA).push (bv C s.heap.objs.size)).get? (s.heap.objs.size+1)=some (bv C s.heap.objs.size):=by
  have:=GE (s.heap.push aA) (o:=bv C s.heap.objs.size) rfl
  rwa [acm] at this
 have g:(s.heap.push aA).Ns s.heap.objs.size (λ_=>none):=#[aA, #[],_,c,rfl,(λe h=>absurd h (by simp)),λ_=>rfl]
 have i:=I.laid (a:=s.heap.objs.size) (o:= .own (s.heap.objs.size+1)) (h':=s.heap.push aA) (t':=s.toks) (λb u q=>tz _ q) (bb _) #[_,c];refine i.laid (a:=s.heap.objs.size+1) (o:= .ins C s.heap.objs.size []) (t':=s.toks) (λb u q=>tz _ q) (acs (acm _ _)) ?_;have ne:s.heap.objs.size≠s.heap.objs.size+1:=bV (zR _);refine#[by rw[aB ne,ax],fm _,ne,d,λ_=>none,(Heap.Ns1.of_empty g).at λo q=>tz _ q,λ_=>True.intro,λy j=>absurd rfl j]
theorem Lc{f:Str}{s:Shared}(d:attributeBase e f env (eval e env)=eval e env)
  (h:wpAny (model prog w) A (eval e env) (λo b=>wpAny (model prog w) A (getAttr o f true) Q E b) E s):wpAny (model prog w) A (eval (.Attribute e f c) env) Q E s:=
 Attribute_any_ h (by rw[arm_eval_Attribute,d])
end
def YZ(K:ac)(c:TE)(f:Str):TE:=λd H Q=>c d H λx b=>∃a C e fs v,x= .ref a/\b a=some (.ins C e fs)/\xu K C/\mL K C f/\fs.lookup f=some v/\Q v b
def YJ(K:ac)(e g:TE)(f:Str):TS:=λD b H=>g b H λy h=>e b h λx c=>∃a C d fs,x= .ref a/\c a=some (.ins C d fs)/\xu K C/\mL K C f/\fs.length<1000/\
 D.nx b (upd c a (.ins C d (jQ f y fs)))
section
variable {X:Cx} {o e value:Expr} {f:Str} {pos pos' Zb:Pos} {ta tv:TE}
theorem Qs(d:PE X e ta)(g:attributeBase e f X.env (eval e X.env)=eval e X.env):PE X (.Attribute e f pos) (YZ X.K ta f):=by
 intro b s i H Q I h;refine Lc g (thn (d b s i H _ I h) λu A j=>?_);rfl';obtain⟨x,m,p,r,a,C,E,fs,v,t,w,c,n,l,q⟩:=j;ac_rfl;subst t;obtain rfl:u=Value.ref a:=r;exact D9 p w c n l λF G y z=>#[v,m,y,z,q]
theorem QC(g:PE X o ta)(i:PE X value tv)(j:swapsWith value (some (.Attribute o f pos')) pos.line X.env=pure false):PS X (.Assign [.Attribute o f pos'] value pos) (YJ X.K ta tv f):=by
 intro b s d H D I h;refine plainObj_wpAny_Assign_Attribute (thn (i b s d H _ I h) λu k #[y,m,p,r,q]=>thn (g b k d m _ p q) λt F #[x,G,v,w,a,C,J,fs,z,A,c,n,l,B]=>?_) j;subst z;obtain rfl:t=Value.ref a:=w;exact E3 v A c n l r λL E=>#[d,_,E,B]
end
section
variable {X:Cx} {pins:List (Addr×Obj)} {σ:St} {H:Hp} {s:Shared} {A:Around} {E:Value->Shared->Prop} {Q:Value->Shared->Prop} {c:Value} {b:Bool}
inductive kg (K:ac) (H:Hp):V->Value->Prop where
 |non:kg K H .non (.type "NoneType")
 |bl (x:Bool):kg K H (.bl x) (.type "bool")
 |int (i:Int):kg K H (.int i) (.type "int")
 |str (x:Str):kg K H (.str x) (.type "str")
 |FY (x:UInt64):kg K H (.FY x) (.type "float")
 |lst {a:Addr} {xs:List V} (e:H a=some (.lst xs)):kg K H (.ref a) (.type "list")
 |tF {a:Addr} {o:Obj} {xs:List V} (e:H a=some (.tF o (.lst xs))):kg K H (.ref a) (.type "list")
 |tup {a:Addr} {xs:List V} (e:H a=some (.tup xs)):kg K H (.ref a) (.type "tuple")
 |dK {a:Addr} {fE:List (Key×V)} (e:H a=some (.dK fE)):kg K H (.ref a) (.type "dict")
 |dT {a:Addr} {fE:List (List Key×V)} (e:H a=some (.dT fE)):kg K H (.ref a) (.type "dict")
 |ins {a C dx:Addr} {fs:List (Str×V)} (e:H a=some (.ins C dx fs)) (cl:xu K C) (ha:am K (.ref C) "__class__"=some (some (.builtin "object.__class__")))
   (hn:ce K (.builtin "object.__class__") "__get__"=some (some (.builtin "getset_descriptor.__get__"))) (htk:cs K (.builtin "object.__class__")=some true)
   (hm:dn K C (.type "object")=some true):kg K H (.ref a) (.ref C)
theorem yx(I:Inv X pins σ H s)(d:RelV x u)(r:kg X.K H x t)(e:bx X.K t c=some b)(h:∀v,Q (.bool b) {s with toks:=v}):
  wpAny (model X.prog X.w) A (call (.builtin "isinstance") [u,c]) Q E s:=by
 cases r with
 |non=>cases(show u=Value.none from d);exact UV PySem.W.kitx_none I.jH True.intro e (λz=>nomatch z) h
 |bl y=>cases(show u=Value.bool y from d);exact UV PySem.W.kitx_bool I.jH True.intro e (λz=>nomatch z) h
 |int i=>obtain⟨t,q⟩:=(show ∃t,u=Value.int i t from d);cases q;exact UV PySem.W.kitx_int I.jH True.intro e (λz=>nomatch z) h
 |str y=>obtain⟨t,q⟩:=(show ∃t,u=Value.str y t from d);cases q;exact UV PySem.W.kitx_str I.jH True.intro e (λz=>nomatch z) h
 |FY y=>obtain⟨t,q⟩:=(show ∃t,u=Value.float y t from d);cases q;exact UV PySem.W.kitx_float I.jH True.intro e (λz=>nomatch z) h
 | @lst a j f=>
  cases(show u=Value.ref a from d);obtain⟨_,_,n,_,g⟩:=(show eC X.prog X.w H s.heap a (.lst j) from I.hok a _ f);exact UV PySem.W.kitx_list I.jH #[_,g,rfl] e (λz=>nomatch z) h
 | @tF a B j f=>
  cases(show u=Value.ref a from d);obtain⟨_,_,_,n,_,g⟩:=(show eC X.prog X.w H s.heap a (.tF B (.lst j)) from I.hok a _ f);exact UV PySem.W.kitx_list I.jH #[_,g,rfl] e (λz=>nomatch z) h
 | @tup a j f=>
  cases(show u=Value.ref a from d);obtain⟨_,_,_,p⟩:=(show eC X.prog X.w H s.heap a (.tup j) from I.hok a _ f);obtain⟨o,g,k,_⟩:=p;exact UV PySem.W.kitx_tuple I.jH #[o,g,k] e (λz=>nomatch z) h
 | @dK a l f=>
  cases(show u=Value.ref a from d);obtain⟨_,_,R,_,p⟩:=(show eC X.prog X.w H s.heap a (.dK l) from I.hok a _ f);obtain⟨o,F,G,g,k,_⟩:=p;exact UV PySem.W.kitx_dict I.jH #[o,g,k.1] e (λz=>nomatch z) h
 | @dT a l f=>
  cases(show u=Value.ref a from d);obtain⟨_,_,j,_,o,F,G,g,k,_⟩:=(show eC X.prog X.w H s.heap a (.dT l) from I.hok a _ f);exact UV PySem.W.kitx_dict I.jH #[o,g,k.1] e (λz=>nomatch z) h
 | @ins a C S fs f m L M htk N=>
  rfl';cases(show u=Value.ref a from d);obtain⟨U,O,_⟩:=tK I.hok f;obtain⟨Y,J,_⟩:=O.look;ac_rfl;exact UV (PySem.W.kitx_own (m.get _) m.hd L M htk N) I.jH J e (λz=>nomatch z) h
end
structure cP (k:Nat) (A:Around):Prop where
 hd:A.handled=none
 dp:A.depth+3*k+5<recursionLimit
 un:A.units+16*k+200<cLine
theorem cP.mono(r:cP k A)(h:j<=k):cP j A:=#[r.hd,by have:=r.dp;lia,by have:=r.un;lia]
theorem cP.deeper(r:cP (k+1) A)(env:Env):cP k (A.deeper env):=
 #[r.hd,by have:=r.dp;show A.depth+1+3*k+5<_;lia,by have:=r.un;show A.units+3+16*k+200<_;lia]
theorem EB{A:Around}:(A.under (.builtin "type.__call__" #[.ref C::a,b])).depth=A.depth+1:=by
 first|rfl|simp[Around.under,Code.weight,Code.isCreation,Code.isGuard,Code.isCaller,Code.frames,Code.isFrame,guardIds]
theorem EC{A:Around}:(A.under (.builtin "type.__call__" #[.ref C::a,b])).units=A.units+1:=by
 first|rfl|simp[Around.under,Code.cUnits,Code.frames,Code.isFrame]
theorem cP.make(r:cP (k+1) A)(C:Addr)(a:List Value)(b:List (Str×Value)):cP k (A.under (.builtin "type.__call__" #[.ref C::a,b])):=
 #[r.hd,by have:=r.dp;rw[EB];lia,by have:=r.un;rw[EC];lia]
theorem cP.depth{k:Nat}(r:cP k A):A.depth<recursionLimit:=by have:=r.dp;lia
theorem cP.units{k:Nat}(r:cP k A):A.units+64<cLine:=by have:=r.un;lia
def Sj:TA:=λ_ H Q=>Q [] H
def Vi(b:TE)(c:TA):TA:=λa H Q=>b a H λx d=>c a d λe f=>Q (x::e) f
section
variable {X:Cx} {e:Expr} {es:List Expr} {te:TE} {t:TA} {pos:Pos}
theorem fQ:PA X [] Sj:=λ_ _ _ _ H Q I h=>Calls.spliced_nil #[[],H,I, .nil,h]
theorem cK(d:PE X e te)(f:PA X es t)(g:starEach (e::es) X.env=(false,eval e X.env)::starEach es X.env:=by rfl):PA X (e::es) (Vi te t):=by
 intro b a s c H Q I h;rw[g];show wpAny _ _ (spliced ((false,eval e X.env)::backTo b (starEach es X.env))) _ _ s;refine Calls.spliced_cons (thn (d a s c H _ I h) λu i j=>?_);rfl';obtain⟨x,l,m,n,o⟩:=j;ac_rfl;exact thn (f b a i c l _ m o) λz A #[p,q,r,v,w]=>#[x::p,q,r, .cons n v,w]
def Y7(t:TA):TE:=λc H Q=>t c H λa b=>a.length<=sizeLine/\∀p,b p=none->Q (.ref p) (upd b p (.tup a))
def Y2(t:TA):TE:=λc H Q=>t c H λa b=>a.length<=sizeLine/\∀p,b p=none->Q (.ref p) (upd b p (.lst a))
theorem Iy{x1}(h:PA X es t):PE X (.Tuple es x1 pos) (Y7 t):=by
 intro a s g H Q I i;refine wpAny_Tuple_spliced (thn (h pos a s g H _ I i) λj c #[k,d,f,r,z,q]=>#[r.length▸z,?_]);have l:d c.heap.objs.size=none:=f.hok.fresh (bb _);refine#[.ref c.heap.objs.size,upd d c.heap.objs.size (.tup k),f.laid (t':=c.toks) (λb u e=>tz _ e) (bb _) ?_,rfl,q _ l];exact#[z,j,r,#[_,GE _ rfl,rfl,_,rfl]]
theorem Iw(h:PA X es t):PE X (.List es pos) (Y2 t):=by
 intro a s g H Q I i;refine wpAny_List_spliced (thn (h pos a s g H _ I i) λj c #[k,d,f,r,z,q]=>#[r.length▸z,?_]);have l:d c.heap.objs.size=none:=f.hok.fresh (bb _);refine#[.ref c.heap.objs.size,upd d c.heap.objs.size (.lst k),f.laid (t':=c.toks) (λb u e=>tz _ e) (bb _) ?_,rfl,q _ l];exact#[z,j,0,r,GE _ rfl]
end
abbrev Sp:=List V->Hp->VK->XK->Prop
abbrev uC:=List Env->Hp->Shared->XK->Value->Shared->Prop
structure Env0 (P:Program) (w:World) (K:ac) (mg:Str->Option Value) (base:Heap) (A:Around) (outer:List Env) (s:Shared) (H:Hp):Prop where
 frames:A.frames=some outer
 mod:Mod K mg base
 bs:∀b o,base.get? b=some o->s.heap.get? b=some o/\H b=none
 bsz:base.objs.size<=s.heap.objs.size
 funs:s.heap.FunFrames base outer
 frf:∀b∈yk outer,H b=none
 hok:jU P w H s.heap
 bare:AllBare s.gens
def CE(outer:List Env)(P:Program)(w:World)(H:Hp)(s:Shared)(Q:VK)(u:Value)(a:Shared):Prop:=
 ∃v b,a.os=s.os/\AllBare a.gens/\Un (yk outer) [] H b s.heap a.heap/\jU P w b a.heap/\RelV v u/\Q v b
def CR(b:uC)(outer:List Env)(P:Program)(w:World)(H:Hp)(s:Shared)(Q:VK)(E:XK)(r:Result)(a:Shared):Prop:=
 match r with
 | .ok (.ret u)=>CE outer P w H s Q u a
 | .ok _=>False
 | .error e=>b outer H s E e a
structure FnOk (P:Program) (w:World) (K:ac) (mg:Str->Option Value) (base:Heap) (CX:uC) (k:Nat) (f:Addr) (fd:FuncData) (ps:List Str) (sp:Sp):Prop where
 len:∀vs H Q E,sp vs H Q E->vs.length=ps.length
 run:∀(A:Around)(outer:List Env)(s:Shared)(H:Hp)(args:Args)(us:List Value)(vs:List V)(Q:VK)(E:XK),cP k A->Env0 P w K mg base A outer s H->BindsTo s fd args (ps.zip us)->Vals vs us->sp vs H Q E->
  codeAny (model P w) A (.call (.ref f) args) (CR CX outer P w H s Q E) s
theorem FnOk.mono{P:Program}{w:World}{K:ac}{b:Str->Option Value}{base:Heap}{f:Addr}{d:FuncData}(F:FnOk P w K b base c j f d ps e)(h:j<=k):
  FnOk P w K b base c k f d ps e:=#[F.len,λA outer s H a g i Q E l=>F.run A outer s H a g i Q E (l.mono h)]
theorem FnOk.imp{P:Program}{w:World}{K:ac}{base:Heap}{d:uC}{f:Addr}{g i:Sp}(F:FnOk P w K c base d k f e ps g)
  (h:∀a H Q E,i a H Q E->g a H Q E):FnOk P w K c base d k f e ps i:=
 #[λa H Q E q=>F.len a H Q E (h _ _ _ _ q),λA outer s H b j a Q E l m n o p=>F.run A outer s H b j a Q E l m n o (h _ _ _ _ p)]
theorem Env0.make{P:Program}{w:World}{K:ac}{a:Str->Option Value}{base:Heap}{A:Around}{outer:List Env}{s:Shared}{H:Hp}(e:Env0 P w K a base A outer s H)(C:Addr)(b:List Value)(c:List (Str×Value)):
  Env0 P w K a base (A.under (.builtin "type.__call__" #[.ref C::b,c])) outer s H:=#[by first|exact e.frames| (simpa [Around.under,Code.envs,Code.isFrame,pushEnvs] using e.frames),e.mod,e.bs,e.bsz,e.funs,e.frf,e.hok,e.bare]
section
variable {X:Cx} {pins:List (Addr×Obj)} {σ:St} {H:Hp} {s s':Shared}
theorem Inv.jv(I:Inv X pins σ H s):Env0 X.prog X.w X.K X.mg X.base X.A X.stack s H:=
 #[I.ok.frames,I.ok.mod,I.bs,oh I.ok.bsz I.sz,I.stack,I.E9,I.hok,I.bare]
theorem Inv.after(I:Inv X pins σ H s)(h:CE X.stack X.prog X.w H s Q u s'):EP X pins σ Q u s':=by
 obtain⟨v,a,os,bare,un,hok,r,q⟩:=h;obtain⟨c,g,d,t,e⟩:=s';obtain rfl:e=s.os:=os;exact#[v,a,I.call (h':=c) (g':=g) (d':=d) (t':=t) (ch:= []) un hok bare (λb z=>absurd z (by simp)),r,q]
end
def Vh(a:Sp)(b:List V)(E:XK)(t:TA):TE:=λc H Q=>t c H λd e=>a (d++b) e Q E
def Hj(C:Addr)(m:Str)(d:Sp)(e:List V)(E:XK)(f:TE)(t:TA):TE:=λb H Q=>f b H λx c=>∃a g fs,x= .ref a/\c a=some (.ins C g fs)/\fs.lookup m=none/\
 t b c λh i=>d (x::(h++e)) i Q E
def Vk(C:Addr)(c:Sp)(d:List V)(E:XK)(t:TA):TE:=λe H Q=>t e H λf b=>∀x a,b x=none->b a=none->a≠x->
 c (.ref x::(f++d)) (upd (upd b a (.own x)) x (.ins C a [])) (λv g=>v= .non/\Q (.ref x) g) E
def Binds(K:ac)(d:FuncData)(b:List Str)(c:List Value):Prop:=
 ∀(s:Shared)(a:List Value),K.In s.heap->(a++c).length=b.length->BindsTo s d #[a,[]] (b.zip (a++c))
theorem Binds.all{K:ac}{c:FuncData}{b:List Str}(h:∀a:List Value,a.length=b.length->bindArgs c #[a,[]]=pure (b.zip a)):Binds K c b []:=λs a _ d=>by
 rw[f7] at d ⊢;exact .of_eq (h a d)
def Passes(c:uC)(X:Cx)(E:XK):Prop:=∀(a:List (Addr×Obj))(d:St)(H:Hp)(s:Shared)(e:Value)(b:Shared),Inv X a d H s->c X.stack H s E e b->X.xe e b
section
variable {X:Cx} {CX:uC} {k:Nat} {f C:Addr} {fd:FuncData} {ps:List Str} {sp:Sp} {bC:List V} {ds:List Value} {E:XK} {x m:Str} {p pos apos:Pos} {e o:Expr} {es:List Expr} {ta:TE} {t:TA}
theorem CG{pins:List (Addr×Obj)}{σ:St}{H:Hp}{s:Shared}{Q:VK}{us:List Value}{vs:List V}(F:FnOk X.prog X.w X.K X.mg X.base CX k f fd ps sp)(hr:cP k X.A)(hb:Binds X.K fd ps ds)(hd:Vals bC ds)(hx:Passes CX X E)
  (I:Inv X pins σ H s) (r:Vals vs us) (h:sp (vs++bC) H Q E):wpAny (model X.prog X.w) X.A (call (.ref f) us) (EP X pins σ Q) X.xe s:=by
 have r2:Vals (vs++bC) (us++ds):=r.append hd;have hl:(us++ds).length=ps.length:=by rw[<-r2.length];exact F.len _ _ _ _ h
 refine wpAny_call (codeAny_mono (F.run X.A X.stack s H #[us,[]] (us++ds) (vs++bC) Q E hr I.jv (hb s us I.jH hl) r2 h) λr s' hq=>?_);cases r with
 |error e=>exact hx pins σ H s e s' I hq
 |ok fl=>
  cases fl with
  |ret u=>exact I.after hq
  |next=>exact False.elim hq
  |brk=>exact False.elim hq
  |cont=>exact False.elim hq
theorem pL(F:FnOk X.prog X.w X.K X.mg X.base CX k f fd ps sp)(c:cP k X.A)(d:Gl X x)(g:X.mg x=some (.ref f))(i:ar X.K (.ref f)=true)(j:Binds X.K fd ps ds)(l:Vals bC ds)(n:Passes CX X E)
  (u:PA X (e::es) t) (v:(x==("__debug__":Str))=false:=by decide) (y:starEach (e::es) X.env=(false,eval e X.env)::starEach es X.env:=by rfl) (z:(backTo pos (starEach es X.env)).any (·.1)=false:=by rfl):
  PE X (.Call (.Name x p) (e::es) [] pos) (Vh sp bC E t):=by
 intro a s B H Q I h;refine aaH (yz I d g ?_ v);refine abG (h₀:=X.base) I.ok.mod.kin i (thn (u pos a s B H _ I h) λG J #[L,M,b,r,q]=>#[b.jH,?_]) y z;exact CG F c j l n b r q
theorem NB{pl:Sem Bool}(v:PE X o ta)(c:xu X.K C)(d:Meth X.K C m f)(F:FnOk X.prog X.w X.K X.mg X.base CX k f fd ps sp)(y:cP k X.A)(z:Binds X.K fd ps ds)(B:Vals bC ds)(G:Passes CX X E)(J:PA X (e::es) t)
  (L:starEach (e::es) X.env=(false,eval e X.env)::starEach es X.env:=by rfl) (M:(backTo pos (starEach es X.env)).any (·.1)=false:=by rfl)
  (N:eval (.Call (.Attribute o m apos) (e::es) [] pos) X.env=(do
   let g <-eval o X.env
   standAt apos.atName
   let (f,first) <-holding [g] (getMethod g m pl)
   callWith pos f first (backTo pos (starEach (e::es) X.env)) (backToKw pos (keywordEach [] X.env))):=by rfl):
  PE X (.Call (.Attribute o m apos) (e::es) [] pos) (Hj C m sp bC E ta t):=by
 intro b s i H Q I h;refine PySem.W.methodCall_KW (pl:=pl) (thn (v b s i H _ I h) λu O #[x,P,j,R,a,Y,fs,S,T,l,q]=>?_) N;subst S;obtain rfl:u=Value.ref a:=R;refine vR j T c d l ?_;refine abG (first:= [.ref a]) (h₀:=X.base) I.ok.mod.kin d.kp (thn (J pos b O i P _ j q) λus Z #[vs,p,n,r,U]=>#[n.jH,?_]) L M;exact CG (us:= .ref a::us) (vs:= .ref a::vs) F y z B G n (.cons rfl r) U
theorem Bi{pl:Sem Bool}(j:PE X o ta)(c:xu X.K C)(g:Meth X.K C m f)(F:FnOk X.prog X.w X.K X.mg X.base CX k f fd ps sp)(n:cP k X.A)(r:Binds X.K fd ps ds)(v:Vals bC ds)(y:Passes CX X E)
  (z:eval (.Call (.Attribute o m apos) [] [] pos) X.env=(do
   let i <-eval o X.env
   standAt apos.atName
   let (f,first) <-holding [i] (getMethod i m pl)
   callWith pos f first (backTo pos (starEach [] X.env)) (backToKw pos (keywordEach [] X.env))):=by rfl):
  PE X (.Call (.Attribute o m apos) [] [] pos) (Hj C m sp bC E ta Sj):=by
 intro b s B H Q I h;refine PySem.W.methodCall_KW (pl:=pl) (thn (j b s B H _ I h) λu M #[x,N,d,G,a,O,fs,J,L,l,q]=>?_) z;subst J;obtain rfl:u=Value.ref a:=G;refine vR d L c g l ?_;exact PySem.W.callWith_K0 (first:= [.ref a]) d.jH g.kp (CG (us:= [.ref a]) (vs:= [.ref a]) F n r v y d (.cons rfl .nil) q)
structure Mk (K:ac) (C f:Addr):Prop where
 makes:cy K C=true
 init:am K (.ref C) "__init__"=some (some (.ref f))
 fn:bD K (.ref f)=true
 kp:ar K (.ref C)=true
theorem KA{pins:List (Addr×Obj)}{σ:St}{H:Hp}{s:Shared}{Q:VK}{us:List Value}{vs:List V}(M:Mk X.K C f)(F:FnOk X.prog X.w X.K X.mg X.base CX k f fd ps sp)(hr:cP (k+1) X.A)(hb:Binds X.K fd ps ds)(hd:Vals bC ds)
  (hx:Passes CX X E) (I:Inv X pins σ H s) (r:Vals vs us)
  (h:∀x dx,H x=none->H dx=none->dx≠x->sp (.ref x::(vs++bC)) (upd (upd H dx (.own x)) x (.ins C dx [])) (λv H2=>v= .non/\Q (.ref x) H2) E):
  wpAny (model X.prog X.w) X.A (call (.ref C) us) (EP X pins σ Q) X.xe s:=by
 have hq:=h (s.heap.objs.size+1) s.heap.objs.size (I.hok.fresh (nF _)) (I.hok.fresh (bb _)) (bV (zR _));have I2:=Inv.made (C:=C) I;have r2:Vals (V.ref (s.heap.objs.size+1)::(vs++bC)) (Value.ref (s.heap.objs.size+1)::(us++ds)):= .cons rfl (r.append hd)
 have hl:(Value.ref (s.heap.objs.size+1)::us++ds).length=ps.length:=by
  have e:=r2.length;rw[F.len _ _ _ _ hq] at e;exact e.symm
 refine wpAny_call (J7 (f:=f) I.jH M.makes M.init (beq_iff_eq.mp M.fn) (codeAny_mono (F.run _ X.stack _ _ #[Value.ref (s.heap.objs.size+1)::us,[]] (Value.ref (s.heap.objs.size+1)::(us++ds)) _ _ E (hr.make C us [])
  (I2.jv.make C us []) (hb _ (Value.ref (s.heap.objs.size+1)::us) I2.jH hl) r2 hq) λr s' Eh=>?_))
 cases r with
 |error e=>exact hx pins σ _ _ e s' I2 Eh
 |ok fl=>
  cases fl with
  |ret u=>
   rfl';obtain⟨v,H',I3,rv,ev,q3⟩:=I2.after Eh;subst ev;ac_rfl;exact#[rv,#[V.ref (s.heap.objs.size+1),H',I3,rfl,q3]]
  |next=>exact False.elim Eh
  |brk=>exact False.elim Eh
  |cont=>exact False.elim Eh
theorem NA(M:Mk X.K C f)(F:FnOk X.prog X.w X.K X.mg X.base CX k f fd ps sp)(c:cP (k+1) X.A)(d:Gl X x)(g:X.mg x=some (.ref C))(i:Binds X.K fd ps ds)(j:Vals bC ds)(l:Passes CX X E)
  (n:PA X (e::es) t) (u:(x==("__debug__":Str))=false:=by decide) (v:starEach (e::es) X.env=(false,eval e X.env)::starEach es X.env:=by rfl) (y:(backTo pos (starEach es X.env)).any (·.1)=false:=by rfl):
  PE X (.Call (.Name x p) (e::es) [] pos) (Vk C sp bC E t):=by
 intro a s z H Q I h;refine aaH (yz I d g ?_ u);refine abG (h₀:=X.base) I.ok.mod.kin M.kp (thn (n pos a s z H _ I h) λB G #[J,L,b,r,q]=>#[b.jH,?_]) v y;exact KA M F c i j l b r q
end
section
variable {X:Cx} {CX:uC} {k:Nat} {f C:Addr} {fd:FuncData} {ps ks:List Str} {sp:Sp} {E:XK} {x m:Str} {p pos apos aak:Pos} {e o:Expr} {es:List Expr} {kws:List Keyword} {te ta:TE} {t tk:TA} {nm:Option Str}
variable {g:List Value->List Value->List Value} {gV:List V->List V->List V}
end
structure aO (N P:List Str) (sc:Scope):Prop where
 kind:sc.kind= .function
 co:sc.isCoroutine=false
 gen:sc.isGenerator=false
 nd:N.Nodup
 pre:N.take P.length=P
 par:∀x∈P,sc.names.lookup x=some .local\/sc.names.lookup x=some .cell
 nofree:∀y∈sc.names,y.2≠ .free
theorem xJ{kindOf:Str->Option NameKind}{x:Str}:∀{binds:List (Str×Value)}{m:Str->Option Value},(∀v,(x,v)∉binds)->bindL kindOf binds m x=m x
 | [],_,_=>rfl
 | (n,v)::r,m,h=>by
  unfold bindL;rw[xJ λw hw=>h w (bP _ hw)]
  split
  .have:x≠n:=by rintro rfl;exact h v bB
   simp[this]
  .rfl
theorem xH{kindOf:Str->Option NameKind}{x:Str}:∀{binds:List (Str×Value)}{m:Str->Option Value},(∀v,(x,v)∉binds)->bindC kindOf binds m x=m x
 | [],_,_=>rfl
 | (n,v)::r,m,h=>by
  unfold bindC;rw[xH λw hw=>h w (bP _ hw)]
  split
  .rfl
  .have:x≠n:=by rintro rfl;exact h v bB
   simp[this]
theorem xI{kindOf:Str->Option NameKind}{x:Str}{v:Value}:∀{P:List Str}{a:List Value}{i:Nat}{m:Str->Option Value},P.Nodup->P[i]? =some x->a[i]? =some v->kindOf x=some .local->
  bindL kindOf (P.zip a) m x=some v
 | [],_,_,_,_,h,_,_=>by simp at h
 |_::_,[],_,_,_,_,h,_=>by simp at h
 |p::P,w::a,0,m,d,b,c,e=>by
  simp at b c;subst b;subst c;show bindL kindOf ((p,w)::P.zip a) m p=_;unfold bindL;rw[xJ λv f=>(bS.mp d).1 (ab3 f).1,ls e];simp
 |p::P,w::a,i+1,m,d,b,c,e=>by
  show bindL kindOf ((p,w)::P.zip a) m x=_;unfold bindL;exact xI (i:=i) (bS.mp d).2 (by simpa using b) (by simpa using c) e
theorem xG{kindOf:Str->Option NameKind}{x:Str}{v:Value}:∀{P:List Str}{a:List Value}{i:Nat}{m:Str->Option Value},P.Nodup->P[i]? =some x->a[i]? =some v->kindOf x≠some .local->
  bindC kindOf (P.zip a) m x=some v
 | [],_,_,_,_,h,_,_=>by simp at h
 |_::_,[],_,_,_,_,h,_=>by simp at h
 |p::P,w::a,0,m,d,b,c,e=>by
  simp at b c;subst b;subst c;show bindC kindOf ((p,w)::P.zip a) m p=_;unfold bindC;rw[xH λv f=>(bS.mp d).1 (ab3 f).1,ir e];simp
 |p::P,w::a,i+1,m,d,b,c,e=>by
  show bindC kindOf ((p,w)::P.zip a) m x=_;unfold bindC;exact xG (i:=i) (bS.mp d).2 (by simpa using b) (by simpa using c) e
def start(N:List Str)(a:List V):St:=a.map some++ak (N.length-a.length) none
def vL(g:uC)(P:Program)(w:World)(K:ac)(mg:Str->Option Value)(base:Heap)(N:List Str)(b:Str)(a:Scope)(f:Addr)(c:Value)(A:Around)(outer:List Env)(s:Shared)(H:Hp)(E:XK):Cx where
 prog:=P
 w:=w
 K:=K
 mg:=mg
 base:=base
 A:=A.deeper (envOfC b a s.heap.objs.size f c)
 N:=N
 s₀:=s
 H₀:=H
 env:=envOfC b a s.heap.objs.size f c
 outer:=outer
 stack:=envOfC b a s.heap.objs.size f c::outer
 ex:= []
 calm:=true
 fn:=λ_=>true
 pn:= []
 xe:=λe h=>wpAny (model P w) (A.deeper (envOfC b a s.heap.objs.size f c)) (leaving (envOfC b a s.heap.objs.size f c) e) (λ_ d=>g outer H s E e d) (λi d=>g outer H s E i d) h
theorem AJ{a:Scope}{n:Nat}(h:a.names.lookup x=some .cell):∃c,(cellsFrom n a.names []).lookup x=some c:=by
 have q:=aca a.names n [] (.inl h);exact Option.isSome_iff_exists.mp q
theorem Gh{M:uC}{P:Program}{w:World}{K:ac}{I:Str->Option Value}{base:Heap}{N m:List Str}{g:Str}{d:Scope}{f:Addr}{C:Value}{A:Around}{outer:List Env}{s O:Shared}{H:Hp}{E:XK}{J:List Value}{o:List V}
  (S:aO N m d) (U:A.handled=none) (l:Env0 P w K I base A outer s H) (Z:o.length=m.length) (r:Vals o J)
  (x:InCallC s s.heap.objs.size (bindL (envOfC g d s.heap.objs.size f C).kindOf (m.zip J) λ_=>none) (cellsFrom (s.heap.objs.size+1) d.names []) (bindC (envOfC g d s.heap.objs.size f C).kindOf (m.zip J) λ_=>none) O):
  Inv (vL M P w K I base N g d f C A outer s H E) [] (start N o) H O:=by
 have eX:m.length<=N.length:=by have:=FS bi S.pre;rw[gO] at this;lia
 obtain⟨F,tk,rfl,Q⟩:=x.done;have L:∀b:Addr,b∉(vL M P w K I base N g d f C A outer s H E).ex:=λb z=>absurd (show b∈([]:List Addr) from z) (by simp)
 refine#[#[l.mod,S.kind,rfl,rfl,bb _,λy z c F j=>?_,λy t=>?_,λy c _ h=>?_,λ_=>U,Around.frames_deeper l.frames, .inr #[rfl,rfl],λb z=>absurd z (L b),l.bs,l.bsz,λb _ _=>L b,λb z=>absurd z (L b),l.funs,l.frf],
  rfl,l.bare,Un.kept Q,#[_,x.toInCall.ns,λi y v F j h3=>?_],λy c h=>#[_,x.cell y c h],l.hok.fresh (bb _),λy c h=>?_,λp B=>absurd (show p∈([]:List (Addr×Obj)) from B) (by simp),l.hok.kept Q,?_]
 .exact name_of_addr x.apart (aaw F) (aaw j)
 .have t:d.names.lookup y=some .cell\/d.names.lookup y=some .free:=t
  rcases t with t|t
  .exact AJ t
  .exact absurd rfl (S.nofree _ (aaw t))
 .exact sU (x.above y c (aaw h))
 .have G:i<o.length:=by
   unfold start at j
   by_cases G:i<o.length
   .exact G
   .rw[lE (by simpa using G)] at j
    rw[zX] at j
    split at j<;>cases j
  have X:o[i]? =some v:=by
   unfold start at j;rw[mI (by simpa using G),b7] at j
   cases e:o[i]? with
   |none=>rw[e] at j;cases j
   |some a=>rw[e] at j;cases j;rfl
  obtain⟨u,R,Y⟩:=r.get X
  have B:m[i]? =some y:=by
   rw[<-S.pre,C7 (by lia)];exact F
  have T:m.Nodup:=by rw[<-S.pre];exact S.nd.sublist (List.take_sublist _ _)
  exists u,Y
  rcases S.par y (dM B) with k|k
  .exact .inl #[k,xI T B R k]
  .obtain⟨c,e⟩:=AJ (n:=s.heap.objs.size+1) k
   refine .inr #[.inl k,c,e,?_];have q:=x.cell y c e;rw[xG T B R (by show d.names.lookup y≠_;rw[k];decide)] at q
   exact q
 .exact l.hok.fresh (sU (x.above y c (aaw h)))
 .unfold start
  show _=N.length;rw[cE,aG,zZ];lia
theorem TB{B:uC}{P:Program}{w:World}{K:ac}{C:Str->Option Value}{base:Heap}{k:Nat}{f:Addr}{i c:Str}{d:Arguments}{g:List Stmt}{a:Scope}{U kV p X l Y oc:Value}{Z od:Option Addr}
  {EJ:Array (Option Value)} {N F:List Str} {L:Sp} (lk:K.lookup f=some #[oc,od, .func (bj i c d g a U kV p X Z l Y),EJ]) (eE:bd K l c=true) (S:aO N F a)
  (len:∀h H Q E,L h H Q E->h.length=F.length)
  (rX:∀(A:Around)(outer:List Env)(s:Shared)(H:Hp)(h:List V)(Q:VK)(E:XK),cP k (A.deeper (envOfC c a s.heap.objs.size f l))->L h H Q E->
   ∃t,oj (vL B P w K C base N c a f l A outer s H E) g t/\t {nx:=λ_ j=>Q .non j,rt:=Q} (start N h) H):
  FnOk P w K C base B (k+1) f (bj i c d g a U kV p X Z l Y) F L:=by
 refine#[len,λA outer s H args us h Q E M z hb r Ei=>?_];have hl:=len _ _ _ _ Ei;have KX:K.In s.heap:=z.mod.kin.keeps λb o e=>(z.bs b o e).1;have O:s.heap.NoLimit:=z.mod.nolimit.keeps λb o e=>(z.bs b o e).1
 have Ub:∀y∈F.zip us,a.names.lookup y.1=some .local\/(a.names.lookup y.1=some .cell/\((cellsFrom (s.heap.objs.size+1) a.names []).lookup y.1).isSome=true):=λ#[n,v] hy=>by
  rcases S.par n (ab3 hy).1 with q|q
  .exact .inl q
  .exact .inr #[q,aca _ _ _ (.inl q)]
 refine codeAny_call_function M.depth (KX _ _ lk) rfl S.co S.gen rfl (PySem.W.codeRec_of KX eE) (hb _ _ _ _ ?_);refine wpAny_newFunctionEnv_cells S.kind Ub λenv he s1 x=>?_;subst he;obtain⟨t,ht,hq⟩:=rX A outer s H h Q E (M.deeper _) Ei;refine#[O.keeps x.toInCall.keep,codeAny_func ?_];have I:Inv (vL B P w K C base N c a f l A outer s H E) [] (start N h) H s1:=Gh S M.hd z hl r x;refine wpAny_mono (ht [] s1 (start N h) H _ I hq) (λfl R m=>?_) λe R m=>m
 have fin:∀{G:St}{j:Hp}{v:V}{u:Value},Inv (vL B P w K C base N c a f l A outer s H E) [] G j R->RelV v u->Q v j->CE outer P w H s Q u R:=
  λ {G j v u} J T q=>#[v,j,J.os,J.bare,J.base,J.hok,T,q]
 cases fl with
 |ret u=>
  obtain⟨v,G,j,J,T,q⟩:=m;exact fin J T q
 |next=>
  obtain⟨G,j,J,q⟩:=m;exact fin (v:=V.non) (u:=Value.none) J rfl q
 |brk=>
  obtain⟨_,_,_,q⟩:=m;exact False.elim q
 |cont=>
  obtain⟨_,_,_,q⟩:=m;exact False.elim q
section
variable {X:Cx} {x:Str} {p pos:Pos} {e:Expr} {es:List Expr} {t:TA} {id T:String} {r:List V->Hp->VK->Prop}
def YY(r:List V->Hp->VK->Prop)(t:TA):TE:=λa H Q=>t a H λb c=>r b c Q
theorem vc(c:cB X (.builtin id) r)(d:Gl X x)(f:X.mg x=none)(g:bootBuiltins x=some (.builtin id))(i:PA X (e::es) t)(j:x≠"__name__":=by decide)(k:(x==("__debug__":Str))=false:=by decide)
  (l:starEach (e::es) X.env=(false,eval e X.env)::starEach es X.env:=by rfl) (m:(backTo pos (starEach es X.env)).any (·.1)=false:=by rfl):PE X (.Call (.Name x p) (e::es) [] pos) (YY r t):=by
 intro a s b H Q I h;refine aaH (qD I d f g ?_ j k);exact PyProof.Rows.callWith_builtin1 (thn (i pos a s b H _ I h) λn o #[q,u,v,w,y]=>c a o b u q n Q v w y) l m
theorem GJ(c:cB X (.type T) r)(d:Gl X x)(f:X.mg x=none)(g:bootBuiltins x=some (.type T))(i:PA X (e::es) t)(j:x≠"__name__":=by decide)(k:(x==("__debug__":Str))=false:=by decide)
  (l:starEach (e::es) X.env=(false,eval e X.env)::starEach es X.env:=by rfl) (m:(backTo pos (starEach es X.env)).any (·.1)=false:=by rfl):PE X (.Call (.Name x p) (e::es) [] pos) (YY r t):=by
 intro a s b H Q I h;refine aaH (qD I d f g ?_ j k);exact aaL (thn (i pos a s b H _ I h) λn o #[q,u,v,w,y]=>c a o b u q n Q v w y) l m
end
end L2
namespace HT
open PySem PyProof.Rows
def lexLt:List Int->List Int->Bool
 | [],[]=>false
 | [],_::_=>true
 |_::_,[]=>false
 |x::a,y::b=>if x=y then lexLt a b else decide (x<y)
theorem k8(x y:Int)(a b:List Int):lexLt (x::a) (y::b)=if x=y then lexLt a b else decide (x<y):=rfl
theorem yC:lexLt [] []=false:=rfl
theorem wN(y:Int)(a:List Int):lexLt [] (y::a)=true:=rfl
theorem wM(x:Int)(a:List Int):lexLt (x::a) []=false:=rfl
theorem JA(A:Around)(s:Shared)(a:Int)(t:Tok)(c:Int)(u:Tok):∃e,SeqAt.EqAt A s (.int a t) (.int c u) e/\(e=true↔a=c):=
 #[(a==c),aaS a t c u,by simp]
theorem Kv(A:Around)(s:Shared)(a:Int)(t:Tok)(c:Int)(u:Tok)(prog:Program)(w:World)(E:Value->Shared->Prop)(Q:Value->Shared->Prop)(h:Q (.bool (decide (a<c))) s):
  wpAny (model prog w) A (richCompare .Lt (.int a t) (.int c u)) Q E s:=
 (PyProof.Rows.lt_int h:wpAny (model prog w) A (compareOp .Lt (.int a t) (.int c u)) Q E s)
section
open PySem.SeqAt
open PySem.AutoSeq1 (wpAny_loadPart')
open PySem.MeetsSeq PySem.MeetsSeq2 PySem.MeetsSeq3
end
section
variable {prog:Program} {w:World} {A:Around} {E:Value->Shared->Prop} {s:Shared}
theorem Lk(r:IsTup s.heap t c.toArray)(u:IsTup s.heap b a.toArray)(h:c≠ [])
  (v:a= []->Q (.ref t) s) (x:a≠ []->Q (.ref s.heap.objs.size) {s with heap:=s.heap.push {cls:= .type "tuple",data:= .seq (c++a).toArray}})
  (y:c.length+a.length<=sizeLine):wpAny (model prog w) A (binaryOp .Add (.ref t) (.ref b)) Q E s:=by
 rfl';obtain⟨⟨cls,i,data,j⟩,f,k,n,l⟩:=id r;obtain⟨⟨C,m,data2,o⟩,g,p,q,d⟩:=id u;ac_rfl;simp only at k l p d;subst k l p d;have e:c.toArray++a.toArray=(c++a).toArray:=by simp
 by_cases hw:a= []
 .exact concat_meets #[_,f,rfl] #[_,g,rfl] noFill_tuple_add seq_tuple_add acb abZ (abT _ _)
   (tuple_addW1 t b c.toArray a.toArray n q i m j o (by simpa using h) (by simp[hw])) #[f,g,v hw]
 .refine concat_meets #[_,f,rfl] #[_,g,rfl] noFill_tuple_add seq_tuple_add acb abZ (abT _ _)
   (tuple_addW2 t b c.toArray a.toArray n q i m j o (by simpa using h) (by simpa using hw) (by rw[dN,dN];exact y)) #[f,g,?_]
  rw[e];exact x hw
def cA(n d:Nat):Option Int->Nat
 |none=>d
 |some v=>if v<0 then(v+(n:Int)).toNat else min v.toNat n
theorem QP(n d:Nat)(b:d<=n)(o:Option Int):cA n d o<=n:=by
 cases o with
 |none=>exact b
 |some v=>
  show(if v<0 then(v+(n:Int)).toNat else min v.toNat n)<=n
  by_cases a:v<0
  .rw[ls a];lia
  .rw[ir a];exact Nat.min_le_right _ _
theorem DM(v:Int)(n d:Nat):(if v<0 then max (v+(n:Int)) 0 else min v (n:Int))=((cA n d (some v):Nat):Int):=by
 show(if v<0 then max (v+(n:Int)) 0 else min v (n:Int))=(((if v<0 then(v+(n:Int)).toNat else min v.toNat n):Nat):Int)
 by_cases a:v<0
 .simp only[ls a];lia
 .simp only[ir a];lia
theorem Ds(lo a:Option Int)(n:Nat):Builtin.Slice.sliceAdjust lo a 1 (n:Int)=(((cA n 0 lo:Nat):Int),((cA n n a:Nat):Int)):=by
 have b:¬((1:Int)<0):=by lia
 unfold Builtin.Slice.sliceAdjust;simp only[b,M2];refine PP ?_ ?_
 .cases lo with
  |none=>rfl
  |some v=>exact DM v n 0
 .cases a with
  |none=>rfl
  |some v=>exact DM v n n
theorem ER(i j:Nat):Builtin.Slice.slicePlaces (i:Int) (j:Int) 1=j-i:=by
 unfold Builtin.Slice.slicePlaces;have a:(1:Int)>0:=by lia
 simp only[a,aax,Int.ediv_one]
 split<;>lia
theorem wc(p:IsPart v o)(h:Q o s):wpAny (model prog w) A (Builtin.Slice.slicePartIndex v) Q E s:=by
 cases p with
 |none=>exact slicePart_none h
 |int i t=>exact slicePart_int h
theorem uh{f:Addr}{b c:Value}{lo a:Option Int}{n:Nat}{Q:Int×Int×Nat->Shared->Prop}(g:s.heap.IsSliceOf f b c .none)(pl:IsPart b lo)(i:IsPart c a)
  (h:Q (((cA n 0 lo:Nat):Int),1,cA n n a-cA n 0 lo) s):wpAny (model prog w) A (Builtin.Slice.sliceApplied (.ref f) (pure (n:Int))) Q E s:=by
 rfl';obtain⟨os,d,l,e⟩:=id g;ac_rfl;unfold Builtin.Slice.sliceApplied Builtin.Slice.sliceFields;refine be (be (wpAny_field d e (x:=b) rfl (be (wpAny_field d e (x:=c) rfl (be (wpAny_field d e (x:= .none) rfl (mo ?_)))))));refine be (slicePart_none ?_);rw[ir (by decide)]
 refine be (wc pl (be (wc i (be (mo ?_)))));show wpAny _ _ (match Builtin.Slice.sliceAdjust lo a 1 (n:Int) with| (lo,a)=>pure (lo,(1:Int),Builtin.Slice.slicePlaces lo a 1)) _ _ s
 rw[Ds lo a n];show wpAny _ _ (pure (((cA n 0 lo:Nat):Int),(1:Int),Builtin.Slice.slicePlaces ((cA n 0 lo:Nat):Int) ((cA n n a:Nat):Int) 1)) _ _ s;rw[ER];exact mo h
theorem Kk(a:Array Value)(i k:Nat):((ad k).filterMap λ(m:Nat)=>a[((i:Int)+(m:Int)*1).toNat]?).toArray=((a.toList.drop i).take k).toArray:=by
 have e:(λ(m:Nat)=>a[((i:Int)+(m:Int)*1).toNat]?)=λm=>a[i+m]? :=by
  funext m
  have:((i:Int)+(m:Int)*1).toNat=i+m:=by lia
  rw[this]
 rw[e]
 have:=pick_run a i k
 rw[List.filterMap_map] at this;have b:((λx=>a[x]?)∘λx=>i+x)=λm=>a[i+m]? :=rfl;rw[b] at this;rw[this]
theorem rV{t e:Addr}{a:Array Value}{g i:Value}{lo b:Option Int}{Q:Value->Shared->Prop}(c:IsTup s.heap t a)(j:s.heap.IsSliceOf e g i .none)(pl:IsPart g lo)(k:IsPart i b)
  (hw:¬(cA a.size 0 lo=0/\cA a.size a.size b=a.size))
  (h:Q (.ref s.heap.objs.size) {s with heap:=s.heap.push {cls:= .type "tuple",data:= .seq ((a.toList.drop (cA a.size 0 lo)).take (cA a.size a.size b-cA a.size 0 lo)).toArray}})
  (p:a.size<=sizeLine):wpAny (model prog w) A (getItem (.ref t) (.ref e)) Q E s:=by
 have d:sizeOk (.seq ((a.toList.drop (cA a.size 0 lo)).take (cA a.size a.size b-cA a.size 0 lo)).toArray):=by
  show((a.toList.drop (cA a.size 0 lo)).take (cA a.size a.size b-cA a.size 0 lo)).toArray.size<=sizeLine;rw[dN,gO,qr,cD];lia
 have r:cA a.size a.size b<=a.size:=QP _ _ (bb _) b;obtain⟨os,l,n,u⟩:=id j;have f:s.TypeIs (.ref e) "slice":=#[os,l,n];unfold getItem
 try with_reducible refine wpAny_holding ?_
 first|refine wpAny_bind (wpAny_pure ?_) |skip
 refine wpAny_bind (wpAny_sequenceKey c.typeIs (by decide) ?_)
 refine wpAny_bind (wpAny_callSpecial?_slot (name:=Str.ofString "__getitem__") c.typeIs PyProof.Rows.slot_tuple_getitem
  (wpAny_call_entry PyProof.Rows.slot_tuple_getitem c.typeIs entry_tuple_getitem ?_ (args_tuple_getitem _ _)))
 show wpAny _ _ (Builtin.Tuple.tupleItemsOf (.ref t)>>=_) _ _ s;refine wpAny_bind (tupleItemsOf_ c ?_);refine wpAny_bind (wpAny_typeOf f ?_);rw[if_pos (by decide)]
 refine wpAny_bind (uh j pl k ?_)
 have o:¬((((cA a.size 0 lo:Nat):Int)==0&&(1:Int)==1&&(cA a.size a.size b-cA a.size 0 lo)==a.size)=true):=by
  intro q;rw[sQ,sQ] at q;have v:((cA a.size 0 lo:Nat):Int)=0:=eq_of_beq q.1.1;have x:cA a.size a.size b-cA a.size 0 lo=a.size:=eq_of_beq q.2;exact hw #[by lia,by lia]
 show wpAny _ _ (if (((cA a.size 0 lo:Nat):Int)==0&&(1:Int)==1&&(cA a.size a.size b-cA a.size 0 lo)==a.size)=true then _ else _) _ _ s;rw[if_neg o,Kk]
 first
  |exact wpAny_bind (m:=Builtin.Tuple.tupleExact _) (wpAny_newObj_type (wpAny_pure #[_,rfl,wpAny_pure h]) d)
  |exact wpAny_bind (m:=Builtin.Tuple.tupleExact _) (wpAny_newObj_type (wpAny_bind (wpAny_pure (wpAny_pure #[_,rfl,wpAny_pure h]))) d)
  |exact wpAny_bind (wpAny_bind (m:=Builtin.Tuple.tupleExact _) (wpAny_newObj_type (wpAny_pure (wpAny_pure #[_,rfl,wpAny_pure h])) d))
  |exact wpAny_bind (wpAny_bind (m:=Builtin.Tuple.tupleExact _) (wpAny_newObj_type (wpAny_pure #[_,rfl,wpAny_pure h]) d))
end
end HT
namespace L2
open PySem PySem.Spec PyProof.Rows
abbrev TO:=St->Hp->(Option Int->Hp->Prop)->Prop
def PO(X:Cx)(e:Option Expr)(t:TO):Prop:=
 ∀(a:List (Addr×Obj))(s:Shared)(b:St)(H:Hp)(Q:Option Int->Hp->Prop),Inv X a b H s->t b H Q->
  wpAny (model X.prog X.w) X.A (evalPart e X.env) (λu d=>∃o c,Inv X a b c d/\IsPart u o/\Q o c) X.xe s
def Ot:TO:=λ_ H Q=>Q none H
def Vn(t:TE):TO:=λa H Q=>t a H λx b=>∃i,x= .int i/\Q (some i) b
theorem intsAre_of:∀{b:List Value},Vals (a.map V.int) b->IntsAre b a:=by
 induction a with
 |nil=>intro b r;rw[qo] at r;cases r;exact .nil
 |cons n a c=>
  intro b r;rw[bT] at r;cases r with
  |cons d f=>
   obtain⟨t,e⟩:=d;subst e;exact .cons n t (c f)
section
variable {X:Cx} {e:Expr} {te:TE} {lo hi:Option Expr} {tl th:TO} {pos p2:Pos}
theorem NM:PO X none Ot:=by
 intro a s b H Q I h;rw[evalPart_none];exact mo #[none,H,I, .none,h]
theorem NN(h:PE X e te):PO X (some e) (Vn te):=by
 intro a s b H Q I hw;rw[evalPart_some];refine thn (h a s b H _ I hw) λu l c=>?_;rfl';obtain⟨x,f,g,j,k⟩:=c;obtain⟨i,rfl,q⟩:=k;obtain⟨t,rfl⟩:=j;ac_rfl;exact#[some i,f,g, .int i t,q]
def Fz(X:Cx)(r:V->Option Int->Option Int->Hp->VK->Prop):Prop:=
 ∀(a:List (Addr×Obj))(s:Shared)(b:St)(H:Hp)(x:V)(v c d:Value)(lo f:Option Int)(g:Addr)(Q:VK),Inv X a b H s->RelV x v->s.heap.IsSliceOf g c d .none->IsPart c lo->IsPart d f->r x lo f H Q->
  ∃T id,typeLookup (.type T) "__getitem__"=pure (some (.builtin id))/\s.TypeIs v T/\wpAny (model X.prog X.w) X.A (getItem v (.ref g)) (EP X a b Q) X.xe s
theorem Fz.or(h:Fz X r)(m:Fz X c):Fz X (λx lo b H Q=>r x lo b H Q\/c x lo b H Q):=by
 intro a s d H x v f g lo b i Q I j k pl l q
 rcases q with q|q
 .exact h a s d H x v f g lo b i Q I j k pl l q
 .exact m a s d H x v f g lo b i Q I j k pl l q
def tSl(r:V->Option Int->Option Int->Hp->VK->Prop)(b:TE)(c d:TO):TE:=λa H Q=>b a H λx f=>c a f λl g=>d a g λu h=>r x l u h Q
theorem Kj(m:Fz X r)(n:PE X e te)(o:PO X lo tl)(p:PO X hi th):PE X (.Subscript e (.Slice lo hi none p2) pos) (tSl r te tl th):=by
 intro a s d H Q I h;refine Subscript_ (thn (n a s d H _ I h) λv t f=>?_);rfl';obtain⟨x,y,z,A,B⟩:=f;ac_rfl;refine wpAny_Slice (thn (o a t d y _ z B) λi C #[l,E,F,pl,G]=>thn (p a C d E _ F G) λj c f=>?_);rfl';obtain⟨u,k,J,L,M⟩:=f;ac_rfl;rw[evalPart_none];refine mo ?_;have N:Inv X a d k {c with heap:=c.heap.push {cls:= .type "slice",data:= .fields [i,j, .none].toArray}}:=J.kept (t':=c.toks) λb S q=>tz _ q
 obtain⟨T,id,O,P,R⟩:=m a {c with heap:=c.heap.push {cls:= .type "slice",data:= .fields [i,j, .none].toArray}} d k x v i j l u c.heap.objs.size Q N A (Heap.IsSliceOf.new ..) pl L M
 exact tail_any (ops:= [.ref c.heap.objs.size,v]) P O R (by with_unfolding_all rfl)
def vK(a:List V)(lo b:Option Int):List V:=(a.drop (HT.cA a.length 0 lo)).take (HT.cA a.length a.length b-HT.cA a.length 0 lo)
theorem sX(a:List V)(lo b:Option Int):(vK a lo b).length<=a.length:=by
 unfold vK;rw[gO,qr];lia
def YH(K:ac):V->Option Int->Option Int->Hp->VK->Prop:=λx lo c H Q=>∃a b,x= .ref a/\fg K H a b/\
 ¬(HT.cA b.length 0 lo=0/\HT.cA b.length b.length c=b.length)/\∀p,H p=none->Q (.ref p) (upd H p (.tup (vK b lo c)))
theorem QR:Fz X (YH X.K):=by
 intro i s u H x v w y lo f z Q I l m pl n h;rfl';obtain⟨a,d,rfl,t,hw,q⟩:=h;subst l;obtain⟨g,r,j,k⟩:=I.tuple t;have c:g.toArray.size=d.length:=by rw[dN];exact r.length.symm
 ac_rfl;exists "tuple",_,abk.lookup,j.typeIs;refine HT.rV j m pl n (by rw[c];exact hw) ?_ (by rw[c];exact k)
 rw[c];refine#[.ref s.heap.objs.size,_,I.laid (t':=s.toks) (o:= .tup (vK d lo f)) (λb B q=>tz _ q) (bb _) ?_,rfl,q _ (I.hok.fresh (bb _))];exact#[oh (sX d lo f) k,_,(r.drop (HT.cA d.length 0 lo)).take (HT.cA d.length d.length f-HT.cA d.length 0 lo),IsTup.new _ _]
def U7(K:ac):R2:=λx y H Q=>∃a b d c,x= .ref a/\y= .ref b/\fg K H a d/\fg K H b c/\d≠ []/\d.length+c.length<=sizeLine/\
 (c= []->Q (.ref a) H)/\(c≠ []->∀p,H p=none->Q (.ref p) (upd H p (.tup (d++c))))
theorem Vals.yM(r:Vals a b):b= []↔a= []:=by
 cases r with
 |nil=>simp
 |cons _ _=>simp
theorem Np:OpR X (binaryOp .Add) (U7 X.K):=by
 intro f s F H x y v u Q I i j h;rfl';obtain⟨a,b,l,m,rfl,rfl,n,p,r,g,t,A⟩:=h;subst i;subst j;obtain⟨B,d,C,_⟩:=I.tuple n;obtain⟨J,c,E,_⟩:=I.tuple p;ac_rfl;refine HT.Lk C E (λz=>r (d.yM.mp z)) (λz=>#[.ref a,H,I,rfl,t (c.yM.mp z)]) (λz=>?_) (by rw[<-d.length,<-c.length];exact g)
 refine#[.ref s.heap.objs.size,_,I.laid (t':=s.toks) (o:= .tup (l++m)) (λb L q=>tz _ q) (bb _) ?_,rfl,A (λw=>z (c.yM.mpr w)) _ (I.hok.fresh (bb _))];exact#[by rw[cE];exact g,_,d.append c,IsTup.new _ _]
end
def lL(n:Nat)(i:Int):Option Nat:=if 0<=i then(if i<n then some i.toNat else none) else if-(n:Int)<=i then some (i+n).toNat else none
def gh{a:Type}(b:List a)(i:Int):Option a:=(lL b.length i).bind λj=>b[j]?
theorem Er(h:lL n i=some j):seqIndex? i n=some j/\j<n/\-(n:Int)<=i/\i<n:=by
 unfold lL at h
 by_cases b:0<=i
 .rw[ls b] at h
  by_cases a:i<n
  .rw[ls a] at h
   have e:i.toNat=j:=Do h;exact#[by rw[seqIndex_of b a,e],by lia,by lia,a]
  .rw[ir a] at h;cases h
 .rw[ir b] at h
  by_cases a: -(n:Int)<=i
  .rw[ls a] at h
   have e:(i+n).toNat=j:=Do h;exact#[by rw[seqIndex_neg (by lia) a,e],by lia,a,by lia]
  .rw[ir a] at h;cases h
theorem Dw(h:gh a i=some v):∃j,seqIndex? i a.length=some j/\a[j]? =some v/\j<a.length/\-(a.length:Int)<=i/\i<a.length:=by
 unfold gh at h;cases e:lL a.length i with
 |none=>rw[e] at h;cases h
 |some j=>
  rw[e] at h;obtain⟨c,d,f,g⟩:=Er e;exact#[j,c,h,d,f,g]
theorem Dx{b:Type}{a:List b}{j:Nat}{v:b}(h:a[j]? =some v):gh a (j:Int)=some v:=by
 have c:j<a.length:=(dQ.mp h).1
 have e:lL a.length (j:Int)=some j:=by
  unfold lL;rw[ls (by lia),ls (by lia)];simp
 unfold gh;rw[e];exact h
def sV(b:Expr):Prop:=∀o i,subscripted b false o i=operate [o,i] (getItem o i)
def Fv(X:Cx)(r:R2):Prop:=
 ∀(c a:Expr)(b:List (Addr×Obj))(s:Shared)(d:St)(H:Hp)(x y:V)(v u:Value)(Q:VK),Inv X b d H s->RelV x v->RelV y u->r x y H Q->
  subscripted a false v u=operate [v,u] (getItem v u)->wpAny (model X.prog X.w) X.A (subscriptTail c a v u) (EP X b d Q) X.xe s
def Ja(X:Cx)(id:String)(r:V->List V->Hp->VK->Prop):Prop:=
 ∀(a:List (Addr×Obj))(s:Shared)(b:St)(H:Hp)(x:V)(c:List V)(v:Value)(d:List Value)(Q:VK),Inv X a b H s->RelV x v->Vals c d->r x c H Q->
  wpAny (model X.prog X.w) X.A (call (.builtin id) (v::d)) (EP X a b Q) X.xe s
section
variable {X:Cx} {a b:Expr} {ta tb:TE} {pos:Pos}
theorem Fv.or(h:Fv X r)(l:Fv X f):Fv X (λx y H Q=>r x y H Q\/f x y H Q):=by
 intro c d e s g H x y v u Q I i j q k
 rcases q with q|q
 .exact h c d e s g H x y v u Q I i j q k
 .exact l c d e s g H x y v u Q I i j q k
theorem GK(d:Fv X r)(e:PE X a ta)(f:PE X b tb)(g:sV b):PE X (.Subscript a b pos) (Ou r ta tb):=by
 intro c s i H Q I h;exact Subscript_ (Lh e f I h λv u j x y k l m n q=>d a b c j i k x y v u Q l m n q (g _ _))
def YB(K:ac):R2:=λx y H Q=>∃p c i v,x= .ref p/\y= .int i/\cY K H p c/\gh c i=some v/\Q v H
def YC(K:ac):R2:=λx y H Q=>∃p c i v,x= .ref p/\y= .int i/\fg K H p c/\gh c i=some v/\Q v H
theorem Es:Fv X (YB X.K):=by
 intro e f c s l H x y v u Q I A B h m;rfl';obtain⟨p,R,i,z,rfl,rfl,E,F,q⟩:=h;subst A;obtain⟨t,rfl⟩:=B;obtain⟨g,r,pl,S⟩:=I.list E;obtain⟨j,d,G,T,J,L⟩:=Dw F;obtain⟨w,n,M⟩:=r.get G;have N:=r.length;have U:=mU;have fin:EP X c l Q w s:=#[z,H,I,M,q];ac_rfl
 by_cases o:0<=i
 .have k:i.toNat=j:=by
   rw[seqIndex_of o L] at d;exact Do d
  exact item_listR pl.isList o (by lia) (by rw[k];simpa using n) fin m
 .have k:(i+(g.toArray.size:Int)).toNat=j:=by
   rw[seqIndex_neg (by lia) J] at d
   rw[dN,<-N];exact Do d
  exact acd (x:=w) pl.isList.typeIs slot_list_getitem.lookup
   (wpAny_getItem_list_neg (Q:=λr O=>r=w/\EP X c l Q r O) pl.isList (by lia) (by rw[dN]<;>lia) (by lia) (by rw[k];simpa using n) #[rfl,fin]) m
theorem Ih:Fv X (YC X.K):=by
 intro d e c s f H x y v u Q I g k h l;rfl';obtain⟨p,M,i,z,rfl,rfl,n,o,q⟩:=h;subst g;obtain⟨t,rfl⟩:=k;obtain⟨A,r,pl,N⟩:=I.tuple n;obtain⟨j,B,C,O,P,R⟩:=Dw o;obtain⟨w,E,F⟩:=r.get C;have G:=r.length;have S:=mU;have fin:EP X c f Q w s:=#[z,H,I,F,q];ac_rfl
 exact acd (x:=w) pl.typeIs slot_tuple_getitem.lookup
  (getItem_tuple (j:=j) (Q:=λr J=>r=w/\EP X c f Q r J) pl (by lia) (by lia) (by rw[dN,<-G];exact B) (by simpa using E) #[rfl,fin]) l
theorem ED(c:List Value)(n j:Nat)(u:Value):Obj.mapSeq (·.setIfInBounds j u) {cls:= .type "list",data:= .seq c.toArray n}={cls:= .type "list",data:= .seq (c.set j u).toArray n}:=by
 simp[Obj.mapSeq]
theorem Inv.lst{c:List (Addr×Obj)}{d:St}{H:Hp}{s:Shared}{p:Addr}{xs:List V}(I:Inv X c d H s)(h:H p=some (.lst xs)):
  ∃(its:List Value)(n:Nat),Vals xs its/\s.heap.get? p=some {cls:= .type "list",data:= .seq its.toArray n}/\xs.length<=sizeLine:=by
 obtain⟨z,its,n,r,e⟩:=I.hok p _ h;exact#[its,n,r,e,z]
theorem Inv.P4{its c:List Value}(I:Inv X d j H s)(h:H p=some (.lst xs))
  (l:s.heap.get? p=some {cls:= .type "list",data:= .seq its.toArray n}) (k:f {cls:= .type "list",data:= .seq its.toArray n}={cls:= .type "list",data:= .seq c.toArray i}) (r:Vals g c) (m:g.length<=sizeLine) (t:Nat):
  Inv X d j (upd H p (.lst g)) {s with heap:=s.heap.update p f,toks:=t}:=by
 have e:(s.heap.update p f).get? p=some {cls:= .type "list",data:= .seq c.toArray i}:=by
  rw[aap f l (by rw[k]<;>rfl),k]
 refine I.write (x:=p) (e:=p) (by rw[h];trivial) (.inl rfl) (λb u o q=>(aaI _ _ (Ne.symm o)).trans q) #[_,e] ?_
 exact#[m,c,i,r,e]
def U9:V->V->V->Hp->(Hp->Prop)->Prop:=λo i v H Q=>∃p c k j,o= .ref p/\i= .int k/\H p=some (.lst c)/\lL c.length k=some j/\Q (upd H p (.lst (c.set j v)))
theorem set_list:Rg X U9:=by
 intro c s A H o i v M N u Q I B C E h;rfl';obtain⟨p,G,k,j,rfl,rfl,m,J,q⟩:=h;subst B;obtain⟨t,rfl⟩:=C;obtain⟨d,n,r,f,L⟩:=I.lst m;obtain⟨e,P,w,x⟩:=Er J;have g:=r.length;have R:=mU;ac_rfl
 have y:Inv X c A (upd H p (.lst (G.set j v))) {s with heap:=s.heap.update p (Obj.mapSeq (·.setIfInBounds j u))}:=
  I.P4 m f (ED d n j u) (r.set E j) (by rw[f9];exact L) s.toks
 by_cases z:0<=k
 .have l:k.toNat=j:=by
   rw[seqIndex_of z x] at e;exact Do e
  exact PySem.W.ki_setAt f z (by lia) (by rw[dN,<-g];exact x) (by rw[l];exact#[_,y,q])
 .have l:(k+(d.toArray.size:Int)).toNat=j:=by
   rw[seqIndex_neg (by lia) w] at e
   rw[dN,<-g];exact Do e
  exact PySem.W.ki_setBack f (by lia) (by rw[dN,<-g];exact w) (by lia) (by rw[l];exact#[_,y,q])
theorem Aw(lo c:Option Int)(n:Nat):(sliceBounds lo c none n).1=((HT.cA n 0 lo:Nat):Int)/\(sliceBounds lo c none n).2.1=((HT.cA n n c:Nat):Int)/\(sliceBounds lo c none n).2.2=1:=by
 refine#[?_,?_,rfl]
 .cases lo with
  |none=>simp[sliceBounds,HT.cA]
  |some i=>
   simp only[sliceBounds,HT.cA,Option.getD_none,show(1:Int)>0 by decide,aax]
   by_cases h:i<0
   .simp only[h,aax]<;>lia
   .simp only[h,M2]<;>lia
 .cases c with
  |none=>simp[sliceBounds,HT.cA]
  |some i=>
   simp only[sliceBounds,HT.cA,Option.getD_none,show(1:Int)>0 by decide,aax]
   by_cases h:i<0
   .simp only[h,aax]<;>lia
   .simp only[h,M2]<;>lia
theorem ze(c:List Value)(lo d:Option Int):slicePick c.toArray lo d none=((c.drop (HT.cA c.length 0 lo)).take (HT.cA c.length c.length d-HT.cA c.length 0 lo)).toArray:=by
 obtain⟨e,f,g⟩:=Aw lo d c.toArray.size;unfold slicePick;rw[e,f,g];simp only[sliceRange_one,pick_run,dN]<;>rfl
def YG(K:ac):V->Option Int->Option Int->Hp->VK->Prop:=λx lo d H Q=>∃a c,x= .ref a/\cY K H a c/\∀p,H p=none->Q (.ref p) (upd H p (.lst (vK c lo d)))
theorem N5:Fz X (YG X.K):=by
 intro f s t H x v u w lo e y Q I i j pl k h;rfl';obtain⟨a,c,rfl,m,q⟩:=h;subst i;obtain⟨n,r,g,p⟩:=I.list m;have d:=r.length;ac_rfl;exists "list",_,slot_list_getitem.lookup,g.isList.typeIs;refine wpAny_getItem_list_slice g.isList j pl k .none (by simp) ?_ (by rw[dN]<;>lia)
 rw[ze,<-d];refine#[.ref s.heap.objs.size,_,I.laid (t':=s.toks) (o:= .lst (vK c lo e)) (λb A q=>tz _ q) (bb _) ?_,rfl,q _ (I.hok.fresh (bb _))];exact#[oh (sX c lo e) p,_,0,(r.drop (HT.cA c.length 0 lo)).take (HT.cA c.length c.length e-HT.cA c.length 0 lo),GE _ rfl]
def iF:V->Bool
 | .non=>true
 | .bl _=>true
 | .int _=>true
 | .str _=>true
 |_=>false
def yd:V->V->Bool
 | .non, .non=>true
 | .bl a, .bl b=>a==b
 | .bl a, .int b=>(if a then 1 else 0)==b
 | .int a, .bl b=>a==(if b then 1 else 0)
 | .int a, .int b=>a==b
 | .str a, .str b=>a==b
 |_,_=>false
theorem Pc(e:RelV y u)(c:RelV x v)(g:iF y=true)(f:iF x=true):SeqAt.EqAt A s u v (yd y x):=by
 cases y with
 |non=>
  cases e;cases x with
  |non=>cases c;exact SeqAt.EqAt.same _
  |bl b=>cases c;exact SeqAt.EqAt.none_bool b
  |int b=>obtain⟨t,rfl⟩:=c;exact SeqAt.EqAt.none_int b t
  |str b=>obtain⟨t,rfl⟩:=c;exact SeqAt.EqAt.none_str b t
  |_=>exact absurd (show false=true from f) dD
 |bl a=>
  subst e;cases x with
  |non=>cases c;exact SeqAt.EqAt.bool_none a
  |bl b=>cases c;exact SeqAt.EqAt.bool_bool a b
  |int b=>obtain⟨t,rfl⟩:=c;exact SeqAt.EqAt.bool_int a b t
  |str b=>obtain⟨t,rfl⟩:=c;exact SeqAt.EqAt.bool_str a b t
  |_=>exact absurd (show false=true from f) dD
 |int a=>
  obtain⟨d,rfl⟩:=e;cases x with
  |non=>cases c;exact SeqAt.EqAt.int_none a d
  |bl b=>cases c;exact SeqAt.EqAt.int_bool a d b
  |int b=>obtain⟨t,rfl⟩:=c;exact aaS a d b t
  |str b=>obtain⟨t,rfl⟩:=c;exact SeqAt.EqAt.int_str a d b t
  |_=>exact absurd (show false=true from f) dD
 |str a=>
  obtain⟨d,rfl⟩:=e;cases x with
  |non=>cases c;exact SeqAt.EqAt.str_none a d
  |bl b=>cases c;exact SeqAt.EqAt.str_bool a d b
  |int b=>obtain⟨t,rfl⟩:=c;exact SeqAt.EqAt.str_int a d b t
  |str b=>obtain⟨t,rfl⟩:=c;exact SeqAt.EqAt.str_str a d b t
  |_=>exact absurd (show false=true from f) dD
 |_=>exact absurd (show false=true from g) dD
def qW(x:V)(u:Value):Bool:=match u with
 | .none=>yd .non x
 | .bool b=>yd (.bl b) x
 | .int i _=>yd (.int i) x
 | .str z _=>yd (.str z) x
 |_=>false
theorem xg(r:RelV y u)(f:iF y=true):qW x u=yd y x:=by
 cases y with
 |non=>cases r;rfl
 |bl b=>cases r;rfl
 |int i=>obtain⟨t,rfl⟩:=r;rfl
 |str z=>obtain⟨t,rfl⟩:=r;rfl
 |_=>exact absurd (show false=true from f) dD
theorem oH:∀{c:List V}{d:List Value},Vals c d->c.all iF=true->d.any (qW x)=c.any λy=>yd y x
 |_,_, .nil,_=>rfl
 |y::c,u::d, .cons r t,f=>by
  rw[aa7,sQ] at f;rw[abM,abM,xg r f.1,oH t f.2]
theorem j8(g:RelV x v)(h:iF x=true):∀{d:List V}{e:List Value},Vals d e->d.all iF=true->∀u∈e,SeqAt.EqAt A s u v (qW x u)
 |_,_, .nil,_=>λu c=>by cases c
 |y::d,u::e, .cons r t,f=>λi c=>by
  rw[aa7,sQ] at f
  rcases bo.mp c with rfl|c
  .rw[xg r f.1];exact Pc r g f.1 h
  .exact j8 g h t f.2 i c
def PD(x:V)(c:List V):Bool:=c.any λy=>yd y x
def U8(K:ac)(d:Bool):R2:=λx y H Q=>∃p c,y= .ref p/\(cY K H p c\/fg K H p c)/\iF x=true/\c.all iF=true/\Q (.bl (if d then !PD x c else PD x c)) H
theorem GG:OpR X (compareOp .In) (U8 X.K false):=by
 intro e s l H x y v u Q I f i h;rfl';obtain⟨p,n,rfl,d,g,fs,q⟩:=h;subst i;ac_rfl
 rcases d with d|d
 .obtain⟨c,r,pl,k⟩:=I.list d
  refine SeqAt.in_listAt (qW x) pl.isList (λw hw=>j8 f g r fs w (by simpa using hw)) #[.bl _,H,I,rfl,?_]
  rw[show c.toArray.any (qW x)=c.any (qW x) by simp,oH r fs]
  exact q
 .obtain⟨c,r,pl,k⟩:=I.tuple d
  refine SeqAt.in_tupleAt (qW x) pl (λw hw=>j8 f g r fs w (by simpa using hw)) #[.bl _,H,I,rfl,?_]
  rw[show c.toArray.any (qW x)=c.any (qW x) by simp,oH r fs]
  exact q
theorem Au:OpR X (compareOp .NotIn) (U8 X.K true):=by
 intro e s l H x y v u Q I f i h;rfl';obtain⟨p,n,rfl,d,g,fs,q⟩:=h;subst i;ac_rfl
 rcases d with d|d
 .obtain⟨c,r,pl,k⟩:=I.list d
  refine SeqAt.notIn_listAt (qW x) pl.isList (λw hw=>j8 f g r fs w (by simpa using hw)) #[.bl _,H,I,rfl,?_]
  rw[show c.toArray.any (qW x)=c.any (qW x) by simp,oH r fs]
  exact q
 .obtain⟨c,r,pl,k⟩:=I.tuple d
  refine SeqAt.notIn_tupleAt (qW x) pl (λw hw=>j8 f g r fs w (by simpa using hw)) #[.bl _,H,I,rfl,?_]
  rw[show c.toArray.any (qW x)=c.any (qW x) by simp,oH r fs]
  exact q
theorem Ab:cB X (.builtin "len") (λi H Q=>∃p d,i= [.ref p]/\(cY X.K H p d\/fg X.K H p d)/\Q (.int d.length) H):=by
 intro j s n H i o Q I r h;rfl';obtain⟨p,d,rfl,e,q⟩:=h;obtain⟨u,rfl,l⟩:=vals1 r;subst l;have v:=mU;ac_rfl
 rcases e with e|e
 .obtain⟨f,g,pl,m⟩:=I.list e
  have c:=g.length;exact Calls.call_len_list pl.isList (by simp only[dN]<;>lia) #[.int d.length,H,I.tok _,#[s.toks+1,by rw[dN,c]],q]
 .obtain⟨f,g,pl,m⟩:=I.tuple e
  have c:=g.length;exact len_tuple pl (by simp only[dN]<;>lia) #[.int d.length,H,I.tok _,#[s.toks+1,by rw[dN,c]],q]
theorem Ac:cB X (.type "list") (λA H Q=>∃p f,A= [.ref p]/\(cY X.K H p f\/fg X.K H p f)/\∀l,H l=none->Q (.ref l) (upd H l (.lst f))):=by
 intro j s C H A F Q I r h;obtain⟨p,f,rfl,k,q⟩:=h;obtain⟨u,rfl,E⟩:=vals1 r;subst E
 have fin:∀(c:List Value),Vals f c->f.length<=sizeLine->∀(d:Heap)(g:Nat),(∀b B,s.heap.get? b=some B->d.get? b=some B)->
   d.get? s.heap.objs.size=some {cls:= .type "list",dict:=none,data:= .seq c.toArray g,slots:= #[]}->EP X j C Q (.ref s.heap.objs.size) {s with heap:=d}:=λc i m d g t e=>
  #[.ref s.heap.objs.size,_,I.laid (t':=s.toks) t (bb _) (show eC X.prog X.w _ d _ (.lst f) from#[m,c,g,i,e]),rfl,q _ (I.hok.fresh (bb _))]
 rcases k with k|k
 .obtain⟨c,i,pl,m⟩:=I.list k
  have v:=i.length;obtain⟨o,x,y,n,z⟩:=pl.isList;exact call_list_seq p (.inl rfl) x y z (λd g t e=>fin c i m d g t e) (by simp only[dN]<;>lia)
 .obtain⟨c,i,pl,m⟩:=I.tuple k
  have v:=i.length;obtain⟨o,x,y,n,z⟩:=pl;exact call_list_seq p (.inr rfl) x y z (λd g t e=>fin c i m d g t e) (by simp only[dN]<;>lia)
def Q5(K:ac)(T:String)(x:V)(H:Hp):Prop:=match x with
 | .str _=>T="str"
 | .int _=>T="int"
 | .ref p=>(T="list"/\∃d,cY K H p d)\/(T="tuple"/\∃o,K.lookup p=some o/\o.cls= .type "tuple"/\o.dict=none)\/
   (T="dict"/\((∃c,H p=some (.dK c))\/∃c,H p=some (.dT c)))\/(T="set"/\∃S n,H p=some (.set S n))
 |_=>False
theorem IU(I:Inv X g m H s)(r:RelV x v)(h:Q5 X.K T x H):
  s.TypeIs v T/\∀a,v= .ref a->∃l,s.heap.get? a=some l/\l.dict=none:=by
 cases x with
 |str z=>
  obtain⟨t,rfl⟩:=r;cases(show T="str" from h);exact#[typeIs_str s z t,λ_ e=>nomatch e]
 |int i=>
  obtain⟨t,rfl⟩:=r;cases(show T="int" from h);exact#[typeIs_int s i t,λ_ e=>nomatch e]
 |ref p=>
  subst r
  rcases h with ⟨rfl,A,q⟩ | ⟨rfl,o,d,u,j⟩ | ⟨rfl,d⟩ | ⟨rfl,S,n,d⟩
  .obtain⟨w,_,pl,_⟩:=I.list q
   refine#[pl.isList.typeIs,λa e=>?_];cases e;obtain⟨o,n,e,c,j,_⟩:=pl;exact#[o,e,j]
  .refine#[#[o,I.jH p o d,u],λa e=>?_]
   cases e;exact#[o,I.jH _ o d,j]
  .have z:∃o,s.heap.get? p=some o/\o.ExactDict:=by
    rcases d with ⟨y,d⟩ | ⟨y,d⟩
    .obtain⟨_,_,_,_,o,_,_,e,f,_⟩:=I.hok p _ d
     exact#[o,e,f]
    .obtain⟨_,_,_,_,o,_,_,e,f,_⟩:=I.hok p _ d
     exact#[o,e,f]
   obtain⟨o,e,f⟩:=z;refine#[#[o,e,f.1],λa k=>?_];cases k;exact#[o,e,f.2.1]
  .obtain⟨o,_,_,_,e,f,_⟩:=I.hok p _ d
   refine#[#[o,e,f.1],λa k=>?_];cases k;exact#[o,e,f.2.1]
 |_=>exact False.elim h
def YV(K:ac)(T:String)(r:V->List V->Hp->VK->Prop)(d:TE):TE:=λe H Q=>d e H λx c=>Q5 K T x c/\r x [] c Q
def tBM(K:ac)(T:String)(r:V->List V->Hp->VK->Prop)(e:TE)(t:TA):TE:=λc H Q=>e c H λx d=>Q5 K T x d/\t c d λf g=>r x f g Q
variable {o e:Expr} {es:List Expr} {to:TE} {t:TA} {name:Str} {apos aK:Pos} {T id:String} {r:V->List V->Hp->VK->Prop}
theorem Iv(i:PlainAttrs T)(slot:Slot T name id)(j:typeOf (.builtin id)=pure (.type "method_descriptor"))(k:Ja X id r)(l:PE X o to)
  (m:attributeBase o name X.env (eval o X.env)=eval o X.env:=by rfl) (n:(apos.endLine==aK.line)=true:=by rfl):PE X (.Call (.Attribute o name apos) [] [] aK) (YV X.K T r to):=by
 intro c s d H Q I h;refine wpAny_Call_method0_late m n (thn (l c s d H _ I h) λv p q=>?_);rfl';obtain⟨x,w,f,g,y,z⟩:=q;obtain⟨A,B⟩:=IU f g y;ac_rfl;exact#[T,id,i,slot,j,A,B,aaJ rfl (PySem.evalArgs_none (k c p d w x [] v [] Q f g .nil z))]
theorem sA(l:PlainAttrs T)(slot:Slot T name id)(m:typeOf (.builtin id)=pure (.type "method_descriptor"))(n:Ja X id r)(p:PE X o to)(q:PA X (e::d) t)
  (u:attributeBase o name X.env (eval o X.env)=eval o X.env:=by rfl)
  (w:((backTo f (starEach (e::d) X.env)).all (λx=>!x.1)&&(backToKw f (keywordEach [] X.env)).all (λx=>x.1.isSome)
   &&decide ((e::d).length+([]:List Keyword).length+(if ([]:List Keyword).isEmpty then 0 else 1)<30))=true:=by rfl)
  (y:(apos.endLine==f.line)=true:=by rfl) (z:starEach (e::d) X.env=(false,eval e X.env)::starEach d X.env:=by rfl) (A:(backTo f (starEach d X.env)).any (·.1)=false:=by rfl):
  PE X (.Call (.Attribute o name apos) (e::d) [] f) (tBM X.K T r to t):=by
 intro c s g H Q I h;refine aa4 u w y rfl (thn (p c s g H _ I h) λv B C=>?_);rfl';obtain⟨x,F,i,j,G,J⟩:=C;obtain⟨L,M⟩:=IU i j G;ac_rfl;exists T,id,l,slot,m,L,M;have k:=q f c B g F _ i J;rw[z] at k ⊢;refine aaJ (by show(false|| (backTo f (starEach d X.env)).any (·.1))=false;rw[A]<;>rfl) (abn ?_)
 exact thn k λN O #[P,R,S,U,Y]=>n c O g R x P v N Q S j U Y
end
def K5(X:Cx)(id:String)(r:V->List V->Hp->VK->Prop):Prop:=
 ∀(a:List (Addr×Obj))(s:Shared)(b:St)(H:Hp)(x:V)(c:List V)(v:Value)(d:List Value)(Q:VK),Inv X a b H s->RelV x v->Vals c d->r x c H Q->
  wpAny (model X.prog X.w) X.A (call (.builtin id) (v::d)) (EP X a b Q) X.xe s
theorem Vals.one(h:Vals [x] a):∃u,a= [u]/\RelV x u:=by
 cases h with|cons r t=>cases t;exact#[_,rfl,r]
theorem Vals.two(h:Vals [x,y] a):∃u v,a= [u,v]/\RelV x u/\RelV y v:=by
 cases h with
 |cons r t=>
  obtain⟨v,rfl,q⟩:=Vals.one t;exact#[_,v,rfl,r,q]
theorem Vals.zero:∀{a:List Value},Vals [] a->a= []
 |_, .nil=>rfl
theorem Vals.dropLast(h:Vals a b):Vals a.dropLast b.dropLast:=by
 induction h with
 |nil=>exact .nil
 |cons r t c=>
  cases t with
  |nil=>exact .nil
  |cons q d=>exact .cons r c
theorem Vals.rep(h:Vals a b):∀k:Nat,Vals (ak k a).flatten (ak k b).flatten
 |0=> .nil
 |k+1=>by
  rw[z0,z0,fZ,fZ];exact Vals.append h (Vals.rep h k)
theorem D5(l:List c):l.eraseIdx (l.length-1)=l.dropLast:=by
 induction l with
 |nil=>rfl
 |cons a r d=>
  cases r with
  |nil=>rfl
  |cons b r=>
   have e:(a::b::r).length-1=((b::r).length-1)+1:=by
    have f:(a::b::r).length=r.length+2:=rfl;have g:(b::r).length=r.length+1:=rfl;lia
   rw[e,Fs,d]
   all_goals rfl
theorem foldl_rep(a:List Value):∀(k:Nat)(b:List Value),
  List.foldl (λc d=>c++d) b.toArray (ak k a.toArray)=(b++(ak k a).flatten).toArray
 |0,b=>by simp
 |k+1,b=>by
  have e:b.toArray++a.toArray=(b++a).toArray:=by simp
  have f:(b++a)++(ak k a).flatten=b++(ak (k+1) a).flatten:=by
   rw[z0,fZ,f6]
  rw[<-f,<-foldl_rep a k (b++a),<-e,z0,rL]
section
variable {X:Cx} {pins:List (Addr×Obj)} {σ:St} {H:Hp} {s:Shared} {l b:Addr} {xs ys zs:List V}
theorem Inv.Im{its its':List Value}(I:Inv X pins σ H s)(a:H l=some (.lst xs))
  (e:s.heap.get? l=some {cls:= .type "list",data:= .seq its.toArray n}) (c:f its.toArray=its'.toArray) (d:Vals ys its') (g:ys.length<=sizeLine):
  Inv X pins σ (upd H l (.lst ys)) {s with heap:=s.heap.update l (Obj.mapSeq f),toks:=t'}:=by
 have q:=PySem.IsL.update e f;rw[c] at q;refine I.write (x:=l) (e:=l) (by rw[a];exact trivial) (.inl rfl) (λj u h i=>(aaI s.heap (Obj.mapSeq f) (Ne.symm h)).trans i) #[_,q] ?_
 exact#[g,its',_,d,q]
theorem Inv.Il{its:List Value}{t':Nat}(I:Inv X pins σ H s)(a:Vals ys its)(c:ys.length<=sizeLine):
  Inv X pins σ (upd H s.heap.objs.size (.lst ys)) {s with heap:=s.heap.push {cls:= .type "list",data:= .seq its.toArray},toks:=t'}:=
 I.laid (λ_ _ q=>tz _ q) (bb _) #[c,its,0,a,GE _ rfl]
theorem Inv.fresh(I:Inv X pins σ H s):H s.heap.objs.size=none:=I.hok.fresh (bb _)
theorem Inv.tT(I:Inv X pins σ H s)(a:H l=some (.lst xs)):xs.length<=sizeLine/\∃(its:List Value)(n:Nat),Vals xs its/\xs.length=its.length/\s.heap.get? l=some {cls:= .type "list",data:= .seq its.toArray n}:=by
 obtain⟨z,its,n,r,e⟩:=I.hok l _ a;exact#[z,its,n,r,r.length,e]
theorem Kb(h:n<=sizeLine):Builtin.List.listTooLong n=false:=by
 unfold Builtin.List.listTooLong;exact GM (by lia)
end
section
variable {X:Cx}
def NU:V->List V->Hp->VK->Prop:=λx b H Q=>∃l a y,x= .ref l/\b= [y]/\H l=some (.lst a)/\a.length<sizeLine/\Q .non (upd H l (.lst (a++ [y])))
theorem g6:K5 X "list.append" NU:=by
 intro b s j H x k v m Q I d f h;rfl';obtain⟨l,p,y,rfl,rfl,c,t,q⟩:=h;subst d;obtain⟨u,rfl,i⟩:=f.one;obtain⟨z,a,n,r,w,e⟩:=I.tT c;ac_rfl;refine aaM F.slot_list_append #[_,e,rfl] F.entry_list_append (F.args_list_append_2 _ _) (PySem.list_append l a.toArray n u (by rw[dN];lia)) #[e,?_]
 refine#[.non,_,I.Im (its':=a++ [u]) c e (by simp) (r.append (.cons i .nil)) ?_,rfl,q]
 rw[cE,zJ];lia
def YE:V->List V->Hp->VK->Prop:=λx b H Q=>∃l a y,x= .ref l/\b= []/\H l=some (.lst a)/\a[a.length-1]? =some y/\Q y (upd H l (.lst a.dropLast))
theorem P7:K5 X "list.pop" YE:=by
 intro b s t H x w v A Q I d f h;rfl';obtain⟨l,C,y,rfl,rfl,c,i,q⟩:=h;subst d;have j:=f.zero;subst j;obtain⟨z,a,n,r,k,e⟩:=I.tT c;obtain⟨u,m,o⟩:=r.get i;ac_rfl
 have p:a.toArray[a.toArray.size-1]? =some u:=by
  show a.toArray[a.length-1]? =some u;rw[<-eW,<-k];exact m
 refine aaM F.slot_list_pop #[_,e,rfl] F.entry_list_pop (F.args_list_pop_1 _) (MeetsSeq.list_pop_last l a.toArray n u p (by rw[dN];lia)) #[e,?_]
 refine#[y,_,I.Im (its':=a.dropLast) c e ?_ r.dropLast ?_,o,q]
 .show a.toArray.eraseIdxIfInBounds (a.toArray.size-1)=a.dropLast.toArray
  rw[dN,List.eraseIdxIfInBounds_toArray,D5]
 .rw[List.length_dropLast]
  lia
def QH:V->List V->Hp->VK->Prop:=λx a H Q=>∃l b,x= .ref l/\a= []/\H l=some (.lst b)/\Q .non (upd H l (.lst []))
theorem J8:K5 X "list.clear" QH:=by
 intro b s i H x j v k Q I d f h;obtain⟨l,m,rfl,rfl,c,q⟩:=h;cases d;have g:=f.zero;subst g;obtain⟨z,a,n,r,o,e⟩:=I.tT c;refine aaM F.slot_list_clear #[_,e,rfl] F.entry_list_clear (F.args_list_clear_1 _) (AutoSeq1.list_clear_list_0 l a.toArray n (by rw[dN];lia)) #[e,?_]
 exact#[.non,_,I.Im (its':= []) (ys:= []) c e rfl .nil (fm _),rfl,q]
def Yz:R2:=λx y H Q=>∃l b a c,x= .ref l/\y= .ref b/\H l=some (.lst a)/\H b=some (.lst c)/\a.length+c.length<=sizeLine/\∀p,H p=none->Q (.ref p) (upd H p (.lst (a++c)))
theorem Iu:OpR X (binaryOp .Add) Yz:=by
 intro c s w H x y v u Q I f g h;rfl';obtain⟨l,b,B,C,rfl,rfl,j,k,E,q⟩:=h;subst f;subst g;obtain⟨z,a,n,r,F,e⟩:=I.tT j;obtain⟨G,d,J,m,o,p⟩:=I.tT k;ac_rfl;refine PySem.P.add_list e p ?_ (by rw[dN,dN];lia)
 have t:a.toArray++d.toArray=(a++d).toArray:=by simp
 rw[t];exact#[.ref _,_,I.Il (t':=s.toks) (r.append m) (by rw[cE];lia),rfl,q _ I.fresh]
def YF:R2:=λx y H Q=>∃l k a,x= .ref l/\y= .int k/\H l=some (.lst a)/\-(2^63)<=k/\k<2^63/\a.length*k.toNat<=sizeLine/\
 ∀p,H p=none->Q (.ref p) (upd H p (.lst (ak k.toNat a).flatten))
theorem len_rep(a:List b)(k:Nat):(ak k a).flatten.length=k*a.length:=by
 induction k with
 |zero=>simp
 |succ k c=>rw[z0,fZ,cE,c,acu,rN]
theorem Ql:OpR X (binaryOp .Mult) YF:=by
 intro g s O H x y v u Q I j o h;rfl';obtain⟨l,k,R,rfl,rfl,w,A,B,i,q⟩:=h;subst j;obtain⟨t,rfl⟩:=o;obtain⟨z,b,n,r,C,e⟩:=I.tT w;have c:b.toArray.size*k.toNat<=sizeLine:=by rw[dN,<-C];exact i
 ac_rfl
 have E:¬b.toArray.size*k.toNat>(2^63-1) / 8:=by
  have:(sizeLine:Nat)<=(2^63-1) / 8:=by decide
  lia
 have G:¬(!Builtin.List.listFitsIndex k)=true:=by
  rw[fitsIndex_both A B];exact dD
 have J:¬Builtin.List.listTooLong (b.toArray.size*k.toNat)=true:=by
  rw[Kb c];exact dD
 have L:List.foldl (λd f=>d++f) #[] (ak (if b.toArray.isEmpty=true then 0 else k.toNat) b.toArray)=(ak k.toNat b).flatten.toArray:=by
  have M:∀m:Nat,List.foldl (λd f=>d++f) #[] (ak m b.toArray)=(ak m b).flatten.toArray:=λm=>by
   have:=foldl_rep b m []
   rw[wy] at this;exact this
  rw[M];cases b with
  |nil=>simp
  |cons a S=>rw[ir (by simp)]
 refine wpAny_binaryOp_repeat_ref (T:="list") (U:="int") (by decide) #[_,e,rfl] (λN=>typeIs_int N k t) noFill_list_mul F.fills_int_mul F.slot_int_rmul repeat_list F.slot_int_index.lookup
  (aaM F.slot_int_rmul (typeIs_int s k t) F.entry_int_rmul (F.args_int_rmul_2 _ _) (int___rmul___int_list k t l b.toArray n)
   #[e,rfl,#[_,e,rfl],aaM F.slot_list_mul #[_,e,rfl] F.entry_list_mul (F.args_list_mul_2 _ _) (AutoListH.list___mul___list_int_3 l b.toArray n k t G E J) #[e,?_]])
 rw[L];exact#[.ref _,_,I.Il (t':=s.toks) (r.rep k.toNat) (by rw[len_rep,Nat.mul_comm];exact i),rfl,q _ I.fresh]
end
section
variable {prog:Program} {w:World} {A:Around} {E:Value->Shared->Prop} {s:Shared}
end
section
variable {X:Cx}
end
end L2
namespace VA
open PySem PySem.W PySem.Calls PyProof.Rows
theorem uS:∀(c:List Int)(d:List Value),WellAll P h d (c.map WData.int)->IntsAre d c:=by
 intro c
 induction c with
 |nil=>
  intro d w;rw[qo] at w;cases w;exact .nil
 |cons n c e=>
  intro d w;rw[bT] at w;cases w with
  |cons a b=>
   cases a;exact .cons _ _ (e _ b)
theorem Ha{l:OpenLaw}(o:l.most=some n) 
  (j:l.row.toRowW.claim.pre args=true) (p:WellAll P h c args):
  ∃a k b,c= [Value.ref a]/\args= [WData.list (b.map WData.int)]/\h.get? a=some {cls:= .type "list",data:= .seq k.toArray}/\IntsAre k b/\b.length<=n:=by
 have i:WShape.hasAll [] args [.list .int]=true:=(pre_splitW j).1;have m:l.pre.holds [] {args:=args}=true:=(pre_splitW j).2;obtain⟨d,r,rfl,s,t⟩:=hasAllW_cons i;obtain rfl:=hasAllW_nil t;obtain⟨A,rfl,u⟩:=hasW_list s;obtain⟨b,rfl⟩:=items_int u
 have e:b.length<=n:=by
  unfold OpenLaw.pre at m
  have f:(WTm.not (.lt (.lit (.int (n:Int))) (.len (.arg 0)))).holds [] {args:= [.list (b.map .int)]}=true:=by
   have f:=(holds_andW m).1;rw[o] at f;exact f
  have g:=condW_of f (w_not (w_lt w_lit (w_len_list (w_arg rfl))));rw[aG] at g;refine jS λq=>?_;have v:(n:Int)<((b.length:Nat):Int):=by lia
  first
   | (rw[B v] at g;exact absurd g (by decide))
   | (simp at g;lia)
 cases p with
 |cons w x=>
  cases x;cases w with
  |list y z=>exact#[_,_,b,rfl,rfl,y,uS b _ z,e]
theorem GO(l:OpenLaw)(args:List WData):l.row.toRowW.claim.post args (.bool true) args=true:=
 postW_of (r:=l.row.toRowW) (X:=(true==true))
  (show WShape.has [] (.bool true) .bool=true by first|rfl|decide|simp[WShape.has,WShape.arms,WShape.armsAll])
  (show(WTm.eq .res (.lit (.bool true))).value [] {args:=args,res:=some (.bool true),after:=args}=some (.bool (true==true)) from w_eq_bool (w_res rfl) w_lit) rfl
theorem BD{l:OpenLaw} 
  (C:l.most=some n) (E:d.params.defaults= [])
  (call:∀(w:World)(e b:Shared)(m u:Str->Option Value)(j:Addr)(o:Obj)(v p g:Value)(a:Addr)(i:List Value)(s:List Int),
   Ground q c [] x w e m u b.heap->y w b.heap->
   b.heap.get? j=some o->o.data= .func (docDef d.name d.params d.body d.scope v p g)->b.heap.CodeRec p d.name->m d.name=some (.ref j)->
   b.heap.get? a=some {cls:= .type "list",data:= .seq i.toArray}->IntsAre i s->s.length<=n->b.gens= #[]->
   codeAny (model l.prog w) callerA (.call (.ref j) #[[.ref a],[]]) (λr t=>r= .ok (.ret (.bool true))/\OldK b.heap t.heap/\t.os=b.os/\AllBare t.gens) b):
  WalkO q c x y l.row.toRowW d [] (λf i=>db f i):=by
 intro w e b m u G Y j o v p g F kV H I J z L M A B as N O wJ P Ef;obtain rfl:F= .none:=Dflts.none z E;obtain rfl:kV= .none:=Dflts.noKw z;rfl';obtain⟨a,i,s,rfl,rfl,R,h,k⟩:=Ha C N P;ac_rfl;refine enter_call (aaD (call w e b m u j o v p g a i s G Y H (fd_plain I) J L R h k M) λr t S=>?_);obtain⟨rfl,T,U,X⟩:=S;exact#[.inl #[.bool true, .bool true,[],rfl,λ_=>rfl, .bool true,GO l _,λ_=>#[List.Pairwise.nil,λ_ Z=>(nomatch Z)]],T,U,X]
section
variable {prog:Program} {w:World} {A:Around} {E:Value->Shared->Prop} {s:Shared} {K:Frag}
end
end VA
namespace L2
open PySem PySem.Spec PyProof.Rows
theorem sL:∀{a:List Value}{b:List Int},IntsAre a b->Vals (b.map V.int) a
 |_,_, .nil=> .nil
 |_,_, .cons n t h=> .cons #[t,rfl] (sL h)
def K6(H:Hp):Prop:=∀b,H b=none\/∃o a,H b=some (.tF o (.lst a))
theorem J0{P:Program}{w:World}{K:ac}{l E:Str->Option Value}{M:uC}{k:Nat}{G a:Addr}{N:FuncData}{x:Str}{O:Sp}{c:Shared}{j:List Value}{p:List Int}
  (Q:K.In c.heap) (R:c.heap.Ns mainGlobals l) (f:c.heap.Ns builtinsNs E) (I:∀x:Str,x≠"__name__"->E x=bootBuiltins x) (Xc:c.heap.NoLimit) (hg:c.gens= #[])
  (B:c.heap.get? a=some {cls:= .type "list",data:= .seq j.toArray}) (S:IntsAre j p) (T:p.length<=sizeLine) (hr:cP k callerA)
  (F:∀base:Heap,K.In base->base.Ns mainGlobals l->FnOk P w K l base M k G N [x] O) (TY:∀(s:Shared)(u:Value),BindsTo s N #[[u],[]] [(x,u)])
  (Ei:∀H:Hp,K6 H->cY K H a (p.map V.int)->O [.ref a] H (λv _=>v= .bl true) λ_ _ _=>False)
  (TL:∀H e g,M [] H c (λ_ _ _=>False) e g->False):
  codeAny (model P w) callerA (.call (.ref G) #[[.ref a],[]]) (λr g=>r= .ok (.ret (.bool true))/\OldK c.heap g.heap/\g.os=c.os/\AllBare g.gens) c:=by
 have U:=sL S;have XU:=S.length
 have i:∀H:Hp,K6 H->cY K H a (p.map V.int)->jU P w H c.heap->(∀b,H b≠none->b=a)->(H a≠none->K.lookup a=none)->
   codeAny (model P w) callerA (.call (.ref G) #[[.ref a],[]]) (λr g=>r= .ok (.ret (.bool true))/\OldK c.heap g.heap/\g.os=c.os/\AllBare g.gens) c:=by
  intro H X hS hok Y hK;have Z:∀{b:Addr}{o:Obj},c.heap.get? b=some o->H b=none->(tJ c.heap H).get? b=some o:=λe n=>JP e n
  have Nc:∀{b:Addr}{o:Obj}{t:Array DictEntry}{y:Nat},c.heap.get? b=some o->o.data= .dict t y->H b=none:=λ {b o t y} e d=>by
   cases q:H b with
   |none=>rfl
   |some u=>
    have J:b=a:=Y b (by rw[q];simp)
    subst J;rw[B] at e;cases e;have d':Data.seq j.toArray _=Data.dict t y:=d;cases d'
  have C:∀{b:Addr}{m:Str->Option Value},c.heap.Ns b m->(tJ c.heap H).Ns b m:=λ {b m} #[o,t,y,e,d,r]=>#[o,t,y,Z e (Nc e d),d,r]
  have WL:K.In (tJ c.heap H):=λb o e=>Z (Q b o e) (by
   cases q:H b with
   |none=>rfl
   |some u=>
    have J:b=a:=Y b (by rw[q];simp)
    subst J;rw[hK (by rw[q];simp)] at e;cases e)
  have hM:Mod K l (tJ c.heap H):=#[WL,C R,#[E,C f,I],let #[mc,h1,h2]:=Xc;#[mc,C h1,h2]];have e0:Env0 P w K l (tJ c.heap H) callerA [] c H:=#[rfl,hM,λb o e=>Ni e,acs (F9 _ _),trivial,λb f=>absurd (show b∈([]:List Addr) from f) (by simp),hok, .of_eq hg]
  refine aaD ((F _ WL (C R)).run callerA [] c H #[[.ref a],[]] [.ref a] [.ref a] _ _ hr e0 (TY c (.ref a)) (.cons rfl .nil) (Ei H X hS)) λr g h=>?_;cases r with
  |error e=>exact(TL H e g h).elim
  |ok fl=>
   cases fl with
   |next=>exact False.elim h
   |brk=>exact False.elim h
   |cont=>exact False.elim h
   |ret u=>
    rfl';obtain⟨v,H',os,bare,un,Xn,r',q⟩:=h;have q':v= .bl true:=q;subst q';ac_rfl;obtain rfl:u=Value.bool true:=r';refine#[rfl,OldK.of_keep λb o e=>?_,os,bare];cases q:H b with
    |none=>exact un.keep b o e q (by intro z;exact absurd (show b∈([]:List Addr) from z) (by simp)) (by simp)
    |some u=>
     rcases X b with z| ⟨ob,xs,z⟩
     .rw[q] at z;cases z
     .have z2:=un.frzs b ob _ z
      obtain⟨e1,_⟩:=hok b _ z;obtain⟨e2,_⟩:=Xn b _ z2;rw[e] at e1;cases e1;exact e2
 cases L:K.lookup a with
 |some o=>
  have e:=Q a o L;rw[B] at e;cases Do e;refine i (λ_=>none) (λ_=> .inl rfl) (.inr #[_,j.toArray,_,L,rfl,rfl,rfl,by rw[dN,XU];exact T,by simpa using U]) (λb u z=>by have A:(none:Option HO)=some u:=z;cases A) (λb z=>absurd rfl z) λz=>absurd rfl z
 |none=>
  refine i (λb=>if b=a then some (.tF {cls:= .type "list",data:= .seq j.toArray} (.lst (p.map V.int))) else none) (λb=>?_) (.inl (.inr #[{cls:= .type "list",data:= .seq j.toArray},ls rfl])) (λb u z=>?_) (λb z=>?_) λ_=>L
  .by_cases f:b=a
   .exact .inr #[_,_,ls f]
   .exact .inl (ir f)
  .by_cases f:b=a
   .have A:=(ls f).symm.trans z
    obtain rfl:=Do A;subst f;exact#[B,by rw[aG];exact T,j,_,U,B]
   .have A:=(ir f).symm.trans z
    cases A
  .by_cases f:b=a
   .exact f
   .exact absurd (ir f) z
theorem OA{l:ca}{n k:Nat}{q:Program}{i:List Str}{I:(Str->Option Value)->Heap->Prop}{A:World->Heap->Prop}{d:DefRec}{K:Params->ac}{CX:World->uC}{sp:World->Sp}{x:Str}
  (J:l.most=some n) (L:n<=sizeLine) (M:d.params.defaults= []) (N:cP k callerA)
  (O:∀(w:World)(h:Heap),A w h->(K w.params).In h)
  (F:∀(w:World)(m:Str->Option Value)(r:Addr)(h:Heap),(K w.params).In h->h.Ns mainGlobals m->m d.name=some (.ref r)->
   ∃y:FuncData,(∀(s:Shared)(u:Value),BindsTo s y #[[u],[]] [(x,u)])/\
    ∀base:Heap,(K w.params).In base->base.Ns mainGlobals m->FnOk l.prog w (K w.params) m base (CX w) k r y [x] (sp w))
  (P:∀(w:World)(H:Hp)(a:Addr)(t:List Int),t.length<=n->K6 H->cY (K w.params) H a (t.map V.int)->sp w [.ref a] H (λv _=>v= .bl true) λ_ _ _=>False)
  (Q:∀(w:World)(H:Hp)(s:Shared)(e:Value)(z:Shared),CX w [] H s (λ_ _ _=>False) e z->False):
  dy q i I A l.row.toRowW d [] (λf B=>db f B):=by
 refine VA.BD J M λw C p m mb r o pm cd R a B t G Y ho hd eE S U j c X=>?_;have E:=O w _ Y;obtain⟨y,Z,hF⟩:=F w m r _ E G.T.g S;exact J0 E G.T.g G.T.b G.T.builtins G.T.nolimit X U j (oh c L) N hF Z (λH hO hS=>P w H a t c hO hS) λH e z=>Q w H p e z
def inClass(s:Stmt)(j:Nat):Stmt:=match s with
 | .ClassDef _ _ _ body _ _ _ _ _ _ _=>body.getD j (.Pass #[0,0,0,0])
 |_=> .Pass #[0,0,0,0]
def iD(s:Stmt):Arguments:=match s with
 | .FunctionDef _ a _ _ _ _ _ _ _ _=>a
 |_=>{posonlyargs:= [],args:= [],vararg:=none,kwonlyargs:= [],kw_defaults:= [],kwarg:=none,defaults:= []}
def fC(s:Stmt):List Stmt:=match s with
 | .FunctionDef _ _ b _ _ _ _ _ _ _=>b
 |_=> []
def av(s:Stmt):Scope:=match s with
 | .FunctionDef _ _ _ _ _ _ sc _ _ _=>sc
 |_=>{kind:= .function,names:= [],isGenerator:=false,isCoroutine:=false}
abbrev cF:uC:=λ_ _ _ _ _ _=>False
abbrev E0:XK:=λ_ _ _=>False
theorem m7:Passes cF X E0:=λ_ _ _ _ _ _ _ h=>h.elim
structure z8 (K:ac) (x qual:Str) (st:Stmt) (f:Addr) (fd:FuncData):Prop where
 ex:∃(oc:Value)(od:Option Addr)(kV doc pm:Value)(an:Option Addr)(bG ct:Value)(EJ:Array (Option Value)),
  fd=bj x qual (iD st) (fC st) (av st) .none kV doc pm an bG ct/\K.lookup f=some #[oc,od, .func fd,EJ]/\bd K bG qual=true
 kp:ar K (.ref f)=true
section
variable {P:Program} {w:World} {K:ac} {mg:Str->Option Value} {base:Heap}
theorem z8.ok{x a:Str}{st:Stmt}{f:Addr}{e:FuncData}{N c:List Str}{k:Nat}{d:Sp}(F:z8 K x a st f e)(S:aO N c (av st))(len:∀vs H Q E,d vs H Q E->vs.length=c.length)
  (g:∀(b:Value)(A:Around)(outer:List Env)(s:Shared)(H:Hp)(vs:List V)(Q:VK)(E:XK),cP k (A.deeper (envOfC a (av st) s.heap.objs.size f b))->d vs H Q E->
   ∃t,oj (vL cF P w K mg base N a (av st) f b A outer s H E).lM (fC st) t/\t {nx:=λ_ i=>Q .non i,rt:=Q} (start N vs) H):FnOk P w K mg base cF (k+1) f e c d:=by
 rfl';obtain⟨u,v,kV,l,y,z,b,B,C,rfl,m,n⟩:=F.ex;ac_rfl;refine TB m n S len λA outer s H vs Q E o p=>?_;obtain⟨t,h,q⟩:=g b A outer s H vs Q E o p;exact#[t,h.lM,q]
theorem z8.binds{st:Stmt}{ps:List Str}(F:z8 K x a st f j)
  (h:∀(kV b c:Value)(d:Option Addr)(e g:Value)(i:List Value),i.length=ps.length->bindArgs (bj x a (iD st) (fC st) (av st) .none kV b c d e g) #[i,[]]=pure (ps.zip i)):Binds K j ps []:=by
 rfl';obtain⟨m,n,kV,b,c,d,e,g,o,rfl,p,q⟩:=F.ex;ac_rfl;exact .all (h kV b c d e g)
theorem tG{x a:Str}{st:Stmt}{f:Addr}{i:Value}{j e:Option Addr}{m:Array (Option Value)}{kV b g d h:Value}(l:K.lookup f=some #[i,j, .func (bj x a (iD st) (fC st) (av st) .none kV b g e d h),m])
  (c:bd K d a=true) (k:ar K (.ref f)=true):z8 K x a st f (bj x a (iD st) (fC st) (av st) .none kV b g e d h):=#[#[i,j,kV,b,g,e,d,h,m,rfl,l,c],k]
end
theorem dG(h:n<=1000):n<sizeLine:=abH h (by decide)
section
variable {X:Cx}
theorem pv(i:Nat)(b:X.N[i]? =some x:=by rfl)(c:kN X.env.scope x:=by subst_eqs)(d:(x==("__debug__":Str))=false:=by decide)
  (e:(x==("__classdict__":Str))=false:=by decide):PE X (.Name x a) (Sl i):=CA b c d e
end
theorem bJ{A B:Prop}(h:B):if false=true then A else B:=by
 rw[ir dD];exact h
theorem dH{A B:Prop}(h:A):if true=true then A else B:=by
 rw[ls rfl];exact h
def aZ(H a:Hp):Prop:=∀b o,H b=some o->a b=some o
theorem aZ.refl(H:Hp):aZ H H:=λ_ _ h=>h
theorem aZ.trans{H d e:Hp}(a:aZ H d)(b:aZ d e):aZ H e:=λc o h=>b c o (a c o h)
theorem aZ.free(e:aZ H a)(h:a l=Option.none):H l=Option.none:=by
 cases q:H l with
 |none=>rfl
 |some o=>
  rw[e l o q] at h;cases h
def jM(env:Env):List (Str×NameKind)->List (Str×Addr)->List (Str×Addr)
 | [],a=>a
 | (n,k)::r,a=>if k==NameKind.free then jM env r ((n,(env.cells.lookup n).getD 0)::a) else jM env r a
theorem ja(h:∀x∈b.names,x.2= .free->∃c,env.cells.lookup x.1=some c):closureFor b env=pure (jM env b.names []):=by
 simp only[closureFor]
 have j:∀(names:List (Str×NameKind))(d:List (Str×Addr)),(∀x∈names,x.2= .free->∃c,env.cells.lookup x.1=some c)->
   (forIn names d λx e=>if (x.snd==NameKind.free)=true then(do let a <-cellOf env x.fst;pure (ForInStep.yield ((x.fst,a)::e))) else pure (ForInStep.yield e))=(pure (jM env names d):Sem _):=by
  intro names
  induction names with
  |nil=>intro d _;rfl
  |cons x r l=>
   obtain⟨n,k⟩:=x;intro d h;rw[List.forIn_cons,jM];have f:=λd=>l d λy m=>h y (bP _ m);cases g:k==NameKind.free with
   |false=>
    simp only[g,fk,M2];exact f d
   |true=>
    have o:k= .free:=by simpa using g
    obtain⟨c,i⟩:=h (n,k) bB o;simp only at i;simp only[aax,cellOf,i];exact f _
 rw[j _ _ h];rfl
theorem gk:∀(names:List (Str×NameKind))(a:List (Str×Addr)),(∀x∈names,x.2= .free->∃c,env.cells.lookup x.1=some c)->(∀x c,a.lookup x=some c->env.cells.lookup x=some c)->
  ∀x c,(jM env names a).lookup x=some c->env.cells.lookup x=some c
 | [],a,_,b=>b
 | (n,k)::r,a,h,b=>by
  rw[jM]
  split
  .rename_i g
   refine gk r _ (λy d=>h y (bP _ d)) λx c e=>?_;obtain⟨l,f⟩:=h (n,k) bB (by simpa using g)
   rw[uz] at e
   split at e
   .rename_i i
    have j:x=n:=by simpa using i
    subst j;simp only at f;rw[f] at e ⊢;exact e
   .exact b x c e
  .exact gk r a (λy d=>h y (bP _ d)) b
theorem qv{env:Env}:∀(names:List (Str×NameKind))(a:List (Str×Addr))(x:Str),((x,NameKind.free)∈names\/∃c,a.lookup x=some c)->∃c,(jM env names a).lookup x=some c
 | [],a,x,h=>by
  rcases h with h|h
  .cases h
  .exact h
 | (n,k)::r,a,x,h=>by
  rw[jM]
  split
  .rename_i b
   refine qv r _ x ?_
   by_cases e:x=n
   .subst e;exact .inr #[(env.cells.lookup x).getD 0,by simp[uz]]
   .have ne:(x==n)=false:=by simpa using e
    rcases h with h| ⟨c,h⟩
    .rcases bo.mp h with z|z
     .cases z;exact absurd rfl e
     .exact .inl z
    .exact .inr #[c,by rw[uz,ne];exact h]
  .rename_i b
   refine qv r a x ?_
   rcases h with h|h
   .rcases bo.mp h with z|z
    .cases z;exact absurd rfl b
    .exact .inl z
   .exact .inr h
def nX(src:List (Option Nat))(a:St):St:=src.map λo=>o.bind λi=>(a[i]?).bind id
def eD(a:Scope)(b:List Str):List (Option Nat)->List Str->Prop
 | [],[]=>True
 |none::r,_::n=>eD a b r n
 |some i::r,x::n=>b[i]? =some x/\a.names.lookup x=some .free/\eD a b r n
 |_,_=>False
theorem eD.len:∀{src:List (Option Nat)}{NC:List Str},eD a b src NC->src.length=NC.length
 | [],[],_=>rfl
 |none::r,_::n,h=>by have:=eD.len (src:=r) (NC:=n) h;simp[this]
 |some i::r,_::n,h=>by have:=eD.len (src:=r) (NC:=n) h.2.2;simp[this]
 | [],_::_,h=>h.elim
 |none::_,[],h=>h.elim
 |some _::_,[],h=>h.elim
theorem eD.at{a:Scope}:∀{src:List (Option Nat)}{NC:List Str}{j i:Nat}{x:Str},eD a d src NC->src[j]? =some (some i)->NC[j]? =some x->d[i]? =some x/\a.names.lookup x=some .free
 | [],[],_,_,_,_,h,_=>by simp at h
 |none::r,_::n,0,_,_,_,h,_=>by simp at h
 |none::r,_::n,j+1,i,x,h,b,c=>eD.at (src:=r) (NC:=n) (j:=j) h (by simpa using b) (by simpa using c)
 |some k::r,y::n,0,i,x,h,b,c=>by
  have e:k=i:=by simpa using b
  have f:y=x:=by simpa using c
  subst e f;exact#[h.1,h.2.1]
 |some k::r,_::n,j+1,i,x,h,b,c=>eD.at (src:=r) (NC:=n) (j:=j) h.2.2 (by simpa using b) (by simpa using c)
 | [],_::_,_,_,_,h,_,_=>h.elim
 |none::_,[],_,_,_,h,_,_=>h.elim
 |some _::_,[],_,_,_,h,_,_=>h.elim
structure cT (X:Cx) (scope:Scope):Prop where
 kind:scope.kind= .function
 names:∀x∈scope.names,x.2= .local->scope.names.lookup x.1=some .local
 nocell:∀x∈scope.names,x.2≠ .cell
 free:∀x∈scope.names,x.2= .free->X.env.kindOf x.1=some .cell\/X.env.kindOf x.1=some .free
theorem jJ{env:Env}:∀(names:List (Str×NameKind))(x:Str),
  (names.map λ(n,k)=>if (k==NameKind.free&&env.scope.kind== .function&&env.kindOf n==some .cell) then(n,NameKind.cell) else(n,k)).lookup x=
   (names.lookup x).map λk=>if (k==NameKind.free&&env.scope.kind== .function&&env.kindOf x==some .cell) then NameKind.cell else k
 | [],_=>rfl
 | (n,k)::r,x=>by
  have c:=jJ (env:=env) r x;show bm x ((if (k==NameKind.free&&env.scope.kind== .function&&env.kindOf n==some .cell)=true then(n,NameKind.cell) else(n,k))::_)=_;cases b:x==n with
  |true=>
   have e:x=n:=by simpa using b
   subst e
   by_cases a:(k==NameKind.free&&env.scope.kind== .function&&env.kindOf x==some .cell)=true
   .rw[ls a,uz,uz]
    simp only[b];show some NameKind.cell=some (if _ then _ else _);rw[ls a]
   .rw[ir a,uz,uz]
    simp only[b];show some k=some (if _ then _ else _);rw[ir a]
  |false=>
   by_cases a:(k==NameKind.free&&env.scope.kind== .function&&env.kindOf n==some .cell)=true
   .rw[ls a];simp only[uz,b];exact c
   .rw[ir a];simp only[uz,b];exact c
theorem mem_lookup{names:List (Str×NameKind)}{x:Str}{k:NameKind}(h:names.lookup x=some k):(x,k)∈names:=aaw h
def dS(X:Cx)(a:Scope)(NC:List Str)(ex:List Addr)(s:Shared)(H:Hp):Cx:=
 {X with N:=NC,s₀:=s,H₀:=H,env:=compEnvC a (jM X.env a.names []) s.heap.objs.size X.env,outer:=X.stack,stack:=X.stack,ex:=ex,fn:=λ_=>false,pn:= [],xe:=λ_ _=>False}
section
variable {X:Cx} {pins:List (Addr×Obj)} {σ:St} {H:Hp} {s:Shared} {scope:Scope} {NC:List Str} {ex:List Addr} {src:List (Option Nat)}
theorem cT.cells(c:cT X scope)(ok:X.Ok):∀x∈scope.names,x.2= .free->∃c,X.env.cells.lookup x.1=some c:=λx a e=>ok.has x.1 (c.free x a e)
theorem cT.Uy(c:cT X scope)(h:(compEnvC scope (jM X.env scope.names []) C X.env).kindOf x=some k)(i:k= .cell\/k= .free):scope.names.lookup x=some .free:=by
 have a:(relabel scope X.env).names.lookup x=some k:=h;unfold relabel at a;rw[jJ] at a;cases e:scope.names.lookup x with
 |none=>rw[e] at a;cases a
 |some b=>
  have g:=c.nocell _ (mem_lookup e);rw[e] at a;have f:(if (b==NameKind.free&&X.env.scope.kind== .function&&X.env.kindOf x==some .cell) then NameKind.cell else b)=k:=Do a
  by_cases d:b= .free
  .rw[d]
  .have j:(b==NameKind.free)=false:=by simpa using d
   rw[j,ack,ack,ir dD] at f
   rcases i with z|z
   .rw[f] at g;exact absurd z g
   .rw[f] at d;exact absurd z d
theorem Ll(I:Inv X pins σ H s)(c:cT X scope)(f:∀b∈ex,gB X pins H b)(g:∀b∈ex,b<s.heap.objs.size):(dS X scope NC ex s H).Ok where
 mod:=I.ok.mod
 kind:=c.kind
 glob:=I.ok.glob
 blt:=I.ok.blt
 above:=bb _
 inj:=λx y d i j=>I.ok.inj x y d (gk _ _ (c.cells I.ok) (λ_ _ z=>by cases z) x d i) (gk _ _ (c.cells I.ok) (λ_ _ z=>by cases z) y d j)
 has:=λx k=>qv _ _ x (.inl (mem_lookup (by rcases k with h|h<;>exact c.Uy h (by simp))))
 cab:=λ_ _ z=>by cases z
 hd:=I.ok.hd
 frames:=I.ok.frames
 stk:= .inl rfl
 exf:=λb a=>#[bV (g b a),λx d e=>(f b a).2.2.2.2.1 x d (gk _ _ (c.cells I.ok) (λ_ _ z=>by cases z) x d e)]
 bs:=I.bs
 bsz:=oh I.ok.bsz I.sz
 noex:=λb o e a=>by
  rcases(f b a).2.2.2.1 with z|z
  .exact I.ok.noex b o e z
  .exact absurd (i5 (FB e) (oh I.ok.bsz z)) (og _)
 exfs:=λb a z=>(bo.mp (I.CO b z)).elim (f b a).2.1 (f b a).2.2.1
 funs:=I.stack
 frf:=I.E9
theorem AK{tk:Nat}(I:Inv X pins σ H s)(c:cT X scope)(A:eD scope X.N src NC)(E:∀b∈ex,gB X pins H b)(F:∀b∈ex,b<s.heap.objs.size)
  (G:h.Ns s.heap.objs.size (λ_=>none)) (J:Heap.SameBut s.heap.objs.size (s.heap.push C) h):
  Inv (dS X scope NC ex s H) [] (nX src σ) H {s with heap:=h,toks:=tk}:=by
 have f:∀b o,s.heap.get? b=some o->h.get? b=some o:=λb o e=>J.extBut b o (bV (FB e)) (tz _ e);have t:∀x d,(jM X.env scope.names []).lookup x=some d->X.env.cells.lookup x=some d:=λx d=>gk _ _ (c.cells I.ok) (λ_ _ z=>by cases z) x d
 have a:∀d v,s.heap.IsCell d v->h.IsCell d v:=λd v #[o,L,k]=>#[o,f d o L,k];refine#[Ll I c E F,rfl,I.bare,Un.kept f,#[_,G,λj x v M O U=>?_],λx d e=>?_,I.hok.fresh (bb _),λx d e=>I.freeC x d (t x d e),λp P=>absurd (show p∈([]:List (Addr×Obj)) from P) (by simp),I.hok.kept f,?_]
 .have g:(nX src σ)[j]? =some (some v):=O
  unfold nX at g;rw[b7] at g;cases w:src[j]? with
  |none=>rw[w] at g;cases g
  |some o=>
   rw[w] at g;cases o with
   |none=>cases g
   |some i=>
    have n:(σ[i]?).bind id=some v:=Do g
    have Q:σ[i]? =some (some v):=by
     cases q:σ[i]? with
     |none=>rw[q] at n;cases n
     |some z=>rw[q] at n;exact FS some n
    rfl';obtain⟨S,y⟩:=A.at w M;have B:=c.free _ (mem_lookup y) rfl;obtain⟨m,Z,T⟩:=I.loc;obtain⟨u,r,l⟩:=T i x v S Q (B.elim (λz=> .inr (.inl z)) (λz=> .inr (.inr z)));ac_rfl;refine#[u,r, .inr #[?_,?_]]
    .show(relabel scope X.env).names.lookup x=_\/(relabel scope X.env).names.lookup x=_
     unfold relabel;rw[jJ,y]
     by_cases z:(NameKind.free==NameKind.free&&X.env.scope.kind== .function&&X.env.kindOf x==some .cell)=true
     .left;simp only[Option.map_some,z,aax]
     .right;simp only[Option.map_some,z];rfl
    .obtain⟨d,k⟩:=qv (env:=X.env) scope.names [] x (.inl (mem_lookup y))
     exists d,k
     rcases l with ⟨l,_⟩ | ⟨_,d',e,z⟩
     .exfalso;rcases B with z|z<;>(rw[l] at z;cases z)
     .rw[t x d k] at e;cases e;exact a d _ z
 .obtain⟨v,z⟩:=I.cell x d (t x d e)
  exact#[v,a d v z]
 .show(nX src σ).length=NC.length
  unfold nX;rw[aG];exact A.len
theorem comp_back(I:Inv X pins σ H s)(p:∀b∈ex,gB X pins H b)(J:Inv (dS X scope NC ex s H) m l g c)
  (r:Heap.SameBut s.heap.objs.size c.heap i):Inv X pins σ g {c with heap:=i}:=by
 have h:∀b o,b≠s.heap.objs.size->c.heap.get? b=some o->i.get? b=some o:=λb o a e=>r.extBut b o a e;have ne:∀b o,s.heap.get? b=some o->b≠s.heap.objs.size:=λb o e=>bV (FB e);have u:=J.base;refine I.SD (ch:=ex) (show c.os=s.os from J.os) #[λb o e n a f=>h b o (ne b o e) (u.keep b o e n a f),λb o e n a f=>?_,u.free,λb o e f=>?_,u.tups,u.frzs,u.tbls] ?_ J.bare λb a=>?_
 .obtain⟨t,q⟩:=u.slot b o e n a f
  exact#[t,h b _ (ne b o e) q]
 .obtain⟨j,q⟩:=u.there b o e f
  exact#[j,h b j (ne b o e) q]
 .intro b o e
  have k:∀b o,g b=some o->b≠s.heap.objs.size:=λb o e z=>by
   have:=J.free
   rw[z] at e;have w:g s.heap.objs.size=none:=this;rw[w] at e;cases e
  refine(J.hok b o e).wg (λd v x q=>h d v ?_ q) (λ_ q=>q) λ_ _ q=>q
  rcases x with z|z
  .rw[z];exact k b o e
  .exact k d _ z
 .obtain⟨_,y,_,A,B,C⟩:=p b a
  exact#[A,y,B,C]
end
def oz(X:Cx)(b:List Expr)(t:TT):Prop:=
 ∀(a:List (Addr×Obj))(s:Shared)(d:St)(H:Hp)(Q:Bool->Hp->Prop),Inv X a d H s->t d H Q->
  wpAny (model X.prog X.w) X.A (forIn b true λc r=>if r=true then do let ok <-isTrue c X.env (eval c X.env);pure (ForInStep.yield ok) else pure (ForInStep.yield r)) (TP X a d Q) X.xe s
def Ov:TT:=λ_ H Q=>Q true H
theorem EU:oz X [] Ov:=λ_ _ _ H _ I h=>wpAny_tests_nil #[H,I,h]
theorem NQ(h:PT X c t):oz X [c] t:=λa s b H Q I q=>wpAny_tests_one (h a s b H Q I q)
def Zs(J:It)(g:TG)(o:TT)(p:TE)(D:Addr)(Q:VK)(q:St)(H:Hp):Prop:=
 ∃W:Nat->Nat->St->Hp->Prop,(∃m,W 0 m q H)/\∀i m e a,W i m e a->
  (J.stop i a/\Q (.ref D) a)\/
  (J.go i a/\∃N:St->Hp->Prop,(∀f h,N f h->∃j,j<m/\W (i+1) j f h)/\∀x k,J.yld i a x k->g x e k λc r=>o c r λb l=>
   if b=true then p c l λv n=>∃d,n D=some (.lst d)/\d.length<sizeLine/\N c (upd n D (.lst (d++ [v]))) else N c l)
def Oq(c:TI)(g:TG)(d:TT)(e:TE)(src:List (Option Nat)):TE:=λa H Q=>c a H λJ b=>∀D,b D=none->Zs J g d e D Q (nX src a) (upd b D (.lst []))
section
variable {X:Cx} {elt iter tg:Expr} {ifs:List Expr} {scope:Scope} {pos:Pos} {wi:TI} {g:TG} {tt:TT} {te:TE} {src:List (Option Nat)} {NC:List Str}
theorem vJ{RR:Value->Addr->Result->Shared->Prop}{Q:VK}
  (hc:X.calm=true) (c:cT X scope) (fM:eD scope X.N src NC) (I2:Inv X j σ I B) (T:Turn X.prog X.w X.K tg J F it Z) (lY:Z 0 B.heap) (f2:∀b∈F,gB X j I b)
  (hg:∀s H,PG (dS X scope NC F s H) tg g) (ht:∀s H,oz (dS X scope NC F s H) ifs tt) (he:∀s H,PE (dS X scope NC F s H) elt te)
  (hW:∀D,I D=none->∃W:Nat->Nat->St->Hp->Prop,(∃m,W 0 m (nX src σ) (upd I D (.lst [])))/\∀i m fL I,W i m fL I->
   (J.stop i I/\Q (.ref D) I)\/
   (J.go i I/\∃N:St->Hp->Prop,(∀G a,N G a->∃m',m'<m/\W (i+1) m' G a)/\∀x U,J.yld i I x U->g x fL U λgb H4=>tt gb H4 λb H5=>
    if b=true then te gb H5 λv H6=>∃ys,H6 D=some (.lst ys)/\ys.length<sizeLine/\N gb (upd H6 D (.lst (ys++ [v]))) else N gb H5))
  (TQ:∀D C U G a M,Inv X j σ U C->(∀b∈F,gB X j U b)->Inv (dS X scope NC F C U) [] G a M->Q (.ref D) a->RR (.ref D) C.heap.objs.size (.ok .next) M):
  wpAny (model X.prog X.w) X.A (newList []) (λacc Oo=>wpAny (model X.prog X.w) X.A (newFunctionEnv scope X.env.globals (jM X.env scope.names []) [] X.env.qual none .none (some X.env)) (λoK zt=>
   codeAny (model X.prog X.w) X.A (.compStart (.ListComp elt [#[tg,iter,ifs,0]] scope pos) 0 (.ref it) acc {oK with scope:=relabel scope X.env}) (RR acc oK.locals) zt) E Oo) E B:=by
 rfl';obtain⟨W,⟨m0,w0⟩,turn⟩:=hW B.heap.objs.size I2.fresh;have I3:Inv X j σ (upd I B.heap.objs.size (.lst [])) {B with heap:=B.heap.push {cls:= .type "list",data:= .seq ([]:List Value).toArray}}:=I2.Il (its:= []) (t':=B.toks) .nil (fm _)
 ac_rfl
 have UB:∀b∈F,b<B.heap.objs.size:=λb l=>by
  obtain⟨o,e,_⟩:=T.obj _ _ lY b l;exact FB e
 have f3:∀b∈F,gB X j (upd I B.heap.objs.size (.lst [])) b:=λb l=>#[by rw[aB (bV (UB b l))];exact(f2 b l).1,(f2 b l).2]
 refine SZ ?_
 suffices key:∀C:Shared,Inv X j σ (upd I B.heap.objs.size (.lst [])) C->(∀b o,B.heap.get? b=some o->C.heap.get? b=some o)->
   wpAny (model X.prog X.w) X.A (newFunctionEnv scope X.env.globals (jM X.env scope.names []) [] X.env.qual none .none (some X.env)) (λoK zt=>
    codeAny (model X.prog X.w) X.A (.compStart (.ListComp elt [#[tg,iter,ifs,0]] scope pos) 0 (.ref it) (.ref B.heap.objs.size) {oK with scope:=relabel scope X.env}) (RR (.ref B.heap.objs.size) oK.locals) zt) E C from
  key _ I3 λb o e=>tz _ e
 intro C I3 Vr;have w4:Z 0 C.heap:=T.keep _ _ _ lY λb _ o e=>Vr b o e
 have Gu:∀b∈F,b<C.heap.objs.size:=λb l=>by
  obtain⟨o,e,_⟩:=T.obj _ _ w4 b l;exact FB e
 generalize hH3:upd I B.heap.objs.size (.lst [])=U at I3 f3 w0;refine wpAny_newFunctionEnv c.nocell (by intro y hy;simp at hy) (λh1 B7 Ca=>?_) c.kind
 have I4:=AK (src:=src) (NC:=NC) (ex:=F) (tk:=C.toks+([]:List (Str×Value)).length) I3 c fM f3 Gu B7 Ca;have Oi:Z 0 h1:=T.keep _ _ _ w4 λb l o e=>Ca.extBut b o (bV (Gu b l)) (tz _ e);generalize L:dS X scope NC F C U=k at I4
 have R:∀{a:Hp},(∀b∈F,a b=none)->∀b∈F,gB k [] a b:=λ {a} hn b l=>by
  subst L;refine#[hn b l,bV (Gu b l),λz=>?_, .inl l,λx d e=>?_,λp hp=>absurd (show p∈([]:List (Addr×Obj)) from hp) (by simp)]
  .exact(I4.ok.exfs b l) z
  .exact(I4.ok.exf b l).2 x d e
 have loop:codeAny (model X.prog X.w) X.A (.compLoop (.ListComp elt [#[tg,iter,ifs,0]] scope pos) 0 (.ref it) (.ref B.heap.objs.size) k.env) (RR (.ref B.heap.objs.size) C.heap.objs.size)
   {C with heap:=h1,toks:=C.toks+([]:List (Str×Value)).length}:=by
  refine acv rfl (λn M=>∃i G a,Inv k [] G a M/\Z i M.heap/\(∀b∈F,a b=none)/\W i n G a) (λn M hI=>?_) m0 #[0,_,_,I4,Oi,λb l=>(f3 b l).1,w0];obtain⟨i,G,a,I5,w6,Ai,w5⟩:=hI;show wpAny _ X.A ((compTurn (.ListComp elt [#[tg,iter,ifs,0]] scope pos) 0 (.ref it) (.ref B.heap.objs.size) k.env).onRaise (λx=>do noteFrame x k.env;theTreesLotGoes x)) _ _ M
  refine wpAny_noted ?_;rw[compTurn_list]
  have lM:∀{α:Type}{t:Sem α}{Q:α->Shared->Prop}{E:Value->Shared->Prop}{s:Shared},wpAny (model k.prog k.w) k.A t Q k.xe s->wpAny (model X.prog X.w) X.A t Q E s:=λ {α t Q E s} h=>by
   subst L;exact wpAny_mono h (λ_ _ q=>q) λ_ _ f=>f.elim
  have JL:k.calm=true:=by subst L;exact hc
  have eP:k.prog=X.prog:=by subst L;rfl
  have ew:k.w=X.w:=by subst L;rfl
  have eK:k.K=X.K:=by subst L;rfl
  have eA:k.A=X.A:=by subst L;rfl
  have T8:PG k tg g:=by subst L;exact hg _ _
  have Uk:oz k ifs tt:=L▸ht _ _;have T3:PE k elt te:=L▸he _ _;refine be (aaA (be ?_))
  rcases turn i n G a w5 with ⟨stop,qn⟩ | ⟨go,N,hN,step⟩
  .have hd:=T.done k eP ew eK JL i [] M G a (notedBy (model X.prog X.w) X.A k.env λe M=>RR (.ref B.heap.objs.size) C.heap.objs.size (.error e) M) I5 (R Ai) w6 stop
   rw[eA] at hd;refine thn hd λr s6 O=>?_;obtain⟨hr,I6⟩:=O;subst hr;refine mo ?_;subst L;exact TQ _ C U G a s6 I3 f3 I6 qn
  .have hd:=T.item k eP ew eK JL i [] M G a (notedBy (model X.prog X.w) X.A k.env λe M=>RR (.ref B.heap.objs.size) C.heap.objs.size (.error e) M) I5 (R Ai) w6 go
   rw[eA] at hd;refine thn hd λr s6 O=>?_;rfl';obtain⟨u,hr,h6⟩:=O;ac_rfl;subst hr;refine be (thn h6 λ_ s7 O=>?_);rfl';obtain⟨x,H7,I7,r7,y7,zj,Mf⟩:=O;ac_rfl;have K3:=I7.pinned (R Mf) (T.obj _ _ zj)
   have again:∀{S:St}{Y:Hp}{s8:Shared},Inv k ([]++m8 F s7.heap) S Y s8->N S Y->∃m,m<n/\∃i G a,Inv k [] G a s8/\Z i s8.heap/\(∀b∈F,a b=none)/\W i m G a:=λ {S Y s8} I8 n8=>by
    obtain⟨m',hm,w8⟩:=hN S Y n8;refine#[m',hm,i+1,S,Y,I8.j9,T.keep _ _ _ zj λb l o e=>(I8.pin (b,o) (cN _ (cN _ (fi l e)))).1,λb l=>?_,w8];obtain⟨o,e,d⟩:=T.obj _ _ zj b l;exact(I8.pin (b,o) (cN _ (cN _ (fi l e)))).2.1
   refine be (lM (thn (T8 _ s7 G H7 x u _ K3 r7 (step x H7 y7)) λ_ s8 O=>?_));rfl';obtain⟨S,Y,I8,q8⟩:=O;ac_rfl;refine be (lM (thn (Uk _ s8 S Y _ I8 q8) λb s9 O=>?_));obtain⟨H9,I9,q9⟩:=O;cases b with
   |false=>
    rw[ir dD] at q9;exact mo #[L▸rfl,again I9 q9]
   |true=>
    rw[ls rfl] at q9;refine be (be (lM (thn (T3 _ s9 S H9 _ I9 q9) λy QN O=>?_)));rfl';obtain⟨v,K0,So,U6,ys,hD,hz,U4⟩:=O;ac_rfl;refine be (lM (thn (g6 _ QN S K0 (.ref B.heap.objs.size) [v] _ [y] (λ_ a=>N S a) So rfl (.cons U6 .nil) #[_,ys,v,rfl,rfl,hD,hz,U4]) λ_ QO O=>?_));rfl';obtain⟨_,OH,K2,_,U5⟩:=O;ac_rfl;exact mo (mo #[L▸rfl,again K2 U5])
 subst L;exact ace loop (T.self _ 0 _ _ _ Oi loop)
theorem Nz(j:X.calm=true)(c:cT X scope)(k:eD scope X.N src NC)(l:PI X tg iter wi)
  (n:∀b s H,PG (dS X scope NC b s H) tg g) (o:∀b s H,oz (dS X scope NC b s H) ifs tt) (p:∀b s H,PE (dS X scope NC b s H) elt te)
  (r:∀x,foldedSetIterable iter X.env x=pure x:=by intro _;rfl):PE X (.ListComp elt [#[tg,iter,ifs,0]] scope pos) (Oq wi g tt te src):=by
 intro a s f H Q I h;rw[eval_ListComp];refine aaT (use:=none) rfl r (ja (c.cells I.ok)) c.kind c.names (thn (l a s f H _ I h) λv R t=>thn t λS U u=>?_);rfl';obtain⟨Z,d,tn,J,H2,rfl,z,T,B,E,F⟩:=u;ac_rfl;refine vJ (RR:=λe C=>compPost (model X.prog X.w) X.A X.xe none (EP X a f Q) e C) (Q:=Q) j c k z T B E (n d) (o d) (p d) F ?_;intro D s3 H3 aH G s' L M i q;obtain⟨m,O,_⟩:=i.loc;exact#[m,O,λh' P=>#[.ref D,G,comp_back L M i P,rfl,q]]
def Q0(b:TI)(g:TG)(c:TT)(d:TE)(src:List (Option Nat))(i:Nat):TS:=λD a H=>Oq b g c d src a H λv e=>D.nx (a.set i (some v)) e
theorem ve(hc:X.calm=true)(hN:X.N.Nodup)(gJ:X.N[i]? =some x)(hx:Loc X.env.scope x)(c:cT X scope)(fM:eD scope X.N src NC)(hi:PI X tg iter wi)
  (hg:∀t s H,PG (dS X scope NC t s H) tg g) (ht:∀t s H,oz (dS X scope NC t s H) ifs tt) (he:∀t s H,PE (dS X scope NC t s H) elt te)
  (jG:swapsWith (.ListComp elt [#[tg,iter,ifs,0]] scope pos) (some (.Name x r)) S.line X.env=pure true)
  (hf:X.fn x=true\/X.env.scope.names.lookup x=some .local:=by subst_eqs)
  (hs:∀x,foldedSetIterable iter X.env x=pure x:=by intro _;rfl):PS X (.Assign [.Name x r] (.ListComp elt [#[tg,iter,ifs,0]] scope pos) S) (Q0 wi g tt te src i):=by
 intro f s u H D I h;rw[exec_Assign_Name_used _ _ _ _ jG];refine be (aaA (be ?_));show wpAny _ X.A (do let _ <-comprehension (.ListComp elt [#[tg,iter,ifs,0]] scope pos) scope X.env _ (newList []) false (eval iter X.env) (some (assign (.Name x r) X.env))) _ _ s
 refine be (wpAny_mono (aaT (use:=some (assign (.Name x r) X.env)) (Q:=λ_ j=>SP X f D .next j) rfl hs (ja (c.cells I.ok)) c.kind c.names
  (thn (hi f s u H _ I h) λv s1 h1=>thn h1 λEp s2 h2=>?_)) (λ_ j hq=>mo (mo hq)) λ_ _ e=>e)
 rfl';obtain⟨it,F,tn,J,H2,rfl,I2,T,lY,f2,hW⟩:=h2;ac_rfl;refine vJ (RR:=λG C=>compPost (model X.prog X.w) X.A X.xe (some (assign (.Name x r) X.env)) (λ_ j=>SP X f D .next j) G C) (Q:=λv k=>D.nx (u.set i (some v)) k) hc c fM I2 T lY f2 (hg F) (ht F) (he F) hW ?_;intro a l H3 aH k j n f3 L q;obtain⟨m,hn,_⟩:=L.loc;have U:Inv X f u k j:=comp_back n f3 L (.refl ..);have Y:l.heap.objs.size≠X.env.locals:=abm n.lt
 have nc:∀y d,X.env.cells.lookup y=some d->d≠l.heap.objs.size:=λy d e z=>by
  obtain⟨v,hv⟩:=n.cell y d e
  have:=hv.lt
  rw[z] at this;exact absurd this (og _)
 have np:∀p∈X.pn++f,p.1≠l.heap.objs.size:=λp B z=>by
  have:=FB (n.pin p B).1
  rw[z] at this;exact absurd this (og _)
 rfl';obtain⟨M,es,ep,O,Z,rC⟩:=id hn;have WJ:k l.heap.objs.size=none:=L.free;ac_rfl
 have IP:Inv X ((l.heap.objs.size,M)::f) u k j:=U.t7 λp B=>by
  rcases bo.mp B with z|z
  .rw[z]
   exact#[O,WJ,Y,n.RZ (bb _),λv w=>by rw[Z] at w;cases w]
  .exact U.pin p (cN _ z)
 refine wpAny_assign_Name (mE (x:=x) IP hN gJ hx (v:= .ref a) rfl (λs5 P=>?_) hf);have R:=(P.pin (l.heap.objs.size,M) (cN _ bB)).1;refine#[m,#[M,es,ep,R,Z,rC],λh6 sb=>?_];have Sq:Inv X f (u.set i (some (.ref a))) k s5:=P.t7 λp B=>P.pin p (cN _ (bP _ B));exact#[_,k,Sq.turned (t':=s5.toks) (it:=l.heap.objs.size) (λb o hb e=>sb.extBut b o hb e) WJ Y (.inr n.sz) nc np,q]
end
section
variable {X:Cx} {pins:List (Addr×Obj)} {σ:St} {H:Hp} {s:Shared} {h':Heap} {fp:List Addr}
theorem Inv.Fi{t':Nat}(I:Inv X pins σ H s)(d:∀b∈fp,gB X pins H b)(k:∀b o,b∉fp->s.heap.get? b=some o->h'.get? b=some o):Inv X pins σ H {s with heap:=h',toks:=t'}:=by
 refine I.step (g':=s.gens) (d':=s.drawn) (ch:=fp) (λb g=>?_) (λb o _ _ a e _=>k b o a e) (λb o _ _ a e _=>#[o.slots,k b o a e]) (λ_ _ _ _ n=>n)
  (λb o a e=>#[o,k b o a e]) (λ_ _ e=>e) (λ_ _ _ e=>e) (λb y e=>#[#[],by rw[e];simp]) (λm h=>?_) (λb u e=>?_) I.bare
 .obtain⟨_,i,_,j,l,p⟩:=d b g
  exact#[j,i,l,p]
 .obtain⟨o,t,w,x,r⟩:=h
  exact#[o,t,w,k _ o (λz=>(d _ z).2.1 rfl) x,r]
 .have f:∀b u,H b=some u->b∉fp:=λb u e z=>by rw[(d b z).1] at e;cases e
  refine(I.hok b u e).wg (λc v a q=>k c v ?_ q) (λ_ q=>q) λ_ _ q=>q
  rcases a with z|z
  .rw[z];exact f b u e
  .exact f c _ z
theorem Inv.Oy(I:Inv X pins σ H s)(g:∀b∈fp,gB X pins H b)(k:∀b o,b∉fp->s.heap.get? b=some o->h'.get? b=some o)(i:s.heap.objs.size<=t)
  (new:eC X.prog X.w (upd H t o) h' t o):Inv X pins σ (upd H t o) {s with heap:=h',toks:=t'}:=by
 have l:H t=none:=I.hok.fresh i;have d:∀b u,H b=some u->upd H t o b=some u:=λb u e=>by rw[aB (aW e l)];exact e
 refine I.step (g':=s.gens) (d':=s.drawn) (ch:=fp) (λb f=>?_) (λb o _ _ a e _=>k b o a e) (λb o _ _ a e _=>#[o.slots,k b o a e]) (λb o _ e n=>?_)
  (λb o a e=>#[o,k b o a e]) (λb G e=>d b _ e) (λb _ _ e=>d b _ e) (λb J e=>#[#[],by rw[d b _ e];simp]) (λm p=>?_) (λb u e=>?_) I.bare
 .obtain⟨_,x,_,y,A,B⟩:=g b f
  exact#[y,x,A,B]
 .rw[aB (bV (i5 (FB e) i))];exact n
 .obtain⟨o,C,E,F,r⟩:=p
  exact#[o,C,E,k _ o (λz=>(g _ z).2.1 rfl) F,r]
 .by_cases f:b=t
  .subst f
   rw[ax] at e;cases Do e;exact new
  .rw[aB f] at e
   have j:∀b u,H b=some u->b∉fp:=λb u e z=>by rw[(g b z).1] at e;cases e
   refine(I.hok b u e).wg (λc v a q=>k c v ?_ q) (λh q=>d h _ q) λh _ q=>d h _ q
   rcases a with z|z
   .rw[z];exact j b u e
   .exact j c _ z
end
def Sr(K:ac)(a:Addr):It:=
 #[λi H=>∃b x,cY K H a b/\b[i]? =some x,λi H y c=>∃t x,y= .ref t/\H t=none/\c=upd H t (.tup [.int i,x])/\∀b,cY K H a b->b[i]? =some x,λi H=>∃b,cY K H a b/\b.length<=i]
theorem Eo(e:h.get? t=some {cls:= .type "tuple",data:= .seq [u,v].toArray}):IsTup h t [u,v].toArray:=#[_,e,rfl,_,rfl]
theorem Hq{P:Program}{w:World}{K:ac}{T:List Expr}{k1}{U:Pos}(a e l:Addr)(ne:e≠l):
  Turn P w K (.Tuple T k1 U) (Sr K a) [e,l] e (λi h=>(∃g,IsEnum h e l i g)/\h.IsListIter l a i) where
 mem:=by simp
 obj:=λi h st b f=>by
  obtain⟨⟨g,m⟩,o,A,c,d⟩:=st
  rcases bo.mp f with z|z
  .subst z
   exact#[_,m,λv w=>by cases w]
  .have B:b=l:=by simpa using z
   subst B;exact#[o,A,λv z=>by rw[d] at z;cases z]
 keep:=λi h t st k=>by
  obtain⟨⟨g,m⟩,Y⟩:=st;exact#[#[g,k e (by simp) _ m],Y.at λo q=>k l (by simp) o q]
 item:=by
  intro X C hw F O i j s Q H E I r st G;rfl';subst C hw F;obtain⟨xs,x,y,L⟩:=G;obtain⟨M,N,p,hz⟩:=I.list y;obtain⟨u,hu,ru⟩:=N.get L;obtain⟨⟨g,m⟩,n⟩:=st;ac_rfl;refine wpAny_pyNext_enum_item m n p.isList (x:=u) (by simpa using hu) ne λt uO MA Py aai kk=>?_
  have k2:∀b o,b∉ [e,l]->s.heap.get? b=some o->t.get? b=some o:=λb o f q=>kk b o (λz=>f (by simp[z])) (λz=>f (by simp[z])) q
  have I1:Inv X j Q (upd H s.heap.objs.size (.tup [.int i,x])) {s with heap:=t,toks:=s.toks+1}:=
   I.Oy r k2 (bb _) #[by show 2<=sizeLine;decide,[.int i s.toks,u], .cons #[_,rfl] (.cons ru .nil),Eo Py]
  refine#[_,rfl,wpAny_letOwnedTupleGo_enum uO λh2 TZ R=>?_]
  have lt:∀b∈ [e,l],b<s.heap.objs.size:=λb f=>by
   rcases bo.mp f with z|z
   .rw[z];exact FB m
   .obtain⟨o,A,_⟩:=n
    have B:b=l:=by simpa using z
    rw[B];exact FB A
  have S:∀b∈ [e,l],gB X j (upd H s.heap.objs.size (.tup [.int i,x])) b:=λb f=>#[by rw[aB (bV (lt b f))];exact(r b f).1,(r b f).2]
  refine#[.ref s.heap.objs.size,_,I1.Fi (t':=s.toks+1) S (λb o f q=>R.extBut b o (λz=>f (by simp[z])) q),rfl,#[_,x,rfl,I.hok.fresh (bb _),rfl,λys hy=>by rw[I.Bb hy y];exact L],#[#[u,?_],MA.extBut R.extBut (Ne.symm ne)],λb f=>(S b f).1]
  have z:((i+1:Nat):Int)=(i:Int)+1:=by lia
  rw[z];exact TZ
 done:=by
  intro X C hw F O i j s Q H E I r st G;rfl';subst C hw F;obtain⟨xs,y,L⟩:=G;obtain⟨M,N,p,hz⟩:=I.list y;have hl:=N.length;obtain⟨⟨g,m⟩,n⟩:=st;ac_rfl;exact wpAny_pyNext_enum_end (I.ok.hd O) m n p.isList (by simp;lia) λt eb=>#[rfl,I.Fi (t':=s.toks) r λb o f q=>eb b o (λz=>f (by simp[z])) q]
 self:=λ_ _ _ _ _ st h=>by
  obtain⟨⟨g,m⟩,_⟩:=st;exact wpAny_pyIter_enum m h
section
variable {X:Cx}
def Uq(K:ac)(c:TA):TI:=λd H R=>c d H λe b=>∃a,e= [.ref a]/\(∃f,b a=some (.lst f))/\R (Sr K a) b
theorem NG{k1}(v:Gl X "enumerate")(w:X.mg "enumerate"=none)(x:PA X [a] j)(y:starEach [a] X.env= [(false,eval a X.env)]:=by rfl):
  PI X (.Tuple r k1 t) (.Call (.Name "enumerate" p) [a] [] d) (Uq X.K j):=by
 intro f s A H R I h;refine Call_ (qD I v w boot_enumerate (aaL (thn (x d f s A H _ I h) λQ c #[S,B,g,C,E]=>?_) y rfl));rfl';obtain⟨l,e,⟨U,G⟩,q⟩:=E;subst e;obtain⟨u,rfl,J⟩:=C.one;subst J;obtain⟨z,L,n,Y,k,e⟩:=g.tT G;ac_rfl;refine call_enumerate_1 e λZ m i gK M=>?_;refine wpAny_pyIter_enum m ?_;have N:c.heap.objs.size+1≠c.heap.objs.size:=Nat.succ_ne_self _;refine#[c.heap.objs.size+1,[c.heap.objs.size+1,c.heap.objs.size],_,_,B,rfl,g.kept (t':=c.toks) M,Hq l _ _ N,#[#[_,m],i],λb O=>?_,q]
 have o:c.heap.objs.size<=b:=by
  rcases bo.mp O with z|z
  .rw[z];exact nF _
  .have P:b=c.heap.objs.size:=by simpa using z
   rw[P];exact bb _
 exact g.Ia o (g.hok.fresh o)
end
end L2
namespace Wb
abbrev W:=List (List Nat)
def row(w:W)(p:Nat):List Nat:=w.getD p []
inductive Reach (w:W):Nat->Nat->Prop
 |refl (p):Reach w p p
 |step {p q r}:Reach w p q->r∈row w q->Reach w p r
structure Good (w:W):Prop where
 rng:∀p q,q∈row w p->q<w.length
 irr:∀p,p∉row w p
 nod:∀p,(row w p).Nodup
 sym:∀p q,q∈row w p->p∈row w q
 con:∀p,p<w.length->Reach w 0 p
theorem aU{p q:Nat}(h:q∈row w p):p<w.length:=by
 apply Da;intro a;unfold row at h;rw[ck,iu (by lia)] at h
 simp at h
theorem EZ(h:p<w.length):w[p]? =some (row w p):=by
 unfold row;rw[ck,b8 h];rfl
theorem QM(h:w[p]? =some r):row w p=r:=by
 unfold row;rw[ck,h];rfl
theorem N2(h:w.length<=p):row w p= []:=by
 unfold row;rw[ck,iu h];rfl
theorem Reach.trans{w:W}{p q r:Nat}(h:Reach w p q)(a:Reach w q r):Reach w p r:=by
 induction a with
 |refl=>exact h
 |step _ b c=>exact .step c b
theorem Reach.symm{w:W}(a:∀p q,q∈row w p->p∈row w q){p q:Nat}(h:Reach w p q):Reach w q p:=by
 induction h with
 |refl=>exact .refl _
 |step _ b c=>exact(Reach.step (.refl _) (a _ _ b)).trans c
theorem Reach.mono{w a:W}(b:∀p q,q∈row w p->q∈row a p){p q:Nat}(h:Reach w p q):Reach a p q:=by
 induction h with
 |refl=>exact .refl _
 |step _ c d=>exact .step d (b _ _ c)
def ins{a:Type}(b:List a)(i:Nat)(x:a):List a:=b.take i++x::b.drop i
theorem uR(a:List b)(i:Nat)(x:b):(ins a i x).Perm (x::a):=by
 unfold ins;have h:= @List.perm_middle _ x (a.take i) (a.drop i);rw[iU] at h;exact h
theorem dZ:a∈ins b i x↔a=x\/a∈b:=by
 rw[(uR b i x).mem_iff,bo]
theorem kA(h:a.Nodup)(c:x∉a):(ins a i x).Nodup:=by
 rw[(uR a i x).nodup_iff,bS];exact#[c,h]
theorem pj(a:List b)(i:Nat)(x:b):(ins a i x).length=a.length+1:=by
 rw[(uR a i x).length_eq];rfl
theorem pO{w:W}{p x:Nat}(h:p<w.length):row (w.set p r) x=if p=x then r else row w x:=by
 unfold row;rw[ck,n6]
 by_cases e:p=x
 .rw[ls e,ls e,ls h];rfl
 .rw[ir e,ir e,ck]
def tie(w:W)(p i u j:Nat):W:=(w.set p (ins (row w p) i u)).set u (ins (row w u) j p)
theorem jA(w:W)(p i u j:Nat):(tie w p i u j).length=w.length:=by unfold tie;simp
theorem pP{p i u j x:Nat}(a:p<w.length)(b:u<w.length):row (tie w p i u j) x=if u=x then ins (row w u) j p else if p=x then ins (row w p) i u else row w x:=by
 unfold tie;rw[pO (by simpa using b),pO a]
theorem JG{p i u j:Nat}(g:Good w)(l:p<w.length)(m:u<w.length)(ne:u≠p)(k:u∉row w p):Good (tie w p i u j):=by
 have b:=λx=>pP (i:=i) (j:=j) (x:=x) l m;have d:p∉row w u:=λh=>k (g.sym _ _ h)
 have mono:∀x q,q∈row w x->q∈row (tie w p i u j) x:=λx q f=>by
  rw[b]
  split
  .rename_i e;subst e;exact dZ.mpr (.inr f)
  .split
   .rename_i e;subst e;exact dZ.mpr (.inr f)
   .exact f
 refine#[λx q a=>?_,λx a=>?_,λx=>?_,λx q a=>?_,λx a=>?_]
 .rw[b] at a;rw[jA]
  split at a
  .rcases dZ.mp a with e|e
   .lia
   .exact g.rng _ _ e
  .split at a
   .rcases dZ.mp a with e|e
    .lia
    .exact g.rng _ _ e
   .exact g.rng _ _ a
 .rw[b] at a
  split at a
  .rename_i c;subst c
   rcases dZ.mp a with e|e
   .exact ne e
   .exact g.irr _ e
  .split at a
   .rename_i c;subst c
    rcases dZ.mp a with e|e
    .exact ne e.symm
    .exact g.irr _ e
   .exact g.irr _ a
 .rw[b];split
  .exact kA (g.nod _) d
  .split
   .exact kA (g.nod _) k
   .exact g.nod _
 .rw[b] at a
  split at a
  .rename_i c;subst c
   rcases dZ.mp a with e|e
   .subst e;rw[b,ir ne,ls rfl];exact dZ.mpr (.inl rfl)
   .exact mono _ _ (g.sym _ _ e)
  .split at a
   .rename_i c;subst c
    rcases dZ.mp a with e|e
    .subst e;rw[b,ls rfl];exact dZ.mpr (.inl rfl)
    .exact mono _ _ (g.sym _ _ e)
   .exact mono _ _ (g.sym _ _ a)
 .rw[jA] at a;exact(g.con x a).mono mono
theorem JF(g:Good w)(l:j.length=w.length)(k:∀p,p<w.length->c p<w.length)
  (inj:∀p q,p<w.length->q<w.length->c p=c q->p=q) (sur:∀y,y<w.length->∃p,p<w.length/\c p=y)
  (m:∀p,p<w.length->(row j (c p)).Perm ((row w p).map c)):Good j:=by
 have mem:∀p q,p<w.length->(q∈row j (c p)↔∃a,a∈row w p/\c a=q):=λp q f=>by
  rw[(m p f).mem_iff,aX]
 have reach:∀{p q},Reach w p q->Reach j (c p) (c q):=λ {p q} h=>by
  induction h with
  |refl=>exact .refl _
  |step _ n r=>exact .step r ((mem _ _ (aU n)).mpr #[_,n,rfl])
 refine#[λy q d=>?_,λy d=>?_,λy=>?_,λy q d=>?_,λy d=>?_]
 .obtain⟨p,f,rfl⟩:=sur y (by have:=aU d;lia)
  obtain⟨a,i,rfl⟩:=(mem p q f).mp d;rw[l];exact k a (g.rng _ _ i)
 .obtain⟨p,f,rfl⟩:=sur y (by have:=aU d;lia)
  obtain⟨a,i,e⟩:=(mem p _ f).mp d
  have:=inj a p (g.rng _ _ i) f e
  subst this;exact g.irr _ i
 .by_cases d:y<w.length
  .obtain⟨p,f,rfl⟩:=sur y d
   rw[(m p f).nodup_iff];unfold dc;rw[iV];refine aar ?_ (g.nod p);intro a b i s ne e;exact ne (inj a b (g.rng _ _ i) (g.rng _ _ s) e)
  .rw[N2 (by lia)];exact gQ
 .obtain⟨p,f,rfl⟩:=sur y (by have:=aU d;lia)
  obtain⟨a,i,rfl⟩:=(mem p q f).mp d;exact(mem a _ (g.rng _ _ i)).mpr #[p,g.sym _ _ i,rfl]
 .rw[l] at d
  obtain⟨p,f,rfl⟩:=sur y d;obtain⟨z,t,u⟩:=sur 0 (by lia)
  have o:=reach (((g.con z t).symm g.sym).trans (g.con p f));rw[u] at o;exact o
def aE(l:List Nat)(x:Nat):Nat:=l.getD ((l.idxOf x+1)%l.length) 0
def bW(w:W)(d:Nat×Nat):Nat×Nat:=(d.2,aE (row w d.2) d.1)
def aw(w:W)(d:Nat×Nat):Prop:=d.2∈row w d.1
theorem hJ{l:List Nat}(h:x∈l):l[(l.idxOf x+1)%l.length]? =some (aE l x):=by
 have a:0<l.length:=uw h;unfold aE;rw[ck,b8 (jT _ a)];rfl
theorem Hh(h:x∈l):aE l x∈l:=dM (hJ h)
theorem M6(f:a<n)(g:b<n)(e:(a+1)%n=(b+1)%n):a=b:=by
 by_cases d:a+1=n
 .by_cases c:b+1=n
  .lia
  .rw[d,qp,gP (by lia)] at e;lia
 .by_cases c:b+1=n
  .rw[c,qp,gP (by lia)] at e;lia
  .rw[gP (by lia),gP (by lia)] at e;lia
theorem zo(g:l.Nodup)(a:x∈l)(b:y∈l)(e:aE l x=aE l y):x=y:=by
 have o:0<l.length:=uw a;have c:=hJ a;have h:=hJ b;rw[e] at c;have d:=rF.mpr a;have f:=rF.mpr b;obtain⟨p,i⟩:=dQ.mp c;obtain⟨r,j⟩:=dQ.mp h;have q:=(List.getElem_inj g).mp (i.trans j.symm);have k:=M6 d f q;have m:=z4 d;have n:=z4 f;rw[<-m,<-n];simp only[k]
theorem Kd(g:Good w)(h:aw w d):aw w (bW w d):=Hh (g.sym _ _ h)
theorem kB(g:Good w)(h:aw w d)(c:aw w e)(q:bW w d=bW w e):d=e:=by
 have a:d.2=e.2:=FS Prod.fst q;have b:aE (row w d.2) d.1=aE (row w e.2) e.1:=FS Prod.snd q;rw[<-a] at b;have f:d.1∈row w d.2:=g.sym _ _ h;have i:e.1∈row w d.2:=by rw[a];exact g.sym _ _ c
 exact PP (zo (g.nod _) f i b) a
def aM(w:W):List (Nat×Nat):=(ad w.length).flatMap λp=>(row w p).map λq=>(p,q)
theorem aD{w:W}:d∈aM w↔aw w d:=by
 unfold aM aw;rw[vD]
 constructor
 .rintro⟨p,_,h⟩
  obtain⟨q,a,rfl⟩:=aX.mp h;exact a
 .intro h
  exact#[d.1,dE.mpr (aU h),aX.mpr #[d.2,h,rfl]]
theorem aF [DecidableEq b]:∀{l m:List b},l.Nodup->(∀x∈l,x∈m)->l.length<=m.length
 | [],_,_,_=>fm _
 |a::r,m,g,h=>by
  have c:=bS.mp g;have d:=h a bB;have i:=aF (l:=r) (m:=m.erase a) c.2 λx f=>(List.mem_erase_of_ne (λ(e:x=a)=>c.1 (by rw[<-e];exact f))).mpr (h x (bP _ f))
  rw[List.length_erase_of_mem d] at i
  have:=uw d
  simp only[bN];lia
theorem c7(g:Good w)(p:Nat):(row w p).length<=w.length:=by
 have:=aF (m:=ad w.length) (g.nod p) λx a=>dE.mpr (g.rng _ _ a)
 simpa using this
theorem AW{f:b->List c}{k:Nat}:∀{l:List b},(∀x∈l,(f x).length<=k)->(l.flatMap f).length<=l.length*k
 | [],_=>by simp
 |a::r,h=>by
  have e:=AW (f:=f) (k:=k) (l:=r) λx d=>h x (bP _ d)
  have:=h a bB
  rw[z5,cE,bN,acu];lia
theorem gW(g:Good w):(aM w).length<=w.length*w.length:=by
 have:=AW (f:=λp=>(row w p).map λq=>(p,q)) (k:=w.length) (l:=ad w.length) λx _=>by rw[aG];exact c7 g x
 rw[n9] at this;exact this
def aC(w:W):Nat->Nat×Nat->Nat×Nat
 |0,d=>d
 |n+1,d=>bW w (aC w n d)
theorem bQ(g:Good w)(h:aw w d):∀n,aw w (aC w n d)
 |0=>h
 |n+1=>Kd g (bQ g h n)
theorem cJ{w:W}{d:Nat×Nat}(m:Nat):∀n,aC w (n+m) d=aC w n (aC w m d)
 |0=>by rw[qu];rfl
 |n+1=>by rw[Nat.succ_add];show bW w (aC w (n+m) d)=bW w (aC w n (aC w m d));rw[cJ m n]
theorem pk(g:Good w)(h:aw w d)(a:aw w e):∀n,aC w n d=aC w n e->d=e
 |0,q=>q
 |n+1,q=>pk g h a n (kB g (bQ g h n) (bQ g a n) q)
def walk(w:W)(d:Nat×Nat)(k:Nat):List (Nat×Nat):=(ad k).map λi=>aC w i d
theorem sN(w:W)(d:Nat×Nat)(k:Nat):walk w d (k+1)=walk w d k++ [aC w k d]:=by
 unfold walk;rw[abo,c8];rfl
theorem cM(w:W)(d:Nat×Nat)(k:Nat):(walk w d k).length=k:=by unfold walk;simp
theorem nE(g:Good w)(h:aw w d):∀e∈walk w d k,aw w e:=λe a=>by
 obtain⟨i,_,rfl⟩:=aX.mp a;exact bQ g h i
theorem qh(g:Good w)(h:aw w d)(a:∀j,0<j->j<k->aC w j d≠d):(walk w d k).Nodup:=by
 unfold walk dc;rw[iV];refine aar ?_ aa5;intro i j f b lt e;have l:=dE.mp b;have c:aC w i d=aC w i (aC w (j-i) d):=by rw[<-cJ (j-i) i,show i+(j-i)=j by lia];exact e
 exact a (j-i) (by lia) (by lia) (pk g h (bQ g h _) i c).symm
theorem zx(g:Good w)(h:aw w d){k:Nat}(a:∀j,0<j->j<k->aC w j d≠d):k<=(aM w).length:=by
 have:=aF (m:=aM w) (qh g h a) λe b=>aD.mpr (nE g h e b)
 rwa [cM] at this
theorem kT(g:Good w){S:Nat->Prop}(c:S 0)(d:∀p q,S p->q∈row w p->S q):∀p,p<w.length->S p:=λp e=>by
 have:∀{a b},Reach w a b->S a->S b:=λ {a b} h f=>by
  induction h with
  |refl=>exact f
  |step _ i j=>exact d _ _ j i
 exact this (g.con p e) c
def lexLe(a b:Nat×Nat):Prop:=a.1<b.1\/(a.1=b.1/\a.2<=b.2)
theorem qE(h:lexLe a b)(c:lexLe b a):a=b:=by
 unfold lexLe at h c;exact PP (by lia) (by lia)
def fA(a:Nat->List Nat)(n:Nat):List (Nat×Nat):=(ad n).flatMap λp=>((a p).filter λq=>decide (p<q)).map λq=>(p,q)
theorem pK{e c:Type}{R:c->c->Prop}{f:e->List c}:∀{l:List e},(∀x∈l,(f x).Pairwise R)->l.Pairwise (λa b=>∀x∈f a,∀y∈f b,R x y)->(l.flatMap f).Pairwise R
 | [],_,_=>List.Pairwise.nil
 |a::r,h,p=>by
  have g:=Dh.mp p;rw[z5,zM];refine#[h a bB,pK (λx d=>h x (bP _ d)) g.2,λx d y i=>?_];obtain⟨b,j,k⟩:=vD.mp i;exact g.1 b j x d y k
end Wb
namespace L2
open PySem PySem.Spec PyProof.Rows
section
variable {X:Cx}
theorem Vals.ins{x:V}{u:Value}(r:RelV x u){a:List V}{b:List Value}(i:Nat)(h:Vals a b):Vals (Wb.ins a i x) (Wb.ins b i u):=(h.take i).append (.cons r (h.drop i))
def NV:V->List V->Hp->VK->Prop:=λx b H Q=>∃l a i y,x= .ref l/\b= [.int i,y]/\H l=some (.lst a)/\0<=i/\i<=a.length/\a.length<sizeLine/\Q .non (upd H l (.lst (Wb.ins a i.toNat y)))
theorem Gv:K5 X "list.insert" NV:=by
 intro b s u H x w v A Q I f g h;rfl';obtain⟨l,C,i,y,rfl,rfl,c,E,G,J,q⟩:=h;subst f;obtain⟨L,d,rfl,⟨t,rfl⟩,k⟩:=g.two;obtain⟨z,a,n,r,M,e⟩:=I.tT c;have N:=mU;ac_rfl
 have m:¬(!Builtin.List.listFitsIndex i)=true:=by
  rw[fitsIndex_both (by lia) (by lia)]
  exact dD
 refine aaM F.slot_list_insert #[_,e,rfl] F.entry_list_insert (F.args_list_insert_3 _ _ _) (AutoSeq1.list_insert_list_int_val_1 l a.toArray n i t d m (by rw[dN];lia)) #[e,?_]
 refine#[.non,_,I.Im (its':=Wb.ins a i.toNat d) c e ?_ (r.ins k i.toNat) ?_,rfl,q]
 .have o:¬i<0:=by lia
  have p:min i.toNat a.length=i.toNat:=by lia
  simp only[o,M2,dN,p];apply abV.mp;unfold Wb.ins;simp;exact wk (by rw[qr];lia)
 .rw[Wb.pj];lia
def QI(K:ac):V->List V->Hp->VK->Prop:=λx b H Q=>∃(l:Addr)(a:List V)(y:V)(j:Nat)(z:V),x= .ref l/\b= [y]/\H l=some (.lst a)/\iF y=true/\a.all iF=true/\a[j]? =some z/\yd z y=true/\
 (∀(m:Nat) z,m<j->a[m]? =some z->yd z y=false)/\Q (.int j) H
theorem J9:K5 X "list.index" (QI X.K):=by
 intro A s U H x Y v Z Q I B C h;rfl';obtain⟨l,d,y,j,z,rfl,rfl,G,J,fs,f,L,M,q⟩:=h;subst B;obtain⟨u,rfl,N⟩:=C.one;obtain⟨gK,a,n,r,hl,e⟩:=I.tT G;obtain⟨w,hw,O⟩:=r.get f;ac_rfl
 have P:j<a.toArray.size:=by
  obtain⟨b,_⟩:=dQ.mp hw;simpa using b
 have flat:∀(m:Nat) z,d[m]? =some z->iF z=true:=λm z h=>(zT.mp fs) z (dM h)
 have g:a.toArray[j]=w:=by
  obtain⟨b,i⟩:=dQ.mp hw;simpa using i
 have bY:=mU
 have B4:j<d.length:=by
  obtain⟨b,_⟩:=dQ.mp f;exact b
 refine aaM F.slot_list_index #[_,e,rfl] F.entry_list_index (F.args_list_index_2 _ _) (SeqAt.list_indexAt l a.toArray n none #[] u (qW y) j P (by lia) ?_ ?_) #[e,λw hw=>j8 N J r fs w (by simpa using hw),?_]
 .rw[g,xg O (flat j z f)];exact L
 .intro m R S
  have qY:m<a.length:=by simpa using R
  obtain⟨c,k⟩:∃c,d[m]? =some c:=#[_,b8 (by lia)]
  obtain⟨T,o,p⟩:=r.get k
  have t:a.toArray[m]=T:=by
   obtain⟨b,i⟩:=dQ.mp o;simpa using i
  rw[t,xg p (flat m c k)];exact M m c S k
 .exact#[.int j,H,I.tok _,#[_,rfl],q]
end
mutual
inductive Dp (K:ac) (H:Hp):V->PyData->Prop
 |non:Dp K H .non .none
 |bl (b:Bool):Dp K H (.bl b) (.bool b)
 |int (i:Int):Dp K H (.int i) (.int i)
 |str (x:Str) (h:PyData.strOk x=true):Dp K H (.str x) (.str x)
 |lst {a:Addr} {xs:List V} {ds:List PyData}:cY K H a xs->jD K H xs ds->Dp K H (.ref a) (.list ds)
 |tup {a:Addr} {xs:List V} {ds:List PyData}:fg K H a xs->jD K H xs ds->Dp K H (.ref a) (.tuple ds)
inductive jD (K:ac) (H:Hp):List V->List PyData->Prop
 |nil:jD K H [] []
 |cons {v:V} {vs:List V} {d:PyData} {ds:List PyData}:Dp K H v d->jD K H vs ds->jD K H (v::vs) (d::ds)
end
section
variable {X:Cx} {pins:List (Addr×Obj)} {σ:St} {H:Hp} {s:Shared}
mutual
theorem Dp.reads(I:Inv X pins σ H s):∀{v:V}{d:PyData}{u:Value},Dp X.K H v d->RelV v u->(∃as,Reads s.heap u d as)/\d.canLay0=true
 |_,_,_, .non,r=>by cases r;exact#[#[_, .none],rfl]
 |_,_,_, .bl b,r=>by cases r;exact#[#[_, .bool b],rfl]
 |_,_,_, .int i,r=>by obtain⟨t,rfl⟩:=r;exact#[#[_, .int i t],rfl]
 |_,_,_, .str x h,r=>by obtain⟨t,rfl⟩:=r;exact#[#[_, .str x t],by simpa [PyData.canLay0] using h]
 |_,_,_, .lst h a,r=>by
  cases r;obtain⟨its,rv,pl,hz⟩:=I.list h;obtain⟨⟨as,ra⟩,c⟩:=jD.reads I a rv;obtain⟨o,ho,hc,n,hd⟩:=pl.isList;exact#[#[_, .list ho hc hd (by simpa using ra)],by simpa [PyData.canLay0] using c]
 |_,_,_, .tup h a,r=>by
  cases r;obtain⟨its,rv,pl,hz⟩:=I.tuple h;obtain⟨⟨as,ra⟩,c⟩:=jD.reads I a rv;obtain⟨o,ho,hc,n,hd⟩:=pl;exact#[#[_, .tuple ho hc hd (by simpa using ra)],by simpa [PyData.canLay0] using c]
theorem jD.reads(I:Inv X pins σ H s):∀{vs:List V}{ds:List PyData}{us:List Value},jD X.K H vs ds->Vals vs us->(∃as,ReadsAll s.heap us ds as)/\PyData.canLayAll0 ds=true
 |_,_,_, .nil, .nil=>#[#[_, .nil],by simp[PyData.canLayAll0]]
 |_,_,_, .cons a as, .cons r rs=>by
  obtain⟨⟨x,h1⟩,c1⟩:=Dp.reads I a r;obtain⟨⟨y,h2⟩,c2⟩:=jD.reads I as rs;exact#[#[_, .cons h1 h2],by simp[PyData.canLayAll0,c1,c2]]
end
end
section
variable {X:Cx}
def YA(K:ac):R2:=λx y H Q=>∃d e,Dp K H x d/\Dp K H y e/\d.depth<=64/\Q (.bl (PyData.eqv d e)) H
def YD(K:ac):R2:=λx y H Q=>∃d e,Dp K H x d/\Dp K H y e/\d.depth<=64/\Q (.bl (!PyData.eqv d e)) H
theorem Qg(n:X.A.units+64<cLine):OpR X (compareOp .Eq) (YA X.K):=by
 intro a s o H x y v u Q I b c h;rfl';obtain⟨d,e,g,i,r,q⟩:=h;obtain⟨⟨t,j⟩,k⟩:=g.reads I b;obtain⟨⟨bs,l⟩,m⟩:=i.reads I c;ac_rfl;exact SeqAt.compareEq_reads j l k m (by have:=Nat.min_le_left d.depth e.depth;lia) #[.bl _,H,I,rfl,q]
theorem Qk(n:X.A.units+64<cLine):OpR X (compareOp .NotEq) (YD X.K):=by
 intro a s o H x y v u Q I b c h;rfl';obtain⟨d,e,g,i,r,q⟩:=h;obtain⟨⟨t,j⟩,k⟩:=g.reads I b;obtain⟨⟨bs,l⟩,m⟩:=i.reads I c;ac_rfl;exact SeqAt.compareNe_reads j l k m (by have:=Nat.min_le_left d.depth e.depth;lia) #[.bl _,H,I,rfl,q]
end
def nD(n:Nat):PyData:= .int n
def nM(r:List Nat):PyData:= .list (r.map nD)
theorem jw{e:Type}{f:e->PyData}(g:∀a b,PyData.eqv (f a) (f b)=true↔a=b):∀c d:List e,PyData.eqvAll (c.map f) (d.map f)=true↔c=d
 | [],[]=>by simp[PyData.eqvAll]
 | [],_::_=>by simp[PyData.eqvAll]
 |_::_,[]=>by simp[PyData.eqvAll]
 |a::c,b::d=>by
  have h:=jw g c d;simp[PyData.eqvAll,g,h]
theorem Pd(a b:Nat):PyData.eqv (nD a) (nD b)=true↔a=b:=by
 simp[nD,PyData.eqv];lia
theorem uN(a b:List Nat):PyData.eqv (nM a) (nM b)=true↔a=b:=by
 unfold nM;rw[PyData.eqv];exact jw Pd a b
theorem jq{f:c->PyData}{k:Nat}(d:∀a,(f a).depth<=k):∀b:List c,PyData.depthAll (b.map f)<=k
 | []=>by simp[PyData.depthAll]
 |a::b=>by
  have:=d a
  have e:=jq d b;simp[PyData.depthAll];lia
theorem kY(a:List Nat):(nM a).depth<=2:=by
 unfold nM;rw[PyData.depth]
 have:=jq (f:=nD) (k:=1) (λn=>by simp[nD,PyData.depth]) a
 lia
def qi(w:List (List Nat)):PyData:= .list (w.map nM)
theorem qz(a b:List (List Nat)):PyData.eqv (qi a) (qi b)=true↔a=b:=by
 unfold qi;rw[PyData.eqv];exact jw uN a b
theorem vM(a:List (List Nat)):(qi a).depth<=3:=by
 unfold qi;rw[PyData.depth]
 have:=jq (f:=nM) (k:=2) kY a
 lia
end L2
namespace L2
open PySem PySem.Spec PyProof.Rows
section
variable {X:Cx}
theorem Jf(t:X.calm=true):cB X (.builtin "all") (λj H Q=>∃(p:Addr)(bs:List Bool),j= [.ref p]/\H p=some (.lst (bs.map V.bl))/\Q (.bl (bs.all id)) H):=by
 intro k s T H j U Q I y h;rfl';obtain⟨p,bs,rfl,B,q⟩:=h;obtain⟨u,rfl,C⟩:=y.one;subst C;obtain⟨a,r,pl,Y⟩:=I.list (cY.of B);have l:=r.length;rw[aG] at l;ac_rfl;refine call_all_walk (aa1 pl.isList ?_)
 have F:p≠s.heap.objs.size:=by
  obtain⟨o,G,_⟩:=pl.isList;exact bV (FB G)
 have J:∀i:Nat,i<a.length->∃b,bs[i]? =some b/\a[i]? =some (.bool b):=λi c=>by
  rfl';obtain⟨b,d⟩:∃b,bs[i]? =some b:=#[_,b8 (by lia)]
  obtain⟨w,hw,L⟩:=r.get (i:=i) (x:= .bl b) (by rw[b7,d];rfl)
  subst L;ac_rfl;exact#[b,d,hw]
 refine#[_,_,_,a.toArray.size,_,_,λi=>bs.getD i false,rfl,Walks.list (show X.A.in1.handled=none from I.ok.hd t) s.heap.objs.size p F a.toArray,#[#[_,GE _ rfl,rfl,rfl],pl.isList.push _],?_,λM Z N=>?_]
 .intro i v s Q E O P
  have g:a[i]? =some v:=by simpa using O
  have c:i<a.length:=by
   obtain⟨R,_⟩:=dQ.mp g;exact R
  obtain⟨b,d,hw⟩:=J i c;rw[hw] at g;cases Do g;refine SL ?_;have m:Q (bs.getD i false) s:=P;rw[ck,d] at m;exact m
 .have kept:∀b o,s.heap.get? b=some o->M.get? b=some o:=λb o e=>N b o (by simp;exact bV (FB e)) (tz _ e)
  have e:(ad a.toArray.size).all (λi=>bs.getD i false)=bs.all id:=by
   rw[dN,<-l];rw[Bool.eq_iff_iff,zT,zT]
   constructor
   .intro h x S
    obtain⟨i,c,rfl⟩:=Bv.mp S
    have:=h i (dE.mpr c)
    rw[ck,b8 c] at this;exact this
   .intro h i c
    have n:=dE.mp c;rw[ck,b8 n];exact h _ (uA n)
  rw[e];exact#[.bl _,H,I.kept kept,rfl,q]
theorem BG:cB X (.builtin "isinstance") (λa H Q=>∃(x:V)(n:String)(t:Value)(b:Bool),a= [x, .ty n]/\kg X.K H x t/\bx X.K t (.type n)=some b/\Q (.bl b) H):=by
 intro c s k H a l Q I d h;rfl';obtain⟨x,n,t,b,rfl,g,e,q⟩:=h;obtain⟨o,p,rfl,i,j⟩:=d.two;subst j;ac_rfl;exact yx I i g e λr=>#[.bl b,H,I.tok _,rfl,q]
theorem Ae:cB X (.builtin "sorted") (λf H Q=>∃(p:Addr)(c:List Int),f= [.ref p]/\cY X.K H p (c.map V.int)/\c.length<64/\∀(q:Addr)(a:List Int),H q=none->a.Perm c->a.Pairwise (·<=·)->Q (.ref q) (upd H q (.lst (a.map V.int)))):=by
 intro g s z H f A Q I j h;rfl';obtain⟨p,c,rfl,l,C,q⟩:=h;obtain⟨u,rfl,m⟩:=j.one;subst m;obtain⟨d,r,pl,_⟩:=I.list l;have n:=r.length;rw[aG] at n;ac_rfl;refine sorted_ints pl.isList (intsAre_of r) (by lia) λout a t i v=>?_
 obtain⟨e,w⟩:=acw s.heap d out;have x:H (s.heap.objs.size+1)=none:=I.hok.fresh (nF _);have E:=i.length_eq;have F:64<=sizeLine:=by decide
 refine#[.ref (s.heap.objs.size+1),_,I.laid (t':=s.toks) (λb o y=>acr y) (nF _) (o:= .lst (a.map V.int)) #[by rw[aG];lia,out.toList,e,sL t,by simpa using w],rfl,q _ a x i v]
end
theorem xQ(b g h k f:Expr)(i l:List Expr)(a:Scope)(d:Pos)(j e:Value)(env:Env):
  compTurn (.ListComp b [#[g,h,i,0],#[k,f,l,0]] a d) 0 j e env=(do
   standAt h.pos
   match <-pyNext j with
   |none=>pure (.done .next)
   |some v=>
    letOwnedTupleGo g j v
    assign g env v
    let ok <-forIn i true λc r=>if r=true then do let ok <-isTrue c env (eval c env);pure (ForInStep.yield ok) else pure (ForInStep.yield r)
    if ok=true then
     let x <-eval f env
     standAt f.pos
     let x <-foldedSetIterable f env x
     let m <-holding [x] (pyIter x)
     let _ <-runOwn (.compStart (.ListComp b [#[g,h,i,0],#[k,f,l,0]] a d) 1 m e env) env
     again (.compLoop (.ListComp b [#[g,h,i,0],#[k,f,l,0]] a d) 0 j e env)
    else again (.compLoop (.ListComp b [#[g,h,i,0],#[k,f,l,0]] a d) 0 j e env)):=by rfl
theorem xR(b j k f h:Expr)(l i:List Expr)(a:Scope)(e:Pos)(g d:Value)(env:Env):
  compTurn (.ListComp b [#[j,k,l,0],#[f,h,i,0]] a e) 1 g d env=(do
   standAt h.pos
   match <-pyNext g with
   |none=>pure (.done .next)
   |some v=>
    letOwnedTupleGo f g v
    assign f env v
    let ok <-forIn i true λc r=>if r=true then do let ok <-isTrue c env (eval c env);pure (ForInStep.yield ok) else pure (ForInStep.yield r)
    if ok=true then
     (do let _ <-call (.builtin "list.append") [d,<-eval b env])
     again (.compLoop (.ListComp b [#[j,k,l,0],#[f,h,i,0]] a e) 1 g d env)
    else again (.compLoop (.ListComp b [#[j,k,l,0],#[f,h,i,0]] a e) 1 g d env)):=by rfl
section
variable {X XC:Cx} {elt i0 t0 i1 t1:Expr} {f0 f1:List Expr} {scope:Scope} {pos:Pos} {wi hU:TI} {g g1:TG} {tt fH:TT} {te:TE} {src:List (Option Nat)} {NC:List Str}
theorem wB{b a:Value}{env:Env}{R:Result->Shared->Prop}{s:Shared}{A:Around}
  (c:codeAny (model X.prog X.w) A (.compLoop (.ListComp elt [#[t0,i0,f0,0],#[t1,i1,f1,0]] scope pos) 1 b a env) R s)
  (d:∀(Q:Value->Shared->Prop)(E:Value->Shared->Prop),Q b s->wpAny (model X.prog X.w) A (pyIter b) Q E s):
  codeAny (model X.prog X.w) A (.compStart (.ListComp elt [#[t0,i0,f0,0],#[t1,i1,f1,0]] scope pos) 1 b a env) R s:=by
 refine codeAny_of_tree ?_;refine wpAny_notedAt ?_;unfold compStart;refine wpAny_bind (wpAny_askSetting (wpAny_ite ?_))
 split
 .first
   |exact wpAny_bind (wpAny_pure (wpAny_pure #[rfl,c]))
   |exact wpAny_pure #[rfl,c]
 .refine wpAny_bind (wpAny_rule ?_)
  exact wpAny_bind (wpAny_standAt (wpAny_bind (d _ _ (wpAny_pure #[rfl,c]))))
theorem DP{a:List (Addr×Obj)}{s:Shared}{σ:St}{H:Hp}{Z D:Addr}{F:List Addr}{g:Nat->Heap->Prop}{J:It}{R:Result->Shared->Prop}{N:St->Hp->Prop}
  (PB:XC.xe=λ_ _=>False) (hc:XC.calm=true) (I:Inv XC a σ H s) (T:Turn XC.prog XC.w XC.K t1 J F Z g) (st:g 0 s.heap) (f2:∀b∈F,gB XC a H b)
  (hg:PG XC t1 g1) (ht:oz XC f1 fH) (he:PE XC elt te)
  (hW:∃W:Nat->Nat->St->Hp->Prop,(∃m,W 0 m σ H)/\∀i m fL O,W i m fL O->(J.stop i O/\N fL O)\/
   (J.go i O/\∃L:St->Hp->Prop,(∀j c,L j c->∃m',m'<m/\W (i+1) m' j c)/\∀x H3,J.yld i O x H3->g1 x fL H3 λgb H4=>fH gb H4 λb H5=>
    if b=true then te gb H5 λv H6=>∃P,H6 D=some (.lst P)/\P.length<sizeLine/\L gb (upd H6 D (.lst (P++ [v]))) else L gb H5))
  (hR:∀j c B,Inv XC a j c B->N j c->R (.ok .next) B):
  codeAny (model XC.prog XC.w) XC.A (.compStart (.ListComp elt [#[t0,i0,f0,0],#[t1,i1,f1,0]] scope pos) 1 (.ref Z) (.ref D) XC.env) R s:=by
 obtain⟨W,⟨m0,w0⟩,S⟩:=hW
 have lM:∀{α:Type}{t:Sem α}{Q:α->Shared->Prop}{E:Value->Shared->Prop}{s:Shared},wpAny (model XC.prog XC.w) XC.A t Q XC.xe s->wpAny (model XC.prog XC.w) XC.A t Q E s:=λ {α t Q E s} h=>
  wpAny_mono h (λ_ _ q=>q) λ_ _ f=>by rw[PB] at f;exact f.elim
 have l:∀{c:Hp},(∀b∈F,c b=none)->∀b∈F,gB XC a c b:=λhn b C=>#[hn b C,(f2 b C).2]
 have loop:codeAny (model XC.prog XC.w) XC.A (.compLoop (.ListComp elt [#[t0,i0,f0,0],#[t1,i1,f1,0]] scope pos) 1 (.ref Z) (.ref D) XC.env) R s:=by
  refine acv rfl (λn B=>∃i j c,Inv XC a j c B/\g i B.heap/\(∀b∈F,c b=none)/\W i n j c) (λn B hI=>?_) m0 #[0,σ,H,I,st,λb C=>(f2 b C).1,w0];rfl';obtain⟨i,j,c,I5,w6,Ai,w5⟩:=hI;ac_rfl;show wpAny _ XC.A ((compTurn (.ListComp elt [#[t0,i0,f0,0],#[t1,i1,f1,0]] scope pos) 1 (.ref Z) (.ref D) XC.env).onRaise (λx=>do noteFrame x XC.env;theTreesLotGoes x)) _ _ B
  refine wpAny_noted ?_;rw[xR];refine be (aaA (be ?_))
  rcases S i n j c w5 with ⟨stop,qn⟩ | ⟨go,L,hN,step⟩
  .refine thn (T.done XC rfl rfl rfl hc i a B j c _ I5 (l Ai) w6 stop) λr s6 k=>?_
   obtain⟨hr,I6⟩:=k;subst hr;exact mo (hR j c s6 I6 qn)
  .refine thn (T.item XC rfl rfl rfl hc i a B j c _ I5 (l Ai) w6 go) λr s6 k=>?_
   rfl';obtain⟨u,hr,h6⟩:=k;ac_rfl;subst hr;refine be (thn h6 λ_ s7 k=>?_);rfl';obtain⟨x,H7,I7,r7,y7,zj,Mf⟩:=k;ac_rfl;have K3:=I7.pinned (l Mf) (T.obj _ _ zj)
   have nextT:∀{z:St}{G:Hp}{M:Shared},Inv XC (a++m8 F s7.heap) z G M->L z G->∃m,m<n/\∃i j c,Inv XC a j c M/\g i M.heap/\(∀b∈F,c b=none)/\W i m j c:=λ {z G M} Y n8=>by
    obtain⟨m',hm,w8⟩:=hN z G n8;refine#[m',hm,i+1,z,G,Y.j9,T.keep _ _ _ zj λb C o e=>(Y.pin (b,o) (cN _ (cN _ (fi C e)))).1,λb C=>?_,w8];obtain⟨o,e,d⟩:=T.obj _ _ zj b C;exact(Y.pin (b,o) (cN _ (cN _ (fi C e)))).2.1
   refine be (lM (thn (hg _ s7 j H7 x u _ K3 r7 (step x H7 y7)) λ_ M k=>?_));rfl';obtain⟨z,G,Y,q8⟩:=k;ac_rfl;refine be (lM (thn (ht _ M z G _ Y q8) λb s9 k=>?_));obtain⟨H9,I9,q9⟩:=k;cases b with
   |false=>
    rw[ir dD] at q9;exact mo #[rfl,nextT I9 q9]
   |true=>
    rw[ls rfl] at q9;refine be (be (lM (thn (he _ s9 z H9 _ I9 q9) λy QN k=>?_)));rfl';obtain⟨v,K0,So,U6,P,hD,hz,U4⟩:=k;ac_rfl;refine be (lM (thn (g6 _ QN z K0 (.ref D) [v] _ [y] (λ_ c=>L z c) So rfl (.cons U6 .nil) #[_,P,v,rfl,rfl,hD,hz,U4]) λ_ QO k=>?_));rfl';obtain⟨_,OH,K2,_,U5⟩:=k;ac_rfl;exact mo (mo #[rfl,nextT K2 U5])
 exact wB (X:=XC) loop λQ E q=>T.self _ 0 _ _ _ st q
def tIn(p:TG)(q:TT)(r:TE)(D:Addr)(J:It)(N:St->Hp->Prop):St->Hp->Prop:=λs H=>
 ∃W:Nat->Nat->St->Hp->Prop,(∃m,W 0 m s H)/\∀i m d a,W i m d a->(J.stop i a/\N d a)\/
  (J.go i a/\∃e:St->Hp->Prop,(∀h j,e h j->∃k,k<m/\W (i+1) k h j)/\∀x l,J.yld i a x l->p x d l λc t=>q c t λb n=>
   if b=true then r c n λv o=>∃f,o D=some (.lst f)/\f.length<sizeLine/\e c (upd o D (.lst (f++ [v]))) else e c n)
def Sk(g:TG)(l:TT)(n:TI)(o:TG)(p:TT)(q:TE)(D:Addr)(J:It)(Q:VK)(r:St)(H:Hp):Prop:=
 ∃W:Nat->Nat->St->Hp->Prop,(∃m,W 0 m r H)/\∀i m d a,W i m d a->
  (J.stop i a/\Q (.ref D) a)\/
  (J.go i a/\∃N:St->Hp->Prop,(∀e f,N e f->∃h,h<m/\W (i+1) h e f)/\∀x j,J.yld i a x j->g x d j λc s=>l c s λb k=>
   if b=true then n c k λt u=>tIn o p q D t N c u else N c k)
def Si(c:TI)(g:TG)(d:TT)(e:TI)(f:TG)(h:TT)(i:TE)(src:List (Option Nat)):TE:=λa H Q=>c a H λJ b=>∀D,b D=none->Sk g d e f h i D J Q (nX src a) (upd b D (.lst []))
theorem BJ{j:List (Addr×Obj)}{σ:St}{l:Shared}{P:Hp}{it:Addr}{F:List Addr}{Y:Nat->Heap->Prop}{J:It}{Z:Value->Addr->Result->Shared->Prop}{E:Value->Shared->Prop}{Q:VK}
  (hc:X.calm=true) (c:cT X scope) (fM:eD scope X.N src NC) (I2:Inv X j σ P l) (T:Turn X.prog X.w X.K t0 J F it Y) (lY:Y 0 l.heap) (f2:∀b∈F,gB X j P b)
  (hg:∀ex s H,PG (dS X scope NC ex s H) t0 g) (ht:∀ex s H,oz (dS X scope NC ex s H) f0 tt) (wF:∀ex s H,PI (dS X scope NC ex s H) t1 i1 hU) (My:∀ex s H,PG (dS X scope NC ex s H) t1 g1)
  (Ga:∀ex s H,oz (dS X scope NC ex s H) f1 fH) (he:∀ex s H,PE (dS X scope NC ex s H) elt te) (yq:∀env x,foldedSetIterable i1 env x=pure x)
  (hW:∀D,P D=none->Sk g tt hU g1 fH te D J Q (nX src σ) (upd P D (.lst [])))
  (TQ:∀D B H3 G v I,Inv X j σ H3 B->(∀b∈F,gB X j H3 b)->Inv (dS X scope NC F B H3) [] G v I->Q (.ref D) v->Z (.ref D) B.heap.objs.size (.ok .next) I):
  wpAny (model X.prog X.w) X.A (newList []) (λacc Oo=>wpAny (model X.prog X.w) X.A (newFunctionEnv scope X.env.globals (jM X.env scope.names []) [] X.env.qual none .none (some X.env)) (λoK zt=>
   codeAny (model X.prog X.w) X.A (.compStart (.ListComp elt [#[t0,i0,f0,0],#[t1,i1,f1,0]] scope pos) 0 (.ref it) acc {oK with scope:=relabel scope X.env}) (Z acc oK.locals) zt) E Oo) E l:=by
 rfl';obtain⟨W,⟨m0,w0⟩,turn⟩:=hW l.heap.objs.size I2.fresh;have I3:Inv X j σ (upd P l.heap.objs.size (.lst [])) {l with heap:=l.heap.push {cls:= .type "list",data:= .seq ([]:List Value).toArray}}:=I2.Il (its:= []) (t':=l.toks) .nil (fm _)
 ac_rfl
 have UB:∀b∈F,b<l.heap.objs.size:=λb k=>by
  obtain⟨o,e,_⟩:=T.obj _ _ lY b k;exact FB e
 have f3:∀b∈F,gB X j (upd P l.heap.objs.size (.lst [])) b:=λb k=>#[by rw[aB (bV (UB b k))];exact(f2 b k).1,(f2 b k).2]
 refine SZ ?_
 suffices key:∀B:Shared,Inv X j σ (upd P l.heap.objs.size (.lst [])) B->(∀b o,l.heap.get? b=some o->B.heap.get? b=some o)->
   wpAny (model X.prog X.w) X.A (newFunctionEnv scope X.env.globals (jM X.env scope.names []) [] X.env.qual none .none (some X.env)) (λoK zt=>
    codeAny (model X.prog X.w) X.A (.compStart (.ListComp elt [#[t0,i0,f0,0],#[t1,i1,f1,0]] scope pos) 0 (.ref it) (.ref l.heap.objs.size) {oK with scope:=relabel scope X.env}) (Z (.ref l.heap.objs.size) oK.locals) zt) E B from
  key _ I3 λb o e=>tz _ e
 intro B I3 Vr;have w4:Y 0 B.heap:=T.keep _ _ _ lY λb _ o e=>Vr b o e
 have Gu:∀b∈F,b<B.heap.objs.size:=λb k=>by
  obtain⟨o,e,_⟩:=T.obj _ _ w4 b k;exact FB e
 generalize hH3:upd P l.heap.objs.size (.lst [])=H3 at I3 f3 w0;refine wpAny_newFunctionEnv c.nocell (by intro y hy;simp at hy) (λh1 B7 Ca=>?_) c.kind
 have I4:=AK (src:=src) (NC:=NC) (ex:=F) (tk:=B.toks+([]:List (Str×Value)).length) I3 c fM f3 Gu B7 Ca;have Oi:Y 0 h1:=T.keep _ _ _ w4 λb k o e=>Ca.extBut b o (bV (Gu b k)) (tz _ e);generalize C:dS X scope NC F B H3=a at I4
 have L:∀{v:Hp},(∀b∈F,v b=none)->∀b∈F,gB a [] v b:=λ {v} hn b k=>by
  subst C;refine#[hn b k,bV (Gu b k),λz=>?_, .inl k,λx d e=>?_,λp hp=>absurd (show p∈([]:List (Addr×Obj)) from hp) (by simp)]
  .exact(I4.ok.exfs b k) z
  .exact(I4.ok.exf b k).2 x d e
 have JL:a.calm=true:=by subst C;exact hc
 have eP:a.prog=X.prog:=by subst C;rfl
 have ew:a.w=X.w:=by subst C;rfl
 have eK:a.K=X.K:=by subst C;rfl
 have eA:a.A=X.A:=by subst C;rfl
 have PB:a.xe=λ_ _=>False:=by subst C;rfl
 have T8:PG a t0 g:=by subst C;exact hg _ _ _
 have Uk:oz a f0 tt:=C▸ht _ _ _;have hiC:PI a t1 i1 hU:=C▸wF _ _ _;have W5:PG a t1 g1:=C▸My _ _ _;have Xv:oz a f1 fH:=C▸Ga _ _ _;have T3:PE a elt te:=C▸he _ _ _
 have lM:∀{α:Type}{t:Sem α}{Q:α->Shared->Prop}{E:Value->Shared->Prop}{s:Shared},wpAny (model a.prog a.w) a.A t Q a.xe s->wpAny (model X.prog X.w) X.A t Q E s:=λ {α t Q E s} h=>by
  rw[<-eP,<-ew,<-eA];exact wpAny_mono h (λ_ _ q=>q) λ_ _ f=>by rw[PB] at f;exact f.elim
 have loop:codeAny (model X.prog X.w) X.A (.compLoop (.ListComp elt [#[t0,i0,f0,0],#[t1,i1,f1,0]] scope pos) 0 (.ref it) (.ref l.heap.objs.size) a.env) (Z (.ref l.heap.objs.size) B.heap.objs.size)
   {B with heap:=h1,toks:=B.toks+([]:List (Str×Value)).length}:=by
  refine acv rfl (λn I=>∃i G v,Inv a [] G v I/\Y i I.heap/\(∀b∈F,v b=none)/\W i n G v) (λn I hI=>?_) m0 #[0,_,_,I4,Oi,λb k=>(f3 b k).1,w0];rfl';obtain⟨i,G,v,I5,w6,Ai,w5⟩:=hI;ac_rfl;show wpAny _ X.A ((compTurn (.ListComp elt [#[t0,i0,f0,0],#[t1,i1,f1,0]] scope pos) 0 (.ref it) (.ref l.heap.objs.size) a.env).onRaise (λx=>do noteFrame x a.env;theTreesLotGoes x)) _ _ I
  refine wpAny_noted ?_;rw[xQ];refine be (aaA (be ?_))
  rcases turn i n G v w5 with ⟨stop,qn⟩ | ⟨go,N,hN,step⟩
  .have hd:=T.done a eP ew eK JL i [] I G v (notedBy (model X.prog X.w) X.A a.env λe I=>Z (.ref l.heap.objs.size) B.heap.objs.size (.error e) I) I5 (L Ai) w6 stop
   rw[eA] at hd;refine thn hd λr s6 O=>?_;obtain⟨hr,I6⟩:=O;subst hr;refine mo ?_;subst C;exact TQ _ B _ G v s6 I3 f3 I6 qn
  .have hd:=T.item a eP ew eK JL i [] I G v (notedBy (model X.prog X.w) X.A a.env λe I=>Z (.ref l.heap.objs.size) B.heap.objs.size (.error e) I) I5 (L Ai) w6 go
   rw[eA] at hd;refine thn hd λr s6 O=>?_;obtain⟨u,hr,h6⟩:=O;subst hr;refine be (thn h6 λ_ s7 O=>?_);rfl';obtain⟨x,H7,I7,r7,y7,zj,Mf⟩:=O;ac_rfl;have K3:=I7.pinned (L Mf) (T.obj _ _ zj)
   have nextT:∀{S:St}{U:Hp}{s8:Shared},Inv a ([]++m8 F s7.heap) S U s8->N S U->∃m,m<n/\∃i G v,Inv a [] G v s8/\Y i s8.heap/\(∀b∈F,v b=none)/\W i m G v:=λ {S U s8} I8 n8=>by
    obtain⟨m',hm,w8⟩:=hN S U n8;refine#[m',hm,i+1,S,U,I8.j9,T.keep _ _ _ zj λb k o e=>(I8.pin (b,o) (cN _ (cN _ (fi k e)))).1,λb k=>?_,w8];obtain⟨o,e,d⟩:=T.obj _ _ zj b k;exact(I8.pin (b,o) (cN _ (cN _ (fi k e)))).2.1
   refine be (lM (thn (T8 _ s7 G H7 x u _ K3 r7 (step x H7 y7)) λ_ s8 O=>?_));rfl';obtain⟨S,U,I8,q8⟩:=O;ac_rfl;refine be (lM (thn (Uk _ s8 S U _ I8 q8) λb s9 O=>?_));obtain⟨H9,I9,q9⟩:=O;cases b with
   |false=>
    rw[ir dD] at q9;exact mo #[C▸rfl,nextT I9 q9]
   |true=>
    rw[ls rfl] at q9;refine be (lM (thn (hiC _ s9 S H9 _ I9 q9) λv1 QN h10=>?_));refine be (aaA (be (aaO (yq _ v1) (be (KM (lM (thn h10 λEp QO h11=>?_)))))));rfl';obtain⟨MP,fp1,tn1,J1,OH,rfl,K2,T1,YR,f11,Ua⟩:=h11;ac_rfl;refine be (wpAny_runOwn ?_);have tr:∀(cd:Code)(R:Result->Shared->Prop),codeAny (model a.prog a.w) a.A cd R QO->codeAny (model X.prog X.w) X.A cd R QO:=λcd R h=>by rw[eP,ew,eA] at h;exact h
    exact tr _ _ (DP PB JL K2 T1 YR f11 W5 Xv T3 Ua λG v I Zr Gw=>mo #[C▸rfl,nextT Zr Gw])
 subst C;exact ace loop (T.self _ 0 _ _ _ Oi loop)
theorem Qu(e:X.calm=true)(c:cT X scope)(f:eD scope X.N src NC)(i:PI X t0 i0 wi)
  (j:∀a s H,PG (dS X scope NC a s H) t0 g) (k:∀a s H,oz (dS X scope NC a s H) f0 tt) (l:∀a s H,PI (dS X scope NC a s H) t1 i1 hU) (n:∀a s H,PG (dS X scope NC a s H) t1 g1)
  (o:∀a s H,oz (dS X scope NC a s H) f1 fH) (p:∀a s H,PE (dS X scope NC a s H) elt te)
  (q:∀x,foldedSetIterable i0 X.env x=pure x:=by intro _;rfl) (r:∀env x,foldedSetIterable i1 env x=pure x:=by intro _ _;rfl):
  PE X (.ListComp elt [#[t0,i0,f0,0],#[t1,i1,f1,0]] scope pos) (Si wi g tt hU g1 fH te src):=by
 intro b s t H Q I h;rw[eval_ListComp];refine aaT (use:=none) rfl q (ja (c.cells I.ok)) c.kind c.names (thn (i b s t H _ I h) λv O u=>thn u λP R w=>?_);obtain⟨S,U,Y,J,Z,rfl,y,T,z,A,B⟩:=w
 exact BJ e c f y T z A j k l n o p r B λD s3 H3 aH C s' E F d G=>by
  obtain⟨m,L,_⟩:=d.loc;exact#[m,L,λh' M=>#[.ref D,C,comp_back E F d M,rfl,G]]
end
end L2
namespace KS
open PySem PySem.W PyProof.Rows
section
variable {prog:Program} {w:World} {A:Around} {E:Value->Shared->Prop} {s:Shared}
theorem wd(c:s.heap.get? a=some (seqObj "list" b.toArray n))(i:b.length<2)
  (h:G (.done (.ret .none)) {s with heap:=sortedHeap s.heap a b b.toArray}):wpAny (model prog w) A (Builtin.«list.sort» #[[.ref a],[]]) G E s:=by
 rw[list_sort_plain];have l:a<s.heap.objs.size:=FB c;refine be (listItems_at c rfl (be (abN c rfl ?_)));obtain⟨j,d⟩:∃k,(s.heap.update a (Obj.mapSeq λ_=> #[])).get? a=some (seqObj "list" #[] k):=#[_,get?_update_seq c (λ_=> #[])];refine be (acf d rfl (be (wpAny_newTuple (be (aa8 (KM ?_))))));have e:(((s.heap.update a (Obj.mapSeq λ_=> #[])).push (seqObj "tuple" b.toArray 0)).push (seqObj "list" #[] 0)).get? a=some (seqObj "list" #[] j):=tz _ (tz _ d);show wpAny (model prog w) A _ G E {s with heap:=((s.heap.update a (Obj.mapSeq λ_=> #[])).push (seqObj "tuple" b.toArray 0)).push (seqObj "list" #[] 0)}
 dsimp only;have lz:b.toArray.size<2:=i;rw[ls lz,ls lz];refine be (mo ?_);rw[StateT.run_pure];refine be (mo ?_);dsimp only
 have f:(arrOf (SortSt.mk' general' (b.toArray.zip b.toArray) #[] 7 none)).map (·.2)=b.toArray:=by
  show(b.toArray.zip b.toArray).map (·.2)=b.toArray;apply abV.mp;simp[List.map_snd_zip]
 refine be (acf e rfl (be (abN e rfl ?_ (hsz2:=by rw[f];rw[abD];lia))))
 simp only[abQ,fk,M2];have g:=h;unfold sortedHeap at g;rw[f];exact mo g
theorem Ax(e:s.heap.IsList l a.toArray)(f:a.length<2)(h:G (.ref (s.heap.objs.size+1)) {s with heap:=sortedAll s.heap a a.toArray}):
  wpAny (model prog w) A (call (.builtin "sorted") [.ref l]) G E s:=by
 refine aaR kind_sorted acx acy (acz (.ref l)) ?_;unfold Builtin.«sorted»;have b:a.length<=sizeLine:=by rw[abD];lia
 refine be (m:=checkCount "sorted" 1 1 _) (mo (be (acA e (be (aa8 ?_ b)) b)));have c:((s.heap.push (seqObj "list" #[] 0)).update s.heap.objs.size (Obj.mapSeq (·++a.toArray))).objs.size=s.heap.objs.size+1:=by rw[aaN,aaY]
 have d:(((s.heap.push (seqObj "list" #[] 0)).update s.heap.objs.size (Obj.mapSeq (·++a.toArray))).push (seqObj "list" a.toArray 0)).get? (s.heap.objs.size+1)=some (seqObj "list" a.toArray 0):=by
  rw[<-c];exact GE _ rfl
 show wpAny (model prog w) _ _ _ E {s with heap:=((s.heap.push (seqObj "list" #[] 0)).update s.heap.objs.size (Obj.mapSeq (·++a.toArray))).push (seqObj "list" a.toArray 0)}
 rw[c];exact be (KM (SB slot_list_sort #[_,d,rfl] entry_list_sort (wd d f #[_,rfl,mo #[_,rfl,h]]) (aby _)))
end
end KS
namespace L2
open PySem PySem.Spec PyProof.Rows
section
variable {X:Cx} {pins:List (Addr×Obj)} {σ:St} {H:Hp} {s:Shared} {h':Heap}
end
def u9(k:Nat×Nat):List V:= [.int (k.1:Nat), .int (k.2:Nat)]
def xB(H:Hp)(L:List (Addr×(Nat×Nat))):Prop:=∀p∈L,H p.1=some (.tup (u9 p.2))
def kv(a b:Nat×Nat):Bool:=if a.1=b.1 then decide (a.2<b.2) else decide (a.1<b.1)
theorem uV(x y:Nat×Nat):kv x y=true↔x.1<y.1\/(x.1=y.1/\x.2<y.2):=by
 unfold kv
 by_cases e:x.1=y.1
 .rw[ls e,decide_eq_true_iff]
  lia
 .rw[ir e,decide_eq_true_iff]
  lia
theorem J2(x y z:Nat×Nat)(h:kv x z=true):kv x y=true\/kv y z=true:=by
 rw[uV] at*;rw[uV];lia
theorem MY(x y z:Nat×Nat)(h:kv x y=true)(a:kv y z=true):kv x z=true:=by
 rw[uV] at*;lia
theorem yB(h:kv b a=false):Wb.lexLe a b:=by
 unfold kv at h;unfold Wb.lexLe
 by_cases e:b.1=a.1
 .rw[ls e] at h
  have:=On h
  right;lia
 .rw[ir e] at h
  have:=On h
  left;lia
theorem PM 
  (n:IsTup s.heap x [.int a i, .int b j].toArray) (o:IsTup s.heap y [.int c k, .int d l].toArray)
  (h:C (if a=c then decide (b<d) else decide (a<c)) s):wpAny (model prog w) A (keyLt' (tuples' true) (.ref x) (.ref y)) C E s:=by
 rfl';obtain⟨u,f,_,v,q⟩:=n;obtain⟨z,g,_,B,r⟩:=o;ac_rfl;refine PySem.W.kat_lt f q g r ?_;refine PySem.W.kat_cons (aaS a i c k prog w _ _ ?_)
 by_cases e:a=c
 .rw[ls e] at h
  rw[show(a==c)=true by simpa using e]
  refine PySem.W.kat_yes (PySem.W.kat_cons (aaS b j d l prog w _ _ ?_))
  by_cases m:b=d
  .rw[show(b==d)=true by simpa using m]
   refine PySem.W.kat_yes (PySem.W.kat_nil ?_);rw[show decide (b<d)=false by simp;lia] at h
   simpa using h
  .rw[show(b==d)=false by simpa using m]
   refine PySem.W.kat_no (PySem.W.kat_one _ _ ?_);exact lt_int h
 .rw[ir e] at h
  rw[show(a==c)=false by simpa using e]
  exact PySem.W.kat_no (oneLt_int h)
section
variable {X:Cx}
theorem nq:∀{as:List Addr}{us:List Value},Vals (as.map V.ref) us->us=as.map Value.ref
 | [],_, .nil=>rfl
 |a::as,_, .cons r t=>by cases r;rw[nq t];rfl
theorem sD:∀b:List Addr,Vals (b.map V.ref) (b.map Value.ref)
 | []=> .nil
 |a::b=> .cons rfl (sD b)
theorem Kf(I:Inv X b c H s)(h:H a=some (.tup (u9 k))):
  ∃t u,IsTup s.heap a [.int (k.1:Nat) t, .int (k.2:Nat) u].toArray:=by
 rfl';obtain⟨e,r,p,_⟩:=I.tuple (fg.of h);obtain⟨g,i,rfl,⟨t,rfl⟩,⟨u,rfl⟩⟩:=Vals.two r;ac_rfl;exact#[t,u,p]
end
end L2
set_option maxHeartbeats 4000000
namespace L2
open PySem PySem.Spec PyProof.Rows
def Zy(a:Addr)(fs:List (Str×V)):HO:= .ext λh=>fs.length<=1000/\∃b,h.Ns1 a b/\(∀f,oE (fs.lookup f) (b f))/\cr b (fs.map (·.1))
section
variable {P:Program} {w:World} {H:Hp} {h:Heap} {a C:Addr} {d:Option Addr} {fs:List (Str×V)}
end
section
variable {X:Cx} {pins:List (Addr×Obj)} {σ:St} {H:Hp} {s:Shared}
variable {a C:Addr} {fs:List (Str×V)} {f:Str} {v:V} {A:Around} {E:Value->Shared->Prop}
end
section
variable {X:Cx} {o e value:Expr} {f:Str} {pos pos' Zb:Pos} {ta tv:TE}
end
theorem cT.of(f:Scope)(e:X.env.scope=f)(k:d.kind= .function)(a:∀x∈d.names,x.2= .local->d.names.lookup x.1=some .local)(b:∀x∈d.names,x.2≠ .cell)
  (c:∀x∈d.names,x.2= .free->f.names.lookup x.1=some .cell\/f.names.lookup x.1=some .free):cT X d:=#[k,a,b,λx g h=>by rw[<-e] at c;exact c x g h]
structure fo (K:ac) (mg:Str->Option Value) (x:Str) (st:Stmt) (ps:List Str) where
 f:Addr
 fd:FuncData
 F:z8 K x x st f fd
 b:Binds K fd ps []
 m:mg x=some (.ref f)
theorem aY(h:H p=none)(o:HO):aZ H (upd H p o):=λb u q=>by rw[aB (aW q h)];exact q
theorem small(h:n<=1000):n<=sizeLine:=sU (dG h)
open PySem.Calls
abbrev RD(C t:Addr)(a:Value)(d:Option Addr):Obj:={cls:= .ref C,dict:=d,data:= .fields [.ref t,a, .none, .none, .bool false, .none].toArray}
def VF(C a:Addr)(d:Option Addr):HO:= .ext λh=>∃t b,h.get? a=some (RD C t b d)
section
variable {P:Program} {w:World} {H:Hp} {h:Heap} {a C:Addr} {d:Option Addr}
end
def VO(h:Heap)(T:Addr):Prop:=∃o a,h.get? T=some o/\o.data= .fields a/\a[3]? =some .none
section
variable {M:Model} {A:Around} {E:Value->Shared->Prop} {s:Shared}
end
def VP(X:Cx)(H:Hp)(h:Heap)(a:Value):Prop:=a= .none\/∃T,a= .ref T/\X.s₀.heap.objs.size<=T/\T≠X.env.locals/\(∀x c,X.env.cells.lookup x=some c->c≠T)/\(∀p∈X.pn,p.1≠T)/\H T=none/\VO h T
def VG(X:Cx)(H:Hp)(s:Shared)(a:Addr):Prop:=∃C t b d,H a=some (VF C a d)/\s.heap.get? a=some (RD C t b d)/\VP X H s.heap b
section
variable {X:Cx} {pins:List (Addr×Obj)} {σ:St} {H H':Hp} {s s':Shared} {a:Addr}
end
def VR(X:Cx)(b:St)(H:Hp)(a:Addr):Prop:=∀s,Inv X [] b H s->VG X H s a->X.xe (.ref a) s
end L2
namespace TS
open PySem PyProof.Rows
def fD:Bool->Keyed->Array Keyed->Nat->Nat->Nat->StateT SortSt Sem (Option Nat):=sortPriv%PySem.Builtin.gallop
def qG:Array Keyed->Array Keyed->StateT SortSt Sem (Array Keyed):=sortPriv%PySem.Builtin.mergeLo
def qF:Array Keyed->Array Keyed->StateT SortSt Sem (Array Keyed):=sortPriv%PySem.Builtin.mergeHi
def setMinGallop':Nat->StateT SortSt Sem Unit:=sortPriv%PySem.Builtin.setMinGallop
def kj(left:Bool)(key:Keyed)(arr:Array Keyed)(base i:Nat):StateT SortSt Sem (Option Bool):=do
 let x <-elem' arr (base+i)
 if left then lt' x key else return (<-lt' key x).map (!·)
theorem D8(left:Bool)(key:Keyed)(arr:Array Keyed)(base n a:Nat):fD left key arr base n a=(do
 let mut lastofs:=0
 let mut ofs:=1
 let mut lo:=0
 let mut hi:=0
 let some right <-kj left key arr base a|return none
 if right then
  let b:=n-a
  for _ in [0:n] do
   if ofs>=b then break
   let some more <-kj left key arr base (a+ofs) |return none
   if !more then break
   lastofs:=ofs
   ofs:=2*ofs+1
  lo:=a+lastofs+1
  hi:=a+min ofs b
 else
  let b:=a+1
  for _ in [0:n] do
   if ofs>=b then break
   let some found <-kj left key arr base (a-ofs) |return none
   if found then break
   lastofs:=ofs
   ofs:=2*ofs+1
  lo:=a+1-min ofs b
  hi:=a-lastofs
 for _ in [0:n] do
  if lo>=hi then break
  let m:=lo+(hi-lo) / 2
  let some more <-kj left key arr base m|return none
  if more then lo:=m+1 else hi:=m
 return some hi):=rfl
def iw(O:KeyOrd)(key:Keyed->O.α)(S:Keyed->Prop)(a:SortKind)(M:Model)(A:Around)(E:Value->Shared->Prop)(s:Shared):Prop:=
 ∀(x y:Keyed)(st:SortSt)(Q:Option Bool->SortSt->Prop),S x->S y->kindOf st=a->Q (some (O.blt (key x) (key y))) st->wpS M A E s (lt' x y) Q st
section
variable {O:KeyOrd} {key:Keyed->O.α} {S:Keyed->Prop} {k0:SortKind} {M:Model} {A:Around} {E:Value->Shared->Prop} {s:Shared} {st:SortSt}
def eJ(O:KeyOrd)(key:Keyed->O.α)(left:Bool)(k x:Keyed):Bool:=if left then O.blt (key x) (key k) else !O.blt (key k) (key x)
theorem bE{i:Nat}(h:arr[i]? =some x)(q:Q x st):wpS M A E s (elem' arr i) Q st:=by
 rw[elem'_eq,h];exact Fk q
theorem lD(C:iw O key S k0 M A E s)(d:arr[base+i]? =some x)(a:S k)(b:S x)(c:kindOf st=k0)
  (q:Q (some (eJ O key left k x)) st):wpS M A E s (kj left k arr base i) Q st:=by
 unfold kj;refine AC (bE d ?_);unfold eJ at q;cases left with
 |true=>exact C _ _ _ _ b a c q
 |false=>exact AC (C _ _ _ _ a b c (Fk q))
structure Seg (S:Keyed->Prop) (arr:Array Keyed) (base n:Nat) (g:Nat->Keyed):Prop where
 at_:∀i,i<n->arr[base+i]? =some (g i)
 mem:∀i,i<n->S (g i)
theorem iq(C:iw O key S k0 M A E s){base n a:Nat}(G:Seg S arr base n g)(H:S k)(J:kindOf st=k0)(X:a<n)
  (mono:∀i j,i<=j->j<n->eJ O key left k (g j)=true->eJ O key left k (g i)=true)
  (q:∀p,p<=n->(∀i,i<p->eJ O key left k (g i)=true)->(∀i,p<=i->i<n->eJ O key left k (g i)=false)->Q (some p) st):wpS M A E s (fD left k arr base n a) Q st:=by
 rw[D8];refine AC (lD C (G.at_ _ X) H (G.mem _ X) J ?_)
 have P:∀i j,i<=j->j<n->eJ O key left k (g i)=false->eJ O key left k (g j)=false:=λi j eN hj h=>by
  cases e:eJ O key left k (g j) with
  |false=>rfl
  |true=>rw[mono i j eN hj e] at h;cases h
 have fin:∀lo b,lo<=b->b<=n->(∀i,i<lo->eJ O key left k (g i)=true)->(∀i,b<=i->i<n->eJ O key left k (g i)=false)->
   wpS M A E s (do
    let mut lo:=lo
    let mut b:=b
    for _ in [0:n] do
     if lo>=b then break
     let m:=lo+(b-lo) / 2
     let some more <-kj left k arr base m|return none
     if more then lo:=m+1 else b:=m
    return some b) Q st:=by
  intro lo b R hn B y;dsimp only
  refine AC (P3 (SC (I:=λx c f=>f=st/\∃lo b,c=(none,lo,b)/\lo<=b/\b<=n/\b-lo<=n-x/\(∀i,i<lo->eJ O key left k (g i)=true)/\(∀i,b<=i->i<n->eJ O key left k (g i)=false))
   (Q:=λc f=>f=st/\∃b,c=(none,b,b)/\b<=n/\(∀i,i<b->eJ O key left k (g i)=true)/\(∀i,b<=i->i<n->eJ O key left k (g i)=false)) ?step ?fin #[rfl,lo,b,rfl,R,hn,by lia,B,y]) ?post)
  case fin=>
   rintro c f ⟨rfl,lo,b,rfl,r,w,t,l,L⟩
   have:lo=b:=by lia
   subst this;exact#[rfl,lo,rfl,w,l,L]
  case step=>
   rintro x c f _ Y ⟨rfl,lo,b,rfl,r,w,t,l,L⟩;dsimp only
   by_cases v:lo>=b
   .rw[ls v]
    have:lo=b:=by lia
    subst this;exact Fk #[rfl,lo,rfl,w,l,L]
   .rw[ir v]
    have u:lo+(b-lo) / 2<n:=by lia
    refine AC (lD C (G.at_ _ u) H (G.mem _ u) J ?_);cases e:eJ O key left k (g (lo+(b-lo) / 2)) with
    |true=>
     dsimp only;rw[ls rfl];exact Fk #[rfl,_,_,rfl,by lia,w,by lia,λi b=>mono _ _ (by lia) u e,L]
    |false=>
     dsimp only;rw[ir (by decide)]
     exact Fk #[rfl,_,_,rfl,by lia,by lia,by lia,l,λi B y=>P _ _ B y e]
  case post=>
   rintro c f ⟨rfl,b,rfl,T,N,F⟩;exact Fk (q _ T N F)
 dsimp only;cases Z:eJ O key left k (g a) with
 |true=>
  rw[ls rfl]
  refine AC (P3 (SC (I:=λx c f=>f=st/\∃d o,c=(none,d,o)/\d<o/\x<o/\a+d<n/\eJ O key left k (g (a+d))=true)
   (Q:=λc f=>f=st/\∃d o,c=(none,d,o)/\d<o/\a+d<n/\eJ O key left k (g (a+d))=true/\(n-a<=o\/(a+o<n/\eJ O key left k (g (a+o))=false))) ?step ?fin2 #[rfl,0,1,rfl,by lia,by lia,by lia,Z]) ?post)
  case fin2=>
   rintro c f ⟨rfl,d,o,rfl,r,w,t,l⟩;exact#[rfl,d,o,rfl,r,t,l, .inl (by lia)]
  case step=>
   rintro x c f _ Y ⟨rfl,d,o,rfl,r,w,t,l⟩;dsimp only
   by_cases v:o>=n-a
   .rw[ls v]
    exact Fk #[rfl,d,o,rfl,r,t,l, .inl v]
   .rw[ir v]
    have u:a+o<n:=by lia
    refine AC (lD C (G.at_ _ u) H (G.mem _ u) J ?_);cases e:eJ O key left k (g (a+o)) with
    |true=>
     dsimp only;rw[ir (by decide)]
     exact Fk #[rfl,_,_,rfl,by lia,by lia,u,e]
    |false=>
     dsimp only;rw[ls (by decide)]
     exact Fk #[rfl,d,o,rfl,r,t,l, .inr #[u,e]]
  case post=>
   rintro c f ⟨rfl,d,o,rfl,T,N,F,z⟩;refine fin (a+d+1) (a+min o (n-a)) (by lia) (by lia) (λi b=>mono _ _ (by lia) N F) (λi B y=>?_)
   rcases z with z| ⟨z,U⟩
   .lia
   .exact P _ _ (by lia) y U
 |false=>
  rw[ir (by decide)]
  refine AC (P3 (SC (I:=λx c f=>f=st/\∃d o,c=(none,d,o)/\d<o/\x<o/\d<=a/\eJ O key left k (g (a-d))=false)
   (Q:=λc f=>f=st/\∃d o,c=(none,d,o)/\d<o/\d<=a/\eJ O key left k (g (a-d))=false/\(a+1<=o\/(o<=a/\eJ O key left k (g (a-o))=true))) ?step ?fin2 #[rfl,0,1,rfl,by lia,by lia,by lia,Z]) ?post)
  case fin2=>
   rintro c f ⟨rfl,d,o,rfl,r,w,t,l⟩;exact#[rfl,d,o,rfl,r,t,l, .inl (by lia)]
  case step=>
   rintro x c f _ Y ⟨rfl,d,o,rfl,r,w,t,l⟩;dsimp only
   by_cases v:o>=a+1
   .rw[ls v]
    exact Fk #[rfl,d,o,rfl,r,t,l, .inl v]
   .rw[ir v]
    have u:a-o<n:=by lia
    refine AC (lD C (G.at_ _ u) H (G.mem _ u) J ?_);cases e:eJ O key left k (g (a-o)) with
    |true=>
     dsimp only;rw[ls rfl];exact Fk #[rfl,d,o,rfl,r,t,l, .inr #[by lia,e]]
    |false=>
     dsimp only;rw[ir (by decide)]
     exact Fk #[rfl,_,_,rfl,by lia,by lia,by lia,e]
  case post=>
   rintro c f ⟨rfl,d,o,rfl,T,N,F,z⟩;refine fin (a+1-min o (a+1)) (a-d) (by lia) (by lia) (λi b=>?_) (λi B y=>P _ _ B y F)
   rcases z with z| ⟨z,U⟩
   .lia
   .exact mono _ _ (by lia) (by lia) U
end
section
variable {O:KeyOrd} {key:Keyed->O.α} {S:Keyed->Prop} {k0:SortKind} {M:Model} {A:Around} {E:Value->Shared->Prop} {s:Shared} {st bZ:SortSt}
def ky(O:KeyOrd)(key:Keyed->O.α)(a:Array Keyed)(i:Nat):O.α:=key (a[i]?.getD (.none, .none))
theorem jg(h:a[i]? =b[j]?):ky O key a i=ky O key b j:=by unfold ky;rw[h]
def jV(O:KeyOrd)(key:Keyed->O.α)(xs:Array Keyed)(a b:Nat):Prop:=∀i j,a<=i->i<=j->j<b->O.kle (ky O key xs i) (ky O key xs j)
def IZ(O:KeyOrd)(key:Keyed->O.α)(c:Array Keyed)(a b:Nat):Prop:=∀i j,a<=i->i<=j->j<b->O.kle (ky O key c j) (ky O key c i)
structure iy (bZ st:SortSt) (lo hi:Nat):Prop where
 perm:(arrOf st).Perm (arrOf bZ)
 kind:kindOf st=kindOf bZ
 failed:failedOf st=failedOf bZ
 pend:pendingOf st=pendingOf bZ
 out:∀i,i<lo\/hi<=i->(arrOf st)[i]? =(arrOf bZ)[i]?
theorem iy.refl(st:SortSt)(lo a:Nat):iy st st lo a:=#[.refl _,rfl,rfl,rfl,λ_ _=>rfl]
theorem iy.trans{d e:SortSt}{lo c:Nat}(a:iy bZ d lo c)(b:iy d e lo c):iy bZ e lo c:=
 #[b.perm.trans a.perm,b.kind.trans a.kind,b.failed.trans a.failed,b.pend.trans a.pend,λi h=>(b.out i h).trans (a.out i h)]
theorem iy.size{lo b:Nat}(a:iy bZ st lo b):(arrOf st).size=(arrOf bZ).size:=a.perm.size_eq
theorem iy.mirror{lo a i j:Nat}(c:lo<=i)(d:j<=a)(b:j<=(arrOf st).size):iy st (setArr st (mirror (arrOf st) i j ((j-i) / 2))) lo a:=
 #[mirror_perm _ _ _ _,rfl,rfl,rfl,λk h=>by
  show(PyProof.Rows.mirror (arrOf st) i j ((j-i) / 2))[k]? =_;rw[getElem?_mirror_all b,ir (by lia)]]
theorem iy.bubble{lo a src d:Nat}(b:d<=src)(e:lo<=src-d)(f:src<a)(c:src<(arrOf st).size):iy st (setArr st (bubble (arrOf st) src d)) lo a:=
 #[bubble_perm _ _ _,rfl,rfl,rfl,λk h=>by
  show(PyProof.Rows.bubble (arrOf st) src d)[k]? =_;rw[getElem?_bubble c d b,ir (by lia),ir (by lia)]]
theorem r8{i j:Nat}(c:j<=a.size)(k:Nat):ky O key (mirror a i j ((j-i) / 2)) k=if i<=k/\k<j then ky O key a (i+j-1-k) else ky O key a k:=by
 have e:=getElem?_mirror_all (i:=i) c k
 by_cases b:i<=k/\k<j
 .rw[ls b] at e ⊢;exact jg e
 .rw[ir b] at e ⊢;exact jg e
theorem gL(c:j<=a.size)(b:∀k,i<=k->k<j->ky O key a k=ky O key a (j-1))(k:Nat):ky O key (mirror a i j ((j-i) / 2)) k=ky O key a k:=by
 rw[r8 c]
 split
 .rw[b _ (by lia) (by lia),b k (by lia) (by lia)]
 .rfl
theorem yy(f:src<a.size)(g:d<=src)(k:Nat):
  ky O key (bubble a src d) k=if k=src-d then ky O key a src else if src-d<k/\k<=src then ky O key a (k-1) else ky O key a k:=by
 have e:=getElem?_bubble f d g k
 by_cases b:k=src-d
 .rw[ls b] at e ⊢;exact jg e
 .rw[ir b] at e ⊢
  by_cases c:src-d<k/\k<=src
  .rw[ls c] at e ⊢;exact jg e
  .rw[ir c] at e ⊢;exact jg e
structure Ok (S:Keyed->Prop) (k0:SortKind) (st:SortSt):Prop where
 mem:∀p,p∈(arrOf st).toList->S p
 kind:kindOf st=k0
theorem Ok.step{lo b:Nat}(o:Ok S k0 bZ)(a:iy bZ st lo b):Ok S k0 st:=
 #[λp c=>o.mem p ((C6.mp a.perm).mem_iff.mp c),a.kind.trans o.kind]
theorem Ok.at{i:Nat}(o:Ok S k0 st)(a:i<(arrOf st).size):(arrOf st)[i]? =some ((arrOf st)[i]?.getD (.none, .none))/\S ((arrOf st)[i]?.getD (.none, .none)):=by
 have e:(arrOf st)[i]? =some (arrOf st)[i]:=aaK _ i a;rw[e];exact#[rfl,o.mem _ (by simp)]
theorem qk(C:iw O key S k0 M A E s)(o:Ok S k0 st)(a:i<(arrOf st).size)(b:j<(arrOf st).size)
  (q:Q (some (O.blt (ky O key (arrOf st) i) (ky O key (arrOf st) j))) st):wpS M A E s (ltAt' i j) Q st:=by
 rw[ltAt'_eq];obtain⟨c,d⟩:=o.at a;obtain⟨e,f⟩:=o.at b;refine AC (aaP (AC (bE c (AC (bE e (C _ _ _ _ d f o.kind q))))))
theorem wpS_binarySort(C:iw O key S k0 M A E s){lo n ok:Nat}{Q:Bool->SortSt->Prop}(o:Ok S k0 st)(X:lo+n<=(arrOf st).size)(hok:ok<=n)(F:jV O key (arrOf st) lo (lo+ok))
  (h:∀b,iy st b lo (lo+n)->jV O key (arrOf b) lo (lo+n)->Q true b):wpS M A E s (binarySort' lo n ok) Q st:=by
 rw[binarySort'_eq]
 refine wpS_bind (wpS_mono (wpS_forRange (I:=λk c b=>c=(none,())/\iy st b lo (lo+n)/\jV O key (arrOf b) lo (lo+min k n))
  (Q:=λc b=>c=(none,())/\iy st b lo (lo+n)/\jV O key (arrOf b) lo (lo+n)) ?step ?fin ?init) ?post)
 case post=>
  rintro c b ⟨rfl,f,e⟩;exact wpS_pure (h b f e)
 case init=>
  refine#[rfl, .refl _ _ _,λi j t y G=>?_]
  by_cases p:ok=0
  .have:i=j:=by lia
   subst this;exact KeyOrd.kle_refl _
  .exact F i j t y (by lia)
 case fin=>
  rintro c b ⟨H,f,e⟩;exists H,f
  rwa [show min (max (max ok 1) n) n=n by lia] at e
 case step=>
  rintro k c b J Y ⟨rfl,f,e⟩;rw[show min k n=k by lia] at e
  have L:=o.step f;have Z:=f.size;have q:lo+k<(arrOf b).size:=by lia
  refine wpS_bind (wpS_mono (wpS_forRange (I:=λx c d=>d=b/\∃l r,c=(none,l,r)/\l<=r/\r<=k/\r-l<=k-x/\
    (∀i,i<l->O.kle (ky O key (arrOf b) (lo+i)) (ky O key (arrOf b) (lo+k)))/\(∀i,r<=i->i<k->O.klt (ky O key (arrOf b) (lo+k)) (ky O key (arrOf b) (lo+i))))
   (Q:=λc d=>d=b/\∃l r,c=(none,l,r)/\l<=k/\
    (∀i,i<l->O.kle (ky O key (arrOf b) (lo+i)) (ky O key (arrOf b) (lo+k)))/\(∀i,l<=i->i<k->O.klt (ky O key (arrOf b) (lo+k)) (ky O key (arrOf b) (lo+i)))) ?istep ?ifin ?iinit) ?ipost)
  case iinit=>exact#[rfl,0,k,rfl,by lia,by lia,by lia,λi t=>by lia,λi p u=>by lia]
  case ifin=>
   rintro c d ⟨rfl,l,r,rfl,v,w,N,g,m⟩
   have:l=r:=by lia
   subst this;exact#[rfl,l,l,rfl,w,g,m]
  case istep=>
   rintro x c d _ P ⟨rfl,l,r,rfl,v,w,N,g,m⟩;dsimp only
   by_cases z:l>=r
   .rw[if_pos z]
    have:l=r:=by lia
    subst this;exact wpS_pure #[rfl,l,l,rfl,w,g,m]
   .rw[if_neg z]
    refine wpS_bind (qk C L q (by lia) ?_)
    cases B:O.blt (ky O key (arrOf d) (lo+k)) (ky O key (arrOf d) (lo+(l+r) / 2))
    case true=>
     simp only[if_true];refine wpS_pure #[rfl,l,(l+r) / 2,rfl,by lia,by lia,by lia,g,λi p u=>?_]
     exact KeyOrd.klt_of_klt_of_kle B (e _ _ (by lia) (by lia) (by lia))
    case false=>
     simp only[fk,if_false];refine wpS_pure #[rfl,(l+r) / 2+1,r,rfl,by lia,by lia,by lia,λi p=>?_,m]
     exact KeyOrd.kle_trans (e (lo+i) (lo+(l+r) / 2) (by lia) (by lia) (by lia)) (show O.kle _ _ from B)
  case ipost=>
   rintro c d ⟨rfl,l,r,rfl,R,g,m⟩;show wpS _ _ _ _ (do moveDown' (lo+k) (lo+l);pure (ForInStep.yield (none,()))) _ _
   rw[moveDown'_eq];have ed:lo+k-(lo+l)=k-l:=by lia
   refine wpS_bind (wpS_modify (wpS_pure #[rfl,f.trans (iy.bubble (by lia) (by lia) (by lia) q),?_]))
   rw[show min (k+1) n=k+1 by lia]
   intro i j t y G;show O.kle (ky O key (bubble (arrOf d) (lo+k) (lo+k-(lo+l))) i) (ky O key (bubble (arrOf d) (lo+k) (lo+k-(lo+l))) j);rw[yy q (by lia),yy q (by lia),show lo+k-(lo+k-(lo+l))=lo+l by lia]
   have T:∀a,lo<=a->a<lo+l->O.kle (ky O key (arrOf d) a) (ky O key (arrOf d) (lo+k)):=λa p u=>by
    have:=g (a-lo) (by lia);rwa [show lo+(a-lo)=a by lia] at this
   have U:∀a,lo+l<=a->a<lo+k->O.klt (ky O key (arrOf d) (lo+k)) (ky O key (arrOf d) a):=λa p u=>by
    have:=m (a-lo) (by lia) (by lia);rwa [show lo+(a-lo)=a by lia] at this
   repeat' split
   all_goals first
    | (exfalso;lia)
    |exact KeyOrd.kle_refl _
    |exact T _ (by lia) (by lia)
    |exact KeyOrd.kle_of_klt (U _ (by lia) (by lia))
    |exact e _ _ (by lia) (by lia) (by lia)
end
def Du(lo a d:Nat):StateT SortSt Sem AscSt:=
 forIn [a:d] ((none,a):AscSt) λ_ b=>do
  let c <-ltAt' (lo+b.snd) (lo+b.snd-1)
  match c with
  |some e=>if e=true then pure (ForInStep.done (none,b.snd)) else pure (ForInStep.yield (none,b.snd+1))
  |_=>pure (ForInStep.done (some none,b.snd))
def tailL(lo n b:Nat):StateT SortSt Sem (Option Nat):=do
 reverseSlice' lo (lo+n)
 let a <-Du lo n b
 match a.fst with
 |some r=>pure r
 |none=>pure (some a.snd)
def BN(lo n c:Nat):StateT SortSt Sem DescSt:=
 forIn [n:c] ((none,n,0):DescSt) λ_ a=>do
  let b <-ltAt' (lo+a.snd.fst) (lo+a.snd.fst-1)
  match b with
  |some d=>
   if d=true then
    if a.snd.snd>0 then do
     reverseSlice' (lo+a.snd.fst-(a.snd.snd+1)) (lo+a.snd.fst)
     pure (ForInStep.yield (none,a.snd.fst+1,0))
    else pure (ForInStep.yield (none,a.snd.fst+1,0))
   else do
    let b <-ltAt' (lo+a.snd.fst-1) (lo+a.snd.fst)
    match b with
    |some e=>
     if e=true then pure (ForInStep.done (none,a.snd.fst,a.snd.snd))
     else pure (ForInStep.yield (none,a.snd.fst+1,a.snd.snd+1))
    |_=>pure (ForInStep.done (some none,a.snd.fst,a.snd.snd))
  |_=>pure (ForInStep.done (some none,a.snd.fst,a.snd.snd))
def descP(lo n b:Nat):StateT SortSt Sem (Option Nat):=do
 liftM (rule "list.sort.descending-run")
 let a <-BN lo (n+1) b
 match a.fst with
 |some r=>pure r
 |none=>
  if a.snd.snd>0 then do
   reverseSlice' (lo+a.snd.fst-(a.snd.snd+1)) (lo+a.snd.fst)
   tailL lo a.snd.fst b
  else tailL lo a.snd.fst b
theorem Ag(lo c:Nat):countRun' lo c=(do
  let a <-Du lo 1 c
  match a.fst with
  |some r=>pure r
  |none=>
   if (a.snd==c)=true then pure (some a.snd)
   else if a.snd>1 then do
    let e <-ltAt' lo (lo+a.snd-1)
    match e with
    |some g=>if g=true then pure (some a.snd) else do
      reverseSlice' lo (lo+a.snd)
      descP lo a.snd c
    |_=>pure none
   else descP lo a.snd c):=by
 rw[countRun'_eq];dsimp only;unfold descP tailL BN Du
 congr 1
 funext a
 obtain⟨r,n⟩:=a;cases r with
 |some r=>rfl
 |none=>
  dsimp only
  split
  .rfl
  .split
   .congr 1
    funext x
    cases x with
    |none=>rfl
    |some g=>
     dsimp only
     split
     .rfl
     .congr 1
      funext _r
      (congr 1;funext _u;congr 1;congr 1;funext s2;obtain⟨d,h,i⟩:=s2;cases d with
 |some d=>rfl
 |none=>(dsimp only;split;(congr 1;funext _v;(congr 1;funext _w;congr 1;(funext s3;obtain⟨b,f⟩:=s3;cases b<;>rfl)));(congr 1;funext _w;congr 1;(funext s3;obtain⟨b,f⟩:=s3;cases b<;>rfl))))
   ·(congr 1;funext _u;congr 1;congr 1;funext s2;obtain⟨d,h,i⟩:=s2;cases d with
 |some d=>rfl
 |none=>(dsimp only;split;(congr 1;funext _v;(congr 1;funext _w;congr 1;(funext s3;obtain⟨b,f⟩:=s3;cases b<;>rfl)));(congr 1;funext _w;congr 1;(funext s3;obtain⟨b,f⟩:=s3;cases b<;>rfl))))
section
variable {O:KeyOrd} {key:Keyed->O.α} {S:Keyed->Prop} {k0:SortKind} {prog:Program} {w:World} {A:Around} {E:Value->Shared->Prop} {s:Shared} {st bZ:SortSt}
theorem Bt(C:iw O key S k0 (model prog w) A E s){lo a b:Nat}{Q:AscSt->SortSt->Prop}(o:Ok S k0 st)(v:lo+b<=(arrOf st).size)(y:1<=a)(f:a<=b)(l:jV O key (arrOf st) lo (lo+a))
  (h:∀n,a<=n->n<=b->jV O key (arrOf st) lo (lo+n)->(n=b\/O.klt (ky O key (arrOf st) (lo+n)) (ky O key (arrOf st) (lo+n-1)))->Q (none,n) st):
  wpS (model prog w) A E s (Du lo a b) Q st:=by
 unfold Du;refine SC (I:=λx c e=>e=st/\c=(none,x)/\jV O key (arrOf st) lo (lo+x)) ?step ?fin #[rfl,rfl,l]
 case fin=>
  rintro c e ⟨rfl,rfl,d⟩;rw[show max a b=b by lia] at d ⊢
  exact h b f (bb _) d (.inl rfl)
 case step=>
  rintro x c e m p ⟨rfl,rfl,d⟩;dsimp only;refine AC (qk C o (by lia) (by lia) ?_)
  cases g:O.blt (ky O key (arrOf e) (lo+x)) (ky O key (arrOf e) (lo+x-1))
  case true=>
   simp only[aax];exact Fk (h x m (by lia) d (.inr g))
  case false=>
   simp only[fk,M2];refine Fk #[rfl,rfl,λi j k q z=>?_]
   by_cases r:j<lo+x
   .exact d i j k q r
   .have t:j=lo+x:=by lia
    subst t
    by_cases u:i=lo+x
    .subst u;exact aan _
    .exact GT (d i (lo+x-1) k (by lia) (by lia)) g
theorem uu(h:Q () (setArr st (mirror (arrOf st) i j ((j-i) / 2)))):wpS (model prog w) A E s (reverseSlice' i j) Q st:=by
 rw[reverseSlice'_eq];exact aaZ h
theorem zG(C:iw O key S k0 (model prog w) A E s){lo n a:Nat}{Q:Option Nat->SortSt->Prop}(o:Ok S k0 st)(f:lo+a<=(arrOf st).size)(g:1<=n)(k:n<=a)(l:IZ O key (arrOf st) lo (lo+n))
  (h:∀m b,iy st b lo (lo+a)->1<=m->m<=a->jV O key (arrOf b) lo (lo+m)->Q (some m) b):wpS (model prog w) A E s (tailL lo n a) Q st:=by
 unfold tailL;have c:lo+n<=(arrOf st).size:=by lia
 refine AC (uu ?_);have d:iy st (setArr st (mirror (arrOf st) lo (lo+n) ((lo+n-lo) / 2))) lo (lo+a):=iy.mirror (bb _) (by lia) c
 refine AC (Bt C (o.step d) (by rw[d.size];exact f) g k ?_ λm p q e _=>Fk (h m _ d (by lia) q e))
 intro i j r t u;show O.kle (ky O key (mirror (arrOf st) lo (lo+n) ((lo+n-lo) / 2)) i) (ky O key (mirror (arrOf st) lo (lo+n) ((lo+n-lo) / 2)) j);rw[r8 c,r8 c,ls (by lia),ls (by lia)]
 exact l _ _ (by lia) (by lia) (by lia)
theorem Hs(C:iw O key S k0 (model prog w) A E s){lo n d:Nat}{Q:DescSt->SortSt->Prop}(o:Ok S k0 st)(Y:lo+d<=(arrOf st).size)(p:1<=n)(P:n<=d)(R:IZ O key (arrOf st) lo (lo+n))
  (h:∀m b a,iy st a lo (lo+d)->n<=m->m<=d->IZ O key (arrOf a) lo (lo+m)->b+1<=m->(∀i,lo+m-(b+1)<=i->i<lo+m->ky O key (arrOf a) i=ky O key (arrOf a) (lo+m-1))->Q (none,m,b) a):
  wpS (model prog w) A E s (BN lo n d) Q st:=by
 unfold BN
 refine SC (I:=λx c a=>∃b,c=(none,x,b)/\iy st a lo (lo+d)/\IZ O key (arrOf a) lo (lo+x)/\b+1<=x/\
   (∀i,lo+x-(b+1)<=i->i<lo+x->ky O key (arrOf a) i=ky O key (arrOf a) (lo+x-1))) ?step ?fin #[0,rfl, .refl _ _ _,R,by lia,λi p r=>by congr 1;lia]
 case fin=>
  rintro c a ⟨b,rfl,e,f,q,g⟩;rw[show max n d=d by lia] at f q g ⊢
  exact h d b a e P (bb _) f q g
 case step=>
  rintro x c a Z T ⟨b,rfl,e,f,q,g⟩;dsimp only;have F:=o.step e;have hz:=e.size;have G:lo+x<=(arrOf a).size:=by lia
  refine AC (qk C F (by lia) (by lia) ?_)
  cases H:O.blt (ky O key (arrOf a) (lo+x)) (ky O key (arrOf a) (lo+x-1))
  case true=>
   simp only[aax]
   have J:∀t:Array Keyed,(∀k,ky O key t k=ky O key (arrOf a) k)->IZ O key t lo (lo+(x+1)):=by
    intro t L i j l u U;rw[L,L]
    by_cases v:j<lo+x
    .exact f i j l u v
    .have y:j=lo+x:=by lia
     subst y
     by_cases z:i=lo+x
     .subst z;exact aan _
     .exact GT (Pi H) (f i (lo+x-1) l (by lia) (by lia))
   by_cases M:b>0
   .rw[ls M]
    refine AC (uu (Fk #[0,rfl,e.trans (iy.mirror (by lia) (by lia) G),J _ (gL G g),by lia,λi p r=>by congr 1;lia]))
   .rw[ir M]
    exact Fk #[0,rfl,e,J _ (λ_=>rfl),by lia,λi p r=>by congr 1;lia]
  case false=>
   simp only[fk,M2];refine AC (qk C F (by lia) (by lia) ?_)
   cases X:O.blt (ky O key (arrOf a) (lo+x-1)) (ky O key (arrOf a) (lo+x))
   case true=>
    simp only[aax];exact Fk (h x b a e (by lia) (by lia) f q g)
   case false=>
    simp only[fk,M2];have N:ky O key (arrOf a) (lo+x)=ky O key (arrOf a) (lo+x-1):=O.total _ _ H X;refine Fk #[b+1,rfl,e,λi j l u U=>?_,by lia,λi p r=>?_]
    .by_cases v:j<lo+x
     .exact f i j l u v
     .have y:j=lo+x:=by lia
      subst y
      by_cases z:i=lo+x
      .subst z;exact aan _
      .rw[N];exact f i (lo+x-1) l (by lia) (by lia)
    .rw[show lo+(x+1)-1=lo+x by lia]
     by_cases B:i=lo+x
     .subst B;rfl
     .rw[N];exact g i (by lia) (by lia)
theorem zy(C:iw O key S k0 (model prog w) A E s){lo n b:Nat}{Q:Option Nat->SortSt->Prop}(o:Ok S k0 st)(u:lo+b<=(arrOf st).size)(v:n+1<=b)(x:IZ O key (arrOf st) lo (lo+(n+1)))
  (h:∀m a,iy st a lo (lo+b)->1<=m->m<=b->jV O key (arrOf a) lo (lo+m)->Q (some m) a):wpS (model prog w) A E s (descP lo n b) Q st:=by
 unfold descP;refine AC (abb (aaG #[rfl,?_]));refine AC (Hs C o u (by lia) v x λm d a c y p q G r=>?_)
 dsimp only;have H:=c.size;have e:lo+m<=(arrOf a).size:=by lia
 by_cases t:d>0
 .rw[ls t]
  have f:iy a (setArr a (mirror (arrOf a) (lo+m-(d+1)) (lo+m) ((lo+m-(lo+m-(d+1))) / 2))) lo (lo+b):=iy.mirror (by lia) (by lia) e
  refine AC (uu (zG C (o.step (c.trans f)) (by rw[f.size];lia) (by lia) p ?_ λg k l=>h g k ((c.trans f).trans l)))
  intro i j z B F;show O.kle (ky O key (mirror (arrOf a) _ _ _) j) (ky O key (mirror (arrOf a) _ _ _) i);rw[gL e r,gL e r];exact q i j z B F
 .rw[ir t]
  exact zG C (o.step c) (by lia) (by lia) p q λg k l=>h g k (c.trans l)
theorem wpS_countRun(C:iw O key S k0 (model prog w) A E s){lo a:Nat}{Q:Option Nat->SortSt->Prop}(o:Ok S k0 st)(u:lo+a<=(arrOf st).size)(H:1<=a)
  (h:∀m e,iy st e lo (lo+a)->1<=m->m<=a->jV O key (arrOf e) lo (lo+m)->Q (some m) e):wpS (model prog w) A E s (countRun' lo a) Q st:=by
 rw[Ag];refine AC (Bt C o u (bb 1) H (λi j c v x=>by have:i=j:=(by lia);subst this;exact aan _) λn y z d f=>?_)
 dsimp only
 by_cases g:n=a
 .rw[ls (by simpa using g)]
  exact Fk (h n st (.refl _ _ _) y z d)
 .rw[ir (by simpa using g)]
  have B:O.klt (ky O key (arrOf st) (lo+n)) (ky O key (arrOf st) (lo+n-1)):=f.resolve_left g
  by_cases F:n>1
  .rw[ls F]
   refine AC (qk C o (by lia) (by lia) ?_)
   cases I:O.blt (ky O key (arrOf st) lo) (ky O key (arrOf st) (lo+n-1))
   case true=>
    simp only[aax];exact Fk (h n st (.refl _ _ _) y z d)
   case false=>
    simp only[fk,M2];have l:lo+n<=(arrOf st).size:=by lia
    have b:∀k,lo<=k->k<lo+n->ky O key (arrOf st) k=ky O key (arrOf st) (lo+n-1):=by
     intro k G J;have L:=d lo k (by lia) G J
     have M:=d k (lo+n-1) G (by lia) (by lia)
     exact KeyOrd.kle_antisymm M (GT I L)
    have p:iy st (setArr st (mirror (arrOf st) lo (lo+n) ((lo+n-lo) / 2))) lo (lo+a):=iy.mirror (bb _) (by lia) l
    refine AC (uu (zy C (o.step p) (by rw[p.size];lia) (by lia) ?_ λN P R=>h N P (p.trans R)))
    intro i j c v x;show O.kle (ky O key (mirror (arrOf st) _ _ _) j) (ky O key (mirror (arrOf st) _ _ _) i);rw[gL l b,gL l b]
    by_cases q:j<lo+n
    .rw[b i c (by lia),b j (by lia) q];exact aan _
    .have T:j=lo+n:=by lia
     subst T
     by_cases r:i=lo+n
     .subst r;exact aan _
     .rw[b i c (by lia)];exact Pi B
  .rw[ir F]
   have U:n=1:=by lia
   subst U;refine zy C o u (by lia) ?_ h
   intro i j c v x
   by_cases r:i=j
   .subst r;exact aan _
   .have X:i=lo:=by lia
    have t:j=lo+1:=by lia
    subst X;subst t;exact Pi B
end
section lists
variable (O:KeyOrd) (key:Keyed->O.α)
def LE(x y:Keyed):Prop:=O.kle (key x) (key y)
structure MI (l o ra rb:List Keyed):Prop where
 perm:(o++(ra++rb)).Perm l
 so:o.Pairwise (LE O key)
 sa:ra.Pairwise (LE O key)
 sb:rb.Pairwise (LE O key)
 le:∀x∈o,∀y∈ra++rb,LE O key x y
def Res(l r:List Keyed):Prop:=r.Perm l/\r.Pairwise (LE O key)
variable {O key}
theorem MI.mV{l o xs e b:List Keyed}(m:MI O key l o (xs++e) b)(h:∀x∈xs,∀y∈b,LE O key x y):MI O key l (o++xs) e b:=by
 obtain⟨f,g,c⟩:=zM.mp m.sa;refine#[by simpa [f6] using m.perm,zM.mpr #[m.so,f,λx d y a=>m.le x d y (by simp[a])],g,m.sb,λx d y a=>?_]
 rcases bH.mp d with z|z
 .refine m.le x z y ?_
  rcases bH.mp a with u|u<;>simp[u]
 .rcases bH.mp a with u|u
  .exact c x z y u
  .exact h x z y u
theorem MI.swap(m:MI O key l o a b):MI O key l o b a:=
 #[(aaq o mK).trans m.perm,m.so,m.sb,m.sa,λx c y d=>m.le x c y (by rcases bH.mp d with u|u<;>simp[u])]
theorem MI.mW{l o xs a b:List Keyed}(m:MI O key l o a (xs++b))(h:∀x∈xs,∀y∈a,LE O key x y):MI O key l (o++xs) a b:=(m.swap.mV h).swap
theorem MI.D2(m:MI O key l o a []):Res O key l (o++a):=
 #[by simpa using m.perm,zM.mpr #[m.so,m.sa,λx b y c=>m.le x b y (by simp[c])]]
theorem MI.Ce(m:MI O key l o a b)(h:∀y∈b,∀x∈a,LE O key y x):Res O key l (o++b++a):=by
 have c:MI O key l o a (b++ []):=by rw[f7];exact m
 exact(c.mW h).D2
end lists
def Ck(a b:Array Keyed)(h e f d:Nat)(out:Array Keyed)(g:Nat):StateT SortSt Sem (ForInStep (Option (Array Keyed)×Array Keyed×Nat×Nat×Nat×Nat×Nat)):=do
 let c <-elem' a d
 let out:Array Keyed:=out.push c
 let d:Nat:=d+1
 if (d+1==a.size)=true then pure (ForInStep.done (some (out++b.extract g b.size++a.extract d a.size),out,d,g,h,e,f))
 else if (decide (e<7)&&decide (f<7))=true then pure (ForInStep.done (none,out,d,g,h,e,f))
 else pure (ForInStep.yield (none,out,d,g,h,e,f))
def uZ(a b:Array Keyed)(f g i d:Nat)(out:Array Keyed)(e:Nat):StateT SortSt Sem (ForInStep (Option (Array Keyed)×Array Keyed×Nat×Nat×Nat×Nat×Nat)):=do
 let c <-elem' b d
 let out:Array Keyed:=out.push c
 let d:Nat:=d+1
 if (d==b.size)=true then pure (ForInStep.done (some (out++a.extract e a.size++b.extract d b.size),out,e,d,f,g,i))
 else do
  let c <-elem' a e
  let h <-fD true c b d (b.size-d) 0
  match h with
  |some k=>
   if k>0 then
    if (d+k==b.size)=true then pure (ForInStep.done (some (out++b.extract d (d+k)++a.extract e a.size++b.extract (d+k) b.size),out++b.extract d (d+k),e,d+k,f,g,k))
    else Ck a b f g k e (out++b.extract d (d+k)) (d+k)
   else Ck a b f g k e out d
  |_=>pure (ForInStep.done (some (out++a.extract e a.size++b.extract d b.size),out,e,d,f,g,i))
def sh(a b:Array Keyed)(g i c e:Nat)(out:Array Keyed)(f:Nat):StateT SortSt Sem (ForInStep (Option (Array Keyed)×Array Keyed×Nat×Nat×Nat×Nat×Nat)):=do
 setMinGallop' f
 let d <-elem' b e
 let h <-fD false d a c (a.size-c) 0
 match h with
 |some k=>
  if k>0 then
   if (c+k+1==a.size)=true then pure (ForInStep.done (some (out++a.extract c (c+k)++b.extract e b.size++a.extract (c+k) a.size),out++a.extract c (c+k),c+k,e,f,k,g))
   else if (c+k==a.size)=true then pure (ForInStep.done (some (out++a.extract c (c+k)++a.extract (c+k) a.size++b.extract e b.size),out++a.extract c (c+k),c+k,e,f,k,g))
   else uZ a b f k g e (out++a.extract c (c+k)) (c+k)
  else uZ a b f k g e out c
 |_=>pure (ForInStep.done (some (out++a.extract c a.size++b.extract e b.size),out,c,e,f,i,g))
def Co(a b:Array Keyed)(c:Option (Array Keyed)×Array Keyed×Nat×Nat×Nat×Nat×Nat):StateT SortSt Sem (ForInStep (Option (Array Keyed)×Array Keyed×Nat×Nat×Nat×Nat×Nat)):=
 if c.2.2.2.2.1>1 then sh a b c.2.2.2.2.2.2 c.2.2.2.2.2.1 c.2.2.1 c.2.2.2.1 c.2.1 (c.2.2.2.2.1-1) else sh a b c.2.2.2.2.2.2 c.2.2.2.2.2.1 c.2.2.1 c.2.2.2.1 c.2.1 c.2.2.2.2.1
def Cm(a b:Array Keyed)(e:Nat)(c:Option (Array Keyed)×Array Keyed×Nat×Nat×Nat×Nat):StateT SortSt Sem (ForInStep (Option (Array Keyed)×Array Keyed×Nat×Nat×Nat×Nat)):=do
 let y <-elem' b c.2.2.2.1
 let x <-elem' a c.2.2.1
 let d <-lt' y x
 match d with
 |some f=>
  if f=true then do
   let y <-elem' b c.2.2.2.1
   if (c.2.2.2.1+1==b.size)=true then pure (ForInStep.done (some (c.2.1.push y++a.extract c.2.2.1 a.size++b.extract (c.2.2.2.1+1) b.size),c.2.1.push y,c.2.2.1,c.2.2.2.1+1,0,c.2.2.2.2.2+1))
   else if c.2.2.2.2.2+1>=e then pure (ForInStep.done (none,c.2.1.push y,c.2.2.1,c.2.2.2.1+1,0,c.2.2.2.2.2+1))
   else pure (ForInStep.yield (none,c.2.1.push y,c.2.2.1,c.2.2.2.1+1,0,c.2.2.2.2.2+1))
  else do
   let x <-elem' a c.2.2.1
   if (c.2.2.1+1+1==a.size)=true then pure (ForInStep.done (some (c.2.1.push x++b.extract c.2.2.2.1 b.size++a.extract (c.2.2.1+1) a.size),c.2.1.push x,c.2.2.1+1,c.2.2.2.1,c.2.2.2.2.1+1,0))
   else if c.2.2.2.2.1+1>=e then pure (ForInStep.done (none,c.2.1.push x,c.2.2.1+1,c.2.2.2.1,c.2.2.2.2.1+1,0))
   else pure (ForInStep.yield (none,c.2.1.push x,c.2.2.1+1,c.2.2.2.1,c.2.2.2.2.1+1,0))
 |_=>pure (ForInStep.done (some (c.2.1++a.extract c.2.2.1 a.size++b.extract c.2.2.2.1 b.size),c.2.1,c.2.2.1,c.2.2.2.1,c.2.2.2.2.1,c.2.2.2.2.2))
def tR(a b:Array Keyed)(f:Option (Array Keyed)×Array Keyed×Nat×Nat×Nat):StateT SortSt Sem (ForInStep (Option (Array Keyed)×Array Keyed×Nat×Nat×Nat)):=do
 let e <-forIn [0:a.size+b.size] (none,f.2.1,f.2.2.1,f.2.2.2.1,0,0) λ_ c=>Cm a b f.2.2.2.2 c
 match e.1 with
 |some r=>pure (ForInStep.done (some r,e.2.1,e.2.2.1,e.2.2.2.1,f.2.2.2.2))
 |none=>do
  liftM (rule "list.sort.gallop")
  let d <-forIn [0:a.size+b.size] (none,e.2.1,e.2.2.1,e.2.2.2.1,f.2.2.2.2+1,e.2.2.2.2.1,e.2.2.2.2.2) λ_ c=>Co a b c
  match d.1 with
  |some r=>pure (ForInStep.done (some r,d.2.1,d.2.2.1,d.2.2.2.1,d.2.2.2.2.1))
  |none=>do
   setMinGallop' (d.2.2.2.2.1+1)
   pure (ForInStep.yield (none,d.2.1,d.2.2.1,d.2.2.2.1,d.2.2.2.2.1+1))
theorem dX{b d:Type}{m c:StateT SortSt Sem b}{f a:b->StateT SortSt Sem d}(h:m=c)(g:∀x,f x=a x):m>>=f=c>>=a:=by rw[h,show f=a from funext g]
theorem BW{a:Type}{n:Nat}{d:a}{f b:Nat->a->StateT SortSt Sem (ForInStep a)}(h:∀i c,f i c=b i c):forIn [0:n] d f=forIn [0:n] d b:=by rw[show f=b from funext λi=>funext (h i)]
theorem fO [Decidable c] (h:c->x=a) (g:¬c->y=b):(if c then x else y)=if c then a else b:=by
 by_cases e:c
 .rw[ls e,ls e];exact h e
 .rw[ir e,ir e];exact g e
theorem Ar(a b:Array Keyed):qG a b=(do
 rule "list.sort.merge-lo"
 let total:=a.size+b.size
 let done (out:Array Keyed) (c d:Nat):=out++a.extract c a.size++b.extract d b.size
 let e (out:Array Keyed) (c d:Nat):=out++b.extract d b.size++a.extract c a.size
 let mut out:Array Keyed:= [<-elem' b 0].toArray
 let mut c:=0
 let mut d:=1
 if d==b.size then return done out c d
 if c+1==a.size then return e out c d
 let mut minGallop:=gallopOf (<-get)
 for _ in [0:total] do
  let mut acount:=0
  let mut bcount:=0
  for _ in [0:total] do
   let some FE <-lt' (<-elem' b d) (<-elem' a c) |return done out c d
   if FE then
    out:=out.push (<-elem' b d);d:=d+1;bcount:=bcount+1;acount:=0
    if d==b.size then return done out c d
    if bcount>=minGallop then break
   else
    out:=out.push (<-elem' a c);c:=c+1;acount:=acount+1;bcount:=0
    if c+1==a.size then return e out c d
    if acount>=minGallop then break
  rule "list.sort.gallop"
  minGallop:=minGallop+1
  for _ in [0:total] do
   if minGallop>1 then minGallop:=minGallop-1
   setMinGallop' minGallop
   let some k <-fD false (<-elem' b d) a c (a.size-c) 0|return done out c d
   acount:=k
   if k>0 then
    out:=out++a.extract c (c+k);c:=c+k
    if c+1==a.size then return e out c d
    if c==a.size then return done out c d
   out:=out.push (<-elem' b d);d:=d+1
   if d==b.size then return done out c d
   let some k <-fD true (<-elem' a c) b d (b.size-d) 0|return done out c d
   bcount:=k
   if k>0 then
    out:=out++b.extract d (d+k);d:=d+k
    if d==b.size then return done out c d
   out:=out.push (<-elem' a c);c:=c+1
   if c+1==a.size then return e out c d
   if acount<7&&bcount<7 then break
  minGallop:=minGallop+1
  setMinGallop' minGallop
 unsupported "internal:list.sort.merge-bound"):=rfl
theorem Ct(a b:Array Keyed):qG a b=(do
 liftM (rule "list.sort.merge-lo")
 let y <-elem' b 0
 if (1==b.size)=true then pure ([y].toArray++a.extract 0 a.size++b.extract 1 b.size)
 else if (0+1==a.size)=true then pure ([y].toArray++b.extract 1 b.size++a.extract 0 a.size)
 else do
  let d <-get
  let e <-forIn [0:a.size+b.size] (none, [y].toArray,0,1,gallopOf d) λ_ c=>tR a b c
  match e.1 with
  |some r=>pure r
  |none=>liftM (unsupported (α:=Array Keyed) "internal:list.sort.merge-bound")):=by
 rw[Ar];dsimp only;refine dX rfl λ_=>dX rfl λy=>?_;refine FS (ite _ _) (FS (ite _ _) ?_);refine dX rfl λg=>dX (BW λ_ c=>?_) λu=>?_
 .unfold tR
  refine dX (BW λ_ t=>?_) λt=>?_
  .unfold Cm
   refine dX rfl λ_=>dX rfl λ_=>dX rfl λz=>?_;cases z<;>rfl
  .obtain⟨i,l⟩:=t
   cases i with
   |some r=>rfl
   |none=>
    dsimp only;refine dX rfl λ_=>dX (BW λ_ u=>?_) λu=>?_
    .unfold Co
     have m:∀h,sh a b u.2.2.2.2.2.2 u.2.2.2.2.2.1 u.2.2.1 u.2.2.2.1 u.2.1 h=sh a b u.2.2.2.2.2.2 u.2.2.2.2.2.1 u.2.2.1 u.2.2.2.1 u.2.1 h:=λ_=>rfl;refine fO (λ_=>?_) (λ_=>?_)
     all_goals
      unfold sh;refine dX rfl λ_=>dX rfl λ_=>dX rfl λz=>?_;cases z with
      |none=>rfl
      |some k=>
       dsimp only;refine fO (λ_=>?_) (λ_=>?_)
       .refine fO (λ_=>rfl) (λ_=>fO (λ_=>rfl) (λ_=>?_))
        unfold uZ;refine dX rfl λ_=>fO (λ_=>rfl) (λ_=>dX rfl λ_=>dX rfl λz=>?_);cases z with
        |none=>rfl
        |some k=>rfl
       .unfold uZ
        refine dX rfl λ_=>fO (λ_=>rfl) (λ_=>dX rfl λ_=>dX rfl λz=>?_);cases z with
        |none=>rfl
        |some k=>rfl
    .obtain⟨f,j⟩:=u
     cases f<;>rfl
 .obtain⟨f,j⟩:=u
  cases f<;>rfl
structure GS (st aq:SortSt):Prop where
 arr:arrOf aq=arrOf st
 kind:kindOf aq=kindOf st
 failed:failedOf aq=failedOf st
 pend:pendingOf aq=pendingOf st
theorem GS.refl(st:SortSt):GS st st:=#[rfl,rfl,rfl,rfl]
theorem GS.trans(x:GS a b)(y:GS b c):GS a c:=#[y.arr.trans x.arr,y.kind.trans x.kind,y.failed.trans x.failed,y.pend.trans x.pend]
theorem ug(g:Nat):setMinGallop' g=modify λs=>SortSt.mk' (kindOf s) (arrOf s) (pendingOf s) g (failedOf s):=rfl
theorem ext_toList(a:Array Keyed)(i j:Nat):(a.extract i j).toList=(a.toList.drop i).take (j-i):=by
 rw[Array.toList_extract]
theorem l8(a:Array Keyed)(i:Nat):(a.extract i a.size).toList=a.toList.drop i:=by
 rw[ext_toList,wk (by simp)]
theorem drop_cons{xs:Array Keyed}(h:xs[i]? =some x):xs.toList.drop i=x::xs.toList.drop (i+1):=by
 have a:xs.toList[i]? =some x:=by rw[<-h];simp
 obtain⟨b,e⟩:=dQ.mp a;rw[nZ b,e]
theorem oN(l:List Keyed)(i k:Nat):l.drop i=(l.drop i).take k++l.drop (i+k):=by
 rw[<-acn,iU]
theorem e9{l:List Keyed}{i k:Nat}{x:Keyed}(h:x∈(l.drop i).take k):∃j,j<k/\i+j<l.length/\l[i+j]? =some x:=by
 obtain⟨j,a⟩:=rG h;rw[Dg] at a
 split at a
 .rename_i c
  rw[vz] at a;exact#[j,c,(dQ.mp a).1,a]
 .cases a
theorem g0{l:List Keyed}{i:Nat}{x:Keyed}(h:x∈l.drop i):∃j,i+j<l.length/\l[i+j]? =some x:=by
 obtain⟨j,a⟩:=rG h;rw[vz] at a;exact#[j,(dQ.mp a).1,a]
section
variable {O:KeyOrd} {key:Keyed->O.α} {S:Keyed->Prop} {k0:SortKind} {M:Model} {A:Around} {E:Value->Shared->Prop} {s:Shared} {st bZ:SortSt}
theorem qQ(h:∀a,GS st a->Q () a):wpS M A E s (setMinGallop' g) Q st:=by
 rw[ug];exact aaZ (h _ #[rfl,rfl,rfl,rfl])
structure iY (O:KeyOrd) (key:Keyed->O.α) (S:Keyed->Prop) (a b:Array Keyed):Prop where
 ma:∀x∈a.toList,S x
 mb:∀x∈b.toList,S x
 sa:a.toList.Pairwise (LE O key)
 sb:b.toList.Pairwise (LE O key)
 na:1<=a.size
 nb:1<=b.size
 first:∀y,b[0]? =some y->∀x∈a.toList,LE O key y x
 last:∀x,a[a.size-1]? =some x->∀y∈b.toList,LE O key y x
theorem iY.Ce(T:iY O key S a b)(h:c+1=a.size):∀y∈b.toList.drop d,∀x∈a.toList.drop c,LE O key y x:=λy f x g=>by
 obtain⟨j,i,e⟩:=g0 g;rw[cD] at i
 have:c+j=a.size-1:=by lia
 rw[this] at e;exact T.last x (by rw[<-e];simp) y (List.mem_of_mem_drop f)
theorem gy{l:List Keyed}(h:l.Pairwise (LE O key)){i j:Nat}{x y:Keyed}(k:i<=j)(b:l[i]? =some x)(a:l[j]? =some y):LE O key x y:=by
 by_cases e:i=j
 .subst e
  rw[b] at a;cases a;exact aan _
 .obtain⟨c,d⟩:=dQ.mp b
  obtain⟨f,g⟩:=dQ.mp a;rw[<-d,<-g];exact zV.mp h i j c f (by lia)
theorem qP{xs:Array Keyed}(m:∀x∈xs.toList,S x){i n:Nat}(h:i+n<=xs.size):Seg S xs i n (λj=>xs[i+j]?.getD (.none, .none)):=
 #[λj a=>by
  have:i+j<xs.size:=by lia
  rw[aaK xs (i+j) this];rfl,λj a=>by
  have:i+j<xs.size:=by lia
  rw[aaK xs (i+j) this];exact m _ (by simp)]
theorem bK{xs:Array Keyed}{i:Nat}(h:i<xs.size):∃x,xs[i]? =some x/\x∈xs.toList/\xs.toList[i]? =some x:=by
 refine#[xs[i],aaK xs i h,by simp,?_]
 rw[eW];exact aaK xs i h
theorem mn{a:Array Keyed}{i:Nat}{x:Keyed}(h:a[i]? =some x):a.toList[i]? =some x:=by rw[eW];exact h
theorem kS{a:Array Keyed}{i:Nat}{x:Keyed}(h:a.toList[i]? =some x):a[i]? =some x:=by rw[<-eW];exact h
structure IV (O:KeyOrd) (key:Keyed->O.α) (a b out:Array Keyed) (ia ib:Nat):Prop where
 mi:MI O key (a.toList++b.toList) out.toList (a.toList.drop ia) (b.toList.drop ib)
 ha:ia<a.size
 hb:ib<b.size
theorem IV.vj{a b out:Array Keyed}(v:MI O key (a.toList++b.toList) out.toList (a.toList.drop c) (b.toList.drop d))(e:b[d]? =some y)(h:∀x∈a.toList.drop c,LE O key y x):
  MI O key (a.toList++b.toList) (out.push y).toList (a.toList.drop c) (b.toList.drop (d+1)):=by
 rw[drop_cons e] at v;rw[z6];exact MI.mW (xs:= [y]) v λx f=>by rw[cC.mp f];exact h
theorem IV.vh{a b out:Array Keyed}(v:MI O key (a.toList++b.toList) out.toList (a.toList.drop c) (b.toList.drop d))(e:a[c]? =some x)(h:∀y∈b.toList.drop d,LE O key x y):
  MI O key (a.toList++b.toList) (out.push x).toList (a.toList.drop (c+1)) (b.toList.drop d):=by
 rw[drop_cons e] at v;rw[z6];exact MI.mV (xs:= [x]) v λx e=>by rw[cC.mp e];exact h
theorem IV.mW{a b out:Array Keyed}(v:MI O key (a.toList++b.toList) out.toList (a.toList.drop d) (b.toList.drop c))(h:∀y∈(b.toList.drop c).take k,∀x∈a.toList.drop d,LE O key y x):
  MI O key (a.toList++b.toList) (out++b.extract c (c+k)).toList (a.toList.drop d) (b.toList.drop (c+k)):=by
 rw[oN b.toList c k] at v;rw[jR,ext_toList,show c+k-c=k by lia]
 exact MI.mW v h
theorem IV.mV{a b out:Array Keyed}(v:MI O key (a.toList++b.toList) out.toList (a.toList.drop c) (b.toList.drop d))(h:∀x∈(a.toList.drop c).take k,∀y∈b.toList.drop d,LE O key x y):
  MI O key (a.toList++b.toList) (out++a.extract c (c+k)).toList (a.toList.drop (c+k)) (b.toList.drop d):=by
 rw[oN a.toList c k] at v;rw[jR,ext_toList,show c+k-c=k by lia]
 exact MI.mV v h
theorem IV.uL{a b out:Array Keyed}(v:MI O key (a.toList++b.toList) out.toList (a.toList.drop d) (b.toList.drop c))(h:c=b.size):Res O key (a.toList++b.toList) (out++a.extract d a.size++b.extract c b.size).toList:=by
 have e:b.toList.drop c= []:=zI (by rw[cD];lia)
 rw[jR,jR,l8,l8,e,f7];rw[e] at v;exact v.D2
theorem IV.uK{a b out:Array Keyed}(v:MI O key (a.toList++b.toList) out.toList (a.toList.drop c) (b.toList.drop d))(h:c=a.size):Res O key (a.toList++b.toList) (out++a.extract c a.size++b.extract d b.size).toList:=by
 have e:a.toList.drop c= []:=zI (by rw[cD];lia)
 rw[jR,jR,l8,l8,e,f7];rw[e] at v;exact v.swap.D2
theorem IV.last{a b out:Array Keyed}(T:iY O key S a b){c d:Nat}(v:MI O key (a.toList++b.toList) out.toList (a.toList.drop c) (b.toList.drop d))(h:c+1=a.size):Res O key (a.toList++b.toList) (out++b.extract d b.size++a.extract c a.size).toList:=by
 rw[jR,jR,l8,l8];exact v.Ce (T.Ce h)
end
section
variable {O:KeyOrd} {key:Keyed->O.α} {S:Keyed->Prop} {k0:SortKind} {M:Model} {A:Around} {E:Value->Shared->Prop} {s:Shared} {st bZ:SortSt} {a b:Array Keyed}
def Inv(O:KeyOrd)(key:Keyed->O.α)(a b:Array Keyed)(n:Nat)(out:Array Keyed)(c d:Nat):Prop:=MI O key (a.toList++b.toList) out.toList (a.toList.drop c) (b.toList.drop d)/\c+1<a.size/\d<b.size/\n<=c+d
def Fin{d:Type}(O:KeyOrd)(key:Keyed->O.α)(a b:Array Keyed)(n:Nat)(c:Option (Array Keyed)×Array Keyed×Nat×Nat×d):Prop:=
 (∃r,c.1=some r/\Res O key (a.toList++b.toList) r.toList)\/(c.1=none/\Inv O key a b n c.2.1 c.2.2.1 c.2.2.2.1)
def Out{d:Type}(O:KeyOrd)(key:Keyed->O.α)(a b:Array Keyed)(n:Nat)(r:ForInStep (Option (Array Keyed)×Array Keyed×Nat×Nat×d)):Prop:=match r with
 | .done c=>Fin O key a b n c
 | .yield c=>c.1=none/\Inv O key a b n c.2.1 c.2.2.1 c.2.2.2.1
def VL{d:Type}(O:KeyOrd)(key:Keyed->O.α)(a b:Array Keyed)(n:Nat)(r:ForInStep (Option (Array Keyed)×Array Keyed×Nat×Nat×d)):Prop:=match r with
 | .done c=>∃r,c.1=some r/\Res O key (a.toList++b.toList) r.toList
 | .yield c=>c.1=none/\Inv O key a b n c.2.1 c.2.2.1 c.2.2.2.1
theorem zF(T:iY O key S a b)(g:GS bZ st)(v:MI O key (a.toList++b.toList) out.toList (a.toList.drop c) (b.toList.drop d))(u:c+1<a.size)(p:d<b.size)(w:n<=c+d)
  (q:∀x,a[c]? =some x->∀y∈b.toList.drop d,LE O key x y):wpS M A E s (Ck a b o h j c out d) (λr t=>GS bZ t/\Out O key a b n r) st:=by
 unfold Ck;obtain⟨x,e,z,_⟩:=bK (xs:=a) (i:=c) (by lia)
 refine AC (bE e ?_);have k:=IV.vh v e (q x e);dsimp only
 by_cases f:c+1+1=a.size
 .rw[ls (by simpa using f)]
  exact Fk #[g, .inl #[_,rfl,IV.last T k f]]
 .rw[ir (by simpa using f)]
  have l:Inv O key a b n (out.push x) (c+1) d:=#[k,by lia,p,by lia]
  by_cases m:(decide (h<7)&&decide (j<7))=true
  .rw[ls m]
   exact Fk #[g, .inr #[rfl,l]]
  .rw[ir m]
   exact Fk #[g,rfl,l]
theorem zE(C:iw O key S k0 M A E s)(Q:kindOf st=k0)(T:iY O key S a b)(g:GS bZ st)(v:MI O key (a.toList++b.toList) out.toList (a.toList.drop d) (b.toList.drop c))(G:d+1<a.size)(Y:c<b.size)(hn:n<=d+c)
  (Z:∀y,b[c]? =some y->∀x∈a.toList.drop d,LE O key y x):wpS M A E s (uZ a b R U X c out d) (λr aq=>GS bZ aq/\Out O key a b n r) st:=by
 unfold uZ;obtain⟨y,m,my,_⟩:=bK (xs:=b) (i:=c) Y;refine AC (bE m ?_);have o:=IV.vj v m (Z y m);dsimp only
 by_cases q:c+1=b.size
 .rw[ls (by simpa using q)]
  exact Fk #[g, .inl #[_,rfl,IV.uL o q]]
 .rw[ir (by simpa using q)]
  obtain⟨x,H,mx,lx⟩:=bK (xs:=a) (i:=d) (by lia)
  refine AC (bE H ?_)
  have t:∀z∈a.toList.drop d,LE O key x z:=λz f=>by
   obtain⟨j,_,k⟩:=g0 f;exact gy T.sa (by lia) lx k
  have I:∀j z,c+1+j<b.size->b.toList[c+1+j]? =some z->b[c+1+j]?.getD (Value.none,Value.none)=z:=λj z w e=>by rw[kS e];rfl
  refine AC (iq C (qP T.mb (i:=c+1) (n:=b.size-(c+1)) (by lia)) (T.ma x mx) Q (by lia) (λi j eN w h=>?_) λp hp pt pf=>?_)
  .obtain⟨yi,e1,_,l1⟩:=bK (xs:=b) (i:=c+1+i) (by lia)
   obtain⟨yj,e2,_,l2⟩:=bK (xs:=b) (i:=c+1+j) (by lia)
   unfold eJ at h ⊢;rw[ls rfl] at h ⊢;rw[e2] at h;rw[e1];exact aaU (gy T.sb (by lia) l1 l2) h
  .have lo:∀y∈(b.toList.drop (c+1)).take p,∀x∈a.toList.drop d,LE O key y x:=λz f u hu=>by
    obtain⟨j,w,l,k⟩:=e9 f;rw[cD] at l
    have:=pt j w
    unfold eJ at this;rw[ls rfl,I j z l k] at this;exact GT (Pi this) (t u hu)
   have J:∀B,a[d]? =some B->∀y∈b.toList.drop (c+1+p),LE O key B y:=λB L z f=>by
    rw[H] at L;cases L;obtain⟨j,l,k⟩:=g0 f;rw[cD] at l
    have:=pf (p+j) (by lia) (by lia)
    unfold eJ at this;rw[ls rfl,I (p+j) z (by lia) (by rw[<-k];congr 1;lia)] at this
    exact this
   dsimp only
   by_cases N:p>0
   .rw[ls N]
    have P:=IV.mW o lo
    by_cases F:c+1+p=b.size
    .rw[ls (by simpa using F)]
     exact Fk #[g, .inl #[_,rfl,IV.uL P F]]
    .rw[ir (by simpa using F)]
     exact zF T g P G (by lia) (by lia) J
   .rw[ir N]
    have:p=0:=by lia
    subst this;exact zF T g o G (by lia) (by lia) J
theorem zD(C:iw O key S k0 M A E s)(U:kindOf st=k0)(T:iY O key S a b)(g:GS bZ st)(iv:Inv O key a b n out c d):wpS M A E s (sh a b Z Y c d out X) (λr aq=>GS bZ aq/\Out O key a b n r) st:=by
 obtain⟨v,ha,o,hn⟩:=iv;unfold sh;refine AC (qQ λCN J=>?_);have q:kindOf CN=k0:=J.kind.trans U;have l:=g.trans J;obtain⟨y,L,my,ly⟩:=bK (xs:=b) (i:=d) o;refine AC (bE L ?_)
 have t:∀z∈b.toList.drop d,LE O key y z:=λz f=>by
  obtain⟨j,_,k⟩:=g0 f;exact gy T.sb (by lia) ly k
 have N:∀j z,c+j<a.size->a.toList[c+j]? =some z->a[c+j]?.getD (Value.none,Value.none)=z:=λj z w e=>by rw[kS e];rfl
 refine AC (iq C (qP T.ma (i:=c) (n:=a.size-c) (by lia)) (T.mb y my) q (by lia) (λi j eN w h=>?_) λp hp pt pf=>?_)
 .obtain⟨xi,e1,_,l1⟩:=bK (xs:=a) (i:=c+i) (by lia)
  obtain⟨xj,e2,_,l2⟩:=bK (xs:=a) (i:=c+j) (by lia)
  unfold eJ at h ⊢;rw[ir (by decide)] at h ⊢
  rw[e2] at h;rw[e1];have B:O.kle (key xj) (key y):=by unfold KeyOrd.kle;simpa using h
  have:=GT (gy T.sa (by lia) l1 l2) B
  unfold KeyOrd.kle at this;simpa using this
 .have lo:∀x∈(a.toList.drop c).take p,∀y∈b.toList.drop d,LE O key x y:=λz f u hu=>by
   obtain⟨j,w,m,k⟩:=e9 f;rw[cD] at m
   have:=pt j w
   unfold eJ at this;rw[ir (by decide),N j z m k] at this
   have B:O.kle (key z) (key y):=by unfold KeyOrd.kle;simpa using this
   exact GT B (t u hu)
  have P:∀F,b[d]? =some F->∀x∈a.toList.drop (c+p),LE O key F x:=λF Q z f=>by
   rw[L] at Q;cases Q;obtain⟨j,m,k⟩:=g0 f;rw[cD] at m
   have:=pf (p+j) (by lia) (by lia)
   unfold eJ at this;rw[ir (by decide),N (p+j) z (by lia) (by rw[<-k];congr 1;lia)] at this
   exact Pi (show O.blt _ _=true by simpa using this)
  dsimp only
  by_cases R:p>0
  .rw[ls R]
   have G:=IV.mV v lo
   by_cases H:c+p+1=a.size
   .rw[ls (by simpa using H)]
    exact Fk #[l, .inl #[_,rfl,IV.last T G H]]
   .rw[ir (by simpa using H)]
    by_cases I:c+p=a.size
    .rw[ls (by simpa using I)]
     exact Fk #[l, .inl #[_,rfl,IV.uK G I]]
    .rw[ir (by simpa using I)]
     exact zE C q T l G (by lia) o (by lia) P
  .rw[ir R]
   have:p=0:=by lia
   subst this;exact zE C q T l v ha o hn P
theorem Hw(C:iw O key S k0 M A E s)(d:kindOf st=k0)(T:iY O key S a b)(g:GS bZ st)(c:Option (Array Keyed)×Array Keyed×Nat×Nat×Nat×Nat×Nat)(e:Inv O key a b n c.2.1 c.2.2.1 c.2.2.2.1):
  wpS M A E s (Co a b c) (λr f=>GS bZ f/\Out O key a b n r) st:=by
 unfold Co
 by_cases h:c.2.2.2.2.1>1
 .rw[ls h];exact zD C d T g e
 .rw[ir h];exact zD C d T g e
theorem Hv(C:iw O key S k0 M A E s)(B:kindOf st=k0)(T:iY O key S a b)(g:GS bZ st)(c:Option (Array Keyed)×Array Keyed×Nat×Nat×Nat×Nat)(d:Inv O key a b n c.2.1 c.2.2.1 c.2.2.2.1):
  wpS M A E s (Cm a b o c) (λr F=>GS bZ F/\Out O key a b (n+1) r) st:=by
 obtain⟨R,out,l,m,G,H⟩:=c;obtain⟨v,I,w,J⟩:=d;dsimp only at v I w J;unfold Cm;dsimp only;obtain⟨y,p,L,N⟩:=bK (xs:=b) (i:=m) w;obtain⟨x,q,P,Q⟩:=bK (xs:=a) (i:=l) (by lia)
 refine AC (bE p (AC (bE q (AC (C _ _ _ _ (T.mb y L) (T.ma x P) B ?_)))));cases e:O.blt (key y) (key x) with
 |true=>
  dsimp only;rw[ls rfl];refine AC (bE p ?_)
  have h:=IV.vj v p λz t=>by
   obtain⟨j,_,u⟩:=g0 t;exact GT (Pi e) (gy T.sa (by lia) Q u)
  by_cases f:m+1=b.size
  .rw[ls (by simpa using f)]
   exact Fk #[g, .inl #[_,rfl,IV.uL h f]]
  .rw[ir (by simpa using f)]
   have d:Inv O key a b (n+1) (out.push y) l (m+1):=#[h,by lia,by lia,by lia]
   by_cases k:H+1>=o
   .rw[ls k];exact Fk #[g, .inr #[rfl,d]]
   .rw[ir k];exact Fk #[g,rfl,d]
 |false=>
  dsimp only;rw[ir (by decide)]
  refine AC (bE q ?_)
  have h:=IV.vh v q λz t=>by
   obtain⟨j,_,u⟩:=g0 t;exact GT e (gy T.sb (by lia) N u)
  by_cases f:l+1+1=a.size
  .rw[ls (by simpa using f)]
   exact Fk #[g, .inl #[_,rfl,IV.last T h f]]
  .rw[ir (by simpa using f)]
   have d:Inv O key a b (n+1) (out.push x) (l+1) m:=#[h,by lia,by lia,by lia]
   by_cases k:G+1>=o
   .rw[ls k];exact Fk #[g, .inr #[rfl,d]]
   .rw[ir k];exact Fk #[g,rfl,d]
theorem Inv.le(h:Inv O key a b n out c d)(e:m<=n):Inv O key a b m out c d:=#[h.1,h.2.1,h.2.2.1,oh e h.2.2.2]
theorem CW(C:iw O key S k0 M A E s)(B:kindOf st=k0)(T:iY O key S a b)(g:GS bZ st)(p:kindOf bZ=k0)(c:Option (Array Keyed)×Array Keyed×Nat×Nat×Nat)(q:Inv O key a b n c.2.1 c.2.2.1 c.2.2.2.1):
  wpS M A E s (tR a b c) (λr h=>GS bZ h/\VL O key a b (n+1) r) st:=by
 have F:0<a.size+b.size:=by have:=T.na;lia
 unfold tR;refine AC (P3 (SC (I:=λ(x:Nat)(f:Option (Array Keyed)×Array Keyed×Nat×Nat×Nat×Nat)(h:SortSt)=>GS bZ h/\f.1=none/\Inv O key a b (n+min x 1) f.2.1 f.2.2.1 f.2.2.2.1) (Q:=λf h=>GS bZ h/\Fin O key a b (n+1) f) ?step ?fin #[g,rfl,q.le (by lia)]) ?post)
 case fin=>
  rintro f h ⟨i,l,j⟩;exact#[i, .inr #[l,j.le (by lia)]]
 case step=>
  rintro x f h _ _ ⟨i,l,j⟩;refine P3 (Hv C (i.kind.trans p) T i f j) λr t #[m,o]=>?_;cases r with
  |done d=>
   exists m
   rcases o with o| ⟨u,v⟩
   .exact .inl o
   .exact .inr #[u,v.le (by lia)]
  |yield d=>exact#[m,o.1,o.2.le (by lia)]
 case post=>
  rintro⟨G,H⟩ h ⟨i,o⟩
  rcases o with ⟨r,e,k⟩ | ⟨e,w⟩
  .dsimp only at e
   subst e;exact Fk #[i,r,rfl,k]
  .dsimp only at e
   subst e;dsimp only;refine AC (abb (aaG #[rfl,?_]));refine AC (P3 (SC (I:=λ(x:Nat)(f:Option (Array Keyed)×Array Keyed×Nat×Nat×Nat×Nat×Nat)(h:SortSt)=>GS bZ h/\f.1=none/\Inv O key a b (n+1) f.2.1 f.2.2.1 f.2.2.2.1) (Q:=λf h=>GS bZ h/\Fin O key a b (n+1) f) ?step2 ?fin2 #[i,rfl,w]) ?post2)
   case fin2=>
    rintro f h ⟨i,l,j⟩;exact#[i, .inr #[l,j]]
   case step2=>
    rintro x f h _ _ ⟨i,l,j⟩;refine P3 (Hw C (i.kind.trans p) T i f j) λr t #[m,o]=>?_;cases r with
    |done d=>exact#[m,o]
    |yield d=>exact#[m,o]
   case post2=>
    rintro⟨J,L⟩ h ⟨i,o⟩
    rcases o with ⟨r,e,k⟩ | ⟨e,y⟩
    .dsimp only at e
     subst e;exact Fk #[i,r,rfl,k]
    .dsimp only at e
     subst e;refine AC (qQ λN z=>Fk #[i.trans z,rfl,y])
theorem C0(C:iw O key S k0 M A E s)(n:kindOf st=k0)(T:iY O key S a b)(q:∀r c,GS st c->Res O key (a.toList++b.toList) r.toList->Q r c):wpS M A E s (qG a b) Q st:=by
 rw[Ct];refine AC (abb (aaG #[rfl,?_]));obtain⟨y,l,v,w⟩:=bK (xs:=b) (i:=0) T.nb;refine AC (bE l ?_);have t:MI O key (a.toList++b.toList) (#[]:Array Keyed).toList (a.toList.drop 0) (b.toList.drop 0):=#[by simp,by simp,by simpa using T.sa,by simpa using T.sb,by simp]
 have k:=IV.vj t l (by simpa using T.first y l)
 have u:(#[]:Array Keyed).push y= [y].toArray:=rfl;rw[u] at k
 by_cases h:1=b.size
 .rw[ls (by simpa using h)]
  exact Fk (q _ _ (GS.refl _) (IV.uL k h))
 .rw[ir (by simpa using h)]
  by_cases f:0+1=a.size
  .rw[ls (by simpa using f)]
   exact Fk (q _ _ (GS.refl _) (IV.last T k f))
  .rw[ir (by simpa using f)]
   refine AC (aaP ?_);have z:=T.na;have B:=T.nb;refine AC (P3 (SC (I:=λ(x:Nat)(g:Option (Array Keyed)×Array Keyed×Nat×Nat×Nat)(c:SortSt)=>GS st c/\g.1=none/\Inv O key a b (x+1) g.2.1 g.2.2.1 g.2.2.2.1) (Q:=λg c=>GS st c/\∃r,g.1=some r/\Res O key (a.toList++b.toList) r.toList) ?step ?fin #[GS.refl _,rfl,k,by show 0+1<a.size;lia,by show 1<b.size;lia,by show 0+1<=0+1;lia]) ?post)
   case fin=>
    rintro g c ⟨j,h,f⟩
    have:=f.2.2.2
    have:=f.2.1
    have:=f.2.2.1
    lia
   case step=>
    rintro x g c _ _ ⟨j,h,f⟩;refine P3 (CW C (j.kind.trans n) T j n g f) λr F #[p,o]=>?_;cases r with
    |done d=>exact#[p,o]
    |yield d=>exact#[p,o]
   case post=>
    rintro⟨G,H⟩ c ⟨j,r,e,m⟩;dsimp only at e;subst e;exact Fk (q r c j m)
end
theorem Aq(a b:Array Keyed):qF a b=(do
 rule "list.sort.merge-hi"
 let total:=a.size+b.size
 let done (out:Array Keyed) (na nb:Nat):=a.extract 0 na++b.extract 0 nb++out.reverse
 let c (out:Array Keyed) (na nb:Nat):=b.extract 0 nb++a.extract 0 na++out.reverse
 let mut na:=a.size-1
 let mut nb:=b.size
 let mut out:Array Keyed:= [<-elem' a na].toArray
 if na==0 then return done out na nb
 if nb==1 then return c out na nb
 let mut minGallop:=gallopOf (<-get)
 for _ in [0:total] do
  let mut acount:=0
  let mut bcount:=0
  for _ in [0:total] do
   let some FA <-lt' (<-elem' b (nb-1)) (<-elem' a (na-1)) |return done out na nb
   if FA then
    na:=na-1;out:=out.push (<-elem' a na);acount:=acount+1;bcount:=0
    if na==0 then return done out na nb
    if acount>=minGallop then break
   else
    nb:=nb-1;out:=out.push (<-elem' b nb);bcount:=bcount+1;acount:=0
    if nb==1 then return c out na nb
    if bcount>=minGallop then break
  rule "list.sort.gallop"
  minGallop:=minGallop+1
  for _ in [0:total] do
   if minGallop>1 then minGallop:=minGallop-1
   setMinGallop' minGallop
   let some at_ <-fD false (<-elem' b (nb-1)) a 0 na (na-1) |return done out na nb
   let k:=na-at_
   acount:=k
   if k>0 then
    out:=out++(a.extract at_ na).reverse;na:=at_
    if na==0 then return done out na nb
   nb:=nb-1;out:=out.push (<-elem' b nb)
   if nb==1 then return c out na nb
   let some at_ <-fD true (<-elem' a (na-1)) b 0 nb (nb-1) |return done out na nb
   let k:=nb-at_
   bcount:=k
   if k>0 then
    out:=out++(b.extract at_ nb).reverse;nb:=at_
    if nb==1 then return c out na nb
    if nb==0 then return done out na nb
   na:=na-1;out:=out.push (<-elem' a na)
   if na==0 then return done out na nb
   if acount<7&&bcount<7 then break
  minGallop:=minGallop+1
  setMinGallop' minGallop
 unsupported "internal:list.sort.merge-bound"):=rfl
abbrev S7:=Option (Array Keyed)×Nat×Nat×Array Keyed×Nat×Nat×Nat
abbrev S6:=Option (Array Keyed)×Nat×Nat×Array Keyed×Nat×Nat
abbrev S5:=Option (Array Keyed)×Nat×Nat×Array Keyed×Nat
def jF(a b out:Array Keyed)(c d:Nat):Array Keyed:=a.extract 0 c++b.extract 0 d++out.reverse
def qC(a b out:Array Keyed)(c d:Nat):Array Keyed:=b.extract 0 d++a.extract 0 c++out.reverse
def B0(a b:Array Keyed)(g d e c:Nat)(out:Array Keyed)(f:Nat):StateT SortSt Sem (ForInStep S7):=do
 let x <-elem' a (c-1)
 if (c-1==0)=true then pure (ForInStep.done (some (jF a b (out.push x) (c-1) f),c-1,f,out.push x,g,d,e))
 else if (decide (d<7)&&decide (e<7))=true then pure (ForInStep.done (none,c-1,f,out.push x,g,d,e))
 else pure (ForInStep.yield (none,c-1,f,out.push x,g,d,e))
def uP(a b:Array Keyed)(e f h c:Nat)(out:Array Keyed)(d:Nat):StateT SortSt Sem (ForInStep S7):=do
 let y <-elem' b (c-1)
 if (c-1==1)=true then pure (ForInStep.done (some (qC a b (out.push y) d (c-1)),d,c-1,out.push y,e,f,h))
 else do
  let x <-elem' a (d-1)
  let g <-fD true x b 0 (c-1) (c-1-1)
  match g with
  |some p=>
   if c-1-p>0 then
    if (p==1)=true then pure (ForInStep.done (some (qC a b (out.push y++(b.extract p (c-1)).reverse) d p),d,p,out.push y++(b.extract p (c-1)).reverse,e,f,c-1-p))
    else if (p==0)=true then pure (ForInStep.done (some (jF a b (out.push y++(b.extract p (c-1)).reverse) d p),d,p,out.push y++(b.extract p (c-1)).reverse,e,f,c-1-p))
    else B0 a b e f (c-1-p) d (out.push y++(b.extract p (c-1)).reverse) p
   else B0 a b e f (c-1-p) d (out.push y) (c-1)
  |_=>pure (ForInStep.done (some (jF a b (out.push y) d (c-1)),d,c-1,out.push y,e,f,h))
def yn(a b:Array Keyed)(f h c d:Nat)(out:Array Keyed)(e:Nat):StateT SortSt Sem (ForInStep S7):=do
 setMinGallop' e
 let y <-elem' b (d-1)
 let g <-fD false y a 0 c (c-1)
 match g with
 |some p=>
  if c-p>0 then
   if (p==0)=true then pure (ForInStep.done (some (jF a b (out++(a.extract p c).reverse) p d),p,d,out++(a.extract p c).reverse,e,c-p,f))
   else uP a b e (c-p) f d (out++(a.extract p c).reverse) p
  else uP a b e (c-p) f d out c
 |_=>pure (ForInStep.done (some (jF a b out c d),c,d,out,e,h,f))
def B3(a b:Array Keyed)(c:S7):StateT SortSt Sem (ForInStep S7):=
 if c.2.2.2.2.1>1 then yn a b c.2.2.2.2.2.2 c.2.2.2.2.2.1 c.2.1 c.2.2.1 c.2.2.2.1 (c.2.2.2.2.1-1) else yn a b c.2.2.2.2.2.2 c.2.2.2.2.2.1 c.2.1 c.2.2.1 c.2.2.2.1 c.2.2.2.2.1
def B2(a b:Array Keyed)(e:Nat)(c:S6):StateT SortSt Sem (ForInStep S6):=do
 let y <-elem' b (c.2.2.1-1)
 let x <-elem' a (c.2.1-1)
 let d <-lt' y x
 match d with
 |some f=>
  if f=true then do
   let x <-elem' a (c.2.1-1)
   if (c.2.1-1==0)=true then pure (ForInStep.done (some (jF a b (c.2.2.2.1.push x) (c.2.1-1) c.2.2.1),c.2.1-1,c.2.2.1,c.2.2.2.1.push x,c.2.2.2.2.1+1,0))
   else if c.2.2.2.2.1+1>=e then pure (ForInStep.done (none,c.2.1-1,c.2.2.1,c.2.2.2.1.push x,c.2.2.2.2.1+1,0))
   else pure (ForInStep.yield (none,c.2.1-1,c.2.2.1,c.2.2.2.1.push x,c.2.2.2.2.1+1,0))
  else do
   let y <-elem' b (c.2.2.1-1)
   if (c.2.2.1-1==1)=true then pure (ForInStep.done (some (qC a b (c.2.2.2.1.push y) c.2.1 (c.2.2.1-1)),c.2.1,c.2.2.1-1,c.2.2.2.1.push y,0,c.2.2.2.2.2+1))
   else if c.2.2.2.2.2+1>=e then pure (ForInStep.done (none,c.2.1,c.2.2.1-1,c.2.2.2.1.push y,0,c.2.2.2.2.2+1))
   else pure (ForInStep.yield (none,c.2.1,c.2.2.1-1,c.2.2.2.1.push y,0,c.2.2.2.2.2+1))
 |_=>pure (ForInStep.done (some (jF a b c.2.2.2.1 c.2.1 c.2.2.1),c.2.1,c.2.2.1,c.2.2.2.1,c.2.2.2.2.1,c.2.2.2.2.2))
def tI(a b:Array Keyed)(f:S5):StateT SortSt Sem (ForInStep S5):=do
 let e <-forIn [0:a.size+b.size] ((none,f.2.1,f.2.2.1,f.2.2.2.1,0,0):S6) λ_ c=>B2 a b f.2.2.2.2 c
 match e.1 with
 |some r=>pure (ForInStep.done (some r,e.2.1,e.2.2.1,e.2.2.2.1,f.2.2.2.2))
 |none=>do
  liftM (rule "list.sort.gallop")
  let d <-forIn [0:a.size+b.size] ((none,e.2.1,e.2.2.1,e.2.2.2.1,f.2.2.2.2+1,e.2.2.2.2.1,e.2.2.2.2.2):S7) λ_ c=>B3 a b c
  match d.1 with
  |some r=>pure (ForInStep.done (some r,d.2.1,d.2.2.1,d.2.2.2.1,d.2.2.2.2.1))
  |none=>do
   setMinGallop' (d.2.2.2.2.1+1)
   pure (ForInStep.yield (none,d.2.1,d.2.2.1,d.2.2.2.1,d.2.2.2.2.1+1))
theorem Cs(a b:Array Keyed):qF a b=(do
 liftM (rule "list.sort.merge-hi")
 let x <-elem' a (a.size-1)
 if (a.size-1==0)=true then pure (jF a b [x].toArray (a.size-1) b.size)
 else if (b.size==1)=true then pure (qC a b [x].toArray (a.size-1) b.size)
 else do
  let d <-get
  let e <-forIn [0:a.size+b.size] ((none,a.size-1,b.size, [x].toArray,gallopOf d):S5) λ_ c=>tI a b c
  match e.1 with
  |some r=>pure r
  |none=>liftM (unsupported (α:=Array Keyed) "internal:list.sort.merge-bound")):=by
 rw[Aq];dsimp only;refine dX rfl λ_=>dX rfl λy=>?_;refine FS (ite _ _) (FS (ite _ _) ?_);refine dX rfl λg=>dX (BW λ_ c=>?_) λu=>?_
 .unfold tI
  refine dX (BW λ_ t=>?_) λt=>?_
  .unfold B2
   refine dX rfl λ_=>dX rfl λ_=>dX rfl λz=>?_;cases z<;>rfl
  .obtain⟨h,j⟩:=t
   cases h with
   |some r=>rfl
   |none=>
    dsimp only;refine dX rfl λ_=>dX (BW λ_ u=>?_) λu=>?_
    .unfold B3
     refine fO (λ_=>?_) (λ_=>?_)
     all_goals
      unfold yn;refine dX rfl λ_=>dX rfl λ_=>dX rfl λz=>?_;cases z with
      |none=>rfl
      |some k=>
       dsimp only;refine fO (λ_=>?_) (λ_=>?_)
       .refine fO (λ_=>rfl) (λ_=>?_)
        unfold uP;refine dX rfl λ_=>fO (λ_=>rfl) (λ_=>dX rfl λ_=>dX rfl λz=>?_);cases z with
        |none=>rfl
        |some k=>rfl
       .unfold uP
        refine dX rfl λ_=>fO (λ_=>rfl) (λ_=>dX rfl λ_=>dX rfl λz=>?_);cases z with
        |none=>rfl
        |some k=>rfl
    .obtain⟨f,i⟩:=u
     cases f<;>rfl
 .obtain⟨f,i⟩:=u
  cases f<;>rfl
def Ry(O:KeyOrd):KeyOrd:={α:=O.α,blt:=λa b=>O.blt b a,irrefl:=O.irrefl,trans:=λa b c d e=>O.trans _ _ _ e d,negTrans:=λa b c h=>(O.negTrans c b a h).symm,total:=λa b d e=>O.total a b e d}
section
variable {O:KeyOrd} {key:Keyed->O.α} {S:Keyed->Prop} {k0:SortKind} {M:Model} {A:Around} {E:Value->Shared->Prop} {s:Shared} {st bZ:SortSt} {a b:Array Keyed}
abbrev MJ(O:KeyOrd)(key:Keyed->O.α)(a b out:Array Keyed)(c d:Nat):Prop:=MI (Ry O) key (a.toList++b.toList) out.toList (a.toList.take c).reverse (b.toList.take d).reverse
theorem vk(h:Res (Ry O) key l r.reverse):Res O key l r:=
 #[(zP r).symm.trans h.1,by
   have:=abg.mp h.2
   exact this.imp λh=>h]
theorem AU(c:Array Keyed)(n:Nat):(c.extract 0 n).toList=c.toList.take n:=by rw[ext_toList];simp
theorem Bq{xs:Array Keyed}(f:1<=n)(h:xs[n-1]? =some x):(xs.toList.take n).reverse=x::(xs.toList.take (n-1)).reverse:=by
 have c:=mn h;obtain⟨d,e⟩:=dQ.mp c
 have:xs.toList.take n=xs.toList.take (n-1)++ [x]:=by
  have:=abc d
  rw[show n-1+1=n by lia,e] at this
  exact this
 rw[this,z3];rfl
theorem qf(l:List Keyed)(h:p<=n):l.take n=l.take p++(l.drop p).take (n-p):=by
 conv=>lhs;rw[<-iU p (l.take n)]
 rw[List.take_take,show min p n=p by lia,List.drop_take]
theorem g5{l:List Keyed}{x:Keyed}(h:x∈l.take n):∃j,j<n/\j<l.length/\l[j]? =some x:=by
 have:=e9 (l:=l) (i:=0) (k:=n) (x:=x) (by simpa using h)
 obtain⟨j,c,d,e⟩:=this;exact#[j,c,by simpa using d,by simpa using e]
theorem MJ.vh(v:MJ O key a b out c d)(e:1<=c)(f:a[c-1]? =some x)(h:∀y∈b.toList.take d,LE O key y x):MJ O key a b (out.push x) (c-1) d:=by
 unfold MJ at v ⊢;rw[Bq e f] at v;rw[z6];exact MI.mV (xs:= [x]) v λz g y i=>by rw[cC.mp g];exact h y (qs.mp i)
theorem MJ.vj(v:MJ O key a b out d c)(e:1<=c)(f:b[c-1]? =some y)(h:∀x∈a.toList.take d,LE O key x y):MJ O key a b (out.push y) d (c-1):=by
 unfold MJ at v ⊢;rw[Bq e f] at v;rw[z6];exact MI.mW (xs:= [y]) v λz g x i=>by rw[cC.mp g];exact h x (qs.mp i)
theorem MJ.mV(v:MJ O key a b out c d)(e:p<=c)(h:∀x∈(a.toList.drop p).take (c-p),∀y∈b.toList.take d,LE O key y x):MJ O key a b (out++(a.extract p c).reverse) p d:=by
 unfold MJ at v ⊢;rw[qf a.toList e,z3] at v;rw[jR,zK,ext_toList];exact MI.mV v λx f y g=>h x (qs.mp f) y (qs.mp g)
theorem MJ.mW(v:MJ O key a b out d c)(e:p<=c)(h:∀y∈(b.toList.drop p).take (c-p),∀x∈a.toList.take d,LE O key x y):MJ O key a b (out++(b.extract p c).reverse) d p:=by
 unfold MJ at v ⊢;rw[qf b.toList e,z3] at v;rw[jR,zK,ext_toList];exact MI.mW v λx f y g=>h x (qs.mp f) y (qs.mp g)
theorem MJ.uK(v:MJ O key a b out 0 c):Res O key (a.toList++b.toList) (jF a b out 0 c).toList:=by
 refine vk ?_;unfold jF MJ at*;rw[jR,jR,AU,AU,zK,qm,wy,z3,zL];rw[qm,List.reverse_nil] at v;exact v.swap.D2
theorem MJ.uL(v:MJ O key a b out c 0):Res O key (a.toList++b.toList) (jF a b out c 0).toList:=by
 refine vk ?_;unfold jF MJ at*;rw[jR,jR,AU,AU,zK,qm,f7,z3,zL];rw[qm,List.reverse_nil] at v;exact v.D2
theorem MJ.first(T:iY O key S a b)(v:MJ O key a b out c 1):Res O key (a.toList++b.toList) (qC a b out c 1).toList:=by
 refine vk ?_;have h:=v.swap.Ce λx d y f=>?_
 .unfold qC
  rw[jR,jR,AU,AU,zK,z3,zL,z3,<-f6];exact h
 .obtain⟨j,g,_,e⟩:=g5 (qs.mp f)
  have:j=0:=by lia
  subst this;exact T.first y (kS e) x (Bw (qs.mp d))
def qR(O:KeyOrd)(key:Keyed->O.α)(a b:Array Keyed)(n:Nat)(c d:Nat)(out:Array Keyed):Prop:=MJ O key a b out c d/\1<=c/\c<=a.size/\2<=d/\d<=b.size/\n+c+d<=a.size+b.size
def Sv{d:Type}(O:KeyOrd)(key:Keyed->O.α)(a b:Array Keyed)(n:Nat)(c:Option (Array Keyed)×Nat×Nat×Array Keyed×d):Prop:=
 (∃r,c.1=some r/\Res O key (a.toList++b.toList) r.toList)\/(c.1=none/\qR O key a b n c.2.1 c.2.2.1 c.2.2.2.1)
def K4{d:Type}(O:KeyOrd)(key:Keyed->O.α)(a b:Array Keyed)(n:Nat)(r:ForInStep (Option (Array Keyed)×Nat×Nat×Array Keyed×d)):Prop:=match r with
 | .done c=>Sv O key a b n c
 | .yield c=>c.1=none/\qR O key a b n c.2.1 c.2.2.1 c.2.2.2.1
def VJ{d:Type}(O:KeyOrd)(key:Keyed->O.α)(a b:Array Keyed)(n:Nat)(r:ForInStep (Option (Array Keyed)×Nat×Nat×Array Keyed×d)):Prop:=match r with
 | .done c=>∃r,c.1=some r/\Res O key (a.toList++b.toList) r.toList
 | .yield c=>c.1=none/\qR O key a b n c.2.1 c.2.2.1 c.2.2.2.1
theorem zC(g:GS bZ st)(v:MJ O key a b out c d)(p:1<=c)(f:c<=a.size)(q:2<=d)(t:d<=b.size)(z:n+c+d<=a.size+b.size)
  (u:∀x,a[c-1]? =some x->∀y∈b.toList.take d,LE O key y x):wpS M A E s (B0 a b o k l c out d) (λr w=>GS bZ w/\K4 O key a b n r) st:=by
 unfold B0;obtain⟨x,h,B,_⟩:=bK (xs:=a) (i:=c-1) (by lia)
 refine AC (bE h ?_);have j:=MJ.vh v p h (u x h)
 by_cases e:c-1=0
 .rw[ls (by simpa using e)]
  rw[e] at j ⊢;exact Fk #[g, .inl #[_,rfl,j.uK]]
 .rw[ir (by simpa using e)]
  have m:qR O key a b n (c-1) d (out.push x):=#[j,by lia,by lia,q,t,by lia]
  by_cases f:(decide (k<7)&&decide (l<7))=true
  .rw[ls f]
   exact Fk #[g, .inr #[rfl,m]]
  .rw[ir f]
   exact Fk #[g,rfl,m]
theorem zB(C:iw O key S k0 M A E s)(P:kindOf st=k0)(T:iY O key S a b)(g:GS bZ st)(v:MJ O key a b out d c)(G:1<=d)(H:d<=a.size)(h3:2<=c)(h4:c<=b.size)(hn:n+d+c<=a.size+b.size)
  (X:∀y,b[c-1]? =some y->∀x∈a.toList.take d,LE O key x y):wpS M A E s (uP a b Q R U c out d) (λr Y=>GS bZ Y/\K4 O key a b n r) st:=by
 unfold uP;obtain⟨y,t,my,_⟩:=bK (xs:=b) (i:=c-1) (by lia)
 refine AC (bE t ?_);have o:=MJ.vj v (by lia) t (X y t)
 by_cases e:c-1=1
 .rw[ls (by simpa using e)]
  rw[e] at o ⊢;exact Fk #[g, .inl #[_,rfl,MJ.first T o]]
 .rw[ir (by simpa using e)]
  obtain⟨x,I,Z,lx⟩:=bK (xs:=a) (i:=d-1) (by lia)
  refine AC (bE I ?_)
  have w:∀z∈a.toList.take d,LE O key z x:=λz f=>by
   obtain⟨j,q,_,k⟩:=g5 f;exact gy T.sa (by lia) k lx
  have J:∀j z,b.toList[j]? =some z->b[0+j]?.getD (Value.none,Value.none)=z:=λj z e=>by rw[qu,kS e];rfl
  refine AC (iq C (qP T.mb (i:=0) (n:=c-1) (by lia)) (T.ma x Z) P (by lia) (λi j eN q h=>?_) λp hp pt pf=>?_)
  .obtain⟨yi,l,_,l1⟩:=bK (xs:=b) (i:=0+i) (by lia)
   obtain⟨yj,m,_,l2⟩:=bK (xs:=b) (i:=0+j) (by lia)
   unfold eJ at h ⊢;rw[ls rfl] at h ⊢;rw[m] at h;rw[l];exact aaU (gy T.sb (by lia) l1 l2) h
  .have hi:∀y∈(b.toList.drop p).take (c-1-p),∀x∈a.toList.take d,LE O key x y:=λz f u hu=>by
    obtain⟨j,q,hl,k⟩:=e9 f
    have:=pf (p+j) (by lia) (by lia)
    unfold eJ at this;rw[ls rfl,J (p+j) z k] at this;exact GT (w u hu) this
   have lo:∀B,a[d-1]? =some B->∀y∈b.toList.take p,LE O key y B:=λB L z f=>by
    rw[I] at L;cases L;obtain⟨j,q,_,k⟩:=g5 f
    have:=pt j q
    unfold eJ at this;rw[ls rfl,J j z k] at this;exact Pi this
   dsimp only
   by_cases N:c-1-p>0
   .rw[ls N]
    have F:=MJ.mW o hp hi
    by_cases l:p=1
    .rw[ls (by simpa using l)]
     subst l;exact Fk #[g, .inl #[_,rfl,MJ.first T F]]
    .rw[ir (by simpa using l)]
     by_cases m:p=0
     .rw[ls (by simpa using m)]
      subst m;exact Fk #[g, .inl #[_,rfl,F.uL]]
     .rw[ir (by simpa using m)]
      exact zC g F G H (by lia) (by lia) (by lia) lo
   .rw[ir N]
    have:p=c-1:=by lia
    subst this;exact zC g o G H (by lia) (by lia) (by lia) lo
theorem zA(C:iw O key S k0 M A E s)(P:kindOf st=k0)(T:iY O key S a b)(g:GS bZ st)(X:qR O key a b n c d out):wpS M A E s (yn a b U R c d out Q) (λr Y=>GS bZ Y/\K4 O key a b n r) st:=by
 obtain⟨v,Z,h2,B,F,hn⟩:=X;unfold yn;refine AC (qQ λCN G=>?_);have o:kindOf CN=k0:=G.kind.trans P;have q:=g.trans G;obtain⟨y,H,my,ly⟩:=bK (xs:=b) (i:=d-1) (by lia)
 refine AC (bE H ?_)
 have t:∀z∈b.toList.take d,LE O key z y:=λz f=>by
  obtain⟨j,m,_,k⟩:=g5 f;exact gy T.sb (by lia) k ly
 have I:∀j z,a.toList[j]? =some z->a[0+j]?.getD (Value.none,Value.none)=z:=λj z e=>by rw[qu,kS e];rfl
 refine AC (iq C (qP T.ma (i:=0) (n:=c) (by lia)) (T.mb y my) o (by lia) (λi j eN m h=>?_) λp hp pt pf=>?_)
 .obtain⟨xi,l,_,l1⟩:=bK (xs:=a) (i:=0+i) (by lia)
  obtain⟨xj,e2,_,l2⟩:=bK (xs:=a) (i:=0+j) (by lia)
  unfold eJ at h ⊢;rw[ir (by decide)] at h ⊢
  rw[e2] at h;rw[l];have h':O.kle (key xj) (key y):=by unfold KeyOrd.kle;simpa using h
  have:=GT (gy T.sa (by lia) l1 l2) h'
  unfold KeyOrd.kle at this;simpa using this
 .have hi:∀x∈(a.toList.drop p).take (c-p),∀y∈b.toList.take d,LE O key y x:=λz f u hu=>by
   obtain⟨j,m,hl,k⟩:=e9 f
   have:=pf (p+j) (by lia) (by lia)
   unfold eJ at this;rw[ir (by decide),I (p+j) z k] at this
   exact GT (t u hu) (Pi (show O.blt _ _=true by simpa using this))
  have lo:∀w,b[d-1]? =some w->∀x∈a.toList.take p,LE O key x w:=λw J z f=>by
   rw[H] at J;cases J;obtain⟨j,m,_,k⟩:=g5 f
   have:=pt j m
   unfold eJ at this;rw[ir (by decide),I j z k] at this
   show O.blt _ _=false;simpa using this
  dsimp only
  by_cases L:c-p>0
  .rw[ls L]
   have N:=MJ.mV v hp hi
   by_cases l:p=0
   .rw[ls (by simpa using l)]
    subst l;exact Fk #[q, .inl #[_,rfl,N.uK]]
   .rw[ir (by simpa using l)]
    exact zB C o T q N (by lia) (by lia) B F (by lia) lo
  .rw[ir L]
   have:p=c:=by lia
   subst this;exact zB C o T q v Z h2 B F hn lo
theorem Hu(C:iw O key S k0 M A E s)(d:kindOf st=k0)(T:iY O key S a b)(g:GS bZ st)(c:S7)(e:qR O key a b n c.2.1 c.2.2.1 c.2.2.2.1):
  wpS M A E s (B3 a b c) (λr f=>GS bZ f/\K4 O key a b n r) st:=by
 unfold B3
 by_cases h:c.2.2.2.2.1>1
 .rw[ls h];exact zA C d T g e
 .rw[ir h];exact zA C d T g e
theorem Ht(C:iw O key S k0 M A E s)(G:kindOf st=k0)(T:iY O key S a b)(g:GS bZ st)(c:S6)(d:qR O key a b n c.2.1 c.2.2.1 c.2.2.2.1):
  wpS M A E s (B2 a b o c) (λr H=>GS bZ H/\K4 O key a b (n+1) r) st:=by
 obtain⟨X,l,m,out,I,J⟩:=c;obtain⟨v,w,f,B,F,L⟩:=d;dsimp only at v w f B F L;unfold B2;dsimp only;obtain⟨y,p,N,P⟩:=bK (xs:=b) (i:=m-1) (by lia)
 obtain⟨x,q,Q,R⟩:=bK (xs:=a) (i:=l-1) (by lia)
 refine AC (bE p (AC (bE q (AC (C _ _ _ _ (T.mb y N) (T.ma x Q) G ?_)))));cases e:O.blt (key y) (key x) with
 |true=>
  dsimp only;rw[ls rfl];refine AC (bE q ?_)
  have h:=MJ.vh v w q λz t=>by
   obtain⟨j,U,_,u⟩:=g5 t;exact GT (gy T.sb (by lia) u P) (Pi e)
  by_cases k:l-1=0
  .rw[ls (by simpa using k)]
   rw[k] at h ⊢;exact Fk #[g, .inl #[_,rfl,h.uK]]
  .rw[ir (by simpa using k)]
   have d:qR O key a b (n+1) (l-1) m (out.push x):=#[h,by lia,by lia,B,F,by lia]
   by_cases f:I+1>=o
   .rw[ls f];exact Fk #[g, .inr #[rfl,d]]
   .rw[ir f];exact Fk #[g,rfl,d]
 |false=>
  dsimp only;rw[ir (by decide)]
  refine AC (bE p ?_)
  have h:=MJ.vj v (by lia) p λz t=>by
   obtain⟨j,U,_,u⟩:=g5 t;exact GT (gy T.sa (by lia) u R) e
  by_cases k:m-1=1
  .rw[ls (by simpa using k)]
   rw[k] at h ⊢;exact Fk #[g, .inl #[_,rfl,MJ.first T h]]
  .rw[ir (by simpa using k)]
   have d:qR O key a b (n+1) l (m-1) (out.push y):=#[h,by lia,by lia,by lia,by lia,by lia]
   by_cases f:J+1>=o
   .rw[ls f];exact Fk #[g, .inr #[rfl,d]]
   .rw[ir f];exact Fk #[g,rfl,d]
theorem qR.le(h:qR O key a b n c d out)(e:m<=n):qR O key a b m c d out:=#[h.1,h.2.1,h.2.2.1,h.2.2.2.1,h.2.2.2.2.1,by have:=h.2.2.2.2.2;lia]
theorem CV(C:iw O key S k0 M A E s)(T:iY O key S a b)(g:GS bZ st)(p:kindOf bZ=k0)(c:S5)(q:qR O key a b n c.2.1 c.2.2.1 c.2.2.2.1):
  wpS M A E s (tI a b c) (λr h=>GS bZ h/\VJ O key a b (n+1) r) st:=by
 have B:0<a.size+b.size:=by have:=T.na;lia
 unfold tI;refine AC (P3 (SC (I:=λ(x:Nat)(f:S6)(h:SortSt)=>GS bZ h/\f.1=none/\qR O key a b (n+min x 1) f.2.1 f.2.2.1 f.2.2.2.1) (Q:=λf h=>GS bZ h/\Sv O key a b (n+1) f) ?step ?fin #[g,rfl,q.le (by lia)]) ?post)
 case fin=>
  rintro f h ⟨i,l,j⟩;exact#[i, .inr #[l,j.le (by lia)]]
 case step=>
  rintro x f h _ _ ⟨i,l,j⟩;refine P3 (Ht C (i.kind.trans p) T i f j) λr t #[m,o]=>?_;cases r with
  |done d=>
   exists m
   rcases o with o| ⟨u,v⟩
   .exact .inl o
   .exact .inr #[u,v.le (by lia)]
  |yield d=>exact#[m,o.1,o.2.le (by lia)]
 case post=>
  rintro⟨F,G⟩ h ⟨i,o⟩
  rcases o with ⟨r,e,k⟩ | ⟨e,w⟩
  .dsimp only at e
   subst e;exact Fk #[i,r,rfl,k]
  .dsimp only at e
   subst e;dsimp only;refine AC (abb (aaG #[rfl,?_]));refine AC (P3 (SC (I:=λ(x:Nat)(f:S7)(h:SortSt)=>GS bZ h/\f.1=none/\qR O key a b (n+1) f.2.1 f.2.2.1 f.2.2.2.1) (Q:=λf h=>GS bZ h/\Sv O key a b (n+1) f) ?step2 ?fin2 #[i,rfl,w]) ?post2)
   case fin2=>
    rintro f h ⟨i,l,j⟩;exact#[i, .inr #[l,j]]
   case step2=>
    rintro x f h _ _ ⟨i,l,j⟩;refine P3 (Hu C (i.kind.trans p) T i f j) λr t #[m,o]=>?_;cases r with
    |done d=>exact#[m,o]
    |yield d=>exact#[m,o]
   case post2=>
    rintro⟨H,J⟩ h ⟨i,o⟩
    rcases o with ⟨r,e,k⟩ | ⟨e,y⟩
    .dsimp only at e
     subst e;exact Fk #[i,r,rfl,k]
    .dsimp only at e
     subst e;refine AC (qQ λL z=>Fk #[i.trans z,rfl,y])
theorem CZ(C:iw O key S k0 M A E s)(t:kindOf st=k0)(T:iY O key S a b)(q:∀r c,GS st c->Res O key (a.toList++b.toList) r.toList->Q r c):wpS M A E s (qF a b) Q st:=by
 rw[Cs];refine AC (abb (aaG #[rfl,?_]));have u:=T.na;have B:=T.nb;obtain⟨x,m,F,G⟩:=bK (xs:=a) (i:=a.size-1) (by lia)
 refine AC (bE m ?_)
 have v:MJ O key a b #[] a.size b.size:=by
  refine#[?_,by simp,?_,?_,by simp]
  .rw[wk (by simp),wk (by simp)]
   simpa using(zP a.toList).append (zP b.toList)
  .rw[wk (by simp)]
   exact abg.mpr (T.sa.imp λh=>h)
  .rw[wk (by simp)]
   exact abg.mpr (T.sb.imp λh=>h)
 have j:=MJ.vh v u m λy w=>T.last x m y (Bw w);have z:(#[]:Array Keyed).push x= [x].toArray:=rfl;rw[z] at j
 by_cases k:a.size-1=0
 .rw[ls (by simpa using k)]
  rw[k] at j ⊢;exact Fk (q _ _ (GS.refl _) j.uK)
 .rw[ir (by simpa using k)]
  by_cases g:b.size=1
  .rw[ls (by simpa using g)]
   rw[g] at j ⊢;exact Fk (q _ _ (GS.refl _) (MJ.first T j))
  .rw[ir (by simpa using g)]
   refine AC (aaP ?_);refine AC (P3 (SC (I:=λ(x:Nat)(f:S5)(c:SortSt)=>GS st c/\f.1=none/\qR O key a b (x+1) f.2.1 f.2.2.1 f.2.2.2.1) (Q:=λf c=>GS st c/\∃r,f.1=some r/\Res O key (a.toList++b.toList) r.toList) ?step ?fin #[GS.refl _,rfl,j,by show 1<=a.size-1;lia,by show a.size-1<=a.size;lia,by show 2<=b.size;lia,bb _,by show 0+1+(a.size-1)+b.size<=a.size+b.size;lia]) ?post)
   case fin=>
    rintro f c ⟨l,k,g⟩
    have:=g.2.2.2.2.2
    have:=g.2.1
    lia
   case step=>
    rintro x f c _ _ ⟨l,k,g⟩;refine P3 (CV C T l t f g) λr H #[p,o]=>?_;cases r with
    |done d=>exact#[p,o]
    |yield d=>exact#[p,o]
   case post=>
    rintro⟨J,L⟩ c ⟨l,r,e,n⟩;dsimp only at e;subst e;exact Fk (q r c l n)
end
theorem Cq(i:Nat):mergeAt' i=(do
 let s <-get
 let (some (sa,na,power),some (sb,nb,_)):=((pendingOf s)[i]?,(pendingOf s)[i+1]?) |unsupported "internal:list.sort.pending"
 set (setPending s (((pendingOf s).setIfInBounds i (sa,na+nb,power)).eraseIdxIfInBounds (i+1)))
 let some k <-fD false (<-elem' (arrOf s) sb) (arrOf s) sa na 0|return false
 let (sa,na):=(sa+k,na-k)
 if na==0 then return true
 let some nb <-fD true (<-elem' (arrOf s) (sa+na-1)) (arrOf s) sb nb (nb-1) |return false
 if nb==0 then return true
 let x:=(arrOf s).extract sa sb
 let y:=(arrOf s).extract sb (sb+nb)
 let merged <-if na<=nb then qG x y else qF x y
 modify λs=>setArr s (merged.toList.zipIdx.foldl (λa (p,j)=>a.setIfInBounds (sa+j) p) (arrOf s))
 return (failedOf (<-get)).isNone):=rfl
theorem rT:∀(m:List Keyed)(off b:Nat)(c:Array Keyed),b+off+m.length<=c.size->
  ((m.zipIdx off).foldl (λa (p:Keyed×Nat)=>a.setIfInBounds (b+p.2) p.1) c).size=c.size/\∀i,((m.zipIdx off).foldl (λa (p:Keyed×Nat)=>a.setIfInBounds (b+p.2) p.1) c)[i]? =if b+off<=i/\i<b+off+m.length then m[i-(b+off)]? else c[i]?
 | [],off,b,c,_=>#[rfl,λi=>by rw[ir (by simp)];rfl]
 |x::m,off,b,c,h=>by
  rw[bN] at h;have e:=rT m (off+1) b (c.setIfInBounds (b+off) x) (by rw[aaV];lia)
  rw[List.zipIdx_cons,rL];refine#[by rw[e.1,aaV],λi=>?_]
  rw[e.2 i]
  by_cases f:b+(off+1)<=i/\i<b+(off+1)+m.length
  .rw[ls f,ls (by rw[bN];lia),show i-(b+off)=(i-(b+(off+1)))+1 by lia,uv]
  .rw[ir f,abz]
   by_cases d:b+off=i
   .rw[ls d,ls (by lia),ls (by rw[bN];lia),<-d,rO];rfl
   .rw[ir d,ir (by rw[bN];lia)]
def putAt(c m:Array Keyed)(b:Nat):Array Keyed:=m.toList.zipIdx.foldl (λa (p:Keyed×Nat)=>a.setIfInBounds (b+p.2) p.1) c
theorem yY(h:b+m.size<=a.size)(i:Nat):(putAt a m b)[i]? =if b<=i/\i<b+m.size then m[i-b]? else a[i]? :=by
 have:=(rT m.toList 0 b a (by simpa using h)).2 i
 unfold putAt;rw[this];simp
theorem EW(h:b+m.size<=a.size):(putAt a m b).size=a.size:=(rT m.toList 0 b a (by simpa using h)).1
theorem EV(h:b+m.size<=a.size)(p:m.toList.Perm ((a.toList.drop b).take m.size)):(putAt a m b).Perm a:=by
 rw[C6]
 have e:(putAt a m b).toList=a.toList.take b++(m.toList++a.toList.drop (b+m.size)):=by
  apply rJ;intro i;rw[eW,yY h,List.getElem?_append,List.getElem?_append,gO,cD,cD,Dg,vz,eW,eW,eW]
  repeat' split
  all_goals first|rfl| (exfalso;lia) | (congr 1;lia)
 have c:a.toList=a.toList.take b++((a.toList.drop b).take m.size++a.toList.drop (b+m.size)):=by
  conv=>lhs;rw[<-iU b a.toList,oN a.toList b m.size]
 rw[e]
 conv=>rhs;rw[c]
 exact aaq _ (p.append_right _)
section
variable {O:KeyOrd} {key:Keyed->O.α} {S:Keyed->Prop} {k0:SortKind} {prog:Program} {w:World} {A:Around} {E:Value->Shared->Prop} {s:Shared} {st bZ:SortSt}
theorem OB(h:Q ⟨⟩ a):wpS M A E s (set a:StateT SortSt Sem PUnit) Q st:=by
 unfold wpS;rw[StateT.run_set];exact mo #[rfl,h]
theorem fS{xs:Array Keyed}{a b:Nat}(h:jV O key xs a b){i j:Nat}(c:a<=i)(d:i<=j)(e:j<b)(f:xs[i]? =some x)(g:xs[j]? =some y):LE O key x y:=by
 have:=h i j c d e
 unfold ky at this;rw[f,g] at this;exact this
theorem CM{xs:Array Keyed}(k:b<=xs.size)(h:∀i j x y,a<=i->i<=j->j<b->xs[i]? =some x->xs[j]? =some y->LE O key x y):jV O key xs a b:=λi j e f g=>by
 obtain⟨x,c,_,_⟩:=bK (xs:=xs) (i:=i) (by lia)
 obtain⟨y,d,_,_⟩:=bK (xs:=xs) (i:=j) (by lia)
 unfold ky;rw[c,d];exact h i j x y e f g c d
theorem ext_get{xs:Array Keyed}{a b i:Nat}(c:b<=xs.size)(d:i<b-a):(xs.extract a b)[i]? =xs[a+i]? :=by
 rw[Array.getElem?_extract,ls (by lia)]
theorem ext_mem{c:Array Keyed}{a b:Nat}{x:Keyed}(h:x∈(c.extract a b).toList):∃i,a<=i/\i<b/\i<c.size/\c[i]? =some x:=by
 rw[ext_toList] at h;obtain⟨j,f,d,e⟩:=e9 h;rw[cD] at d;exact#[a+j,by lia,by lia,d,kS e]
theorem H0(h:jV O key xs a b)(c:b<=xs.size):(xs.extract a b).toList.Pairwise (LE O key):=by
 rw[zV];intro i j d e l;have f:(xs.extract a b).toList.length=b-a:=by rw[cD,vA];lia
 rw[f] at d e;have g:=ext_get (xs:=xs) (a:=a) c d;have k:=ext_get (xs:=xs) (a:=a) c e;refine fS h (i:=a+i) (j:=a+j) (by lia) (by lia) (by lia) ?_ ?_
 .rw[<-g,<-eW];exact b8 _
 .rw[<-k,<-eW];exact b8 _
theorem CY(C:iw O key S k0 (model prog w) A E s)(o:Ok S k0 st)(hf:failedOf st=none)(p1:(pendingOf st)[i]? =some (b,d,pw))(p2:(pendingOf st)[i+1]? =some (b+d,v,Kt))(hna:1<=d)(Pw:1<=v)(gK:b+d+v<=(arrOf st).size)
  (N:jV O key (arrOf st) b (b+d)) (P:jV O key (arrOf st) (b+d) (b+d+v))
  (q:∀l,(arrOf l).Perm (arrOf st)->kindOf l=kindOf st->failedOf l=none->pendingOf l=((pendingOf st).setIfInBounds i (b,d+v,pw)).eraseIdxIfInBounds (i+1)->(∀j,j<b\/b+d+v<=j->(arrOf l)[j]? =(arrOf st)[j]?)->jV O key (arrOf l) b (b+(d+v))->Q true l):
  wpS (model prog w) A E s (mergeAt' i) Q st:=by
 rw[Cq];refine AC (aaP ?_);rw[p1,p2];dsimp only;refine AC (OB ?_);generalize ((pendingOf st).setIfInBounds i (b,d+v,pw)).eraseIdxIfInBounds (i+1)=pn at q;have o':Ok S k0 (setPending st pn):=#[o.mem,o.kind];have mem:∀x∈(arrOf st).toList,S x:=o.mem;obtain⟨X,Tv,mb0,lb0⟩:=bK (xs:=arrOf st) (i:=b+d) (by lia)
 refine AC (bE Tv ?_);have qZ:∀(j:Nat)(z:Keyed),(arrOf st)[j]? =some z->(arrOf st)[j]?.getD (Value.none,Value.none)=z:=λj z e=>by rw[e];rfl
 refine AC (iq C (qP mem (i:=b) (n:=d) (by lia)) (mem X mb0) o'.kind (by lia) (λi j G Y h=>?_) λk hk kt kf=>?_)
 .obtain⟨xi,M,_,_⟩:=bK (xs:=arrOf st) (i:=b+i) (by lia)
  obtain⟨xj,Z,_,_⟩:=bK (xs:=arrOf st) (i:=b+j) (by lia)
  unfold eJ at h ⊢;rw[ir (by decide)] at h ⊢
  rw[Z] at h;rw[M];have h':O.kle (key xj) (key X):=by unfold KeyOrd.kle;simpa using h
  have:=GT (fS N (by lia) (by lia) (by lia) M Z) h'
  unfold KeyOrd.kle at this;simpa using this
 have XR:∀j x,b<=j->j<b+k->(arrOf st)[j]? =some x->LE O key x X:=λj x f B e=>by
  have:=kt (j-b) (by lia)
  unfold eJ at this;rw[ir (by decide),show b+(j-b)=j by lia,qZ j x e] at this
  show O.blt _ _=false;simpa using this
 have khi:∀j x,b+k<=j->j<b+d->(arrOf st)[j]? =some x->LE O key X x:=λj x f B e=>by
  have:=kf (j-b) (by lia) (by lia)
  unfold eJ at this;rw[ir (by decide),show b+(j-b)=j by lia,qZ j x e] at this
  exact Pi (show O.blt _ _=true by simpa using this)
 dsimp only;have Rj:∀j y,b+d<=j->j<b+d+v->(arrOf st)[j]? =some y->LE O key X y:=λj y f B e=>fS P (by lia) f B Tv e
 by_cases e0:d-k=0
 .rw[ls (by simpa using e0)]
  refine Fk (q _ (.refl _) rfl hf rfl (λ_ _=>rfl) ?_);refine CM (by show b+(d+v)<=(arrOf st).size;lia) λi j x y f G Y H I=>?_
  by_cases c1:j<b+d
  .exact fS N f G c1 H I
  .by_cases c2:i<b+d
   .exact GT (XR i x f (by lia) H) (Rj j y (by lia) (by lia) I)
   .exact fS P (by lia) G (by lia) H I
 rw[ir (by simpa using e0)]
 have Wu:b+k+(d-k)-1=b+d-1:=by lia
 obtain⟨al,O8,mal,lal⟩:=bK (xs:=arrOf st) (i:=b+k+(d-k)-1) (by lia)
 refine AC (bE O8 ?_);rw[Wu] at O8;refine AC (iq C (qP mem (i:=b+d) (n:=v) (by lia)) (mem al mal) o'.kind (by lia) (λi j G Y h=>?_) λm hm mt mf=>?_)
 .obtain⟨yi,M,_,_⟩:=bK (xs:=arrOf st) (i:=b+d+i) (by lia)
  obtain⟨yj,Z,_,_⟩:=bK (xs:=arrOf st) (i:=b+d+j) (by lia)
  unfold eJ at h ⊢;rw[ls rfl] at h ⊢;rw[Z] at h;rw[M];exact aaU (fS P (by lia) (by lia) (by lia) M Z) h
 have mlo:∀j y,b+d<=j->j<b+d+m->(arrOf st)[j]? =some y->LE O key y al:=λj y f B e=>by
  have:=mt (j-(b+d)) (by lia)
  unfold eJ at this;rw[ls rfl,show b+d+(j-(b+d))=j by lia,qZ j y e] at this
  exact Pi this
 have X0:∀j y,b+d+m<=j->j<b+d+v->(arrOf st)[j]? =some y->LE O key al y:=λj y f B e=>by
  have:=mf (j-(b+d)) (by lia) (by lia)
  unfold eJ at this;rw[ls rfl,show b+d+(j-(b+d))=j by lia,qZ j y e] at this
  exact this
 have Zf:∀j x,b<=j->j<b+d->(arrOf st)[j]? =some x->LE O key x al:=λj x f B e=>fS N f (by lia) (by lia) e O8
 dsimp only
 by_cases M:m=0
 .rw[ls (by simpa using M)]
  refine Fk (q _ (.refl _) rfl hf rfl (λ_ _=>rfl) ?_);refine CM (by show b+(d+v)<=(arrOf st).size;lia) λi j x y f G Y H I=>?_
  by_cases c1:j<b+d
  .exact fS N f G c1 H I
  .by_cases c2:i<b+d
   .exact GT (Zf i x f c2 H) (X0 j y (by lia) (by lia) I)
   .exact fS P (by lia) G (by lia) H I
 rw[ir (by simpa using M)]
 have T:iY O key S ((arrOf st).extract (b+k) (b+d)) ((arrOf st).extract (b+d) (b+d+m)):=by
  refine#[λx J=>?_,λx J=>?_,H0 (λi j f B h3=>N i j (by lia) B h3) (by lia),H0 (λi j f B h3=>P i j f B (by lia)) (by lia),by rw[vA];lia,by rw[vA];lia,λy hy x J=>?_,λx J y hy=>?_]
  .obtain⟨i,_,_,_,e⟩:=ext_mem J
   exact mem x (dM (mn e))
  .obtain⟨i,_,_,_,e⟩:=ext_mem J
   exact mem x (dM (mn e))
  .rw[ext_get (by lia) (by lia)] at hy
   have JT:(arrOf st)[b+d]? =some y:=hy;rw[Tv] at JT;cases JT;obtain⟨i,f,B,_,e⟩:=ext_mem J;exact khi i x f B e
  .have hsz2:((arrOf st).extract (b+k) (b+d)).size=d-k:=by rw[vA];lia
   rw[hsz2,ext_get (by lia) (by lia)] at J
   rw[show b+k+(d-k-1)=b+d-1 by lia,O8] at J;cases J
   obtain⟨i,f,B,_,e⟩:=ext_mem hy;exact mlo i y f B e
 have szx:((arrOf st).extract (b+k) (b+d)).size=d-k:=by rw[vA];lia
 have szy:((arrOf st).extract (b+d) (b+d+m)).size=m:=by rw[vA];lia
 have fin:∀(r:Array Keyed)(l:SortSt),GS (setPending st pn) l->Res O key (((arrOf st).extract (b+k) (b+d)).toList++((arrOf st).extract (b+d) (b+d+m)).toList) r.toList->
   wpS (model prog w) A E s (do
    modify λs=>setArr s (r.toList.zipIdx.foldl (λa (p,j)=>a.setIfInBounds (b+k+j) p) (arrOf s))
    return (failedOf (<-get)).isNone) Q l:=by
  intro r l g u;refine AC (aaZ (AC (aaP ?_)));have JO:failedOf l=none:=g.failed.trans hf
  have hr:r.size=d-k+m:=by
   have:=u.1.length_eq
   rw[cE,cD,cD,cD,szx,szy] at this;exact this
  have hb:b+k+r.size<=(arrOf l).size:=by rw[g.arr];show _<=(arrOf st).size;lia
  have aae:(r.toList.zipIdx.foldl (λa (x:Keyed×Nat)=>match x with| (p,j)=>a.setIfInBounds (b+k+j) p) (arrOf l))=putAt (arrOf l) r (b+k):=rfl
  show wpS _ _ _ _ (pure (failedOf l).isNone) Q (setArr l (putAt (arrOf l) r (b+k)));rw[JO];have ga:arrOf l=arrOf st:=g.arr;rw[ga] at hb ⊢;have Ic:=λi=>yY hb i;rw[hr] at Ic
  have RV:∀j x,b+k<=j->j<b+d+m->(putAt (arrOf st) r (b+k))[j]? =some x->∃i,b+k<=i/\i<b+d+m/\(arrOf st)[i]? =some x:=λj x f B e=>by
   rw[Ic,ls (by lia)] at e
   have hm:=u.1.mem_iff.mp (dM (mn e))
   rcases bH.mp hm with z|z
   .obtain⟨i,R,a2,_,U⟩:=ext_mem z
    exact#[i,R,by lia,U]
   .obtain⟨i,R,a2,_,U⟩:=ext_mem z
    exact#[i,by lia,a2,U]
  have t:∀j,j<b+k\/b+d+m<=j->(putAt (arrOf st) r (b+k))[j]? =(arrOf st)[j]? :=λj h=>by rw[Ic,ir (by lia)]
  have M4:∀i x j y,b<=i->i<b+k->(arrOf st)[i]? =some x->b+k<=j->j<b+d+v->(arrOf st)[j]? =some y->LE O key x y:=λi x j y R a2 a3 U a5 a6=>by
   by_cases c:j<b+d
   .exact fS N R (by lia) c a3 a6
   .exact GT (XR i x R a2 a3) (Rj j y (by lia) a5 a6)
  have Po:∀i x j y,b<=i->i<b+d+m->(arrOf st)[i]? =some x->b+d+m<=j->j<b+d+v->(arrOf st)[j]? =some y->LE O key x y:=λi x j y R a2 a3 U a5 a6=>by
   by_cases c:i<b+d
   .exact GT (Zf i x R c a3) (X0 j y U a5 a6)
   .exact fS P (by lia) (by lia) a5 a3 a6
  refine Fk (q _ ?_ g.kind JO g.pend (λj Y=>t j (by lia)) ?_)
  .refine EV hb ?_
   rw[hr];refine u.1.trans ?_;rw[ext_toList,ext_toList,show b+d-(b+k)=d-k by lia,show b+d+m-(b+d)=m by lia]
   have:((arrOf st).toList.drop (b+k)).take (d-k+m)=((arrOf st).toList.drop (b+k)).take (d-k)++((arrOf st).toList.drop (b+d)).take m:=by
    rw[qf _ (show d-k<=d-k+m by lia),acn,show b+k+(d-k)=b+d by lia,show d-k+m-(d-k)=m by lia]
   rw[this]
  .refine CM (by show b+(d+v)<=(putAt (arrOf st) r (b+k)).size;rw[EW hb];lia) λi j x y f G Y H I=>?_
   have L:(putAt (arrOf st) r (b+k))[i]? =some x:=H;have F:(putAt (arrOf st) r (b+k))[j]? =some y:=I
   by_cases ci:i<b+k
   .rw[t i (.inl ci)] at L
    by_cases cj:j<b+k
    .rw[t j (.inl cj)] at F
     exact fS N f G (by lia) L F
    .by_cases V0:j<b+d+m
     .obtain⟨j',b1,b2,b3⟩:=RV j y (by lia) V0 F
      exact M4 i x j' y f ci L b1 (by lia) b3
     .rw[t j (.inr (by lia))] at F
      exact M4 i x j y f ci L (by lia) (by lia) F
   .by_cases Z0:i<b+d+m
    .by_cases V0:j<b+d+m
     .rw[Ic,ls (by lia)] at L F
      exact gy u.2 (by lia) (mn L) (mn F)
     .obtain⟨i',b1,b2,b3⟩:=RV i x (by lia) Z0 L
      rw[t j (.inr (by lia))] at F
      exact Po i' x j y (by lia) b2 b3 (by lia) (by lia) F
    .rw[t i (.inr (by lia))] at L
     rw[t j (.inr (by lia))] at F
     exact fS P (by lia) G (by lia) L F
 by_cases c:d-k<=m
 .rw[ls c]
  exact AC (C0 C o'.kind T λr l g u=>fin r l g u)
 .rw[ir c]
  exact AC (CZ C o'.kind T λr l g u=>fin r l g u)
end
abbrev U1:=Option Unit×Unit
def IM(a:Nat):StateT SortSt Sem (ForInStep U1):=do
 let st <-get
 match (if (pendingOf st).size>1 then(pendingOf st)[(pendingOf st).size-2]? else none) with
 |some (_,_,b)=>
  if b<=a then pure (ForInStep.done (none,()))
  else do
   let ok <-mergeAt' ((pendingOf st).size-2)
   if (!ok)=true then pure (ForInStep.done (some (),())) else pure (ForInStep.yield (none,()))
 |_=>pure (ForInStep.done (none,()))
def ni(size lo n:Nat):StateT SortSt Sem (ForInStep (Option Unit×Nat)):=do
 let st <-get
 match (pendingOf st).back? with
 |some (b,a,_)=>do
  let t <-forIn [0:size] ((none,()):U1) λ_ _=>IM (power' size (2*b+a) (2*b+a+a+n) size)
  match t.1 with
  |some r=>pure (ForInStep.done (some r,lo))
  |none=>do
   modify λs=>setPending s ((pendingOf s).modify ((pendingOf s).size-1) λx=>(x.1,x.2.1,power' size (2*b+a) (2*b+a+a+n) size))
   modify λs=>setPending s ((pendingOf s).push (lo,n,0))
   pure (ForInStep.yield (none,lo+n))
 |_=>do
  modify λs=>setPending s ((pendingOf s).push (lo,n,0))
  pure (ForInStep.yield (none,lo+n))
def CL(size lo:Nat):StateT SortSt Sem (ForInStep (Option Unit×Nat)):=
 if lo>=size then pure (ForInStep.done (none,lo))
 else do
  let x <-countRun' lo (size-lo)
  match x with
  |some a=>
   if a<minRun' size size 0 then do
    liftM (rule "list.sort.binary-insertion")
    let ok <-binarySort' lo (min (size-lo) (minRun' size size 0)) a
    if (!ok)=true then pure (ForInStep.done (some (),lo)) else ni size lo (min (size-lo) (minRun' size size 0))
   else ni size lo a
  |_=>pure (ForInStep.done (some (),lo))
def Hd:StateT SortSt Sem (ForInStep U1):=do
 let st <-get
 if (pendingOf st).size<=1 then pure (ForInStep.done (none,()))
 else do
  let ok <-mergeAt' (if (if (pendingOf st).size-2>0 then(pendingOf st)[(pendingOf st).size-2-1]?.map (·.2.1) else none).any (·<((pendingOf st)[(pendingOf st).size-2+1]?.elim 0 (·.2.1))) then(pendingOf st).size-2-1 else(pendingOf st).size-2)
  if (!ok)=true then pure (ForInStep.done (some (),())) else pure (ForInStep.yield (none,()))
theorem zg:sortRuns'=(do
 let st <-get
 let c <-forIn [0:(arrOf st).size] ((none,0):Option Unit×Nat) λ_ c=>CL (arrOf st).size c.2
 match c.1 with
 |some r=>pure r
 |none=>do
  let t <-forIn [0:(arrOf st).size] ((none,()):U1) λ_ _=>Hd
  match t.1 with
  |some r=>pure r
  |none=>pure ()):=by
 rw[sortRuns'_eq];dsimp only;refine dX rfl λst=>dX (BW λ_ c=>?_) λc=>?_
 .unfold CL
  refine fO (λ_=>rfl) (λ_=>dX rfl λx=>?_);cases x with
  |none=>rfl
  |some f=>
   dsimp only;have i:∀n:Nat,ni (arrOf st).size c.2 n=ni (arrOf st).size c.2 n:=λ_=>rfl;refine fO (λ_=>dX rfl λ_=>dX rfl λok=>fO (λ_=>rfl) (λ_=>?_)) (λ_=>?_)
   all_goals
    unfold ni;refine dX rfl λd=>?_;cases(pendingOf d).back? with
    |none=>rfl
    |some e=>
     obtain⟨j,k,l⟩:=e;dsimp only;refine dX (BW λ_ c=>?_) λt=>?_
     .unfold IM
      refine dX rfl λa=>?_;cases(if (pendingOf a).size>1 then(pendingOf a)[(pendingOf a).size-2]? else none) with
      |none=>rfl
      |some e=>rfl
     .obtain⟨b,g⟩:=t
      cases b<;>rfl
 .obtain⟨h,m⟩:=c
  cases h with
  |some r=>rfl
  |none=>
   dsimp only;refine dX (BW λ_ c=>?_) λt=>?_
   .rfl
   .obtain⟨b,g⟩:=t
    cases b<;>rfl
section
variable {O:KeyOrd} {key:Keyed->O.α} {S:Keyed->Prop} {k0:SortKind} {prog:Program} {w:World} {A:Around} {E:Value->Shared->Prop} {s:Shared} {st bZ:SortSt}
def ke(O:KeyOrd)(key:Keyed->O.α)(c:Array Keyed):Nat->List (Nat×Nat)->Nat->Prop
 |a,[],b=>a=b
 |a,e::r,b=>e.1=a/\1<=e.2/\jV O key c a (a+e.2)/\ke O key c (a+e.2) r b
theorem ke.app:∀{j g:List (Nat×Nat)}{a b:Nat},ke O key i a (j++g) b↔∃c,ke O key i a j c/\ke O key i c g b
 | [],g,a,b=>#[λh=>#[a,rfl,h],λ#[c,d,f]=>by cases d;exact f]
 |e::j,g,a,b=>by
  constructor
  .rintro⟨d,f,k,n⟩
   obtain⟨c,l,m⟩:=ke.app.mp n;exact#[c,#[d,f,k,l],m]
  .rintro⟨c,⟨d,f,k,l⟩,m⟩
   exact#[d,f,k,ke.app.mpr #[c,l,m]]
theorem ke.le:∀{l:List (Nat×Nat)}{a b:Nat},ke O key c a l b->a+l.length<=b
 | [],a,b,h=>by cases h;simp
 |e::l,a,b,#[_,f,_,d]=>by
  have:=ke.le d
  rw[bN];lia
theorem zi(h:∀i,a<=i->i<b->d[i]? =c[i]?)(g:jV O key c a b):jV O key d a b:=λi j e k f=>by
 rw[jg (h i e (by lia)),jg (h j (by lia) f)];exact g i j e k f
theorem ke.congr:∀{l:List (Nat×Nat)}{a b:Nat},(∀i,a<=i->i<b->d[i]? =c[i]?)->ke O key c a l b->ke O key d a l b
 | [],a,b,_,h=>h
 |e::l,a,b,f,#[m,n,o,g]=>by
  have:=ke.le g
  exact#[m,n,zi (λi j k=>f i j (by lia)) o,ke.congr (λi j k=>f i (by lia) k) g]
def pl(st:SortSt):List (Nat×Nat):=(pendingOf st).toList.map λe=>(e.1,e.2.1)
structure SI (O:KeyOrd) (key:Keyed->O.α) (S:Keyed->Prop) (k0:SortKind) (a0:Array Keyed) (st:SortSt) (lo:Nat):Prop where
 ok:Ok S k0 st
 failed:failedOf st=none
 perm:(arrOf st).Perm a0
 cov:ke O key (arrOf st) 0 (pl st) lo
 le:lo<=a0.size
theorem SI.size{a:Array Keyed}{lo:Nat}(h:SI O key S k0 a st lo):(arrOf st).size=a.size:=h.perm.size_eq
theorem Fn(C:iw O key S k0 (model prog w) A E s){m:Array Keyed}{lo i:Nat}{Q:Bool->SortSt->Prop}(h:SI O key S k0 m st lo)(I:i+1<(pendingOf st).size)
  (q:∀a,SI O key S k0 m a lo->(pendingOf a).size=(pendingOf st).size-1->(∀j,lo<=j->(arrOf a)[j]? =(arrOf st)[j]?)->Q true a):wpS (model prog w) A E s (mergeAt' i) Q st:=by
 have J:(pendingOf st)[i]? =some (pendingOf st)[i]:=aaK _ i (by lia)
 have L:(pendingOf st)[i+1]? =some (pendingOf st)[i+1]:=aaK _ (i+1) I
 have n:(pendingOf st).toList=(pendingOf st).toList.take i++((pendingOf st)[i]::(pendingOf st)[i+1]::(pendingOf st).toList.drop (i+2)):=by
  conv=>lhs;rw[<-iU i (pendingOf st).toList]
  congr 1
  rw[nZ (by rw[cD];lia),nZ (by rw[cD];lia)]
  rfl
 generalize hx:(pendingOf st)[i]=x at*;generalize hy:(pendingOf st)[i+1]=y at*;obtain⟨d,e,M⟩:=x;obtain⟨sb,f,Kt⟩:=y;have g:=h.cov;unfold pl at g;rw[n,c8,bT,bT] at g;obtain⟨c,N,P⟩:=ke.app.mp g;obtain⟨o,r,t,u,v,z,k⟩:=P;dsimp only at o r t u v z k;subst o;subst u;have R:=k.le;have gK:=h.size;have Ef:=h.le;refine CY C h.ok h.failed J L r v (by lia) t z λa B T U X l Y=>?_
 have F:(pendingOf a).toList=(pendingOf st).toList.take i++((d,e+f,M)::(pendingOf st).toList.drop (i+2)):=by
  rw[X,Array.toList_eraseIdxIfInBounds,Array.toList_setIfInBounds]
  conv=>lhs;rw[n]
  have b:((pendingOf st).toList.take i).length=i:=by rw[gO,cD];lia
  rw[List.set_append_right _ _ (by lia),List.eraseIdx_append_of_length_le (by lia),b,rO,show i+1-i=1 by lia]
  rfl
 refine q a #[#[λp Z=>h.ok.mem p ((C6.mp B).mem_iff.mp Z),T.trans h.ok.kind],U,B.trans h.perm,?_,h.le] ?_ λj hj=>l j (.inr (by lia))
 .unfold pl
  rw[F,c8,bT];refine ke.app.mpr #[d,ke.congr (λj G H=>l j (.inl H)) N,rfl,?_,Y,?_]
  .show 1<=e+f;lia
  .show ke O key (arrOf a) (d+(e+f)) _ lo
   rw[<-Nat.add_assoc];exact ke.congr (λj G H=>l j (.inr G)) k
 .rw[<-cD,F,cE,bN,gO,qr,cD];lia
def Kp(bZ st:SortSt)(lo:Nat):Prop:=∀j,lo<=j->(arrOf st)[j]? =(arrOf bZ)[j]?
theorem KU(C:iw O key S k0 (model prog w) A E s){f:Array Keyed}{lo g:Nat}(h:SI O key S k0 f st lo)(d:Kp bZ st lo):wpS (model prog w) A E s (IM g) (λr a=>match r with| .done c=>c=(none,())/\SI O key S k0 f a lo/\Kp bZ a lo| .yield c=>c=(none,())/\SI O key S k0 f a lo/\Kp bZ a lo) st:=by
 unfold IM;refine AC (aaP ?_)
 by_cases i:(pendingOf st).size>1
 .rw[ls i]
  cases e:(pendingOf st)[(pendingOf st).size-2]? with
  |none=>exact Fk #[rfl,h,d]
  |some x=>
   obtain⟨o,p,l⟩:=x;dsimp only
   by_cases b:l<=g
   .rw[ls b];exact Fk #[rfl,h,d]
   .rw[ir b]
    refine AC (Fn C h (by lia) λa m _ n=>?_)
    exact Fk #[rfl,m,λj k=>(n j k).trans (d j k)]
 .rw[ir i]
  exact Fk #[rfl,h,d]
theorem NI{lo n:Nat}:pl (setPending st ((pendingOf st).push (lo,n,0)))=pl st++ [(lo,n)]:=by
 unfold pl;show((pendingOf st).push (lo,n,0)).toList.map _=_;rw[z6,c8];rfl
theorem GN:pl (setPending st ((pendingOf st).modify i λx=>(x.1,x.2.1,a)))=pl st:=by
 unfold pl;show((pendingOf st).modify i λx=>(x.1,x.2.1,a)).toList.map _=_;apply rJ;intro j;rw[b7,b7,eW,eW,Array.getElem?_modify]
 by_cases e:i=j
 .rw[ls e]
  cases(pendingOf st)[j]? <;>rfl
 .rw[ir e]
theorem SI.IF{a:Array Keyed}{lo n:Nat}(h:SI O key S k0 a st lo)(b:1<=n)(c:lo+n<=a.size)(d:jV O key (arrOf st) lo (lo+n)):SI O key S k0 a (setPending st ((pendingOf st).push (lo,n,0))) (lo+n):=by
 refine#[#[h.ok.mem,h.ok.kind],h.failed,h.perm,?_,c];rw[NI];exact ke.app.mpr #[lo,h.cov,rfl,b,d,rfl]
theorem wj(C:iw O key S k0 (model prog w) A E s){b:Array Keyed}{lo n:Nat}(h:SI O key S k0 b st lo)(k:1<=n)(l:lo+n<=b.size)(m:jV O key (arrOf st) lo (lo+n)):
  wpS (model prog w) A E s (ni b.size lo n) (λr a=>match r with| .done c=>False| .yield c=>c=(none,lo+n)/\SI O key S k0 b a (lo+n)) st:=by
 unfold ni;refine AC (aaP ?_);cases(pendingOf st).back? with
 |none=>exact AC (aaZ (Fk #[rfl,h.IF k l m]))
 |some e=>
  obtain⟨p,j,v⟩:=e;dsimp only;refine AC (P3 (SC (I:=λ(x:Nat)(c:U1)(a:SortSt)=>c=(none,())/\SI O key S k0 b a lo/\Kp st a lo) (Q:=λc a=>c=(none,())/\SI O key S k0 b a lo/\Kp st a lo) (λx c a _ _ g=>?_) (λc a g=>g) #[rfl,h,λ_ _=>rfl]) ?_)
  .refine P3 (KU C g.2.1 g.2.2) λr y o=>?_
   cases r with
   |done d=>exact o
   |yield d=>exact o
  .rintro c a ⟨rfl,f,q⟩
   dsimp only;refine AC (aaZ (AC (aaZ (Fk #[rfl,?_]))))
   have t:SI O key S k0 b (setPending a ((pendingOf a).modify ((pendingOf a).size-1) λx=>(x.1,x.2.1,power' b.size (2*p+j) (2*p+j+j+n) b.size))) lo:=
    #[#[f.ok.mem,f.ok.kind],f.failed,f.perm,by rw[GN];exact f.cov,f.le]
   exact t.IF k l (zi (λi u z=>q i u) m)
theorem SI.YS{b:Array Keyed}{lo c:Nat}{a:SortSt}(h:SI O key S k0 b st lo)(t:iy st a lo c):SI O key S k0 b a lo:=
 #[h.ok.step t,t.failed.trans h.failed,t.perm.trans h.perm,by
  have:pl a=pl st:=by unfold pl;rw[t.pend]
  rw[this];exact ke.congr (λi _ d=>t.out i (.inl d)) h.cov,h.le]
theorem Hy(C:iw O key S k0 (model prog w) A E s){a:Array Keyed}{lo:Nat}(h:SI O key S k0 a st lo):
  wpS (model prog w) A E s (CL a.size lo) (λr b=>match r with| .done c=>c=(none,lo)/\a.size<=lo/\SI O key S k0 a b lo| .yield c=>∃n,1<=n/\c=(none,lo+n)/\SI O key S k0 a b (lo+n)) st:=by
 unfold CL;have u:=h.size;have k:=h.le
 by_cases f:lo>=a.size
 .rw[ls f];exact Fk #[rfl,f,h]
 .rw[ir f]
  refine AC (wpS_countRun C h.ok (by lia) (by lia) λm v l g x i=>?_)
  dsimp only;have e:=h.YS l;have p:=e.size
  by_cases j:m<minRun' a.size a.size 0
  .rw[ls j]
   refine AC (abb (aaG #[rfl,?_]));refine AC (wpS_binarySort C e.ok (by lia) (by lia) i λy q t=>?_)
   rw[ir (by decide)]
   refine P3 (wj C (e.YS q) (by lia) (by lia) t) λr b o=>?_
   cases r with
   |done d=>exact o.elim
   |yield d=>exact#[_,by lia,o.1,o.2]
  .rw[ir j]
   refine P3 (wj C e g (by lia) i) λr b o=>?_
   cases r with
   |done d=>exact o.elim
   |yield d=>exact#[_,g,o.1,o.2]
theorem ite_le [Decidable c]:(if c then p-1 else p)<=p:=by split<;>lia
theorem Hx(C:iw O key S k0 (model prog w) A E s)(h:SI O key S k0 a st a.size)(g:(pendingOf st).size<=max 1 (a.size-x)):
  wpS (model prog w) A E s Hd (λr b=>match r with| .done c=>c=(none,())/\SI O key S k0 a b a.size/\(pendingOf b).size<=1| .yield c=>c=(none,())/\SI O key S k0 a b a.size/\(pendingOf b).size<=max 1 (a.size-(x+1))) st:=by
 unfold Hd;refine AC (aaP ?_)
 by_cases d:(pendingOf st).size<=1
 .rw[ls d];exact Fk #[rfl,h,d]
 .rw[ir d]
  refine AC (Fn C h (abH (Nat.succ_le_succ ite_le) (by lia)) λb f e _=>?_)
  exact Fk #[rfl,f,by lia]
theorem wpS_sortRuns(C:iw O key S k0 (model prog w) A E s){Q:Unit->SortSt->Prop}(o:Ok S k0 st)(p:failedOf st=none)(t:pendingOf st= #[])(F:1<=(arrOf st).size)
  (q:∀a,(arrOf a).Perm (arrOf st)->failedOf a=none->jV O key (arrOf a) 0 (arrOf st).size->Q () a):wpS (model prog w) A E s sortRuns' Q st:=by
 rw[zg];refine AC (aaP ?_);have u:SI O key S k0 (arrOf st) st 0:=#[o,p, .refl _,by unfold pl;rw[t];rfl,fm _]
 refine AC (P3 (SC (I:=λ(x:Nat)(c:Option Unit×Nat)(a:SortSt)=>∃lo,c=(none,lo)/\min x (arrOf st).size<=lo/\SI O key S k0 (arrOf st) a lo) (Q:=λc a=>c=(none,(arrOf st).size)/\SI O key S k0 (arrOf st) a (arrOf st).size) (λx c a _ _ b=>?_) (λc a b=>?_) #[0,rfl,by lia,u]) ?_)
 .obtain⟨lo,rfl,v,f⟩:=b
  refine P3 (Hy C f) λr g o=>?_;cases r with
  |done d=>
   obtain⟨e,G,h⟩:=o
   have:=h.le
   have j:lo=(arrOf st).size:=by lia
   rw[j] at e h;exact#[e,h]
  |yield d=>
   obtain⟨n,H,e,h⟩:=o;exact#[lo+n,e,by lia,h]
 .obtain⟨lo,rfl,v,f⟩:=b
  have:=f.le
  have j:lo=(arrOf st).size:=by lia
  rw[j] at f ⊢;exact#[rfl,f]
 .rintro c a ⟨rfl,f⟩
  dsimp only
  have m:(pendingOf a).size<=(arrOf st).size:=by
   have:=f.cov.le
   unfold pl at this;rw[aG,cD] at this;lia
  refine AC (P3 (SC (I:=λ(x:Nat)(c:U1)(a:SortSt)=>c=(none,())/\SI O key S k0 (arrOf st) a (arrOf st).size/\(pendingOf a).size<=max 1 ((arrOf st).size-x)) (Q:=λc a=>c=(none,())/\SI O key S k0 (arrOf st) a (arrOf st).size/\(pendingOf a).size<=1) (λx c a _ _ b=>?_) (λc a b=>?_) #[rfl,f,by lia]) ?_)
  .refine P3 (Hx C b.2.1 b.2.2) λr g o=>?_
   cases r with
   |done d=>exact o
   |yield d=>exact o
  .exact#[b.1,b.2.1,by have:=b.2.2;lia]
  .rintro c g ⟨rfl,k,y⟩
   refine Fk (q g k.perm k.failed ?_);have i:=k.cov;have l:(pl g).length<=1:=by unfold pl;rw[aG,cD];exact y
   match eX:pl g,l with
   | [],_=>rw[eX] at i;exact absurd i (by show ¬(0=(arrOf st).size);lia)
   | [e],_=>
    rw[eX] at i;obtain⟨J,L,z,B⟩:=i
    have:0+e.2=(arrOf st).size:=B
    rw[<-this];exact z
end
section
variable {O:KeyOrd} {key:Keyed->O.α} {S:Keyed->Prop} {k0:SortKind} {prog:Program} {w:World} {A:Around} {E:Value->Shared->Prop} {s:Shared}
def Keeps(s a:Shared):Prop:=∀b o,s.heap.get? b=some o->a.heap.get? b=some o
theorem vx(a:List Value):(a.toArray.zip a.toArray).toList=a.map λv=>(v,v):=by
 rw[Array.toList_zip];show List.zip a a=_
 induction a with
 |nil=>rfl
 |cons v r b=>rw[List.zip_cons_cons,bT,b]
theorem QY(h:jV O key a 0 a.size):a.toList.Pairwise (LE O key):=by
 rw[zV];intro i j c b d;rw[cD] at c b;exact fS h (fm _) (sU d) b (kS (b8 _)) (kS (b8 _))
theorem pB(j:s.heap.get? a=some (seqObj "list" c.toArray n))(R:2<=c.length)(T:c.length<=1000)(ne:∀b o,s.heap.get? b=some o->b≠a->True)
  {s0:Shared} (k:∀b o,s0.heap.get? b=some o->b≠a/\s.heap.get? b=some o)
  (z:∀(E:Value->Shared->Prop)(d:Shared)(m:SortKind->Shared->Prop),Keeps s0 d->m k0 d->wpAny (model prog w) A (keyKind' c.toArray) m E d)
  (C:∀(E:Value->Shared->Prop)(d:Shared),Keeps s0 d->iw O key S k0 (model prog w) A E d) (mem:∀v∈c,S (v,v))
  (h:∀out:Array Keyed,out.toList.Perm (c.map λv=>(v,v))->out.toList.Pairwise (LE O key)->P (.done (.ret .none)) {s with heap:=sortedHeap s.heap a c (out.map (·.2))}):
  wpAny (model prog w) A (Builtin.«list.sort» #[[.ref a],[]]) P E s:=by
 rw[list_sort_plain];have q:a<s.heap.objs.size:=FB j;have U:1000<sizeLine:=by decide
 refine be (listItems_at j rfl ?_);refine be (abN j rfl ?_ (by rw[dN];lia) (fm _))
 obtain⟨l,r⟩:∃l,(s.heap.update a (Obj.mapSeq λ_=> #[])).get? a=some (seqObj "list" #[] l):=#[_,get?_update_seq j (λ_=> #[])];refine be (acf r rfl ?_);refine be (wpAny_newTuple ?_ (by show c.length<=_;lia))
 refine be (aa8 ?_ (fm _));refine KM ?_
 have t:(((s.heap.update a (Obj.mapSeq λ_=> #[])).push (seqObj "tuple" c.toArray 0)).push (seqObj "list" #[] 0)).get? a=some (seqObj "list" #[] l):=by
  rw[aa2 _ _ _ (by rw[aaY,aaN];exact bV (rK q)),aa2 _ _ _ (by rw[aaN];exact bV q)]
  exact r
 show wpAny (model prog w) A _ P E {s with heap:=((s.heap.update a (Obj.mapSeq λ_=> #[])).push (seqObj "tuple" c.toArray 0)).push (seqObj "list" #[] 0)}
 have u:Keeps s0 {s with heap:=((s.heap.update a (Obj.mapSeq λ_=> #[])).push (seqObj "tuple" c.toArray 0)).push (seqObj "list" #[] 0)}:=λb o e=>by
  obtain⟨B,F⟩:=k b o e;refine tz _ (tz _ ?_);rw[abv _ _ _ _ B];exact F
 dsimp only;have X:c.toArray.size=c.length:=by simp
 have x:¬c.toArray.size<2:=by lia
 rw[ir x,ir x];refine be (z _ _ _ u ?_);have g:(c.toArray.zip c.toArray).size=c.length:=by rw[<-cD,vx,aG]
 refine be (wpAny_mono (wpS_sortRuns (C _ _ u) (st:=SortSt.mk' k0 (c.toArray.zip c.toArray) #[] 7 none)
   (Q:=λ_ f=>(arrOf f).Perm (c.toArray.zip c.toArray)/\failedOf f=none/\jV O key (arrOf f) 0 (c.toArray.zip c.toArray).size)
   #[λp i=>?_,rfl] rfl rfl (by show 1<=(c.toArray.zip c.toArray).size;lia) λf G H I=>#[G,H,I]) ?_ λ_ _ e=>e)
 .have y:p∈(c.toArray.zip c.toArray).toList:=i
  rw[vx] at y;obtain⟨v,J,rfl⟩:=aX.mp y;exact mem v J
 rintro⟨⟨⟩,f⟩ d ⟨rfl,i,L,M⟩;dsimp only;have N:(arrOf f).size=c.length:=by rw[i.size_eq,g]
 refine be (acf t rfl ?_);refine be (abN t rfl ?_ (fm _) (by rw[Array.size_map];lia))
 rw[L];simp only[abQ,fk,M2];refine mo (h (arrOf f) ?_ ?_)
 .rw[<-vx];exact C6.mp i
 .refine QY ?_
  rw[i.size_eq];exact M
theorem E5(j:s.heap.IsList l a.toArray)(k:2<=a.length)(n:a.length<=1000)
  (p:∀(E:Value->Shared->Prop)(c:Shared)(g:SortKind->Shared->Prop),Keeps s c->g k0 c->wpAny (model prog w) A.in1.in1 (keyKind' a.toArray) g E c)
  (C:∀(E:Value->Shared->Prop)(c:Shared),Keeps s c->iw O key S k0 (model prog w) A.in1.in1 E c) (mem:∀v∈a,S (v,v))
  (h:∀out:Array Keyed,out.toList.Perm (a.map λv=>(v,v))->out.toList.Pairwise (LE O key)->Q (.ref (s.heap.objs.size+1)) {s with heap:=sortedAll s.heap a (out.map (·.2))}):
  wpAny (model prog w) A (call (.builtin "sorted") [.ref l]) Q E s:=by
 have u:1000<sizeLine:=by decide
 refine aaR kind_sorted acx acy (acz _) ?_;unfold Builtin.«sorted»;refine be (m:=checkCount "sorted" 1 1 _) (mo ?_);refine be (acA j ?_ (by lia))
 refine be (aa8 ?_ (by show a.length<=_;lia))
 have d:((s.heap.push (seqObj "list" #[] 0)).update s.heap.objs.size (Obj.mapSeq (·++a.toArray))).objs.size=s.heap.objs.size+1:=by
  rw[aaN,aaY]
 have i:(((s.heap.push (seqObj "list" #[] 0)).update s.heap.objs.size (Obj.mapSeq (·++a.toArray))).push (seqObj "list" a.toArray 0)).get? (s.heap.objs.size+1)=some (seqObj "list" a.toArray 0):=by
  rw[<-d];exact GE _ rfl
 have keep:∀b o,s.heap.get? b=some o->(((s.heap.push (seqObj "list" #[] 0)).update s.heap.objs.size (Obj.mapSeq (·++a.toArray))).push (seqObj "list" a.toArray 0)).get? b=some o:=λb o q=>by
  have f:b<s.heap.objs.size:=FB q;rw[aa2 _ _ _ (by rw[d];exact bV (rK f)),abv _ _ _ _ (bV f),aa2 _ _ _ (bV f)]
  exact q
 show wpAny _ _ _ _ _ {s with heap:=((s.heap.push (seqObj "list" #[] 0)).update s.heap.objs.size (Obj.mapSeq (·++a.toArray))).push (seqObj "list" a.toArray 0)}
 rw[d];refine be (KM (SB slot_list_sort #[_,i,rfl] entry_list_sort (pB (s0:=s) i k n (λ_ _ _ _=>trivial) (λb o e=>#[bV (rK (FB e)),keep b o e]) p C mem λout r t=>#[_,rfl,?_]) (aby _)));exact mo #[_,rfl,h out r t]
end
end TS
namespace L2
open PySem PySem.Spec PyProof.Rows
def lexOrd:KeyOrd where
 α:=Nat×Nat
 blt:=kv
 irrefl:=λa=>by unfold kv;rw[ls rfl];simp
 trans:=λa b c d e=>MY _ _ _ d e
 negTrans:=λa b c h=>J2 _ _ _ h
 total:=λa b d e=>Wb.qE (yB e) (yB d)
def keyOf(L:List (Addr×(Nat×Nat)))(v:Keyed):Nat×Nat:=match v.1 with
 | .ref a=>((L.find? λe=>e.1==a).map (·.2)).getD (0,0)
 |_=>(0,0)
theorem GI(h:u9 k=u9 b):k=b:=by
 unfold u9 at h
 injection h with c a
 injection a with a _
 injection c with c
 injection a with a
 exact PP (by lia) (by lia)
theorem mR(c:xB H L)(d:e∈L)(v:Value):keyOf L (.ref e.1,v)=e.2:=by
 unfold keyOf;dsimp only;cases b:L.find? λx=>x.1==e.1 with
 |none=>exact absurd (zO.mp b e d) (by simp)
 |some x=>
  have f:=HA b;have g:=ab4 b;have h:x.1=e.1:=by simpa using g
  have a:=c x f;have i:=c e d;rw[h,i] at a
  injection a with a
  injection a with a
  exact(GI a).symm
theorem iN [DecidableEq a] (f:a->b):∀(l:List b)(L:List a),l.Perm (L.map f)->∃M:List a,M.Perm L/\l=M.map f
 | [],L,h=>by
  have:=h.length_eq
  rw[aG] at this
  have:L= []:=zH.mp this.symm
  subst this;exact#[[], .refl _,rfl]
 |x::r,L,h=>by
  obtain⟨e,d,rfl⟩:=aX.mp (h.mem_iff.mp bB);have c:=List.perm_cons_erase d;have g:(f e::r).Perm (f e::(L.erase e).map f):=h.trans (c.map f);obtain⟨M,i,rfl⟩:=iN f r (L.erase e) ((List.perm_cons _).mp g);exact#[e::M,(i.cons e).trans c.symm,rfl]
section
variable {X:Cx}
theorem we{L:List (Addr×(Nat×Nat))}(I:Inv X d R H s)(C:xB H L)(hz:L.length<=1000)
  (U:∀(J:List Value->Shared->Prop),(∀Y tk,s.heap.objs.size<=Y.objs.size->(∀b o,s.heap.get? b=some o->Y.get? b=some o)->J (L.map λe=>Value.ref e.1) {s with heap:=Y,toks:=tk})->wpAny (model X.prog X.w) X.A.in1 (collect v) J X.xe s)
  (q:∀(q:Addr)(M:List (Addr×(Nat×Nat))),H q=none->M.Perm L->(M.map (·.2)).Pairwise Wb.lexLe->Q (.ref q) (upd H q (.lst (M.map λe=>V.ref e.1)))):
  wpAny (model X.prog X.w) X.A (call (.builtin "sorted") [v]) (EP X d R Q) X.xe s:=by
 have cc:1000<sizeLine:=by decide
 refine aaR kind_sorted acx acy (acz _) ?_;unfold Builtin.«sorted»;refine be (m:=checkCount "sorted" 1 1 _) (mo (be (U _ λk Ow XS Z=>be (aa8 ?_ (by rw[aG];lia)))))
 have E:(k.push (seqObj "list" (L.map λe=>Value.ref e.1).toArray 0)).get? k.objs.size=some (seqObj "list" (L.map λe=>Value.ref e.1).toArray 0):=GE _ rfl;have UA:∀b o,s.heap.get? b=some o->b<k.objs.size:=λb o e=>FB (Z b o e)
 have fin:∀(M:List (Addr×(Nat×Nat)))(out:Array Value),M.Perm L->(M.map (·.2)).Pairwise Wb.lexLe->out.toList=M.map (λe=>Value.ref e.1)->EP X d R Q (.ref k.objs.size) {s with heap:=sortedHeap (k.push (seqObj "list" (L.map λe=>Value.ref e.1).toArray 0)) k.objs.size (L.map λe=>Value.ref e.1) out,toks:=Ow}:=λM out r ms F=>by
  obtain⟨c,G⟩:=sortedHeap_at (out:=out) E;refine#[.ref k.objs.size,_,I.laid (t':=Ow) (λb o e=>?_) XS (o:= .lst (M.map λe=>V.ref e.1)) #[by rw[aG,r.length_eq];lia,out.toList,c,?_,by rw[Array.toArray_toList];exact G],rfl,q _ M (I.hok.fresh XS) r ms]
  .rw[sortedHeap_old (bV (UA b o e)) (by rw[aaY];exact rK (UA b o e))]
   exact tz _ (Z b o e)
  .rw[F,show(λe:Addr×(Nat×Nat)=>V.ref e.1)=V.ref∘(·.1) from rfl,show(λe:Addr×(Nat×Nat)=>Value.ref e.1)=Value.ref∘(·.1) from rfl,<-b9,<-b9]
   exact sD _
 by_cases h2:L.length<2
 .refine be (KM (SB slot_list_sort #[_,E,rfl] entry_list_sort (KS.wd E (by rw[aG];exact h2) #[_,rfl,mo #[_,rfl,fin L _ (.refl _) ?_ rfl]]) (aby _)))
  match L,h2 with
  | [],_=>exact .nil
  | [_],_=>exact C8 _ _
 .have tup:∀e∈L,∀j:Shared,TS.Keeps s j->∃t u,IsTup j.heap e.1 [.int (e.2.1:Nat) t, .int (e.2.2:Nat) u].toArray:=λe he j B=>by
   refine ag λG0 k0=>?_;obtain⟨t,u,o,F,G,n,hd⟩:=Kf I (C e he);refine k0 ?_;exact#[t,u,o,B _ _ F,G,n,hd]
  refine be (KM (SB slot_list_sort #[_,E,rfl] entry_list_sort (TS.pB (s0:=s) (O:=lexOrd) (key:=keyOf L) (S:=λp=>∃e∈L,p=(Value.ref e.1,Value.ref e.1)) (k0:=tuples' true) E (by rw[aG];lia) (by rw[aG];lia) (λ_ _ _ _=>trivial) (λb o e=>#[bV (UA b o e),tz _ (Z b o e)]) (λE' j J B hq=>?_) (λE' j B x y st J sx sy hk hq=>?_) (λv l=>?_) λout oZ An=>#[_,rfl,mo #[_,rfl,?_]]) (aby _)))
  .have go:∀(M:List (Addr×(Nat×Nat))),(∀e∈M,e∈L)->∃fs:List Value,PySem.W.KatTups j.heap (M.map λe=>Value.ref e.1) fs/\fs.length=M.length/\∀v∈fs,∃i t,v= .int i t:=by
    intro M
    induction M with
    |nil=>exact λ_=>#[[],PySem.W.KatTups.nil,rfl,λv l=>by cases l]
    |cons e M ih=>
     intro hM;refine ag λG0 k0=>?_;obtain⟨fs,a,b,c⟩:=ih λx hx=>hM x (bP _ hx);obtain⟨t,u,o,F,G,n,hd⟩:=tup e (hM e bB) j B;refine k0 ?_;refine#[.int (e.2.1:Nat) t::fs,PySem.W.KatTups.cons F G hd rfl a,by simp[b],λv l=>?_]
     rcases bo.mp l with z|z
     .exact#[_,_,z]
     .exact c v z
   obtain⟨fs,kt,kl,ki⟩:=go L λ_ h=>h;refine PySem.W.kat_kind (T:= .type "int") kt (by lia) (λv l=>by obtain⟨i,t,rfl⟩:=ki v l;exact .now) (by decide) ?_
   have hb:(Value.type "int" !=Value.type "tuple")=true:=by decide
   rw[hb];exact hq
  .obtain⟨f,N,rfl⟩:=sx
   obtain⟨g,P,rfl⟩:=sy;rw[lt'_eq];refine AC (aaP ?_);rw[hk];refine ag λG0 k0=>?_;obtain⟨t1,t2,k1⟩:=tup f N j B;obtain⟨u1,u2,k2⟩:=tup g P j B;refine k0 ?_;refine AC (abb (abO (PM k1 k2 #[rfl,?_])))
   have eb:(if ((f.2.1:Nat):Int)=((g.2.1:Nat):Int) then decide (((f.2.2:Nat):Int)<((g.2.2:Nat):Int)) else decide (((f.2.1:Nat):Int)<((g.2.1:Nat):Int)))=lexOrd.blt (keyOf L (.ref f.1, .ref f.1)) (keyOf L (.ref g.1, .ref g.1)):=by
    rw[mR C N,mR C P];show _=kv f.2 g.2;unfold kv;simp only[Int.ofNat_inj,Int.ofNat_lt]
   rw[eb];exact Fk hq
  .obtain⟨e,he,rfl⟩:=aX.mp l
   exact#[e,he,rfl]
  .rw[b9] at oZ
   obtain⟨M,r,em⟩:=iN (λe:Addr×(Nat×Nat)=>((Value.ref e.1,Value.ref e.1):Keyed)) out.toList L oZ;refine fin M _ r ?_ (by rw[Array.toList_map,em,b9];rfl)
   rw[em,iV] at An;rw[iV];refine aar ?_ An;intro f g N P hle;have Ee:kv (keyOf L (.ref g.1, .ref g.1)) (keyOf L (.ref f.1, .ref f.1))=false:=hle;rw[mR C (r.mem_iff.mp N),mR C (r.mem_iff.mp P)] at Ee;exact yB Ee
theorem Af:cB X (.builtin "sorted") (λc H Q=>∃(p:Addr)(L:List (Addr×(Nat×Nat))),c= [.ref p]/\cY X.K H p (L.map λe=>V.ref e.1)/\xB H L/\L.length<=1000/\
  ∀(q:Addr)(M:List (Addr×(Nat×Nat))),H q=none->M.Perm L->(M.map (·.2)).Pairwise Wb.lexLe->Q (.ref q) (upd H q (.lst (M.map λe=>V.ref e.1)))):=by
 intro d s n H c us Q I f h;rfl';obtain⟨p,L,rfl,i,j,k,q⟩:=h;obtain⟨u,rfl,l⟩:=f.one;subst l;obtain⟨a,r,pl,_⟩:=I.list i
 have m:a=L.map λe=>Value.ref e.1:=by
  have:=nq (as:=L.map (·.1)) (us:=a) (by rw[b9];exact r)
  rw[this,b9];rfl
 have v:1000<sizeLine:=by decide
 ac_rfl;subst m;refine we I j k (λw h=>acA pl.isList (h _ _ ?_ λb o e=>?_) (by rw[aG];lia)) q
 .rw[aaN,aaY];exact nF _
 .rw[abv _ _ _ _ (bV (FB e))];exact tz _ e
end
section
open PySem.SeqAt
open PySem.AutoSeq1 (wpAny_loadPart')
open PySem.MeetsSeq PySem.MeetsSeq2 PySem.MeetsSeq3
theorem Em{c:List Value}{d:List Int}(h:IntsAre c d){i:Nat}{a:Int}(e:d[i]? =some a):∃t,c[i]? =some (.int a t):=by
 induction h generalizing i with
 |nil=>simp at e
 |cons b t _ f=>
  cases i with
  |zero=>simp at e;subst e;exact#[t,rfl]
  |succ i=>simp at e;obtain⟨u,g⟩:=f e;exact#[u,by simpa using g]
theorem M5(l b:Addr)(a j:Array Value)(n G:Nat)(H I:Option Addr)(J L:Array (Option Value))(m f:List Int)(C:IntsAre a.toList m)(E:IntsAre j.toList f)(k:Nat):
  ∀i:Nat,a.size-i=k->i<=a.size->i<=j.size->Meets (Builtin.«list.__eq__.loop» #[[.ref l, .ref b,rawInt i,rawInt 0],[]])
   (λA R s=>s.heap.get? l=some {cls:= .type "list",dict:=H,data:= .seq a n,slots:=J}/\s.heap.get? b=some {cls:= .type "list",dict:=I,data:= .seq j G,slots:=L}/\
    R (.ok (.ret (.bool (HT.lexLt (m.drop i) (f.drop i))))) s):=by
 have Z:a.size=m.length:=by rw[<-C.length];simp
 have z2:j.size=f.length:=by rw[<-E.length];simp
 induction k with
 |zero=>
  intro i M N O prog w A R s h;obtain⟨x,g,d,y,os⟩:=s;obtain⟨o,p,h⟩:=h
  wp_walk using wpAny_loadPart' o,wpAny_loadPart' p
  have r:a[((i:Nat):Int).toNat]? =none:=by simp;lia
  rw[r];have P:m.drop i= []:=zI (by lia)
  rw[P] at h
  have Q:HT.lexLt [] (f.drop i)=decide (a.size<j.size):=by
   by_cases c:i<f.length
   .rw[nZ c,HT.wN]
    exact(FM (by lia)).symm
   .rw[zI (by lia),HT.yC]
    exact(GM (by lia)).symm
  rw[Q] at h
  wp_walk using wpAny_loadPart' o,wpAny_loadPart' p
  exact h
 |succ k S=>
  intro i M N O prog w A R s h;obtain⟨x,g,d,y,os⟩:=s;obtain⟨o,p,h⟩:=h
  wp_walk using wpAny_loadPart' o,wpAny_loadPart' p
  have z:i<m.length:=by lia
  obtain⟨t,T⟩:=Em C (b8 z);have r:a[((i:Nat):Int).toNat]? =some (.int m[i] t):=by rw[wu,<-eW];exact T
  have U:((i:Int)+1)=((i+1:Nat):Int):=by push_cast;rfl
  rw[r]
  by_cases c:i<f.length
  .obtain⟨u,X⟩:=Em E (b8 c)
   have v:j[((i:Nat):Int).toNat]? =some (.int f[i] u):=by rw[wu,<-eW];exact X
   rw[v];rw[nZ z,nZ c,HT.k8] at h;obtain⟨e,Y,F⟩:=HT.JA A.in1 #[x,g,d,y,os] m[i] t f[i] u;refine be (Y prog w _ _ ?_);cases e with
   |true=>
    rw[ls (F.mp rfl)] at h
    wp_walk
    rw[U]
    exact#[aaB abP _,aao entry_eq_loop (by
     rw[Wp abP _];exact S (i+1) (by lia) (by lia) (by lia) prog w A R _ #[o,p,h])]
   |false=>
    rw[ir (λq=>absurd (F.mpr q) dD)] at h
    wp_walk using wpAny_loadPart' o,wpAny_loadPart' p
    rw[r,v];have B:=HT.Kv A.in1 #[x,g,d,y,os] m[i] t f[i] u prog w
    wp_walk using B
    exact h
  .have v:j[((i:Nat):Int).toNat]? =none:=by simp;lia
   rw[v];rw[nZ z,zI (show f.length<=i by lia),HT.wM] at h
   wp_walk using wpAny_loadPart' o,wpAny_loadPart' p
   show R (.ok (.ret (.bool (decide (a.size<j.size))))) _;rw[GM (by lia)]
   exact h
end
section
open PySem.SeqAt
open PySem.AutoSeq1 (wpAny_loadPart')
open PySem.MeetsSeq PySem.MeetsSeq2 PySem.MeetsSeq3
theorem Ap(l b:Addr)(a c:Array Value)(n i:Nat)(j k:Option Addr)(m o:Array (Option Value))(e f:List Int)(r:IntsAre a.toList e)(t:IntsAre c.toList f):
  Meets (Builtin.«list.__lt__» #[[.ref l, .ref b],[]])
   (λ_ R s=>s.heap.get? l=some {cls:= .type "list",dict:=j,data:= .seq a n,slots:=m}/\s.heap.get? b=some {cls:= .type "list",dict:=k,data:= .seq c i,slots:=o}/\
    R (.ok (.ret (.bool (HT.lexLt e f)))) s):=by
 intro prog w A R s h;obtain⟨u,g,d,v,os⟩:=s;obtain⟨p,q,h⟩:=h;have x:=AutoSeq1.sub_list_list
 wp_walk using wpAny_loadPart' p,wpAny_loadPart' q
 exact#[aaB abP _,aao entry_eq_loop (by
  rw[Wp abP _];exact M5 l b a c n i j k m o e f r t _ 0 rfl (fm _) (fm _) prog w A R _ #[p,q,h])]
end
section
variable {prog:Program} {w:World} {A:Around} {E:Value->Shared->Prop} {s:Shared}
theorem EI(o:s.heap.IsList l a)(p:s.heap.IsList b d)(q:IntsAre a.toList e)(r:IntsAre d.toList f)(t:A.units<cLine)
  (h:Q (HT.lexLt e f) s):wpAny (model prog w) A (oneLt' true (.ref l) (.ref b)) Q E s:=by
 rfl';obtain⟨⟨v,x,i,y⟩,g,j,n,k⟩:=id o;obtain⟨⟨I,z,data2,B⟩,C,m,G,c⟩:=id p;ac_rfl;simp only at j k m c;subst j k m c;rw[oneLt'_eq];simp only[aax];refine be (wpAny_cRoomFor t ?_);refine be (wpAny_callSpecialIfBound?_slot #[_,g,rfl] PySem.F.slot_list_lt (aaM PySem.F.slot_list_lt #[_,g,rfl] PySem.F.entry_list_lt (PySem.F.args_list_lt_2 _ _) (Ap l b a d n G x z y B e f q r) #[g,C,?_]));exact SL h
end
theorem Ex:∀a:List Int,HT.lexLt a a=false
 | []=>rfl
 |x::b=>by rw[HT.k8,ls rfl];exact Ex b
theorem Ci:∀a b c:List Int,HT.lexLt a b=true->HT.lexLt b c=true->HT.lexLt a c=true
 | [],[],_,h,_=>by cases h
 | [],_::_,[],_,h=>by cases h
 | [],_::_,_::_,_,_=>rfl
 |_::_,[],_,h,_=>by cases h
 |_::_,_::_,[],_,h=>by cases h
 |x::i,y::j,z::k,g,e=>by
  rw[HT.k8] at*
  by_cases f:x=y
  .rw[ls f] at g
   by_cases d:y=z
   .rw[ls d] at e
    rw[ls (f.trans d)];exact Ci i j k g e
   .rw[ir d] at e
    rw[ir (by rw[f];exact d),f];exact e
  .rw[ir f] at g
   have l:=KF g
   by_cases d:y=z
   .rw[ir (by rw[<-d];exact f),<-d];exact g
   .rw[ir d] at e
    have m:=KF e;rw[ir (by lia)]
    exact FM (by lia)
theorem tP:∀a b:List Int,HT.lexLt a b=false->HT.lexLt b a=false->a=b
 | [],[],_,_=>rfl
 | [],_::_,h,_=>by cases h
 |_::_,[],_,h=>by cases h
 |x::f,y::g,c,d=>by
  rw[HT.k8] at*
  by_cases e:x=y
  .rw[ls e] at c
   rw[ls e.symm] at d;rw[e,tP f g c d]
  .rw[ir e] at c
   rw[ir (λz=>e z.symm)] at d
   have:=On c
   have:=On d
   lia
theorem MZ(a b c:List Int)(h:HT.lexLt a c=true):HT.lexLt a b=true\/HT.lexLt b c=true:=by
 cases e:HT.lexLt a b with
 |true=>exact .inl rfl
 |false=>
  right
  cases d:HT.lexLt b a with
  |true=>exact Ci _ _ _ d h
  |false=>rw[<-tP a b e d];exact h
def M3:KeyOrd where
 α:=List Int
 blt:=HT.lexLt
 irrefl:=Ex
 trans:=Ci
 negTrans:=MZ
 total:=tP
def kR(r:List Nat):List Int:=r.map λ(n:Nat)=>(n:Int)
def mr(a b:List Nat):Prop:=HT.lexLt (kR b) (kR a)=false
def Fx(H:Hp)(L:List (Addr×List Nat)):Prop:=∀p∈L,H p.1=some (.lst ((kR p.2).map V.int))
theorem Fe(h:(kR a).map V.int=(kR b).map V.int):a=b:=by
 unfold kR at h;rw[b9,b9] at h
 induction a generalizing b with
 |nil=>cases b with
  |nil=>rfl
  |cons y b=>simp at h
 |cons x a d=>
  cases b with
  |nil=>simp at h
  |cons y b=>
   rw[bT,bT] at h
   injection h with e f
   have c:V.int (x:Int)=V.int (y:Int):=e
   injection c with c
   rw[d f,show x=y by lia]
def rZ(L:List (Addr×List Nat))(v:Keyed):List Int:=match v.1 with
 | .ref a=>((L.find? λe=>e.1==a).map λe=>kR e.2).getD []
 |_=> []
theorem mQ(c:Fx H L)(d:e∈L)(v:Value):rZ L (.ref e.1,v)=kR e.2:=by
 unfold rZ;dsimp only;cases b:L.find? λx=>x.1==e.1 with
 |none=>exact absurd (zO.mp b e d) (by simp)
 |some x=>
  have f:=HA b;have g:=ab4 b;have h:x.1=e.1:=by simpa using g
  have a:=c x f;have i:=c e d;rw[h,i] at a
  injection a with a
  injection a with a
  show kR x.2=kR e.2;rw[Fe a]
section
variable {X:Cx}
theorem xM(hu:X.A.units+64<cLine):cB X (.builtin "sorted") (λR H Q=>∃(p:Addr)(L:List (Addr×List Nat)),R= [.ref p]/\cY X.K H p (L.map λe=>V.ref e.1)/\Fx H L/\L.length<=1000/\
  ∀(q:Addr)(M:List (Addr×List Nat)),H q=none->M.Perm L->(M.map (·.2)).Pairwise mr->Q (.ref q) (upd H q (.lst (M.map λe=>V.ref e.1)))):=by
 intro U s σ H R us Q I rv h;refine ag λY k0=>?_;obtain⟨p,L,rfl,hp,l,hz,q⟩:=h;obtain⟨u,rfl,ru⟩:=rv.one;subst ru;obtain⟨d,r,pl,_⟩:=I.list hp;have hl:=r.length;rw[aG] at hl;have cc:1000<sizeLine:=by decide
 refine k0 ?_
 have C:d=L.map λe=>Value.ref e.1:=by
  have:=nq (as:=L.map (·.1)) (us:=d) (by rw[b9];exact r)
  rw[this,b9];rfl
 by_cases h2:L.length<2
 .refine KS.Ax pl.isList (by lia) ?_
  obtain⟨e,g⟩:=acw s.heap d d.toArray;have E:H (s.heap.objs.size+1)=none:=I.hok.fresh (nF _);refine#[.ref (s.heap.objs.size+1),_,I.laid (t':=s.toks) (λb o F=>acr F) (nF _) (o:= .lst (L.map λe=>V.ref e.1)) #[by rw[aG];lia,d,e,r,g],rfl,q _ L E (.refl _) ?_]
  match L,h2 with
  | [],_=>exact .nil
  | [_],_=>exact C8 _ _
 .have lst:∀e∈L,∀f:Shared,TS.Keeps s f->∃a:Array Value,f.heap.IsList e.1 a/\IntsAre a.toList (kR e.2):=λe g f k=>by
   refine ag λY k0=>?_;obtain⟨G,r2,p2,_⟩:=I.list (cY.of (l e g));obtain⟨o,J,m,n,hd⟩:=p2.isList;refine k0 ?_;exact#[G.toArray,#[o,k _ _ J,m,n,hd],by simpa using intsAre_of r2]
  refine TS.E5 (O:=M3) (key:=rZ L) (S:=λp=>∃e∈L,p=(Value.ref e.1,Value.ref e.1)) (k0:=oneType') pl.isList (by lia) (by lia) (λE' f Q' k N=>?_) (λE' f k x y st Q' sx sy hk N=>?_) (λv t=>?_) λout Z An=>?_
  .refine PySem.W.kas_kind (T:= .type "list") (by lia) (λv t=>?_) (by decide) (by decide) N
   rw[C] at t;obtain⟨e,g,rfl⟩:=aX.mp t;obtain⟨a,⟨o,J,m,_⟩,_⟩:=lst e g f k;rw[<-m];exact(PySem.W.Looks.ld J).andThen .now
  .obtain⟨i,w,rfl⟩:=sx
   obtain⟨j,z,rfl⟩:=sy;rw[lt'_eq];refine AC (aaP ?_);rw[hk,keyLt'_oneType];refine ag λY k0=>?_;obtain⟨i1,l1,n1⟩:=lst i w f k;obtain⟨i2,l2,n2⟩:=lst j z f k;refine k0 ?_;refine AC (abb (abO (EI l1 l2 n1 n2 ?_ #[rfl,?_])))
   .rw[Around.in1_units,Around.in1_units];lia
   .have eb:HT.lexLt (kR i.2) (kR j.2)=M3.blt (rZ L (.ref i.1, .ref i.1)) (rZ L (.ref j.1, .ref j.1)):=by
     rw[mQ l w,mQ l z];rfl
    rw[eb];exact Fk N
  .rw[C] at t
   obtain⟨e,g,rfl⟩:=aX.mp t;exact#[e,g,rfl]
  .rw[C,b9] at Z
   obtain⟨M,B,em⟩:=iN (λe:Addr×List Nat=>((Value.ref e.1,Value.ref e.1):Keyed)) out.toList L Z
   have Xr:(out.map (·.2)).toList=M.map λe=>Value.ref e.1:=by
    rw[Array.toList_map,em,b9];rfl
   obtain⟨c,m⟩:=acw s.heap d (out.map (·.2));have E:H (s.heap.objs.size+1)=none:=I.hok.fresh (nF _);have Pu:=B.length_eq;refine#[.ref (s.heap.objs.size+1),_,I.laid (t':=s.toks) (λb o F=>acr F) (nF _) (o:= .lst (M.map λe=>V.ref e.1)) #[by rw[aG];lia,(out.map (·.2)).toList,c,?_,by rw[Array.toArray_toList];exact m],rfl,q _ M E B ?_]
   .rw[Xr,show(λe:Addr×List Nat=>V.ref e.1)=V.ref∘(·.1) from rfl,show(λe:Addr×List Nat=>Value.ref e.1)=Value.ref∘(·.1) from rfl,<-b9,<-b9]
    exact sD _
   .rw[em,iV] at An
    rw[iV];refine aar ?_ An;intro i j w z P;have Ee:HT.lexLt (rZ L (.ref j.1, .ref j.1)) (rZ L (.ref i.1, .ref i.1))=false:=P;rw[mQ l (B.mem_iff.mp w),mQ l (B.mem_iff.mp z)] at Ee;exact Ee
end
end L2
namespace PySem.SetTable
def oF(xs:Array Nat):Prop:=∀i j (a:j<xs.size),i<j->xs[i]! <xs[j]!
theorem Mi{a:Array Nat}{i d:Nat}(h:i<a.size):a.getD i d=a[i]! :=by
 simp[Array.getD,h]
theorem ym(R:oF h)(j:Nat):∀(f lo g:Nat),g-lo<=f->lo<=g->g<=h.size->(∀i,i<lo->h[i]! <j)->(∀i,g<=i->i<h.size->j<=h[i]!)->
  lo<=below.go h j f lo g/\below.go h j f lo g<=g/\(∀i,i<below.go h j f lo g->h[i]! <j)/\∀i,below.go h j f lo g<=i->i<h.size->j<=h[i]!
 |0,lo,g,m,n,k,a,b=>by
  have:lo=g:=by lia
  subst this;rw[below.go];exact#[bb _,bb _,a,b]
 |f+1,lo,g,m,n,k,a,b=>by
  rw[below.go]
  by_cases c:lo<g
  .rw[ls c]
   have l:(lo+g) / 2<h.size:=by lia
   dsimp only;rw[Mi l]
   by_cases d:h[(lo+g) / 2]! <j
   .rw[ls d]
    have:=ym R j f ((lo+g) / 2+1) g (by lia) (by lia) k (λi p=>by
     by_cases e:i=(lo+g) / 2
     .rw[e];exact d
     .have:=R i ((lo+g) / 2) l (by lia);lia) b
    exact#[by lia,this.2.1,this.2.2]
   .rw[ir d]
    have:=ym R j f lo ((lo+g) / 2) (by lia) (by lia) (by lia) a (λi q o=>by
     by_cases e:i=(lo+g) / 2
     .rw[e];lia
     .have:=R ((lo+g) / 2) i o (by lia);lia)
    exact#[this.1,by lia,this.2.2]
  .rw[ir c]
   have:lo=g:=by lia
   subst this;exact#[bb _,bb _,a,b]
theorem jt{xs:Array Nat}(R:oF xs)(j:Nat):below xs j<=xs.size/\(∀i,i<below xs j->xs[i]! <j)/\∀i,below xs j<=i->i<xs.size->j<=xs[i]! :=by
 have:=ym R j xs.size 0 xs.size (by lia) (fm _) (bb _) (λi h=>by lia) (λi a b=>by lia)
 exact#[this.2.1,this.2.2]
theorem below_at(R:oF a)(h:a[i]? =some j):below a j=i:=by
 obtain⟨b,e⟩:=Bu.mp h;have g:a[i]! =j:=by simp[b,e]
 obtain⟨k,d,f⟩:=jt R j;apply Nat.le_antisymm
 .apply Da
  intro c
  have:=d i (by lia)
  lia
 .apply Da
  intro c;have l:=f (below a j) (bb _) (by lia)
  have m:=R (below a j) i b (by lia)
  lia
theorem sH{t:SetTable}(R:oF t.place)(h:t.place[i]? =some j):t.slot j= .live i:=by
 unfold slot;rw[below_at R h];simp[h]
theorem E4{t:SetTable}(R:oF t.place)(a:t.dummies= #[])(h:∀i:Nat,t.place[i]? ≠some j):t.slot j= .empty:=by
 unfold slot
 have b:(t.place[below t.place j]? ==some j)=false:=by
  rw[aav];exact h _
 dsimp only;rw[ir (by rw[b];exact dD)]
 unfold has;rw[a];rfl
def om(mask:Nat)(p:Probe):Probe:=
 if p.more>0 then {p with j:=p.j+1,more:=p.more-1} else
 let (i,perturb):=leap mask p.i p.perturb
 {p with j:=i,more:=runEnd mask i-i,i,perturb}
def bZ(mask:Nat)(h:Int):Probe:={j:=bits h%(mask+1),more:=runEnd mask (bits h%(mask+1))-bits h%(mask+1),i:=bits h%(mask+1),perturb:=bits h,dummy:=none}
def sI(mask:Nat)(h:Int):Nat->Probe
 |0=>bZ mask h
 |k+1=>om mask (sI mask h k)
def cu(mask:Nat)(h:Int)(k:Nat):Nat:=(sI mask h k).j
theorem Li(h:Int):bits h<2^64:=by
 unfold bits;have a:0<=h%(2^64:Int):=ab5 _ (by decide)
 have b:h%(2^64:Int)<2^64:=abI _ (by decide)
 lia
def eV(mask:Nat)(i p:Nat):Nat->Nat×Nat
 |0=>(i,p)
 |r+1=>leap mask (eV mask i p r).1 (eV mask i p r).2
theorem lN(mask i p:Nat):∀r,(eV mask i p r).2=p / 32^r
 |0=>by simp[eV]
 |r+1=>by
  show(eV mask i p r).2 / 32=_;rw[lN mask i p r,Nat.div_div_eq_div_mul,Nat.pow_succ]
def PX(mask:Nat)(i:Nat):Nat:=(i*5+1)%(mask+1)
def k6(mask:Nat)(i:Nat):Nat->Nat
 |0=>i
 |r+1=>PX mask (k6 mask i r)
theorem mh(mask i:Nat)(a:Nat):∀b,k6 mask i (a+b)=k6 mask (k6 mask i a) b
 |0=>rfl
 |b+1=>by
  show PX mask (k6 mask i (a+b))=_;rw[mh mask i a b];rfl
theorem vo{mask i p a:Nat}(h:(eV mask i p a).2=0):∀r,eV mask i p (a+r)=(k6 mask (eV mask i p a).1 r,0)
 |0=>by rw[Nat.add_zero,k6];exact PP rfl h
 |r+1=>by
  show leap mask (eV mask i p (a+r)).1 (eV mask i p (a+r)).2=_;rw[vo h r];unfold leap;simp[k6,PX]
def wz(mask:Nat):Prop:=mask=7\/mask=31\/mask=127\/mask=511
def UU(mask:Nat):Nat->Nat->List Nat
 |_,0=> []
 |i,n+1=>i::UU mask (PX mask i) n
theorem EE{mask s:Nat}:∀{i n:Nat},s∈UU mask i n->∃r,r<n/\k6 mask i r=s
 |i,0,h=>by cases h
 |i,n+1,h=>by
  rcases bo.mp h with rfl|h
  .exact#[0,by lia,rfl]
  .obtain⟨r,a,e⟩:=EE h
   refine#[r+1,by lia,?_]
   have:=mh mask i 1 r
   rw[show 1+r=r+1 by lia] at this
   rw[this];exact e
theorem UW{mask:Nat}(h:wz mask):(∀s,s<=mask->∃r,r<=mask/\k6 mask 0 r=s)/\k6 mask 0 (mask+1)=0:=by
 have key:∀m,(ad (m+1)).all (λs=>(UU m 0 (m+1)).contains s)=true->∀s,s<=m->∃r,r<=m/\k6 m 0 r=s:=λm a s b=>by
  have:=zT.mp a s (dE.mpr (by lia))
  obtain⟨r,c,e⟩:=EE (List.contains_iff_mem.mp this);exact#[r,by lia,e]
 rcases h with rfl|rfl|rfl|rfl
 .exact#[key 7 (by decide+kernel),by decide+kernel]
 .exact#[key 31 (by decide+kernel),by decide+kernel]
 .exact#[key 127 (by decide+kernel),by decide+kernel]
 .exact#[key 511 (by decide+kernel),by decide+kernel]
theorem cover{mask:Nat}(h:wz mask){i s:Nat}(d:i<=mask)(e:s<=mask):∃r,r<=mask/\k6 mask i r=s:=by
 obtain⟨o,per⟩:=UW h;obtain⟨a,f,rfl⟩:=o i d;obtain⟨b,g,rfl⟩:=o s e
 by_cases c:a<=b
 .refine#[b-a,by lia,?_]
  rw[<-mh,show a+(b-a)=b by lia]
 .refine#[mask+1-a+b,by lia,?_]
  rw[<-mh,show a+(mask+1-a+b)=mask+1+b by lia,mh,per]
def cZ(mask:Nat)(p:Probe):Nat->Probe
 |0=>p
 |k+1=>om mask (cZ mask p k)
theorem l5(mask:Nat)(p:Probe)(a:Nat):∀b,cZ mask p (a+b)=cZ mask (cZ mask p a) b
 |0=>rfl
 |b+1=>by
  show om mask (cZ mask p (a+b))=_;rw[l5 mask p a b];rfl
theorem nj(mask:Nat)(h:Int):∀k,sI mask h k=cZ mask (bZ mask h) k
 |0=>rfl
 |k+1=>by
  show om mask _=om mask _;rw[nj mask h k]
theorem uF(mask:Nat)(p:Probe):∀c,c<=p.more->cZ mask p c={p with j:=p.j+c,more:=p.more-c}
 |0,_=>rfl
 |c+1,a=>by
  show om mask (cZ mask p c)=_;rw[uF mask p c (by lia)]
  unfold om;rw[ls (by show p.more-c>0;lia)]
  show({p with j:=p.j+c+1,more:=p.more-c-1}:Probe)={p with j:=p.j+(c+1),more:=p.more-(c+1)}
  rw[show p.more-c-1=p.more-(c+1) by lia,show p.j+c+1=p.j+(c+1) by lia]
def QZ(mask:Nat)(p:Probe)(a:Nat×Nat):Probe:={p with j:=a.1,more:=runEnd mask a.1-a.1,i:=a.1,perturb:=a.2}
theorem more_le(mask i:Nat):runEnd mask i-i<=9:=by
 unfold runEnd
 split<;>lia
theorem rP(mask:Nat)(p:Probe):cZ mask p (p.more+1)=QZ mask p (leap mask p.i p.perturb):=by
 show om mask (cZ mask p p.more)=_;rw[uF mask p p.more (bb _)];unfold om;rw[ir (by show ¬p.more-p.more>0;lia)]
 rfl
theorem xD(mask:Nat)(p:Probe):∀r,∃k,k<=p.more+1+10*r/\cZ mask p k=QZ mask p (eV mask p.i p.perturb (r+1))
 |0=>#[p.more+1,by lia,rP mask p]
 |r+1=>by
  obtain⟨k,a,e⟩:=xD mask p r;have b:=more_le mask (eV mask p.i p.perturb (r+1)).1;refine#[k+((runEnd mask (eV mask p.i p.perturb (r+1)).1-(eV mask p.i p.perturb (r+1)).1)+1),by lia,?_]
  rw[l5,e];exact rP mask (QZ mask p (eV mask p.i p.perturb (r+1)))
theorem E2(mask i p:Nat)(r:Nat):(eV mask i p (r+1)).1<=mask:=by
 show(((eV mask i p r).1*5+1+(eV mask i p r).2 / 32)%(mask+1))<=mask
 have:=jT ((eV mask i p r).1*5+1+(eV mask i p r).2 / 32) (show 0<mask+1 by lia)
 lia
theorem IH{mask i:Nat}(h:i<=mask):i+(runEnd mask i-i)<=mask:=by
 unfold runEnd
 split<;>lia
structure uE (mask:Nat) (p:Probe):Prop where
 le:p.j+p.more<=mask
 more:p.more<=9
 per:p.perturb<2^64
 dum:p.dummy=none
theorem uE.om{mask:Nat}{p:Probe}(o:uE mask p):uE mask (om mask p):=by
 unfold SetTable.om
 split
 .next h=>exact#[by show p.j+1+(p.more-1)<=mask;have:=o.le;lia,by show p.more-1<=9;have:=o.more;lia,o.per,o.dum]
 .refine#[IH (by have:=jT (p.i*5+1+p.perturb / 32) (show 0<mask+1 by lia);show(p.i*5+1+p.perturb / 32)%(mask+1)<=mask;lia),more_le _ _,?_,o.dum]
  show p.perturb / 32<2^64
  have:=o.per
  lia
theorem uE.start(mask:Nat)(h:Int):uE mask (bZ mask h):=#[IH (mask:=mask) (i:=bits h%(mask+1)) (by have:=jT (bits h) (show 0<mask+1 by lia);lia),more_le _ _,Li h,rfl]
theorem uE.cZ{mask:Nat}{p:Probe}(o:uE mask p):∀k,uE mask (cZ mask p k)
 |0=>o
 |k+1=>(o.cZ k).om
theorem meets{mask:Nat}(f:wz mask){p:Probe}(o:uE mask p){s:Nat}(a:s<=mask):∃k,k<10*turns mask/\(cZ mask p k).j=s:=by
 have z:(eV mask p.i p.perturb 13).2=0:=by
  rw[lN];exact Nat.div_eq_of_lt (i5 o.per (by decide))
 obtain⟨r,c,e⟩:=cover f (E2 mask p.i p.perturb 12) a;obtain⟨k,d,b⟩:=xD mask p (12+r);refine#[k,?_,?_]
 .have:=o.more
  unfold turns;lia
 .rw[b]
  show(eV mask p.i p.perturb (12+r+1)).1=s;rw[show 12+r+1=13+r by lia,vo z]
  exact e
theorem Bk(R:oF t.place)(o:t.dummies= #[])(hashAt:Nat->Int)(h:Int):∀(K d:Nat)(p:Probe),p.dummy=none->K<d->(∀i:Nat,t.place[i]? ≠some (cZ t.mask p K).j)->
  ∃e,e<=K/\(∀f,f<e->∃i:Nat,t.place[i]? =some (cZ t.mask p f).j/\hashAt i≠h)/\
   (((∀i:Nat,t.place[i]? ≠some (cZ t.mask p e).j)/\probe.go t hashAt h d p=some (.empty (cZ t.mask p e).j none))\/
    (∃i:Nat,t.place[i]? =some (cZ t.mask p e).j/\hashAt i=h/\probe.go t hashAt h d p=some (.candidate (cZ t.mask p e).j i (cZ t.mask p (e+1)))))
 |K,0,p,_,v,_=>by lia
 |K,d+1,p,q,v,r=>by
  by_cases c:∃i:Nat,t.place[i]? =some p.j
  .obtain⟨i,g⟩:=c
   have s:=sH R g
   by_cases l:hashAt i=h
   .refine#[0,fm _,λf u=>by lia, .inr #[i,g,l,?_]]
    rw[probe.go,s];dsimp only;rw[ls (by simpa using l)]
    rfl
   .cases K with
    |zero=>exact absurd g (r i)
    |succ K=>
     have n:(om t.mask p).dummy=none:=by
      unfold om
      split<;>exact q
     have m:∀k,cZ t.mask (om t.mask p) k=cZ t.mask p (k+1):=λk=>by
      have:=l5 t.mask p 1 k
      rw[show 1+k=k+1 by lia] at this
      exact this.symm
     obtain⟨e,x,a,b⟩:=Bk R o hashAt h K d (om t.mask p) n (by lia) (by rw[m];exact r)
     have w:probe.go t hashAt h (d+1) p=probe.go t hashAt h d (om t.mask p):=by
      rw[probe.go,s];dsimp only;rw[ir (by simpa using l)]
      rfl
     refine#[e+1,by lia,λf u=>?_,?_]
     .cases f with
      |zero=>exact#[i,g,l]
      |succ f=>
       have:=a f (by lia)
       rw[m] at this;exact this
     .rw[m,m] at b
      rw[w];exact b
  .have c:∀i:Nat,t.place[i]? ≠some p.j:=λi g=>c #[i,g]
   refine#[0,fm _,λf u=>by lia, .inl #[c,?_]]
   rw[probe.go,E4 R o c];dsimp only;rw[q];rfl
structure TOk (t:SetTable) (hs:List Int):Prop where
 few:wz t.mask
 dum:t.dummies= #[]
 rise:oF t.place
 size:t.place.size=hs.length
 le:∀(i j:Nat),t.place[i]? =some j->j<=t.mask
 room:t.place.size<=t.mask
 path:∀(i:Nat)(h:Int),hs[i]? =some h->∃k,t.place[i]? =some (cu t.mask h k)/\∀k',k'<k->∃i':Nat,t.place[i']? =some (cu t.mask h k')
theorem CK(mask:Nat)(h:Int)(k:Nat):cu mask h k<=mask:=by
 unfold cu;rw[nj]
 have:=((uE.start mask h).cZ k).le
 lia
theorem TOk.empty(T:TOk t a):∃s,s<=t.mask/\∀i:Nat,t.place[i]? ≠some s:=by
 apply Da;intro c
 have all:∀s∈ad (t.mask+1),s∈t.place.toList:=λs a=>by
  apply Da;intro n;refine c #[s,by have:=dE.mp a;lia,λi b=>n ?_]
  rw[<-eW] at b;exact dM b
 have:=Wb.aF sR all
 rw[n9,cD] at this
 have:=T.room
 lia
theorem TOk.probe(T:TOk t g)(hashAt:Nat->Int)(h:Int)(k:Nat):
  ∃d,k<=d/\(∀e,k<=e->e<d->∃i:Nat,t.place[i]? =some (cu t.mask h e)/\hashAt i≠h)/\
   (((∀i:Nat,t.place[i]? ≠some (cu t.mask h d))/\t.probe hashAt h (sI t.mask h k)=some (.empty (cu t.mask h d) none))\/
    (∃i:Nat,t.place[i]? =some (cu t.mask h d)/\hashAt i=h/\t.probe hashAt h (sI t.mask h k)=some (.candidate (cu t.mask h d) i (sI t.mask h (d+1))))):=by
 obtain⟨s,j,l⟩:=T.empty;have o:=(uE.start t.mask h).cZ k;rw[<-nj] at o;obtain⟨K,m,n⟩:=meets T.few o j;have f:∀c,cZ t.mask (sI t.mask h k) c=sI t.mask h (k+c):=λc=>by rw[nj,nj,<-l5]
 obtain⟨d,p,a,b⟩:=Bk T.rise T.dum hashAt h K (10*turns t.mask) (sI t.mask h k) o.dum m (by rw[n];exact l)
 refine#[k+d,by lia,λe q r=>?_,?_]
 .have:=a (e-k) (by lia)
  rw[f,show k+(e-k)=e by lia] at this
  exact this
 .rw[f,f] at b
  exact b
theorem lK{xs:Array a}(x:a)(e:p<=xs.size)(i:Nat):(insertAt xs p x)[i]? =if i<p then xs[i]? else if i=p then some x else xs[i-1]? :=by
 rw[<-eW,abW];have lt:(xs.toList.take p).length=p:=by rw[gO,cD];lia
 by_cases c:i<p
 .rw[ls c,mI (by lia),C7 c,eW]
 .rw[ir c]
  by_cases d:i=p
  .subst d
   rw[ls rfl,lE (by lia),lt,rO];rfl
  .rw[ir d,lE (by lia),lt]
   obtain⟨m,b⟩:∃m,i-p=m+1:=#[i-p-1,by lia]
   rw[b,uv,vz,eW]
   congr 1;lia
theorem iI(xs:Array a)(p:Nat)(x:a):(insertAt xs p x).size=xs.size+1:=by
 rw[<-cD,(acg xs p x).length_eq];simp
theorem j5{a:Array Nat}{i j:Nat}(h:a[i]? =some j):a[i]! =j:=by
 obtain⟨b,e⟩:=Bu.mp h;simp[b,e]
theorem Kw{xs:Array Nat}(R:oF xs){j:Nat}(h:∀i:Nat,xs[i]? ≠some j):oF (insertAt xs (below xs j) j):=by
 obtain⟨t,w,x⟩:=jt R j;have g:=lK (xs:=xs) j t;intro a b y A;rw[iI] at y
 have m:∀i,i<xs.size+1->∃v,(insertAt xs (below xs j) j)[i]? =some v/\((i<below xs j/\xs[i]? =some v)\/(i=below xs j/\v=j)\/(below xs j<i/\xs[i-1]? =some v)):=λi r=>by
  rw[g i]
  by_cases c:i<below xs j
  .rw[ls c,qq (by lia)]
   exact#[_,rfl, .inl #[c,rfl]]
  .rw[ir c]
   by_cases d:i=below xs j
   .rw[ls d];exact#[j,rfl, .inr (.inl #[d,rfl])]
   .rw[ir d,qq (by lia)]
    exact#[_,rfl, .inr (.inr #[by lia,rfl])]
 obtain⟨G,B,C⟩:=m a (by lia)
 obtain⟨H,E,s⟩:=m b (by lia)
 rw[j5 B,j5 E];have lo:∀i v,i<below xs j->xs[i]? =some v->v<j:=λi v n f=>by have:=w i n;rw[j5 f] at this;exact this
 have r:∀i v,below xs j<=i->xs[i]? =some v->j<v:=λi v n f=>by
  have:=x i n (Bu.mp f).1
  rw[j5 f] at this
  have:v≠j:=λz=>h i (by rw[f,z])
  lia
 have o:∀i k v u,xs[i]? =some v->xs[k]? =some u->i<k->v<u:=λi k v u n f F=>by
  have:=R i k (Bu.mp f).1 F
  rw[j5 n,j5 f] at this;exact this
 rcases C with ⟨q,p⟩ | ⟨q,rfl⟩ | ⟨q,p⟩
 .rcases s with ⟨l,e⟩ | ⟨l,rfl⟩ | ⟨l,e⟩
  .exact o _ _ _ _ p e A
  .exact lo _ _ q p
  .have:=lo _ _ q p;have:=r (b-1) _ (by lia) e;lia
 .rcases s with ⟨l,e⟩ | ⟨l,rfl⟩ | ⟨l,e⟩
  .lia
  .lia
  .exact r (b-1) _ (by lia) e
 .rcases s with ⟨l,e⟩ | ⟨l,rfl⟩ | ⟨l,e⟩
  .lia
  .lia
  .exact o _ _ _ _ p e (by lia)
theorem NS{xs:Array Nat}(R:oF xs){j s:Nat}:(∃i:Nat,(insertAt xs (below xs j) j)[i]? =some s)↔s=j\/∃i:Nat,xs[i]? =some s:=by
 obtain⟨a,_,_⟩:=jt R j;have g:=lK (xs:=xs) j a
 constructor
 .rintro⟨i,h⟩
  rw[g i] at h
  split at h
  .exact .inr #[i,h]
  .split at h
   .exact .inl (Do h).symm
   .exact .inr #[_,h]
 .rintro(rfl| ⟨i,h⟩)
  .exact#[below xs s,by rw[g,ir (by lia),ls rfl]]
  .by_cases c:i<below xs j
   .exact#[i,by rw[g,ls c];exact h]
   .exact#[i+1,by rw[g,ir (by lia),ir (by lia)];exact h]
theorem TOk.put(T:TOk t l)(v:∀i:Nat,t.place[i]? ≠some (cu t.mask h k))(w:∀a,a<k->∃i:Nat,t.place[i]? =some (cu t.mask h a))(room:t.place.size+1<=t.mask):
  (t.put (cu t.mask h k)).2=below t.place (cu t.mask h k)/\below t.place (cu t.mask h k)<=l.length/\
  TOk (t.put (cu t.mask h k)).1 (l.take (below t.place (cu t.mask h k))++h::l.drop (below t.place (cu t.mask h k))):=by
 obtain⟨x,z,A⟩:=jt T.rise (cu t.mask h k);have g:=lK (xs:=t.place) (cu t.mask h k) x;have sz:=T.size;have o:=λs=>NS (s:=s) (j:=cu t.mask h k) T.rise;refine#[rfl,by lia,T.few,?_,Kw T.rise v,?_,?_,?_,?_]
 .show(if has t.dummies _=true then _ else t.dummies)= #[]
  rw[T.dum];rfl
 .show(insertAt t.place _ _).size=_
  rw[iI,cE,gO,bN,qr];lia
 .intro i j p
  have p:(insertAt t.place (below t.place (cu t.mask h k)) (cu t.mask h k))[i]? =some j:=p
  rcases(o j).mp #[i,p] with rfl| ⟨u,e⟩
  .exact CK _ _ _
  .exact T.le _ _ e
 .show(insertAt t.place _ _).size<=_
  rw[iI];exact room
 .intro i e b
  show ∃f,(insertAt t.place (below t.place (cu t.mask h k)) (cu t.mask h k))[i]? =some (cu t.mask e f)/\∀a,a<f->∃u:Nat,(insertAt t.place (below t.place (cu t.mask h k)) (cu t.mask h k))[u]? =some (cu t.mask e a);have lt:(l.take (below t.place (cu t.mask h k))).length=below t.place (cu t.mask h k):=by rw[gO];lia
  by_cases c:i<below t.place (cu t.mask h k)
  .rw[mI (by lia),C7 c] at b
   obtain⟨f,q,r⟩:=T.path i e b;exact#[f,by rw[g,ls c];exact q,λa n=>(o _).mpr (.inr (r a n))]
  .rw[lE (by lia),lt] at b
   by_cases d:i=below t.place (cu t.mask h k)
   .rw[d,rO] at b
    cases(Do b);exact#[k,by rw[d,g,ir (by lia),ls rfl],λa n=>(o _).mpr (.inr (w a n))]
   .obtain⟨m,y⟩:∃m,i-below t.place (cu t.mask h k)=m+1:=#[i-below t.place (cu t.mask h k)-1,by lia]
    rw[y,uv,vz] at b;obtain⟨f,q,r⟩:=T.path _ e b;refine#[f,?_,λa n=>(o _).mpr (.inr (r a n))];rw[g,ir c,ir d,show i-1=below t.place (cu t.mask h k)+m by lia]
    exact q
theorem v3(mask i p:Nat):∀r,eV mask i p (r+1)=eV mask (leap mask i p).1 (leap mask i p).2 r
 |0=>rfl
 |r+1=>by
  show leap mask (eV mask i p (r+1)).1 (eV mask i p (r+1)).2=_;rw[v3 mask i p r];rfl
def Own(o:Array (Option Nat))(s:Nat):Prop:=(o.getD s (some 0)).isNone=false
theorem yh{mask:Nat}(e:Array (Option Nat)):∀(f:Nat)(p:Probe),p.j=p.i->p.more=runEnd mask p.i-p.i->p.i<=runEnd mask p.i->(∃r,r<f/\¬Own e (eV mask p.i p.perturb r).1)->
  ∃h,layClean.free mask e f p.i p.perturb=some (cZ mask p h).j/\¬Own e (cZ mask p h).j/\∀g,g<h->Own e (cZ mask p g).j
 |0,p,_,_,_,#[r,u,_]=>by lia
 |f+1,p,v,C,E,#[r,u,q]=>by
  have run:∀c,c<=p.more->(cZ mask p c).j=p.i+c:=λc t=>by rw[uF mask p c t];show p.j+c=_;rw[v]
  cases l:(ad (runEnd mask p.i+1-p.i)).find? λk=>(e.getD (p.i+k) (some 0)).isNone with
  |some k=>
   obtain⟨w,m,bs,o,x⟩:=List.find?_eq_some_iff_append.mp l;have F:k<runEnd mask p.i+1-p.i:=dE.mp (by rw[o];simp)
   have y:m.length=k:=by
    have z:m.length<(ad (runEnd mask p.i+1-p.i)).length:=by rw[o];simp
    have:=n5 (n:=runEnd mask p.i+1-p.i) (i:=m.length) (by simpa using z)
    rw[o,lE (bb _),rO] at this;exact(Do this).symm
   refine#[k,?_,?_,λg A=>?_]
   .rw[layClean.free,l,run k (by lia)]
   .rw[run k (by lia)]
    unfold Own;rw[w];exact Bool.noConfusion
   .rw[run g (by lia)]
    have B:g∈m:=by
     have:=n5 (n:=runEnd mask p.i+1-p.i) (i:=g) (by lia)
     rw[o,mI (by lia)] at this
     exact dM this
    have:=x g B
    unfold Own;exact Bool.not_eq_true' _▸this
  |none=>
   have all:=zO.mp l
   have own:∀c,c<=p.more->Own e (p.i+c):=λc t=>by
    have:=all c (dE.mpr (by lia))
    unfold Own;exact ux.mpr this
   cases r with
   |zero=>exact absurd (own 0 (fm _)) q
   |succ r=>
    have lp:=rP mask p
    obtain⟨h,a,b,c⟩:=yh e f (QZ mask p (leap mask p.i p.perturb)) rfl rfl (by
     show(leap mask p.i p.perturb).1<=runEnd mask (leap mask p.i p.perturb).1;unfold runEnd;split<;>lia) #[r,by lia,by rw[v3] at q;exact q]
    rw[<-lp] at a b c;have s:∀k,cZ mask (cZ mask p (p.more+1)) k=cZ mask p (p.more+1+k):=λk=>(l5 mask p (p.more+1) k).symm;refine#[p.more+1+h,?_,?_,λg A=>?_]
    .rw[layClean.free,l,<-s,<-a,lp];rfl
    .rw[<-s];exact b
    .by_cases d:g<=p.more
     .rw[run g d];exact own g d
     .have:=c (g-(p.more+1)) (by lia)
      rw[s,show p.more+1+(g-(p.more+1))=g by lia] at this
      exact this
structure Laid (mask:Nat) (hs:List Int) (owner:Array (Option Nat)) (ss:List Nat):Prop where
 size:owner.size=mask+1
 len:ss.length=hs.length
 nd:ss.Nodup
 le:∀s∈ss,s<=mask
 get:∀s,s<=mask->∀k,owner.getD s (some 0)=some k↔ss[k]? =some s
 path:∀(k:Nat)(h:Int),hs[k]? =some h->∃c,ss[k]? =some (cu mask h c)/\∀c',c'<c->cu mask h c'∈ss
theorem Laid.own{mask:Nat}{c:List Int}{a:Array (Option Nat)}{b:List Nat}(L:Laid mask c a b){s:Nat}(h:s<=mask):Own a s↔s∈b:=by
 unfold Own
 constructor
 .intro e
  cases o:a.getD s (some 0) with
  |none=>rw[o] at e;cases e
  |some k=>exact dM ((L.get s h k).mp o)
 .intro e
  obtain⟨k,d⟩:=rG e;rw[(L.get s h k).mpr d];rfl
theorem Gj{mask:Nat}(f:wz mask){l:List Int}{g:Array (Option Nat)}{m:List Nat}(L:Laid mask l g m)(room:l.length<=mask)(h:Int):
  ∃j,layClean.free mask g (turns mask) (bits h%(mask+1)) (bits h)=some j/\Laid mask (l++ [h]) (g.setIfInBounds j (some l.length)) (m++ [j]):=by
 have o:=uE.start mask h
 obtain⟨s,C,F⟩:∃s,s<=mask/\s∉m:=by
  apply Da;intro c
  have all:∀s∈ad (mask+1),s∈m:=λs l=>by
   apply Da;intro n;exact c #[s,by have:=dE.mp l;lia,n]
  have:=Wb.aF sR all
  rw[n9,L.len] at this;lia
 have z:(eV mask (bZ mask h).i (bZ mask h).perturb 13).2=0:=by
  rw[lN];exact Nat.div_eq_of_lt (i5 o.per (by decide))
 obtain⟨r,N,e⟩:=cover f (E2 mask (bZ mask h).i (bZ mask h).perturb 12) C
 have O:(bZ mask h).i<=mask:=by
  have:=jT (bits h) (show 0<mask+1 by lia)
  show bits h%(mask+1)<=mask;lia
 obtain⟨p,a,b,c⟩:=yh g (turns mask) (bZ mask h) rfl rfl (by unfold runEnd;split<;>lia) #[13+r,by unfold turns;lia,by
  rw[vo z];show ¬Own g (k6 mask _ r);rw[e,L.own C];exact F]
 have E:∀k,(cZ mask (bZ mask h) k).j=cu mask h k:=λk=>by unfold cu;rw[nj]
 rw[E] at a b;have u:=CK mask h p;rw[L.own u] at b;refine#[cu mask h p,a,?_,?_,?_,?_,?_,?_]
 .rw[aaV];exact L.size
 .rw[cE,cE,L.len];rfl
 .exact c9.mpr #[L.nd,by simp,λx t y G z=>b (by rw[<-cC.mp G,<-z];exact t)]
 .intro x t
  rcases bH.mp t with t|t
  .exact L.le x t
  .rw[cC.mp t];exact u
 .intro x t k
  have w:(g.setIfInBounds (cu mask h p) (some l.length)).getD x (some 0)=if cu mask h p=x then some l.length else g.getD x (some 0):=by
   rw[Fq,Fq,abz]
   by_cases d:cu mask h p=x
   .rw[ls d,ls d,ls (by rw[L.size];lia)];rfl
   .rw[ir d,ir d]
  rw[w]
  by_cases d:cu mask h p=x
  .rw[ls d]
   constructor
   .intro e
    cases(Do e);rw[<-L.len,lE (bb _),rO,<-d];rfl
   .intro e
    by_cases q:k<m.length
    .rw[mI q] at e
     exact absurd (by rw[d];exact dM e) b
    .have:k<(m++ [cu mask h p]).length:=(dQ.mp e).1
     rw[cE] at this
     have:k<m.length+1:=this
     rw[show k=m.length by lia,L.len]
  .rw[ir d,L.get x t k]
   constructor
   .intro e
    rw[mI (dQ.mp e).1];exact e
   .intro e
    by_cases q:k<m.length
    .rw[mI q] at e;exact e
    .have:k<(m++ [cu mask h p]).length:=(dQ.mp e).1
     rw[cE] at this
     have:k<m.length+1:=this
     rw[show k=m.length by lia,lE (bb _),rO] at e
     exact absurd (Do e) d
 .intro k H v
  by_cases q:k<l.length
  .rw[mI q] at v
   obtain⟨I,w,J⟩:=L.path k H v;exact#[I,by rw[mI (by rw[L.len];exact q)];exact w,λA B=>fj _ (J A B)]
  .have:k<(l++ [h]).length:=(dQ.mp v).1
   rw[cE] at this
   have:k<l.length+1:=this
   have M:k=l.length:=by lia
   subst M;rw[lE (bb _),rO] at v;cases(Do v);refine#[p,by rw[<-L.len,lE (bb _),rO];rfl,λA B=>fj _ ?_]
   have:=c A B
   rw[E] at this;exact(L.own (CK _ _ _)).mp this
theorem Gk(mask:Nat):Laid mask [] (c3 (mask+1) none) [] where
 size:=by simp
 len:=rfl
 nd:=gQ
 le:=λs h=>by cases h
 get:=λs a k=>by
  rw[Fq,Array.getElem?_replicate,ls (by lia)]
  simp
 path:=λk h e=>by cases e
def A4(mask:Nat)(a:Option (Array (Option Nat)×Nat))(h:Int):Option (Array (Option Nat)×Nat):=do
 let (owner,k) <-a
 let j <-layClean.free mask owner (turns mask) (bits h%(mask+1)) (bits h)
 pure (owner.setIfInBounds j (some k),k+1)
theorem A5{mask:Nat}(f:wz mask):∀(b done:List Int)(a:Array (Option Nat))(d:List Nat),Laid mask done a d->done.length+b.length<=mask+1->
  ∃c i,b.foldl (A4 mask) (some (a,done.length))=some (c,done.length+b.length)/\Laid mask (done++b) c i
 | [],done,a,d,L,_=>#[a,d,rfl,by rw[f7];exact L]
 |h::b,done,a,d,L,l=>by
  rw[bN] at l;obtain⟨j,e,m⟩:=Gj f L (by lia) h
  have n:A4 mask (some (a,done.length)) h=some (a.setIfInBounds j (some done.length),done.length+1):=by
   unfold A4;simp[e]
  obtain⟨c,i,g,k⟩:=A5 f b (done++ [h]) _ _ m (by rw[cE];show done.length+1+b.length<=_;lia)
  refine#[c,i,?_,by rw[f6] at k;exact k]
  rw[rL,n];rw[cE] at g;have g:b.foldl (A4 mask) (some (a.setIfInBounds j (some done.length),done.length+1))=some (c,done.length+1+b.length):=g;rw[g,bN]
  congr 2;lia
theorem Cf{mask:Nat}(f:wz mask)(b:List Int)(room:b.length<=mask+1):∃a c,layClean mask b.toArray=some a/\Laid mask b a c:=by
 rfl';obtain⟨a,c,e,L⟩:=A5 f b [] _ _ (Gk mask) (by simpa using room)
 ac_rfl;refine#[a,c,?_,by simpa using L]
 have:layClean mask b.toArray=(b.foldl (A4 mask) (some (c3 (mask+1) none,0))).map (·.1):=by
  unfold layClean;rw[List.foldl_toArray];rfl
 have e:b.foldl (A4 mask) (some (c3 (mask+1) none,0))=some (a,[].length+b.length):=e;rw[this,e];rfl
def eQ(mask:Nat)(a:Array (Option Nat)):List (Nat×Nat):=(ad (mask+1)).filterMap λj=>(a.getD j none).map (j,·)
theorem J5{mask:Nat}{b:List Int}{a:Array (Option Nat)}{c:List Nat}(L:Laid mask b a c){j k:Nat}:(j,k)∈eQ mask a↔c[k]? =some j:=by
 unfold eQ;rw[abF]
 have dflt:∀s,s<=mask->a.getD s none=a.getD s (some 0):=λs b=>by
  rw[Fq,Fq,qq (by rw[L.size];lia)];rfl
 constructor
 .rintro⟨s,d,e⟩
  have d:=dE.mp d;rw[dflt s (by lia)] at e
  cases o:a.getD s (some 0) with
  |none=>rw[o] at e;cases e
  |some f=>
   rw[o] at e;have e:=Do e;have h:s=j:=(IR e).1;have i:f=k:=(IR e).2;rw[<-h,<-i];exact(L.get s (by lia) f).mp o
 .intro e
  have g:=L.le j (dM e);refine#[j,dE.mpr (by lia),?_]
  rw[dflt j g,(L.get j g k).mpr e];rfl
theorem Gq(mask:Nat)(c:Array (Option Nat)):((eQ mask c).map (·.1)).Pairwise (·<·):=by
 unfold eQ;rw[iV,List.pairwise_filterMap];refine aa5.imp λ {a b} h x d y e=>?_;cases f:c.getD a none with
 |none=>rw[f] at d;cases d
 |some i=>
  cases g:c.getD b none with
  |none=>rw[g] at e;cases e
  |some j=>
   rw[f] at d;rw[g] at e;cases(Do d);cases(Do e);exact h
theorem MV{mask:Nat}(f:wz mask)(l:List Int)(room:l.length<=mask)(finger moves:Nat)(led plain:Bool):
  ∃t g,laid mask finger moves led plain l.toArray=some (t,g)/\t.mask=mask/\t.led=led/\t.plain=plain/\t.moves=moves/\g.toList.Perm (ad l.length)/\TOk t (g.toList.map λk=>l.getD k 0):=by
 rfl';obtain⟨d,u,e,L⟩:=Cf f l (by lia)
 have m:=λ {j k:Nat}=>J5 (j:=j) (k:=k) L;have v:=Gq mask d;ac_rfl
 have G:((eQ mask d).map (·.2)).Nodup:=by
  rw[nY,iV];rw[iV] at v;refine v.imp_of_mem λ {a b} H q r z=>?_;obtain⟨I,J⟩:=a;obtain⟨M,bk⟩:=b;have A:=m.mp H;have N:=m.mp q;have z:J=bk:=z;rw[z,N] at A
  have:=Do A
  have r:I<M:=r;lia
 have perm:((eQ mask d).map (·.2)).Perm (ad l.length):=by
  refine(mH G sR).mpr λk=>?_;rw[aX,dE]
  constructor
  .rintro⟨⟨j,Z⟩,h,rfl⟩
   have:=(dQ.mp (m.mp h)).1
   rw[L.len] at this;exact this
  .intro n
   have O:k<u.length:=by rw[L.len];exact n
   exact#[(u[k],k),m.mpr (b8 O),rfl]
 have P:(eQ mask d).length=l.length:=by
  have:=perm.length_eq
  simpa using this
 refine#[{mask,place:=((eQ mask d).map (·.1)).toArray,dummies:= #[],finger,led,moves,plain},((eQ mask d).map (·.2)).toArray,?_,rfl,rfl,rfl,rfl,by simpa using perm,?_]
 .unfold laid
  rw[e];rfl
 have w:∀(i j:Nat),((eQ mask d).map (·.1)).toArray[i]? =some j↔∃k,(eQ mask d)[i]? =some (j,k):=λi j=>by
  rw[List.getElem?_toArray,b7];cases o:(eQ mask d)[i]? with
  |none=>simp
  |some x=>
   obtain⟨a,b⟩:=x;simp
 have y:∀s,s∈u->∃i:Nat,((eQ mask d).map (·.1)).toArray[i]? =some s:=λs Q=>by
  obtain⟨k,n⟩:=rG Q;obtain⟨i,p⟩:=rG (m.mpr n);exact#[i,(w i s).mpr #[k,p]]
 refine#[f,rfl,?_,?_,?_,?_,?_]
 .intro a b q r
  have q:b<((eQ mask d).map (·.1)).length:=q
  have:=zV.mp v a b (by lia) q r
  simp[show a<(eQ mask d).length by simpa using(show a<((eQ mask d).map (·.1)).length by lia),show b<(eQ mask d).length by simpa using q]
  simpa using this
 .simp
 .intro i j h
  obtain⟨k,n⟩:=(w i j).mp h;exact L.le j (dM (m.mp (dM n)))
 .show((eQ mask d).map (·.1)).toArray.size<=mask
  simp[P];exact room
 .intro i B p
  rw[b7] at p;cases o:(eQ mask d)[i]? with
  |none=>
   have:(((eQ mask d).map (·.2)).toArray.toList)[i]? =none:=by simp[o]
   rw[this] at p;cases p
  |some x=>
   obtain⟨j,k⟩:=x;have R:(((eQ mask d).map (·.2)).toArray.toList)[i]? =some k:=by simp[o]
   rw[R] at p;have C:=m.mp (dM o);have n:k<l.length:=by rw[<-L.len];exact(dQ.mp C).1
   have S:l[k]? =some B:=by
    rw[<-Do p];show _=some (l.getD k 0);rw[ck,b8 n];rfl
   obtain⟨c,E,T⟩:=L.path k B S;rw[C] at E;refine#[c,(w i _).mpr #[k,by rw[o,Do E]],λU X=>y _ (T U X)]
end PySem.SetTable
namespace PySem
open SetTable PyProof.Rows
def dh(w:World):Bool:=w.params.followText "set-order"
structure iC (bt:Bool) (o:Obj) (es:Array (Int×Value)) (ep:Nat) (t:SetTable):Prop where
 ex:o.ExactSet
 dat:o.data= .set es ep t
 tok:TOk t (es.toList.map (·.1))
 pl:t.plain=true
 ld:t.led= !bt
 few:5*es.size<3*t.mask
theorem TOk.fits(T:TOk t a):t.fits a.length=true:=by
 simp only[SetTable.fits,SetTable.fill,T.dum,T.size,sQ,aaC,decide_eq_true_eq,true_and]
 have:=T.room
 rw[T.size] at this;simpa using this
theorem iC.fits(S:iC w o a b t):t.fits a.size=true:=by
 have:=TOk.fits S.tok
 simpa using this
theorem JB{mask n:Nat}(f:wz mask)(h:5*n<3*mask):n+1<=mask:=by
 rcases f with rfl|rfl|rfl|rfl<;>lia
theorem F1{mask n:Nat}(f:wz mask)(a:3*mask<=5*n)(b:5*(n-1)<3*mask)(c:n<=306):wz (sizeAbove (grown n)-1)/\5*n<3*(sizeAbove (grown n)-1)/\n<=sizeAbove (grown n)-1/\sizeAbove (grown n)<=512:=by
 rcases f with rfl|rfl|rfl|rfl
 .have:n=5:=by lia
  subst this;exact#[.inr (.inl rfl),by decide,by decide,by decide]
 .have:n=19:=by lia
  subst this;exact#[.inr (.inr (.inl rfl)),by decide,by decide,by decide]
 .have:n=77:=by lia
  subst this;exact#[.inr (.inr (.inr rfl)),by decide,by decide,by decide]
 .lia
theorem GY{t:SetTable}{c:Array (Int×Value)}(T:TOk t (c.toList.map (·.1)))(d:t.tooFull=true)(near:5*(c.size-1)<3*t.mask)(small:c.size<=306):
  ∃f a,t.relaid (c.map (·.1)) (grown c.size)=some (f,a)/\a.toList.Perm (ad c.size)/\(a.filterMap (c[·]?)).toList.Perm c.toList/\(a.filterMap (c[·]?)).size=c.size/\
   TOk f ((a.filterMap (c[·]?)).toList.map (·.1))/\f.plain=t.plain/\f.led=t.led/\5*c.size<3*f.mask/\sizeAbove (grown c.size)<=512:=by
 have sz:t.place.size=c.size:=by rw[T.size];simp
 have m:3*t.mask<=5*c.size:=by
  unfold SetTable.tooFull SetTable.fill at d;rw[T.dum,sz] at d;simp at d;lia
 rfl';obtain⟨o,p,q,r⟩:=F1 T.few m near small;obtain⟨f,a,e,em,s,u,_,g,v⟩:=MV o (c.toList.map (·.1)) (by simpa using q) t.finger (t.movedTo (sizeAbove (grown c.size)-1)) t.led t.plain
 rw[aG,cD] at g;ac_rfl
 have i:(a.filterMap (c[·]?)).toList.Perm c.toList:=by
  rw[ach];exact(g.filterMap _).trans (by rw[filterMap_getElem?_range])
 have w:(a.filterMap (c[·]?)).size=c.size:=by rw[<-cD,i.length_eq,cD]
 refine#[f,a,?_,g,i,w,?_,u,s,by rw[em];exact p,r]
 .unfold SetTable.relaid
  rw[show c.map (·.1)=(c.toList.map (·.1)).toArray by apply abV.mp;simp]
  exact e
 .have:(a.filterMap (c[·]?)).toList.map (·.1)=a.toList.map λk=>(c.toList.map (·.1)).getD k 0:=by
   rw[ach];have lt:∀k∈a.toList,k<c.size:=λk h=>dE.mp (g.mem_iff.mp h);generalize a.toList=l at lt
   induction l with
   |nil=>rfl
   |cons k l x=>
    have h:=lt k (bB ..);rw[List.filterMap_cons_some (b:=c[k]) (by simp[h]),bT,bT,x λj y=>lt j (bP _ y)]
    simp[h]
  rw[this];exact v
end PySem
set_option maxHeartbeats 1000000
namespace PySem
open SetTable PyProof.Rows
section
variable {prog:Program} {w:World} {A:Around} {E:Value->Shared->Prop} {s:Shared}
theorem wb{h:Heap}(g:h.get? a=some o)(e:o.data= .set f d t)(b:Array (Int×Value))(c:SetTable):
  (h.update a (Obj.putSet b c)).get? a=some {o with data:= .set b (d+1) c}:=by
 have:=aap (Obj.putSet b c) g (by rw[putSet_of b c e];rfl)
 rw[putSet_of b c e] at this;exact this
theorem xP{Q₁:Value->Shared->Prop}
  (h:Q₁ (.ref s.heap.objs.size) {s with heap:=s.heap.push {cls:= .type "set",dict:=none,data:= .set #[] 0 (.fresh 0 0 (!dh w))}}):
  codeAny (model prog w) A (.call (.builtin "set.__new__") #[[.type "set"],[]]) (wants Q₁ E) s:=by
 refine aaQ ?_;refine be (aaO F.newCall_set_0 (mo #[aaB F.plain_set_new _,aao F.entry_set_new ?_]));rw[Wp F.plain_set_new _];unfold Builtin.«set.__new__» Builtin.Frozenset.newClass;have a:=acB;obtain⟨b,g,d,c,os⟩:=s;dsimp only
 wp_walk
 refine aay (mo ?_);dsimp only;simp only[newObj];refine be (wpAny_alloc (mo ?_));exact mo h
theorem BH 
  (h:Q (.ref s.heap.objs.size) {s with heap:=s.heap.push {cls:= .type "set",dict:=none,data:= .set #[] 0 (.fresh 0 0 (!dh w))}}):
  wpAny (model prog w) A (call (.type "set") []) Q E s:=by
 obtain⟨c,p,q⟩:=F.called_set.mro;have t:=F.called_set.made;have u:=F.called_set.sub;refine acq (aaQ ?_);show wpAny _ _ (callAny (.type "set") _) _ _ _;refine mo #[Code.quiet_builtin _ (by decide+kernel),aao F.entry_type_call ?_]
 rw[Around.under_plain (weight_type_call_type "set" [] []) rfl];have v:=F.called_set.notType;have x:=F.called_set.canCreate;have g:=F.typeCall_set_0
 repeat (any_goals (first|assumption|wp_step))
 refine aaD (xP (E:=E) (Q₁:=λobj a=>obj= .ref s.heap.objs.size/\a={s with heap:=s.heap.push {cls:= .type "set",dict:=none,data:= .set #[] 0 (.fresh 0 0 (!dh w))}}) #[rfl,rfl]) λr a b=>?_
 cases r with
 |error e=>exact b
 |ok i=>
  cases i with
  |ret obj=>
   obtain⟨rfl,rfl⟩:=b;have j:(s.heap.push {cls:= .type "set",dict:=none,data:= .set #[] 0 (.fresh 0 0 (!dh w))}).get? s.heap.objs.size=some {cls:= .type "set",dict:=none,data:= .set #[] 0 (.fresh 0 0 (!dh w))}:=GE _ rfl;have k:Shared.TypeIs {s with heap:=s.heap.push {cls:= .type "set",dict:=none,data:= .set #[] 0 (.fresh 0 0 (!dh w))}} (.ref s.heap.objs.size) "set":=#[_,j,rfl]
   have l:=F.called_set.init.lookup;have m:=F.called_set.init.bind (.ref s.heap.objs.size)
   repeat (any_goals (first|assumption|wp_step))
   refine aaD (codeAny_call_builtin (R:=wants (λr f=>r= .none/\Q (.ref s.heap.objs.size) f) E) F.called_set.init.plain F.entry_set_init (check_set_init k ?_)) λn f d=>?_
   .unfold Builtin.«set.__init__» noKeywords
    wp_walk
    exact#[rfl,h]
   .cases n with
    |error e=>exact d
    |ok o=>
     cases o with
     |ret r=>
      obtain⟨rfl,y⟩:=d
      repeat (any_goals (first|assumption|wp_step))
     |_=>exact d.elim
  |_=>exact b.elim
theorem iC.new(w:World):iC (dh w) {cls:= .type "set",dict:=none,data:= .set #[] 0 (.fresh 0 0 (!dh w))} #[] 0 (.fresh 0 0 (!dh w)) where
 ex:=#[rfl,rfl,rfl]
 dat:=rfl
 tok:=#[.inl rfl,rfl,λi j a=>by simp[SetTable.fresh] at a,rfl,λi j h=>by simp[SetTable.fresh] at h,by simp[SetTable.fresh],λi h e=>by simp at e]
 pl:=rfl
 ld:=rfl
 few:=by simp[SetTable.fresh]
end
namespace F
theorem wD:entryFor table "set.__iter__"=some Builtin.«frozenset.__iter__»:=
 entryFor_alias (id':="frozenset.__iter__") (by kernel_rfl) rfl (by decide+kernel) (by kernel_rfl)
theorem jP:Manifest.owners.lookup (String.ofList ['r','o','t','a','r','e','t','i','_','t','e','s'].reverse)=some Manifest.sig_set_iterator:=by kernel_rfl
theorem bR:Slot "set_iterator" "__next__" "set_iterator.__next__":=
 .of (owner:="set_iterator") (n:="__next__") (by rw[typeLookup_type,builtinLookup_eq_fast];kernel_rfl) (by decide+kernel) (by decide+kernel) (by decide+kernel)
  (by first|exact .inl (by decide+kernel) |exact .inr (by decide+kernel)) (by rw[isSubtype_type];kernel_rfl)
theorem gH:entryFor table "set_iterator.__next__"=some Builtin.«set_iterator.__next__»:=entryFor_of_tree (by kernel_rfl)
theorem gD(a:Value):argsOk "set_iterator.__next__" #[[a],[]]:=by
 unfold argsOk;rw[signature?_of (id:="set_iterator.__next__") (n:= ['_','_','t','x','e','n','_','_']) (o:= ['r','o','t','a','r','e','t','i','_','t','e','s']) (by kernel_rfl) jP];kernel_rfl
theorem ig:Slot "set_iterator" "__iter__" "set_iterator.__iter__":=
 .of (owner:="set_iterator") (n:="__iter__") (by rw[typeLookup_type,builtinLookup_eq_fast];kernel_rfl) (by decide+kernel) (by decide+kernel) (by decide+kernel)
  (by first|exact .inl (by decide+kernel) |exact .inr (by decide+kernel)) (by rw[isSubtype_type];kernel_rfl)
theorem lJ:entryFor table "set_iterator.__iter__"=some Builtin.«dict_keyiterator.__iter__»:=
 entryFor_alias (id':="dict_keyiterator.__iter__") (by kernel_rfl) rfl (by decide+kernel) (by kernel_rfl)
theorem kO(a:Value):argsOk "set_iterator.__iter__" #[[a],[]]:=by
 unfold argsOk;rw[signature?_of (id:="set_iterator.__iter__") (n:= ['_','_','r','e','t','i','_','_']) (o:= ['r','o','t','a','r','e','t','i','_','t','e','s']) (by kernel_rfl) jP];kernel_rfl
end F
theorem vX:∀(l:List a)(i:Nat)(h:i<l.length),(l[i]::l.eraseIdx i).Perm l
 |y::l,0,_=> .refl _
 |y::l,i+1,h=>by
  have:=vX l i (by simpa using h)
  simp only[List.getElem_cons_succ,Fs];exact(List.Perm.swap ..).trans (this.cons y)
theorem EO(next:Nat->Nat):∀(a k:Nat)(left:List b)(out:Array b),left.length<=a->(pickOrder.go next a k left out).toList.Perm (out.toList++left)
 |0,k,left,out,h=>by
  have:left= []:=zH.mp (by lia)
  subst this;simp[pickOrder.go]
 |a+1,k,[],out,h=>by
  simp[pickOrder.go]
 |a+1,k,y::left,out,h=>by
  have lt:next k%(y::left).length<(y::left).length:=jT _ (by simp)
  unfold pickOrder.go;rw[b8 lt];dsimp only;refine(EO next a (k+1) _ _ (by rw[List.length_eraseIdx_of_lt lt];simp at h ⊢;lia)).trans ?_
  rw[z6,f6];refine aaq _ ?_;exact vX _ _ lt
def lg(w:World)(a:Addr)(c:Nat)(b:Array (Int×Value)):Array (Int×Value):=if dh w=true then pickOrder (w.params.setOrder a c) b else b
theorem yS(w:World)(a:Addr)(c:Nat)(b:Array (Int×Value)):(lg w a c b).toList.Perm b.toList:=by
 unfold lg
 split
 .unfold pickOrder
  simpa using EO (w.params.setOrder a c) b.size 0 b.toList #[] (by simp)
 .exact .refl _
theorem kE(w:World)(a:Addr)(c:Nat)(b:Array (Int×Value)):(lg w a c b).size=b.size:=by
 rw[<-cD,(yS w a c b).length_eq,cD]
def eS(w:World)(t:SetTable)(i:Nat):Nat:=if dh w=true then 0 else if i=0 then 0 else t.place[i-1]! +1
section
variable {prog:Program} {w:World} {A:Around} {E:Value->Shared->Prop} {s:Shared}
theorem DB(T:TOk t a)(d:dh w=false){i:Nat}(f:i<=a.length):below t.place (eS w t i)=i:=by
 have sz:=T.size;obtain⟨g,c,e⟩:=jt T.rise (eS w t i);unfold eS at*;rw[ir (by rw[d];exact dD)] at*
 by_cases z:i=0
 .rw[ls z] at*
  rcases Nat.eq_zero_or_pos (below t.place 0) with h|h
  .rw[h,z]
  .exact absurd (c 0 h) (ab6 _)
 .rw[ir z] at*
  generalize below t.place (t.place[i-1]! +1)=b at*
  rcases abR b i with h|h|h
  .have:=e (i-1) (by lia) (by lia)
   lia
  .exact h
  .have:=c i h
   have:=T.rise (i-1) i (by lia) (by lia)
   lia
theorem mG(f:s.heap.get? a=some o)(S:iC (dh w) o c d t)(k:i<=c.size)
  (h:Q (((lg w a d c)[i]?).map λe=>(e.2,eS w t (i+1))) s):wpAny (model prog w) A (setNext a (eS w t i) i d) Q E s:=by
 have g:=S.dat;have j:=S.fits;unfold setNext;refine be (UF f g j ?_);dsimp only;unfold setsByText;refine be (be (aay (mo ?_)));cases b:dh w with
 |true=>
  refine abA (FM (show w.params.followText "set-order"=true from b)) ?_;rw[ir (by simp)]
  unfold setWalk setsByText;refine be (be (UF f g j ?_));dsimp only;refine be (be (aay (mo ?_)));refine abA (FM (show w.params.followText "set-order"=true from b)) ?_;refine be (aay (mo (mo ?_)));unfold lg eS at h;rw[ls b,ls b] at h;unfold eS;rw[ls b];exact h
 |false=>
  refine abp (GM (show ¬w.params.followText "set-order"=true from by rw[show w.params.followText "set-order"=false from b];exact dD)) ?_
  refine abp ?_ ?_
  .refine GM ?_
   show ¬((!t.plain&&decide (c.size>1))=true);rw[S.pl];simp
  refine be ?_;show wpAny _ _ (if (!t.led&& !c.isEmpty)=true then _ else _) _ _ _;rw[ir (by rw[S.ld,b];simp)]
  refine mo ?_;have l:=DB (w:=w) S.tok b (i:=i) (by simpa using k)
  rw[l];refine mo ?_;have sz:t.place.size=c.size:=by rw[S.tok.size];simp
  unfold lg at h;rw[ir (by rw[b];exact dD)] at h
  by_cases lt:i<c.size
  .have lp:i<t.place.size:=by lia
   rw[qq lt] at h ⊢;rw[qq lp];dsimp only
   have e:eS w t (i+1)=t.place[i]+1:=by
    unfold eS;rw[ir (by rw[b];exact dD),ir (by lia)]
    simp[lp]
   rw[Option.map_some,e] at h;exact h
  .rw[C9 (by lia)] at h ⊢
   exact h
end
def i8(w:World)(h:Heap)(I a:Addr)(t:SetTable)(i n b:Nat):Prop:=
 ∃o,h.get? I=some o/\o.cls= .type "set_iterator"/\o.data= .fields [.int (eS w t i:Nat) 0, .int i 0, .ref a, .int n 0, .int b 0].toArray
section
variable {prog:Program} {w:World} {A:Around} {E:Value->Shared->Prop} {s:Shared}
theorem i8.typeIs(x:i8 w s.heap I a t i n b):s.TypeIs (.ref I) "set_iterator":=let #[o,c,d,_]:=x;#[o,c,d]
theorem uo(b:s.heap.get? a=some o)(S:iC (dh w) o c g t)
  (h:Q (.ref s.heap.objs.size) {s with heap:=s.heap.push {cls:= .type "set_iterator",data:= .fields [.int (eS w t 0:Nat) 0, .int (0:Nat) 0, .ref a, .int c.size 0, .int g 0].toArray}}):
  wpAny (model prog w) A (pyIter (.ref a)) Q E s:=by
 have d:=S.dat;have f:=S.fits;have i:s.TypeIs (.ref a) "set":=#[o,b,S.ex.1];refine wpAny_pyIter_slot i F.slot_set_iter (SB F.slot_set_iter i F.wD ?_ (F.args_set_iter_1 _));unfold Builtin.«frozenset.__iter__» Builtin.Frozenset.slot0 slotArgs;simp only[abX,aa9,fk, ↓reduceIte,bind_assoc,mJ,abQ];unfold Builtin.Frozenset.addrOf Builtin.Frozenset.sizeOf;refine be (mo ?_)
 try dsimp only
 refine be (mo ?_);refine be (be (abw b d f (mo ?_)));unfold setDrawn setsByText;refine be (be (UF b d f ?_));dsimp only;refine be (be (aay (mo ?_)));refine mo ?_;refine abp ?_ ?_
 .refine GM ?_
  show ¬((!w.params.followText "set-order"&&(!t.plain&&decide (c.size>1)))=true);rw[S.pl];simp
 refine be (mo ?_);refine be ?_;unfold setEpoch;refine be (UF b d f (mo ?_));refine be (SZ (mo #[_,rfl,"set_iterator",_,#[_,GE _ rfl,rfl],F.bR.lookup,?_]));have e:eS w t 0=0:=by unfold eS;simp
 rw[e] at h;exact h
theorem ur(b:i8 w s.heap I a t i c.size d)(j:s.heap.get? a=some o)(S:iC (dh w) o c d t)
  (k:(lg w a d c)[i]? =some x) (n:∀f,i8 w f I a t (i+1) c.size d->Heap.SameBut I s.heap f->Q (some x.2) {s with heap:=f}):wpAny (model prog w) A (pyNext (.ref I)) Q E s:=by
 obtain⟨u,g,p,e⟩:=id b
 have q:i<c.size:=by
  have:=(Bu.mp k).1
  rwa [kE] at this
 unfold pyNext
 refine be (abO (aa0 (name:=Str.ofString "__next__") b.typeIs F.bR
  (SB F.bR b.typeIs F.gH ?_ (F.gD _))))
 unfold Builtin.«set_iterator.__next__»;refine be (m:=slotArgs "__next__" 0 _) (mo ?_);refine be (wpAny_fieldsOf g e ?_);dsimp only;refine be (abw j S.dat S.fits ?_);rw[ir (by simp)]
 refine be ?_;rw[wu,wu,wu];refine mG j S (sU q) ?_;rw[k];dsimp only[Option.map_some];refine be (aco g e (by simp) ?_)
 have l:=aap (Obj.mapFields (·.setIfInBounds 0 (rawInt (eS w t (i+1):Nat)))) g (Obj.isFreed_of_fields (aaW e _));have h:=aaW e (·.setIfInBounds 0 (rawInt (eS w t (i+1):Nat)));refine be (aco l h (by simp) ?_)
 have r:=aap (Obj.mapFields (·.setIfInBounds 1 (rawInt ((i:Int)+1)))) l (Obj.isFreed_of_fields (aaW h _));refine mo #[_,rfl,mo (n _ #[_,r,?_,?_] ((aas ..).trans (aas ..)))]
 .exact(Obj.cls_mapFields ..).trans ((Obj.cls_mapFields ..).trans p)
 .rw[aaW h];simp[rawInt]
theorem ot(j:A.handled=none)(c:i8 w s.heap I a t d.size d.size e)(f:s.heap.get? a=some o)(S:iC (dh w) o d e t)
  (k:∀g,Heap.ExtBut I s.heap g->Q none {s with heap:=g}):wpAny (model prog w) A (pyNext (.ref I)) Q E s:=by
 obtain⟨l,h,n,i⟩:=id c;unfold pyNext
 refine be (abO (aa0 (name:=Str.ofString "__next__") c.typeIs F.bR
  (SB F.bR c.typeIs F.gH ?_ (F.gD _))))
 unfold Builtin.«set_iterator.__next__»;refine be (m:=slotArgs "__next__" 0 _) (mo ?_);refine be (wpAny_fieldsOf h i ?_);dsimp only;refine be (abw f S.dat S.fits ?_);rw[ir (by simp)]
 refine be ?_;rw[wu,wu,wu];refine mG f S (bb _) ?_;rw[C9 (by rw[kE];exact bb _)]
 dsimp only[Option.map_none];refine be (aco h i (by simp) ?_)
 show wpAny _ _ (newExc (.type "StopIteration") []>>=_) _ _ _;refine be ?_;simp only[newExc,newTuple];refine be (SZ ?_ (by size_fits))
 refine be (m:=firstArgMember _ _) (aaO (a:=Value.none) (by first|rfl| (simp only[firstArgMember];rfl)) ?_)
 refine SZ ?_ (by size_fits)
 simp only[raiseNew];refine be (wpAny_handled ?_);rw[show A.in1.handled=none from j];refine be (mo (wpAny_throw ?_));refine be (wpAny_isInstance (T:="StopIteration") (b:=true) #[_,GE _ rfl,rfl] isSubtype_stop ?_);exact mo (k _ (((aas ..).extBut.push _).push _))
theorem Walks.sets(p:A.handled=none)(I a:Addr)(q:a≠I)(S:iC (dh w) o c f t):
  Walks prog w A I [I,a] [I] c.size (λi v=>∃x,(lg w a f c)[i]? =some x/\v=x.2) (λi h=>i8 w h I a t i c.size f/\h.get? a=some o) where
 sub:=λb d=>by simp at d;simp[d]
 frame:=λi h j st k=>#[let #[u,y,r]:=st.1;#[u,k I (by simp) _ y,r],k a (by simp) _ st.2]
 item:=λi s Q E z st g=>by
  have l:(lg w a f c)[i]? =some ((lg w a f c)[i]'(by rw[kE];exact z)):=qq _
  refine ur st.1 st.2 S l λj B n=>?_;exact g _ j s.toks #[_,l,rfl] #[B,(n.2 a q).trans st.2] λb o d e=>n.extBut b o (λh=>d (by simp[h])) e
 done:=λs Q E st g=>ot p st.1 st.2 S λj C=>g j s.toks λb o d e=>C b o (λh=>d (by simp[h])) e
 self:=λi s Q E st g=>by
  refine wpAny_pyIter_slot st.1.typeIs F.ig (SB F.ig st.1.typeIs F.lJ ?_ (F.kO _));unfold Builtin.«dict_keyiterator.__iter__»;refine be (m:=slotArgs "__iter__" 0 _) (mo ?_);exact mo #[_,rfl,"set_iterator",_,st.1.typeIs,F.bR.lookup,g]
end
section
variable {prog:Program} {w:World} {A:Around} {E:Value->Shared->Prop} {s:Shared}
theorem sP(hh:A.handled=none)(J:s.heap.get? a=some o)(S:iC (dh w) o c d t)
  (hQ:∀k tk,s.heap.objs.size<k.objs.size->(∀b o,s.heap.get? b=some o->k.get? b=some o)->Q ((lg w a d c).toList.map (·.2)) {s with heap:=k,toks:=tk}) (hn:c.size<=sizeLine:=by size_fits):
  wpAny (model prog w) A (collect (.ref a)) Q E s:=by
 have m:a<s.heap.objs.size:=FB J;unfold collect;refine be (wpAny_runValue (aao F.entry_proto_collect ?_));rw[Wp F.plain_proto_collect _];show wpAny _ A.in1 (newList []>>=λl=>again (.builtin "list.__iadd__" #[[l, .ref a],[]])) _ _ s;refine be (SZ ?_);refine mo #[aaB F.plain_list_iadd _,aao F.entry_list_iadd ?_];rw[Wp F.plain_list_iadd _];have n:(s.heap.push {cls:= .type "list",data:= .seq ([]:List Value).toArray}).get? a=some o:=tz _ J;show wpAny _ A.in1 (Builtin.List.listExtendWith (.ref s.heap.objs.size) (.ref a) (.ref s.heap.objs.size)) _ _ {s with heap:=s.heap.push {cls:= .type "list",data:= .seq ([]:List Value).toArray}}
 unfold Builtin.List.listExtendWith;have hT:Shared.TypeIs {s with heap:=s.heap.push {cls:= .type "list",data:= .seq ([]:List Value).toArray}} (.ref a) "set":=#[o,n,S.ex.1]
 refine be (abU hT ?_);have h1:Builtin.List.listSameRef (.ref s.heap.objs.size) (.ref a)=false:=by simp[Builtin.List.listSameRef,abm m]
 have f:(Value.type "set"==Value.type "list")=false:=by decide
 have h3:(Value.type "set"==Value.type "tuple")=false:=by decide
 simp only[h1,f,h3,Bool.or_false,fk,M2];refine be (uo n S ?_);generalize L:(s.heap.push {cls:= .type "list",data:= .seq ([]:List Value).toArray}).objs.size=I;have p:I=s.heap.objs.size+1:=by rw[<-L,aaY]
 have q:a≠I:=by rw[p];exact bV (rK m)
 have M:s.heap.objs.size≠I:=by rw[p];exact bV (zR _)
 have N:s.heap.objs.size≠a:=abm m;have r:((s.heap.push {cls:= .type "list",data:= .seq ([]:List Value).toArray}).push {cls:= .type "set_iterator",data:= .fields [.int (eS w t 0:Nat) 0, .int (0:Nat) 0, .ref a, .int c.size 0, .int d 0].toArray}).get? s.heap.objs.size=some {cls:= .type "list",data:= .seq ([]:List Value).toArray}:=tz _ (GE _ rfl);have O:((s.heap.push {cls:= .type "list",data:= .seq ([]:List Value).toArray}).push {cls:= .type "set_iterator",data:= .fields [.int (eS w t 0:Nat) 0, .int (0:Nat) 0, .ref a, .int c.size 0, .int d 0].toArray}).get? I=some {cls:= .type "set_iterator",data:= .fields [.int (eS w t 0:Nat) 0, .int (0:Nat) 0, .ref a, .int c.size 0, .int d 0].toArray}:=by rw[<-L];exact GE _ rfl
 have u:((s.heap.push {cls:= .type "list",data:= .seq ([]:List Value).toArray}).push {cls:= .type "set_iterator",data:= .fields [.int (eS w t 0:Nat) 0, .int (0:Nat) 0, .ref a, .int c.size 0, .int d 0].toArray}).get? a=some o:=tz _ n;have P:∀b o,s.heap.get? b=some o->((s.heap.push {cls:= .type "list",data:= .seq ([]:List Value).toArray}).push {cls:= .type "set_iterator",data:= .fields [.int (eS w t 0:Nat) 0, .int (0:Nat) 0, .ref a, .int c.size 0, .int d 0].toArray}).get? b=some o:=λb o e=>tz _ (tz _ e);generalize ((s.heap.push {cls:= .type "list",data:= .seq ([]:List Value).toArray}).push {cls:= .type "set_iterator",data:= .fields [.int (eS w t 0:Nat) 0, .int (0:Nat) 0, .ref a, .int c.size 0, .int d 0].toArray})=f at r O u P ⊢;have v:Shared.TypeIs {s with heap:=f} (.ref a) "set":=#[o,u,S.ex.1]
 refine be (KM ?_);unfold Builtin.List.listLengthHint;refine be (ab7 v F.slot_set_len.lookup ?_)
 (generalize y:("set.__len__":String)=R;(fail_if_success (clear y R));wp_delta;rw[show splitId R=some ("set","__len__") from by subst y;decide+kernel];subst y)
 refine be (wpAny_isInstance (b:=true) v acB ?_);dsimp only;refine abp (by decide) ?_
 refine abA (by decide+kernel) ?_
 refine be (abU v ?_);refine mo ?_;refine abA (by decide+kernel) ?_
 refine be (aaG ?_);refine be ?_;show wpAny _ A.in1 (updateSeq s.heap.objs.size (·.push .none)>>=λ_=>updateSeq s.heap.objs.size (·.pop)) _ _ _;refine be (wpAny_updateSeq r rfl ?_);have T:=aap (Obj.mapSeq (·.push Value.none)) r rfl;refine wpAny_updateSeq T rfl ?_;have TU:=aap (Obj.mapSeq (·.pop)) T rfl
 have z:∀b o,b≠s.heap.objs.size->f.get? b=some o->
   ((f.update s.heap.objs.size (Obj.mapSeq (·.push Value.none))).update s.heap.objs.size (Obj.mapSeq (·.pop))).get? b=some o:=
  λb o g e=>(aaI _ _ (Ne.symm g)).trans ((aaI _ _ (Ne.symm g)).trans e)
 have W:=(Walks.sets (prog:=prog) (A:=A.in1) hh I a q S).toS;have B:s.heap.objs.size∉ [I,a]:=by simp[M,N]
 refine mo #[aaB F.plain_extend_loop _,codeAny_extend_loopS W hn _ B _ c.size 0 _ _ _ rfl (fm _)
  #[#[_,z _ _ (Ne.symm M) O,rfl,rfl],z _ _ (Ne.symm N) u] TU (ItemsOf.nil _) λh i c' U X Y=>?_]
 show wpAny _ A (load s.heap.objs.size>>=_) _ _ h;refine be (wpAny_load X ?_)
 have iZ:h={s with heap:=h.heap,toks:=h.toks}:=by
  obtain⟨oY,g',d',tk',UX⟩:=h;obtain⟨_,C,G,H,_⟩:=U;have C:g'=s.gens:=C;have G:d'=s.drawn:=G;have H:UX=s.os:=H;subst C G H;rfl
 have ea:i.toList=(lg w a d c).toList.map (·.2):=by
  refine rJ λj=>?_;rw[eW,b7,eW];have sz:i.size=(lg w a d c).size:=by rw[Y.1,kE]
  by_cases lt:j<i.size
  .obtain⟨x,hx,hv⟩:=Y.2 j i[j] (qq lt)
   rw[hx,qq lt,hv];rfl
  .rw[C9 (by lia),C9 (by lia)];rfl
 rw[iZ];show wpAny _ _ (pure i.toList) Q E _;rw[ea];refine mo (hQ _ _ (FB X) λb o e=>?_);have g:=FB e;have Z:b≠s.heap.objs.size:=bV g;have b2:b≠I:=by rw[p];exact bV (rK g)
 exact U.heap b o (by simp[Z,b2]) (z b o Z (P b o e))
end
section
variable {prog:Program} {w:World} {A:Around} {E:Value->Shared->Prop} {s:Shared}
theorem ItemsAre.ints(h:ItemsAre (intKind prog w) c b):∀v∈b,∃i t,v= .int i t:=by
 induction h with
 |nil=>intro v a;simp at a
 | @cons k f c b d _ e=>
  intro v a
  rcases bo.mp a with rfl|a
  .obtain⟨t,rfl⟩:=Value.isInt_shape d
   exact#[k,t,rfl]
  .exact e v a
theorem qj(f:IsTupleKey (intKind prog w) s.heap j a)(h:Q false s):wpAny (model prog w) A (ofAClassStatement 8 (.ref a)) Q E s:=by
 have k:=f.typeIs;obtain⟨o,c,n,l,_,m,p⟩:=f;unfold ofAClassStatement;refine be (abU k ?_);dsimp only;simp only[beq_self_eq_true, ↓reduceIte];refine be (mo ?_);simp only[aa9,fk, ↓reduceIte];refine be (wpAny_seqItems l m ?_);dsimp only;refine be ?_;rw[<-Array.forIn_toList];refine abY _ (λb r d=>r.1=none/\d=s/\∀v∈b,∃i t,v=Value.int i t) _ ?_ ?_ _ _ #[rfl,rfl,p.ints]
 .rintro v b r d ⟨e,rfl,g⟩
  obtain⟨i,t,rfl⟩:=g v bB;refine be (aaO (show ofAClassStatement 7 (.int i t)=pure false from by unfold ofAClassStatement;rfl) ?_)
  simp only[fk,M2];exact mo #[rfl,rfl,λu q=>g u (bP _ q)]
 .rintro⟨x,y⟩ d ⟨e,rfl,_⟩
  simp only at e;subst e;exact mo h
theorem Fm(j:IsTupleKey (intKind prog w) s.heap n b)(stored:List Value)(o:∀y∈stored,∃f a,y=Value.ref a/\IsTupleKey (intKind prog w) s.heap f a)(h:Q false s):
  wpAny (model prog w) A (searchCouldBeSeen (.ref b) stored) Q E s:=by
 unfold searchCouldBeSeen;refine be ?_;refine abY _ (λd r g=>r.1=none/\g=s/\∀y∈d,∃f a,y=Value.ref a/\IsTupleKey (intKind prog w) s.heap f a) _ ?_ ?_ _ _ #[rfl,rfl,o]
 .rintro y d r g ⟨i,rfl,k⟩
  obtain⟨f,a,rfl,l⟩:=k y bB;have m:∀y∈d,∃f a,y=Value.ref a/\IsTupleKey (intKind prog w) g.heap f a:=λy p=>k y (bP _ p);have e:(carriedByValue (Value.ref b)&&carriedByValue (Value.ref a))=false:=by simp[carriedByValue]
  dsimp only;rw[e,Bool.or_false]
  by_cases c:(b==a)=true
  .rw[ls c]
   exact mo #[rfl,rfl,m]
  .rw[ir c]
   refine be (wpAny_eqIsQuiet_tuple j ?_);simp only[aa9,fk,M2];refine be (wpAny_eqIsQuiet_tuple l ?_);simp only[aa9,fk,M2];refine be (qj j ?_);simp only[fk,M2];refine be (qj l ?_);simp only[fk,M2];exact mo #[rfl,rfl,m]
 .rintro⟨q,t⟩ g ⟨i,rfl,_⟩
  simp only at i;subst i;exact mo h
theorem AB(f:IsTupleKey (intKind prog w) s.heap j a)(h:Q true s):wpAny (model prog w) A (hashByValue 8 (.ref a)) Q E s:=by
 rfl';have l:=f.typeIs;obtain⟨o,c,n,m,_,p,q⟩:=f;ac_rfl;unfold hashByValue;refine be (ab7 l F.slot_tuple_hash.lookup ?_);dsimp only;refine be (wpAny_seqItems m p ?_);refine be ?_;show wpAny _ _ (forIn c _ _) _ _ s;rw[<-Array.forIn_toList];refine abY _ (λb r d=>r.1=none/\d=s/\∀v∈b,∃i t,v=Value.int i t) _ ?_ ?_ _ _ #[rfl,rfl,q.ints]
 .rintro v b r d ⟨e,rfl,g⟩
  obtain⟨i,t,rfl⟩:=g v bB;refine be (aaO (show hashByValue 7 (.int i t)=pure true from by unfold hashByValue;rfl) ?_)
  simp only[aa9,fk,M2];exact mo #[rfl,rfl,λu x=>g u (bP _ x)]
 .rintro⟨z,B⟩ d ⟨e,rfl,_⟩
  simp only at e;subst e;exact mo h
def Jb(prog:Program)(w:World)(h:Heap)(b:Array (Int×Value)):Prop:=∀(i:Nat)(e:Int×Value),b[i]? =some e->∃k a,e=(tupleKeyHash (intKind prog w) k, .ref a)/\IsTupleKey (intKind prog w) h k a
def Oj(a:Array (Int×Value))(i:Nat):Int:=(a[i]?.map (·.1)).getD 0
theorem Md(h:wz m):m%2=1:=by rcases h with rfl|rfl|rfl|rfl<;>rfl
theorem Bm{a:Array Nat}(R:oF a){i j v:Nat}(b:a[i]? =some v)(c:a[j]? =some v):i=j:=by
 rw[<-below_at R b,<-below_at R c]
theorem rE(hu:A.units<cLine)(ho:s.heap.get? a=some o)(S:iC (dh w) o q M t)(P:Jb prog w s.heap q)(hk:IsTupleKey (intKind prog w) s.heap u b)
  (Pn:(∃(i:Nat)(c:Addr),q[i]? =some (tupleKeyHash (intKind prog w) u, .ref c)/\IsTupleKey (intKind prog w) s.heap u c)->∀r:Option Nat,(B=false->r.isSome=true)->Q (.there r) s)
  (BZ:(∀(i:Nat)(e:Int×Value),q[i]? =some e->∀c,e.2= .ref c->¬IsTupleKey (intKind prog w) s.heap u c)->∀g,(∀i:Nat,t.place[i]? ≠some (cu t.mask (tupleKeyHash (intKind prog w) u) g))->(∀j,j<g->∃i:Nat,t.place[i]? =some (cu t.mask (tupleKeyHash (intKind prog w) u) j))->
   Q (.free (cu t.mask (tupleKeyHash (intKind prog w) u) g) false) s):
  wpAny (model prog w) A (setSearch a (.ref b) (tupleKeyHash (intKind prog w) u) B) Q E s:=by
 generalize hh:tupleKeyHash (intKind prog w) u=h at*;have T:=S.tok;obtain⟨s0,hs0,W2⟩:=T.empty;obtain⟨K,hK,Z⟩:=meets T.few (uE.start t.mask h) hs0;have Z:cu t.mask h K=s0:=by unfold cu;rw[nj];exact Z
 have kb:K<6000:=by
  have:10*turns t.mask<=5260:=by
   rcases T.few with e|e|e|e<;>rw[e]<;>decide
  lia
 have sz:t.place.size=q.size:=by rw[T.size];simp
 have hN:(t.mask%2==0)=false:=by rw[Md T.few];rfl
 have N:∀(n:Nat)(k:Nat)(l:Nat)(O:Option Probe),K+1-k<=n->n<l->k<=K->O.getD (t.probeStart h)=sI t.mask h k->(∀j,j<k->∃i:Nat,t.place[i]? =some (cu t.mask h j))->
   (∀(i:Nat) c,q[i]? =some (h, .ref c)->IsTupleKey (intKind prog w) s.heap u c->∀C,t.place[i]? =some (cu t.mask h C)->k<=C)->
   wpAny (model prog w) A (setSearchFrom a (.ref b) h B l O) Q E s:=by
  intro n
  induction n with
  |zero=>intro k l O h1 h2 h3;lia
  |succ n ih=>
   intro k l O h1 h2 h3 h4 h5 h6;obtain⟨f,rfl⟩:∃f,l=f+1:=#[l-1,by lia]
   unfold setSearchFrom;refine be (UF ho S.dat S.fits ?_);dsimp only;unfold SetTable.gaveWay;rw[hN];simp only[fk,M2]
   have WI:∀(i:Nat)(e:Int×Value),q[i]? =some e->Oj q i=e.1:=λi e d=>by
    show(q[i]?.map (·.1)).getD 0=e.1;rw[d];rfl
   generalize I:t.probe _ h (O.getD (t.probeStart h))=r;have I:t.probe (Oj q) h (sI t.mask h k)=r:=by rw[<-h4];exact I
   generalize Oj q=hA at WI I;obtain⟨g,wG,hp,alt⟩:=TOk.probe T hA h k
   have k0K:g<=K:=by
    apply Da;intro c;obtain⟨i,d,_⟩:=hp K h3 (by lia)
    rw[Z] at d;exact W2 i d
   have Qc:∀j,j<g->∃i:Nat,t.place[i]? =some (cu t.mask h j):=λj h'=>by
    by_cases c:j<k
    .exact h5 j c
    .obtain⟨i,d,_⟩:=hp j (by lia) h'
     exact#[i,d]
   have F:∀(i:Nat) c,q[i]? =some (h, .ref c)->IsTupleKey (intKind prog w) s.heap u c->∀C,t.place[i]? =some (cu t.mask h C)->g<=C:=λi c d hc C R=>by
    have Pr:=h6 i c d hc C R;apply Da;intro z;obtain⟨p,G,wI⟩:=hp C Pr (by lia)
    have:i=p:=Bm T.rise R G
    subst this;exact wI (WI i _ d)
   rcases alt with ⟨Mu,M⟩ | ⟨i,d,F7,M⟩
   .rw[M] at I
    subst I;dsimp only;refine mo (BZ (λi e d c hc W9=>?_) g Mu Qc);obtain⟨j,a',U,X⟩:=P i e d;subst U;cases hc
    have:j=u:=X.inj W9
    subst this;rw[hh] at d;obtain⟨ky,Xz,hy2⟩:=T.path i h (by rw[b7,eW,d];rfl)
    have lt:=F i _ d W9 ky Xz
    by_cases c1:g<ky
    .obtain⟨p,G⟩:=hy2 g c1
     exact Mu p G
    .have:ky=g:=by lia
     subst this;exact Mu i Xz
   .rw[M] at I
    subst I;dsimp only
    have XE:i<q.size:=by
     have:=(Bu.mp d).1
     lia
    obtain⟨j,c,U,X⟩:=P i q[i] (qq XE);have L:q[i]? =some (tupleKeyHash (intKind prog w) j, .ref c):=by rw[qq XE,U]
    have H:wpAny (model prog w) A (match q[i]? with
      |some (fst,y)=>do
       let m <-holding [y] (eqBool y (Value.ref b))
       let J <-setState a
       if (B&&m)=true then pure (SetFound.there none)
        else
         match J.2.snd.sameMemory t.moves t.mask with
         |some same=>
          match if same=true then J.2.snd.slot (cu t.mask h g) else Slot.empty with
          |Slot.live p=>
           match J.fst[p]? with
           |some (fst,y')=>do
            let v <-isSame y' y
            let Y <-pure (if v=true then some p else none)
            match Y with
             |none=>do
              rule "set.search.anew"
              setSearchFrom a (Value.ref b) h B f none
             |some p=>
              if m=true then pure (SetFound.there (some p))
              else setSearchFrom a (Value.ref b) h B f (some (sI t.mask h (g+1)))
           |none=>do
            let Y <-pure none
            match Y with
             |none=>do
              rule "set.search.anew"
              setSearchFrom a (Value.ref b) h B f none
             |some p=>
              if m=true then pure (SetFound.there (some p))
              else setSearchFrom a (Value.ref b) h B f (some (sI t.mask h (g+1)))
          |x=>do
           let Y <-pure none
           match Y with
            |none=>do
             rule "set.search.anew"
             setSearchFrom a (Value.ref b) h B f none
            |some p=>
             if m=true then pure (SetFound.there (some p))
             else setSearchFrom a (Value.ref b) h B f (some (sI t.mask h (g+1)))
         |x=>unsupported "set.changed-during-lookup:is-the-new-block-at-the-old-address"
      |x=>unsupported "internal:set-entry") Q E s:=by
     rw[L];dsimp only;refine be (KM (wpAny_eqBool_tuple hu X hk ?_));refine be (UF ho S.dat S.fits ?_);dsimp only;have sm:t.sameMemory t.moves t.mask=some true:=by unfold SetTable.sameMemory;simp
     have wI:j≠u->wpAny (model prog w) A (setSearchFrom a (Value.ref b) h B f (some (sI t.mask h (g+1)))) Q E s:=λne=>by
      by_cases kk:g=K
      .subst kk
       rw[Z] at d;exact absurd d (W2 i)
      refine ih (g+1) f _ (by lia) (by lia) (by lia) rfl (λPJ h''=>?_) λp c' G tH C R=>?_
      .by_cases z:PJ=g
       .subst z;exact#[i,d]
       .exact Qc PJ (by lia)
      .have l1:=F p c' G tH C R
       have:C≠g:=λz=>by
        subst z
        have:p=i:=Bm T.rise R d
        subst this;rw[L] at G;cases G;exact ne (X.inj tH)
       lia
     have there:j=u->∀r:Option Nat,(B=false->r.isSome=true)->Q (.there r) s:=λe=>by
      subst e;rw[hh] at L;exact Pn #[i,c,L,X]
     by_cases e:j=u
     .rw[FM e,Bool.and_true]
      cases B with
      |true=>exact mo (there e none λz=>absurd z (by decide))
      |false=>
       simp only[fk,M2];rw[sm];dsimp only;rw[ls rfl,sH T.rise d];dsimp only;rw[L];dsimp only;refine be (wpAny_isSame_ref_self ?_);refine be (mo ?_);simp only[aax];exact mo (there e (some i) λ_=>rfl)
     .rw[GM e,Bool.and_false]
      simp only[fk,M2];rw[sm];dsimp only;rw[ls rfl,sH T.rise d];dsimp only;rw[L];dsimp only;refine be (wpAny_isSame_ref_self ?_);refine be (mo ?_);simp only[aax];exact wI e
    by_cases led:(!t.led)=true
    .rw[ls led]
     refine be (Fm hk _ (λy hy=>?_) ?_)
     .obtain⟨e,he,rfl⟩:=aX.mp hy
      have he:=(Array.mem_filter.mp (Array.mem_toList_iff.mp he)).1;obtain⟨p,G,rfl⟩:=Array.mem_iff_getElem.mp he;obtain⟨PJ,c',U,W8⟩:=P p q[p] (qq G);exact#[PJ,c',by rw[U],W8]
     .simp only[fk,M2]
      exact H
    .rw[ir led]
     exact H
 refine N (K+1) 0 100000 none (bb _) (by lia) (fm _) rfl (λj h'=>by lia) λi c d hc C _=>fm _
end
section
variable {prog:Program} {w:World} {A:Around} {E:Value->Shared->Prop} {s:Shared}
theorem vI(b:Addr)(a:Array (Int×Value)):byScan (.ref b) a=false:=rfl
theorem AA(k:A.units<cLine)(g:s.heap.get? a=some o)(S:iC (dh w) o f j t)(P:Jb prog w s.heap f)(l:IsTupleKey (intKind prog w) s.heap d b)
  (m:(∃(i:Nat)(c:Addr),f[i]? =some (tupleKeyHash (intKind prog w) d, .ref c)/\IsTupleKey (intKind prog w) s.heap d c)->∀r:Option Nat,r.isSome=true->Q r s)
  (n:(∀(i:Nat)(e:Int×Value),f[i]? =some e->∀c,e.2= .ref c->¬IsTupleKey (intKind prog w) s.heap d c)->Q none s):
  wpAny (model prog w) A (setFind a (.ref b) (tupleKeyHash (intKind prog w) d)) Q E s:=by
 unfold setFind setFindIn;refine be (UF g S.dat S.fits ?_);dsimp only;rw[vI];simp only[fk,M2];refine be (rE k g S P l (λh r p=>?_) λh q _ _=>?_)
 .exact mo (m h r (p rfl))
 .exact mo (n h)
theorem uk(hu:A.units<cLine)(n:s.heap.get? a=some o)(S:iC (dh w) o d Z t)(P:Jb prog w s.heap d)(I:IsTupleKey (intKind prog w) s.heap g b)(room:d.size<=305)
  (hy:(∃(i:Nat)(c:Addr),d[i]? =some (tupleKeyHash (intKind prog w) g, .ref c)/\IsTupleKey (intKind prog w) s.heap g c)->Q false s)
  (J:(∀(i:Nat)(e:Int×Value),d[i]? =some e->∀c,e.2= .ref c->¬IsTupleKey (intKind prog w) s.heap g c)->∀z L M uM t',Heap.SameBut a s.heap z->z.get? a=some L->iC (dh w) L M uM t'->M.toList.Perm (d.toList++ [(tupleKeyHash (intKind prog w) g, .ref b)])->Q true {s with heap:=z}):
  wpAny (model prog w) A (setAddHashed a (.ref b) (tupleKeyHash (intKind prog w) g)) Q E s:=by
 have u:=S.dat;have N:=S.fits;have T:=S.tok;have sz:t.place.size=d.size:=by rw[T.size];simp
 unfold setAddHashed setAddHashedIn;refine KM (be (UF n u N ?_));dsimp only;rw[vI];simp only[fk,M2];refine be (rE hu n S P I (λh r hr=>?_) λh k B Qc=>?_)
 .exact mo (hy h)
 .dsimp only
  refine be (UF n u N ?_);dsimp only;obtain⟨p1,p2,l⟩:=TOk.put T B Qc (by rw[sz];exact JB T.few S.few)
  rw[p1]
  have e:(SetTable.insertAt d (below t.place (cu t.mask (tupleKeyHash (intKind prog w) g) k)) (tupleKeyHash (intKind prog w) g,Value.ref b)).toList.map (·.1)=(d.toList.map (·.1)).take (below t.place (cu t.mask (tupleKeyHash (intKind prog w) g) k))++tupleKeyHash (intKind prog w) g::(d.toList.map (·.1)).drop (below t.place (cu t.mask (tupleKeyHash (intKind prog w) g) k)):=by
   rw[abW];simp
  rw[<-e] at l;have pl:(t.put (cu t.mask (tupleKeyHash (intKind prog w) g) k)).1.plain=true:=S.pl;have ld:(t.put (cu t.mask (tupleKeyHash (intKind prog w) g) k)).1.led= !dh w:=S.ld;have mk:(t.put (cu t.mask (tupleKeyHash (intKind prog w) g) k)).1.mask=t.mask:=rfl;generalize hx:((tupleKeyHash (intKind prog w) g,Value.ref b):Int×Value)=x at*;generalize hp:below t.place (cu t.mask (tupleKeyHash (intKind prog w) g) k)=p at*;generalize (t.put (cu t.mask (tupleKeyHash (intKind prog w) g) k)).1=m at*;rw[ls pl];refine be (AB I ?_);simp only[aax,Bool.not_false,Bool.true_and];have q:(SetTable.insertAt d p x).size=d.size+1:=SetTable.iI ..;have C:=acg d p x;rw[z6] at C;refine be (wpAny_storeSet_of n u ?_ (by rw[q];refine fits_of_scanBound ?_;show d.size+1<4096;lia))
  have v:=wb n u (SetTable.insertAt d p x) m;have O:=aas s.heap a (Obj.putSet (SetTable.insertAt d p x) m)
  have F:m.fits (SetTable.insertAt d p x).size=true:=by
   have:=TOk.fits l
   rw[aG,cD] at this;exact this
  by_cases j:m.tooFull=true
  .rw[ls j]
   refine ag λG0 k=>?_;obtain⟨y,f,R,_,pf,U,T2,G,l2,X,YI⟩:=GY l j (by rw[q,mk];have:=S.few;lia) (by rw[q];lia)
   refine k ?_;rw[q] at R X YI;refine be ?_;unfold setRelay;refine be (UF v rfl F ?_);dsimp only;have big:512<=sizeLine:=by decide
   rw[ir (by lia),R]
   have Y:(f.filterMap ((SetTable.insertAt d p x)[·]?)).size=d.size+1:=by rw[U,q]
   refine be (aaO (a:=(f.filterMap ((SetTable.insertAt d p x)[·]?),y)) ?_ ?_)
   .show(if ((f.filterMap ((SetTable.insertAt d p x)[·]?)).size !=(SetTable.insertAt d p x).size)=true then _ else pure (f.filterMap ((SetTable.insertAt d p x)[·]?),y))=_
    rw[ir (by rw[U];simp)]
   .dsimp only
    refine wpAny_storeSet_of v rfl ?_ (by rw[Y];refine fits_of_scanBound ?_;show d.size+1<4096;lia)
    have Al:=wb v rfl (f.filterMap ((SetTable.insertAt d p x)[·]?)) y;exact mo (J h _ _ _ _ y (O.trans (aas _ a _)) Al #[S.ex,rfl,T2,by rw[G];exact pl,by rw[l2];exact ld,by rw[Y];exact X] (pf.trans C))
  .rw[ir j]
   refine mo (J h _ _ _ _ m O v #[S.ex,rfl,l,pl,ld,?_] C);have H:m.tooFull=false:=by simpa using j
   unfold SetTable.tooFull SetTable.fill at H;rw[l.dum,l.size] at H;simp at H;lia
variable {a b:Addr} {o:Obj} {es:Array (Int×Value)} {ep:Nat} {t:SetTable} {ks:List Int}
open Classical in
noncomputable def oU(prog:Program)(w:World)(h:Heap)(es:Array (Int×Value))(ks:List Int):Bool:=decide (∃(i:Nat)(c:Addr),es[i]? =some (tupleKeyHash (intKind prog w) ks, .ref c)/\IsTupleKey (intKind prog w) h ks c)
theorem Mp(h:∀(i:Nat)(e:Int×Value),es[i]? =some e->∀c,e.2= .ref c->¬IsTupleKey (intKind prog w) s.heap ks c):oU prog w s.heap es ks=false:=by
 classical
 unfold oU;exact GM λ#[i,c,d,f]=>h i _ d c rfl f
theorem JK(h:∃(i:Nat)(c:Addr),es[i]? =some (tupleKeyHash (intKind prog w) ks, .ref c)/\IsTupleKey (intKind prog w) s.heap ks c):oU prog w s.heap es ks=true:=by
 classical
 unfold oU;exact FM h
theorem um(k:A.units+64<cLine)(d:s.heap.get? a=some o)(S:iC (dh w) o es ep t)(P:Jb prog w s.heap es)(e:IsTupleKey (intKind prog w) s.heap ks b)
  (h:∀f,Q (oU prog w s.heap es ks) {s with toks:=f}):wpAny (model prog w) A (contains (.ref a) (.ref b)) Q E s:=by
 have c:s.TypeIs (.ref a) "set":=#[o,d,S.ex.1];unfold contains
 try with_reducible refine KM ?_
 refine be (ab7 c F.slot_set_contains.lookup ?_);show wpAny _ _ (if (some (Value.builtin "set.__contains__")==some Value.none)=true then _ else _) _ E s;rw[ir (by rw[beq_builtin_none];exact dD)]
 refine be (wpAny_callSpecialUnlessNone?_slot (name:=Str.ofString "__contains__") c F.slot_set_contains
  (SB F.slot_set_contains c entry_set_contains ?_ (F.args_set_contains_2 _ _)))
 unfold Builtin.«frozenset.__contains__» Builtin.Frozenset.oneOther;simp only[abX,bind_assoc];unfold Builtin.Frozenset.addrOf Builtin.Frozenset.withSetAsKey setContains;refine be (mo ?_)
 try dsimp only
 refine be (mo ?_)
 try dsimp only
 refine be (wpAny_tryCatch ?_);refine KM ?_;refine be (abJ ?_ e ?_)
 .show A.units+1<cLine;lia
 refine be (AA (s:={s with toks:=s.toks+(ks.length+1)}) ?_ d S P e (λg r i=>?_) λj=>?_)
 .show A.units+1<cLine;lia
 .refine mo ?_
  show wpAny _ _ (ret (Value.bool r.isSome)) _ _ _;rw[i]
  have:=h (s.toks+(ks.length+1))
  rw[JK g] at this;exact mo #[_,rfl,SL this]
 .refine mo ?_
  have:=h (s.toks+(ks.length+1))
  rw[Mp j] at this;exact mo #[_,rfl,SL this]
end
end PySem
set_option maxHeartbeats 4000000
namespace L2
open PySem PySem.Spec PyProof.Rows
inductive FV where
 |int (i:Int) |bl (b:Bool)
inductive XD where
 |mz (b:Bool) (ps:List (Int×Int)) |mw (ks:List (Int×Int)) (vs:List FV)
inductive D where
 |non|bl (b:Bool) |int (i:Int) |str (x:Str) |lst (l:List D) |tup (l:List D) |kQ (ns:List Int) |rng (lo hi:Int) |obj (a:Addr) |dm (w:List (List Nat)) |set (b:Bool) (l:List Int) |x (k:XD) |err (C:Addr) (ks:List Str) (l:List D)
structure DC where
 K:ac
 C:Addr
def ae(n:Nat):D:= .int n
def au(r:List Nat):D:= .lst (r.map ae)
def aP(w:List (List Nat)):D:= .lst (w.map au)
def VH(a:Array (Int×Value))(b:List Int):Prop:=(∀e∈a.toList,∃k t,e=(hashInt k,Value.int k t))/\b.Nodup/\∃c,IntsAre (a.toList.map (·.2)) c/\c.Perm b
def Rh(b:Bool)(a:Addr)(d:List Int)(h:Heap):Prop:=∃o c e t,h.get? a=some o/\iC b o c e t/\VH c d
def cm(p:Int×Int):Int:=reduceHash (Builtin.Tuple.tupleHashOf [hashInt p.1,hashInt p.2])
inductive gd (H:Hp):List (Int×Addr)->List (Int×Int)->Prop
 |nil:gd H [] []
 |cons {a:Addr} {p:Int×Int} {es:List (Int×Addr)} {ps:List (Int×Int)}:H a=some (.tup [.int p.1, .int p.2])->gd H es ps->gd H ((cm p,a)::es) (p::ps)
theorem gd.mono{H a:Hp}(s:aZ H a):∀{b:List (Int×Addr)}{c:List (Int×Int)},gd H b c->gd a b c
 |_,_, .nil=> .nil
 |_,_, .cons h t=> .cons (s _ _ h) (t.mono s)
def dW(b:Bool)(a:Addr)(d:List (Int×Addr))(h:Heap):Prop:=∃o c f t,h.get? a=some o/\iC b o c f t/\c.toList.Perm (d.map λe=>(e.1,Value.ref e.2))
def I0:FV->Value->Prop
 | .int i,v=>∃t,v= .int i t
 | .bl b,v=>v= .bool b
inductive IW:List DictEntry->List (Int×Addr)->List FV->Prop
 |nil:IW [] [] []
 |cons {e:DictEntry} {l:List DictEntry} {h:Int} {a:Addr} {v:FV} {es:List (Int×Addr)} {vs:List FV}:e.hash=h->e.key= .ref a->I0 v e.val->IW l es vs->IW (e::l) ((h,a)::es) (v::vs)
def eZ(a:Addr)(c:List (Int×Addr))(d:List FV)(h:Heap):Prop:=(a==sysModules)=false/\∃o b e,h.get? a=some o/\o.ExactDict/\o.data= .dict b e/\IW b.toList c d
def Jc(H:Hp)(a:Addr)(d:Heap->Prop):XD->Prop
 | .mz b e=>e.Nodup/\∃c,d=dW b a c/\gd H c e
 | .mw ks f=>ks.Nodup/\∃c,d=eZ a c f/\gd H c ks
theorem Jc.mono{H c:Hp}(s:aZ H c){d:Heap->Prop}:∀{k:XD},Jc H a d k->Jc c a d k
 | .mz _ _,#[n,b,e,p]=>#[n,b,e,p.mono s]
 | .mw _ _,#[n,b,e,p]=>#[n,b,e,p.mono s]
def OF(H:Hp)(d:Option Addr)(a:List Str)(b:List V):Prop:=(d=none/\a= []/\b= [])\/∃c,d=some c/\H c=some (Zy c (a.zip b))/\a.length=b.length
theorem OF.mono{H d:Hp}(s:aZ H d){f:List Str}(h:OF H e f g):OF d e f g:=h.imp id λ#[i,a,b,c]=>#[i,a,s _ _ b,c]
mutual
inductive Dv (Z:DC) (H:Hp):V->D->Prop
 |non:Dv Z H .non .non
 |bl (b:Bool):Dv Z H (.bl b) (.bl b)
 |int (i:Int):Dv Z H (.int i) (.int i)
 |str (x:Str) (h:PyData.strOk x=true):Dv Z H (.str x) (.str x)
 |lst {a:Addr} {xs:List V} {ds:List D}:H a=some (.lst xs)->DvAll Z H xs ds->Dv Z H (.ref a) (.lst ds)
 |tup {a:Addr} {xs:List V} {ds:List D}:H a=some (.tup xs)->DvAll Z H xs ds->Dv Z H (.ref a) (.tup ds)
 |obj (a:Addr):Dv Z H (.ref a) (.obj a)
 |rng {a:Addr} {lo hi:Int}:H a=some (.rng lo hi)->Dv Z H (.ref a) (.rng lo hi)
 |kQ {a:Addr} {ns:List Int}:cY Z.K H a (ns.map V.int)->ns.length<=63->Dv Z H (.ref a) (.kQ ns)
 |dm {p dx R:Addr} {w:List (List Nat)}:H p=some (.ins Z.C dx [("rows", .ref R)])->Dv Z H (.ref R) (aP w)->Wb.Good w->1<=w.length->w.length<=14->Dv Z H (.ref p) (.dm w)
 |set {a:Addr} {b:Bool} {ns:List Int}:H a=some (.ext (Rh b a ns))->Dv Z H (.ref a) (.set b ns)
 |x {a:Addr} {φ:Heap->Prop} {k:XD}:H a=some (.ext φ)->Jc H a φ k->Dv Z H (.ref a) (.x k)
 |err {a C:Addr} {od:Option Addr} {ks:List Str} {xs:List V} {ds:List D}:H a=some (VF C a od)->OF H od ks xs->DvAll Z H xs ds->Dv Z H (.ref a) (.err C ks ds)
inductive DvAll (Z:DC) (H:Hp):List V->List D->Prop
 |nil:DvAll Z H [] []
 |cons {v:V} {vs:List V} {d:D} {ds:List D}:Dv Z H v d->DvAll Z H vs ds->DvAll Z H (v::vs) (d::ds)
end
theorem cY.mono{K:ac}{H b:Hp}(s:aZ H b)(h:cY K H a c):cY K b a c:=by
 rcases h with (h| ⟨o,h⟩) |h
 .exact .inl (.inl (s _ _ h))
 .exact .inl (.inr #[o,s _ _ h])
 .exact .inr h
section
variable {Z:DC} {H H' G G':Hp}
theorem Dv.ofInt(h:Dv Z H v (.int i)):v= .int i:=by cases h;rfl
theorem Dv.tW(h:Dv Z H v (.bl b)):v= .bl b:=by cases h;rfl
theorem Dv.iL(h:Dv Z H v (.lst b)):∃a c,v= .ref a/\H a=some (.lst c)/\DvAll Z H c b:=by cases h with|lst h e=>exact#[_,_,rfl,h,e]
theorem Dv.sq(h:Dv Z H v (.tup b)):∃a c,v= .ref a/\H a=some (.tup c)/\DvAll Z H c b:=by cases h with|tup h e=>exact#[_,_,rfl,h,e]
theorem Dv.Nh{v:V}{ns:List Int}(h:Dv Z H v (.kQ ns)):∃a,v= .ref a/\cY Z.K H a (ns.map V.int)/\ns.length<=63:=by cases h with|kQ h z=>exact#[_,rfl,h,z]
theorem DvAll.yN(h:DvAll Z H a []):a= []:=by cases h;rfl
theorem DvAll.mX(h:DvAll Z H c (d::e)):∃v f,c=v::f/\Dv Z H v d/\DvAll Z H f e:=by cases h with|cons a b=>exact#[_,_,rfl,a,b]
theorem DvAll.ofOne(h:DvAll Z H c [d]):∃v,c= [v]/\Dv Z H v d:=by
 obtain⟨v,e,rfl,a,b⟩:=h.mX;rw[b.yN];exact#[v,rfl,a]
theorem DvAll.GC(h:DvAll Z H f [d,e]):∃v u,f= [v,u]/\Dv Z H v d/\Dv Z H u e:=by
 obtain⟨v,g,rfl,a,b⟩:=h.mX;obtain⟨u,rfl,c⟩:=b.ofOne;exact#[v,u,rfl,a,c]
theorem Dv.mono(s:aZ H H'){d:D}(h:Dv Z H v d):Dv Z H' v d:=
 Dv.rec (motive_1:=λv d _=>Dv Z H' v d) (motive_2:=λc e _=>DvAll Z H' c e) .non .bl .int .str (λh _ a=> .lst (s _ _ h) a) (λh _ a=> .tup (s _ _ h) a) .obj (λh=> .rng (s _ _ h)) (λh z=> .kQ (h.mono s) z) (λh _ g a b r=> .dm (s _ _ h) r g a b) (λh=> .set (s _ _ h)) (λh k=> .x (s _ _ h) (k.mono s)) (λh k _ a=> .err (s _ _ h) (k.mono s) a) .nil (λ_ _ a b=> .cons a b) h
theorem DvAll.ind{p:List V->List D->Prop}(n:p [] [])(c:∀{v:V}{e:List V}{d:D}{f:List D},Dv Z H v d->DvAll Z H e f->p e f->p (v::e) (d::f)){f:List D}(h:DvAll Z H e f):p e f:=
 DvAll.rec (motive_1:=λ_ _ _=>True) (motive_2:=λe f _=>p e f) trivial (λ_=>trivial) (λ_=>trivial) (λ_ _=>trivial) (λ_ _ _=>trivial) (λ_ _ _=>trivial) (λ_=>trivial) (λ_=>trivial) (λ_ _=>trivial) (λ_ _ _ _ _ _=>trivial) (λ_=>trivial) (λ_ _=>trivial) (λ_ _ _ _=>trivial) n (λa b _ q=>c a b q) h
theorem DvAll.mono(s:aZ H H'){d:List D}(h:DvAll Z H c d):DvAll Z H' c d:=h.ind .nil λa _ b=> .cons (a.mono s) b
theorem DvAll.length{a:List V}{b:List D}(h:DvAll Z H a b):a.length=b.length:=h.ind (p:=λa b=>a.length=b.length) rfl λ_ _ e=>FS (·+1) e
theorem DvAll.get{b:List V}{i:Nat}{d:D}(h:DvAll Z H b c)(e:c[i]? =some d):∃v,b[i]? =some v/\Dv Z H v d:=by
 revert i
 refine h.ind (p:=λb c=>∀{i:Nat},c[i]? =some d->∃v,b[i]? =some v/\Dv Z H v d) (λe=>by cases e) λa _ f i e=>?_
 cases i with
 |zero=>cases e;exact#[_,rfl,a]
 |succ i=>exact f e
theorem DvAll.Ib{b:List V}{c:List D}{i:Nat}{v:V}(h:DvAll Z H b c)(e:b[i]? =some v):∃d,c[i]? =some d/\Dv Z H v d:=by
 revert i
 refine h.ind (p:=λb c=>∀{i:Nat},b[i]? =some v->∃d,c[i]? =some d/\Dv Z H v d) (λe=>by cases e) λa _ f i e=>?_
 cases i with
 |zero=>cases e;exact#[_,rfl,a]
 |succ i=>exact f e
theorem DvAll.append(h:DvAll Z H c d)(k:DvAll Z H e f):DvAll Z H (c++e) (d++f):=h.ind (p:=λc d=>DvAll Z H (c++e) (d++f)) k λa _ b=> .cons a b
theorem DvAll.take:∀{b:List V}{c:List D}(n:Nat),DvAll Z H b c->DvAll Z H (b.take n) (c.take n)
 |_,_,0,_=>DvAll.nil
 |_,_,n+1, .nil=>DvAll.nil
 |_,_,n+1, .cons a d=>DvAll.cons a (d.take n)
theorem DvAll.drop:∀{b:List V}{c:List D}(n:Nat),DvAll Z H b c->DvAll Z H (b.drop n) (c.drop n)
 |_,_,0,h=>h
 |_,_,n+1, .nil=>by simpa using DvAll.nil
 |_,_,n+1, .cons a d=>by simpa using d.drop n
theorem DvAll.set{v:V}{d:D}(h:Dv Z H v d):∀{c:List V}{e:List D}(n:Nat),DvAll Z H c e->DvAll Z H (c.set n v) (e.set n d)
 |_,_,_, .nil=> .nil
 |_,_,0, .cons a b=> .cons h b
 |_,_,n+1, .cons a b=> .cons a (DvAll.set h n b)
theorem DvAll.ints:∀(a:List Int),DvAll Z H (a.map V.int) (a.map D.int)
 | []=> .nil
 |n::a=> .cons (.int n) (DvAll.ints a)
theorem DvAll.snoc{e:List D}(a:DvAll Z H c e)(b:Dv Z H v d):DvAll Z H (c++ [v]) (e++ [d]):=a.append (.cons b .nil)
structure Ext (G H G' H':Hp):Prop where
 gg:aZ G G'
 sub:aZ G' H'
 hh:aZ H H'
 off:∀b,H b≠none->G b=none->G' b=none
theorem Ext.refl(s:aZ G H):Ext G H G H:=#[.refl _,s, .refl _,λ_ _ h=>h]
theorem Ext.trans{c d f i:Hp}(a:Ext G H c d)(b:Ext c d f i):Ext G H f i:=
 #[a.gg.trans b.gg,b.sub,a.hh.trans b.hh,λx h g=>b.off x (λz=>by
  cases e:H x with
  |none=>exact h e
  |some o=>rw[a.hh x o e] at z;cases z) (a.off x h g)]
theorem Ext.new{o:HO}(s:aZ G H)(h:H p=none):Ext G H (upd G p o) (upd H p o):=by
 have a:G p=none:=s.free h;refine#[aY a o,λb u e=>?_,aY h o,λb c a=>?_]
 .by_cases z:b=p
  .subst z;rw[ax] at e ⊢;exact e
  .rw[aB z] at e ⊢;exact s b u e
 .have:b≠p:=λz=>c (by rw[z];exact h)
  rw[aB this];exact a
end
abbrev DN:=List (Option D)
structure dr (Z:DC) (G:Hp) (σ:St) (ρ:DN):Prop where
 len:ρ.length=σ.length
 at_:∀(i:Nat)(d:D),ρ[i]? =some (some d)->∃v,σ[i]? =some (some v)/\Dv Z G v d
section
variable {Z:DC} {G G' H H':Hp} {σ:St} {ρ:DN}
theorem dr.mono(e:dr Z G σ ρ)(s:aZ G G'):dr Z G' σ ρ:=#[e.len,λi d h=>let #[v,a,b]:=e.at_ i d h;#[v,a,b.mono s]]
theorem dr.set{i:Nat}{v:V}{d:D}(e:dr Z G σ ρ)(h:Dv Z G v d):dr Z G (σ.set i (some v)) (ρ.set i (some d)):=by
 refine#[by rw[f9,f9];exact e.len,λj c a=>?_]
 by_cases z:i=j
 .subst z
  by_cases b:i<ρ.length
  .rw[lF b] at a
   cases Do a;exact#[v,by rw[lF (e.len▸b)],h]
  .rw[zW (jS b)] at a
   rw[iu (jS b)] at a;cases a
 .rw[lG z] at a ⊢
  exact e.at_ j c a
end
abbrev bp:=DN->(D->Prop)->Prop
abbrev eI:=DN->(Bool->Prop)->Prop
abbrev i7:=DN->(List D->Prop)->Prop
abbrev gU:=D->D->(D->Prop)->Prop
abbrev fc:=D->DN->(DN->Prop)->Prop
abbrev jC:=DN->(List D->Prop)->Prop
def eO(Z:DC)(t:bp):TE:=λe H Q=>∃(G:Hp)(a:DN)(P:D->Prop),aZ G H/\dr Z G e a/\t a P/\∀d,P d->∀v b c,Ext G H b c->Dv Z b v d->Q v c
def liftT(Z:DC)(t:eI):TT:=λd H Q=>∃(G:Hp)(a:DN)(P:Bool->Prop),aZ G H/\dr Z G d a/\t a P/\∀b,P b->∀e c,Ext G H e c->Q b c
def Gp(Z:DC)(t:i7):TA:=λf H Q=>∃(G:Hp)(a:DN)(P:List D->Prop),aZ G H/\dr Z G f a/\t a P/\∀b,P b->∀c d e,Ext G H d e->DvAll Z d c b->Q c e
def cq(Z:DC)(r:gU):R2:=λx y H Q=>∃(G:Hp)(a b:D)(P:D->Prop),aZ G H/\Dv Z G x a/\Dv Z G y b/\r a b P/\∀d,P d->∀v c e,Ext G H c e->Dv Z c v d->Q v e
def gE(Z:DC)(r:List D->(D->Prop)->Prop):List V->Hp->VK->Prop:=λe H Q=>∃(G:Hp)(a:List D)(P:D->Prop),aZ G H/\DvAll Z G e a/\r a P/\∀d,P d->∀v b c,Ext G H b c->Dv Z b v d->Q v c
abbrev cv:=List D->(D->Prop)->Prop
def br(Z:DC)(a:cv):Sp:=λb H Q _=>gE Z a b H Q
def DE(Z:DC)(X:Cx)(e:Expr)(t:bp):Prop:=PE X e (eO Z t)
def DT(Z:DC)(X:Cx)(e:Expr)(t:eI):Prop:=PT X e (liftT Z t)
def DA(Z:DC)(X:Cx)(a:List Expr)(t:i7):Prop:=PA X a (Gp Z t)
theorem PE.imp(h:PE X e t)(f:∀b H Q,t' b H Q->t b H Q):PE X e t':=λa s b H Q I q=>h a s b H Q I (f _ _ _ q)
theorem PT.imp(h:PT X e t)(f:∀b H Q,c b H Q->t b H Q):PT X e c:=λa s b H Q I q=>h a s b H Q I (f _ _ _ q)
theorem PW.imp(h:PW X e t)(f:∀b H Q,c b H Q->t b H Q):PW X e c:=λd a s b H Q I q=>h d a s b H Q I (f _ _ _ q)
theorem PA.imp{d:List Expr}(h:PA X d t)(f:∀b H Q,t' b H Q->t b H Q):PA X d t':=λc a s b H Q I q=>h c a s b H Q I (f _ _ _ q)
theorem OpR.imp{f:Value->Value->Sem Value}{r d:R2}(h:OpR X f r)(g:∀x y H Q,d x y H Q->r x y H Q):OpR X f d:=λc s e H x y v u Q I a b q=>h c s e H x y v u Q I a b (g _ _ _ _ q)
theorem cB.imp{f:Value}{r d:List V->Hp->VK->Prop}(h:cB X f r)(g:∀c H Q,d c H Q->r c H Q):cB X f d:=λb s e H c i Q I a q=>h b s e H c i Q I a (g _ _ _ q)
def LB(i:Nat):bp:=λa P=>∃d,a[i]? =some (some d)/\P d
def dC(d:D):bp:=λ_ P=>P d
section
variable {Z:DC} {X:Cx}
theorem aa(i:Nat)(f:X.N[i]? =some x:=by rfl)(b:kN X.env.scope x:=by subst_eqs)(c:(x==("__debug__":Str))=false:=by decide)
  (g:(x==("__classdict__":Str))=false:=by decide):DE Z X (.Name x a) (LB i):=by
 refine(CA f b c g).imp λk H Q h=>?_;rfl';obtain⟨G,m,P,s,e,⟨d,c,p⟩,q⟩:=h;ac_rfl;exact let #[v,b,dv]:=e.at_ i d c;#[v,b,q d p v G H (.refl s) dv]
theorem ay{i j pos}:DE Z X (.Constant (.int i) j pos) (dC (.int i)):=by
 refine Qt.imp λc H Q a=>?_;rfl';obtain⟨G,f,P,s,e,p,q⟩:=a;ac_rfl;exact q _ p _ G H (.refl s) (.int i)
theorem fq{b j pos}:DE Z X (.Constant (.bool b) j pos) (dC (.bl b)):=by
 refine UZ.imp λd H Q a=>?_;rfl';obtain⟨G,g,P,s,e,p,q⟩:=a;ac_rfl;exact q _ p _ G H (.refl s) (.bl b)
theorem gq{j pos}:DE Z X (.Constant .none j pos) (dC .non):=by
 refine Qv.imp λc H Q a=>?_;rfl';obtain⟨G,f,P,s,e,p,q⟩:=a;ac_rfl;exact q _ p _ G H (.refl s) .non
theorem tj{x j pos}(h:PyData.strOk x=true:=by decide+kernel):DE Z X (.Constant (.str x) j pos) (dC (.str x)):=by
 refine Qz.imp λc H Q a=>?_;rfl';obtain⟨G,f,P,s,e,p,q⟩:=a;ac_rfl;exact q _ p _ G H (.refl s) (.str x h)
theorem Jp(d:Gl X x)(b:∃c,X.mg x=some (.int i c))(f:(x==("__debug__":Str))=false:=by decide):DE Z X (.Name x a) (dC (.int i)):=by
 obtain⟨c,b⟩:=b;exact(EN d b (v:= .int i) #[c,rfl] f).imp λg H Q #[G,h,P,s,e,p,q]=>q _ p _ G H (.refl s) (.int i)
def FU(r:gU)(d e:bp):bp:=λc P=>d c λa=>e c λb=>r a b P
variable {a b c:Expr} {ta tb tc:bp} {pos:Pos}
theorem Cj:∀f H Q,eO Z (FU r ta tb) f H Q->Ou (cq Z r) (eO Z ta) (eO Z tb) f H Q:=by
 intro f H Q k;rfl';obtain⟨G,j,P,s,e,h,q⟩:=k;ac_rfl;refine#[G,j,_,s,e,h,λa m v n E g dv=>?_];refine#[n,j,_,g.sub,e.mono g.gg,m,λb o u p F i t=>?_];exact#[p,a,b,P,i.sub,dv.mono i.gg,t,o,λd w x y z A B=>q d w x y z ((g.trans i).trans A) B]
theorem bg(e:OpR X (binaryOp d) (cq Z r))(f:DE Z X a ta)(g:DE Z X b tb):DE Z X (.BinOp a d b pos) (FU r ta tb):=(ND e f g).imp Cj
theorem kX(e:OpR X (compareOp d) (cq Z r))(f:DE Z X a ta)(g:DE Z X b tb)(h:behindInMarks d b=false):DE Z X (.Compare a [d] [b] pos) (FU r ta tb):=(Nx e f g h).imp Cj
def BM(t:bp):eI:=λe P=>t e λd=>∃k,d= .bl k/\P k
theorem Ba:∀d H Q,liftT Z (BM t) d H Q->Hk (eO Z t) d H Q:=by
 intro d H Q f;rfl';obtain⟨G,i,P,s,e,h,q⟩:=f;ac_rfl;exists G,i,_,s,e,h;rintro _ ⟨k,rfl,p⟩ v j l m dv;cases dv.tW;exact#[k,rfl,q k p j l m]
theorem aV(f:OpR X (compareOp d) (cq Z r))(g:DE Z X a ta)(i:DE Z X b tb)(j:behindInMarks d b=false):DT Z X (.Compare a [d] [b] pos) (BM (FU r ta tb)):=
 (NP f g i j).imp λe H Q h=>by
  obtain h:=Ba e H Q h;exact Cj e H _ h
def BK(r e:gU)(f g tc:bp):bp:=λd P=>f d λx=>g d λy=>r x y λz=>∃k,z= .bl k/\(if k=true then tc d λh=>e y h P else P (.bl false))
theorem yD:∀f H Q,eO Z (BK r o ta tb tc) f H Q->CQ (cq Z r) (cq Z o) (eO Z ta) (eO Z tb) (eO Z tc) f H Q:=by
 intro f H Q y;rfl';obtain⟨G,g,P,s,e,h,q⟩:=y;ac_rfl;refine#[G,g,_,s,e,h,λa A v B Y i dv=>?_];refine#[B,g,_,i.sub,e.mono i.gg,A,λb C u E X j p=>?_];exists E,a,b,_,j.sub,dv.mono j.gg,p,C;rintro _ ⟨k,rfl,t⟩ v' w F l I;cases I.tW;exists k,rfl;have x:=(i.trans j).trans l;cases k with
 |false=>exact bJ (q _ t _ w F x (.bl false))
 |true=>
  refine dH #[w,g,_,l.sub,e.mono x.gg,t,λc J w' L H4 m M=>?_];exact#[L,b,c,P,m.sub,(p.mono l.gg).mono m.gg,M,J,λd N n O R S T=>q d N n O R ((x.trans m).trans S) T]
theorem AM(g:OpR X (compareOp d) (cq Z r))(h:OpR X (compareOp e) (cq Z f))(i:DE Z X a ta)(j:DE Z X b tb)(k:DE Z X c tc)
  (l:lastMarks [d,e] [b,c]=false:=by with_unfolding_all rfl):DE Z X (.Compare a [d,e] [b,c] pos) (BK r f ta tb tc):=(Kg g h i j k l).imp yD
theorem Jy(i:OpR X (compareOp d) (cq Z r))(j:OpR X (compareOp e) (cq Z f))(k:DE Z X a ta)(l:DE Z X b tb)(m:DE Z X c tc)
  (n:lastMarks [d,e] [b,c]=false:=by with_unfolding_all rfl):DT Z X (.Compare a [d,e] [b,c] pos) (BM (BK r f ta tb tc)):=
 (Kr i j k l m n).imp λg H Q h=>by
  obtain h:=Ba g H Q h;exact yD g H _ h
def zv:D->Bool
 | .non=>false
 | .bl b=>b
 | .int i=>i !=0
 | .str x=>x.length !=0
 | .lst l=>!l.isEmpty
 | .tup l=>!l.isEmpty
 | .kQ l=>!l.isEmpty
 | .rng lo d=>decide (lo<d)
 | .obj _=>true
 | .dm _=>true
 | .set _ l=>!l.isEmpty
 | .x _=>true
 | .err _ _ _=>true
def XJ:D->Bool
 | .bl _=>true
 | .int _=>true
 | .lst _=>true
 | .tup _=>true
 | .non=>true
 |_=>false
def Wm(t:bp):eI:=λe P=>t e λd=>XJ d=true/\P (zv d)
theorem vT(h:DvAll Z G d e):d.isEmpty=e.isEmpty:=by cases h<;>rfl
theorem dz(j:DE Z X a ta)(k:∀f,isTrue a X.env f=(do let v <-f;standAt a.pos;holding [v] (truthy v)):=by intro _;rfl):DT Z X a (Wm ta):=by
 refine(Ks j k).imp ?_;intro u H Q l;rfl';obtain⟨G,n,P,s,e,h,q⟩:=l;ac_rfl;exists G,n,_,s,e,h;rintro d ⟨o,p⟩ v r t g dv;refine#[zv d,?_,q _ p r t g];cases dv with
 |non=>rfl
 |bl b=>rfl
 |int i=>rfl
 |lst h a=>exact .inl #[_,cY.of (g.sub _ _ h),by rw[vT a];rfl]
 |tup h a=>exact .inr (.inl #[_,fg.of (g.sub _ _ h),by rw[vT a];rfl])
 |_=>cases o
def V5(t u:eI):eI:=λd P=>t d λc=>if c=true then u d P else P false
def dOr(t u:eI):eI:=λd P=>t d λc=>if c=true then P true else u d P
def Wg(t:eI):eI:=λd P=>t d λc=>P (!c)
variable {tA CP:eI} {rest:List Expr}
def DW(Z:DC)(X:Cx)(e:Expr)(t:eI):Prop:=PW X e (liftT Z t)
theorem DW.dt(h:DW Z X e t):DT Z X e t:=PW.pt h
theorem tD(d:DT Z X a tA):DW Z X (.BoolOp .And [a] pos) tA:=NT d
theorem gu(d:DT Z X a tA):DW Z X (.BoolOp .Or [a] pos) tA:=QG d
theorem xf(k:DT Z X a tA)(f:DW Z X (.BoolOp .And (b::rest) pos) CP):DW Z X (.BoolOp .And (a::b::rest) pos) (V5 tA CP):=by
 refine(QF k f).imp ?_;intro t H Q l;rfl';obtain⟨G,g,P,s,e,h,q⟩:=l;ac_rfl;refine#[G,g,_,s,e,h,λc i j n d=>?_];cases c with
 |true=>exact dH #[j,g,P,d.sub,e.mono d.gg,i,λb f o p r=>q b f o p (d.trans r)]
 |false=>exact bJ (q _ i j n d)
theorem gX(k:DT Z X a tA)(f:DW Z X (.BoolOp .Or (b::rest) pos) CP):DW Z X (.BoolOp .Or (a::b::rest) pos) (dOr tA CP):=by
 refine(U3 k f).imp ?_;intro t H Q l;rfl';obtain⟨G,g,P,s,e,h,q⟩:=l;ac_rfl;refine#[G,g,_,s,e,h,λc i j n d=>?_];cases c with
 |false=>exact bJ #[j,g,P,d.sub,e.mono d.gg,i,λb f o p r=>q b f o p (d.trans r)]
 |true=>exact dH (q _ i j n d)
theorem dO(d:DT Z X a tA):DT Z X (.UnaryOp .Not a pos) (Wg tA):=by
 refine(QE d).imp ?_;rintro l H Q ⟨G,f,P,s,e,h,q⟩;exact#[G,f,_,s,e,h,λc g i j k=>q _ g i j k]
def SJ(e f:bp):bp:=λd P=>e d λx=>∃c,x= .bl c/\if c=true then f d P else P (.bl false)
def SW(d:bp):bp:=λe P=>d e λx=>∃c,x= .bl c/\P (.bl (!c))
theorem sZ{op}(h:DE Z X a ta):DE Z X (.BoolOp op [a] pos) ta:=Qx h
theorem kW(k:DE Z X a ta)(f:DE Z X (.BoolOp .And (b::rest) pos) tb):DE Z X (.BoolOp .And (a::b::rest) pos) (SJ ta tb):=by
 refine(Qp k f).imp ?_;intro u H Q l;rfl';obtain⟨G,g,P,s,e,h,q⟩:=l;ac_rfl;exists G,g,_,s,e,h;rintro _ ⟨c,rfl,i⟩ v j n d dv;cases dv.tW;exists c,rfl;cases c with
 |true=>exact dH #[j,g,P,d.sub,e.mono d.gg,i,λb f v o p r t=>q b f v o p (d.trans r) t]
 |false=>exact bJ (q _ i _ j n d (.bl false))
theorem HU(d:DE Z X a ta):DE Z X (.UnaryOp .Not a pos) (SW ta):=by
 refine(Qw d).imp ?_;intro n H Q f;rfl';obtain⟨G,i,P,s,e,h,q⟩:=f;ac_rfl;exists G,i,_,s,e,h;rintro _ ⟨c,rfl,j⟩ v k l m dv;cases dv.tW;exact#[c,rfl,q _ j _ k l m (.bl _)]
def Z7(t:eI)(e f:bp):bp:=λd P=>t d λc=>if c=true then e d P else f d P
theorem Tc{c:Expr}(g:DT Z X c tA)(o:DE Z X a ta)(f:DE Z X b tb):DE Z X (.IfExp c a b pos) (Z7 tA ta tb):=by
 refine(Kh g o f).imp ?_;intro t H Q p;rfl';obtain⟨G,i,P,s,e,h,q⟩:=p;ac_rfl;refine#[G,i,_,s,e,h,λc g n w d=>?_];cases c with
 |true=>exact dH #[n,i,P,d.sub,e.mono d.gg,g,λb f v j k l m=>q b f v j k (d.trans l) m]
 |false=>exact bJ #[n,i,P,d.sub,e.mono d.gg,g,λb f v j k l m=>q b f v j k (d.trans l) m]
def fB:i7:=λ_ P=>P []
def Ln(e:bp)(t:i7):i7:=λd P=>e d λx=>t d λf=>P (x::f)
variable {es:List Expr} {t:i7} {e:Expr}
theorem af:DA Z X [] fB:=by
 refine fQ.imp λg H Q d=>?_;rfl';obtain⟨G,i,P,s,e,p,q⟩:=d;ac_rfl;exact q _ p _ G H (.refl s) .nil
theorem ab(d:DE Z X e ta)(j:DA Z X es t)(k:starEach (e::es) X.env=(false,eval e X.env)::starEach es X.env:=by rfl):DA Z X (e::es) (Ln ta t):=by
 refine(cK d j k).imp ?_;intro w H Q l;rfl';obtain⟨G,g,P,s,e,h,q⟩:=l;ac_rfl;refine#[G,g,_,s,e,h,λa d v n y f dv=>?_];exact#[n,g,_,f.sub,e.mono f.gg,d,λz o A p r i u=>q _ o _ p r (f.trans i) (.cons (dv.mono i.gg) u)]
def Wn(t:i7):bp:=λf P=>t f λd=>d.length<=sizeLine/\P (.tup d)
def We(t:i7):bp:=λf P=>t f λd=>d.length<=sizeLine/\P (.lst d)
theorem eG{d}(h:DA Z X es t):DE Z X (.Tuple es d pos) (Wn t):=by
 refine(Iy h).imp ?_;intro n H Q i;rfl';obtain⟨G,k,P,s,e,h,q⟩:=i;ac_rfl;exists G,k,_,s,e,h;rintro r ⟨l,m⟩ u v w d f;exact#[by rw[f.length];exact l,λp g=>q _ m _ _ _ (d.trans (.new d.sub g)) (.tup ax (f.mono (aY (d.sub.free g) _)))]
theorem gR(h:DA Z X es t):DE Z X (.List es pos) (We t):=by
 refine(Iw h).imp ?_;intro n H Q i;rfl';obtain⟨G,k,P,s,e,h,q⟩:=i;ac_rfl;exists G,k,_,s,e,h;rintro r ⟨l,m⟩ u v w d f;exact#[by rw[f.length];exact l,λp g=>q _ m _ _ _ (d.trans (.new d.sub g)) (.lst ax (f.mono (aY (d.sub.free g) _)))]
def uI(r:List D->(D->Prop)->Prop)(t:i7):bp:=λd P=>t d λf=>r f P
theorem uW:∀f H Q,eO Z (uI r t) f H Q->Gp Z t f H λg i=>gE Z r g i Q:=by
 intro f H Q k;rfl';obtain⟨G,m,P,s,e,h,q⟩:=k;ac_rfl;exact#[G,m,_,s,e,h,λn o g p i j u=>#[p,n,P,j.sub,u,o,λd w v x y z dv=>q d w v x y (j.trans z) dv]]
theorem LH(F:FnOk X.prog X.w X.K X.mg X.base cF k f g i (br Z d))(m:cP k X.A)(n:Gl X x)(o:X.mg x=some (.ref f))(r:ar X.K (.ref f)=true)(u:Binds X.K g i [])
  (v:DA Z X (e::es) t) (y:(x==("__debug__":Str))=false:=by decide) (z:starEach (e::es) X.env=(false,eval e X.env)::starEach es X.env:=by rfl) (B:(backTo pos (starEach es X.env)).any (·.1)=false:=by rfl):
  DE Z X (.Call (.Name x p) (e::es) [] pos) (uI d t):=
 (pL F m n o r u .nil m7 v y z B).imp λC H Q h=>by
  rfl';have h:=uW C H Q h;obtain⟨G,I,P,s,e,h,q⟩:=h;ac_rfl;exact#[G,I,P,s,e,h,λJ L j M l N O=>by show br Z d (j++ []) l Q E0;rw[f7];exact q J L j M l N O]
theorem az{id:String}{x:Str}{p:Pos}{r:List D->(D->Prop)->Prop}(d:cB X (.builtin id) (gE Z r))(f:Gl X x)(g:X.mg x=none)(h:bootBuiltins x=some (.builtin id))(i:DA Z X (e::es) t)(j:x≠"__name__":=by decide)(k:(x==("__debug__":Str))=false:=by decide)
  (l:starEach (e::es) X.env=(false,eval e X.env)::starEach es X.env:=by rfl) (m:(backTo pos (starEach es X.env)).any (·.1)=false:=by rfl):
  DE Z X (.Call (.Name x p) (e::es) [] pos) (uI r t):=(vc d f g h i j k l m).imp uW
theorem km(d:cB X (.type T) (gE Z r))(f:Gl X x)(g:X.mg x=none)(h:bootBuiltins x=some (.type T))(i:DA Z X (e::es) t)(j:x≠"__name__":=by decide)(k:(x==("__debug__":Str))=false:=by decide)
  (l:starEach (e::es) X.env=(false,eval e X.env)::starEach es X.env:=by rfl) (m:(backTo pos (starEach es X.env)).any (·.1)=false:=by rfl):
  DE Z X (.Call (.Name x p) (e::es) [] pos) (uI r t):=(GJ d f g h i j k l m).imp uW
end
end L2
namespace L2
open PySem PySem.Spec PyProof.Rows
section
variable {Z:DC} {X:Cx}
def Lm:gU:=λx y P=>match x,y with
 | .int i, .int j=>P (.int (i+j))
 | .lst a, .lst b=>a.length+b.length<=sizeLine/\P (.lst (a++b))
 | .tup a, .tup b=>a≠ []/\a.length+b.length<=sizeLine/\b≠ []/\P (.tup (a++b))
 |_,_=>False
def dI(c:Int->Int->Prop)(g:Int->Int->Int):gU:=λx y P=>match x,y with
 | .int i, .int j=>c i j/\P (.int (g i j))
 |_,_=>False
def OS(g:Int->Int->Int):gU:=λx y P=>match x,y with
 | .int i, .int j=>P (.int (g i j))
 |_,_=>False
def Rv:gU:=OS λi j=>i-j
def Ru:gU:=λx y P=>match x,y with
 | .int i, .int j=>HD i j/\P (.int (i*j))
 | .lst a, .int k=> -(2^63)<=k/\k<2^63/\a.length*k.toNat<=sizeLine/\P (.lst (ak k.toNat a).flatten)
 |_,_=>False
def Rn:gU:=dI Rf λi j=>i / j
def Wf:gU:=dI (λ_ j=>0<j) λi j=>i%j
theorem Ij(h:OpR X f (rI c λi j=> .int (g i j))):OpR X f (cq Z (dI c g)):=by
 refine h.imp ?_;intro x y H Q e;rfl';obtain⟨G,a,b,P,s,l,m,d,q⟩:=e;ac_rfl;unfold dI at d
 split at d
 .exact#[_,_,l.ofInt,m.ofInt,d.1,q _ d.2 _ G H (.refl s) (.int _)]
 .exact d.elim
theorem PZ(h:OpR X f (Av λi j=> .int (g i j))):OpR X f (cq Z (OS g)):=by
 refine h.imp ?_;intro x y H Q d;rfl';obtain⟨G,a,b,P,s,k,l,c,q⟩:=d;ac_rfl;unfold OS at c
 split at c
 .exact#[_,_,k.ofInt,l.ofInt,q _ c _ G H (.refl s) (.int _)]
 .exact c.elim
theorem k9:OpR X (binaryOp .Sub) (cq Z Rv):=PZ Qm
theorem xo:OpR X (binaryOp .FloorDiv) (cq Z Rn):=Ij Nq
theorem fP:OpR X (binaryOp .Mod) (cq Z Wf):=Ij Qi
theorem cO(e:X.K=Z.K:=by rfl):OpR X (binaryOp .Add) (cq Z Lm):=by
 refine(Qf.or (Iu.or (Np))).imp ?_;rintro x y H Q ⟨G,a,b,P,s,h,i,c,q⟩;unfold Lm at c
 split at c
 .exact .inl #[_,_,h.ofInt,i.ofInt,q _ c _ G H (.refl s) (.int _)]
 .obtain⟨o,r,rfl,j,d⟩:=h.iL
  obtain⟨t,u,rfl,k,f⟩:=i.iL;obtain⟨l,m⟩:=c;refine .inr (.inl #[_,_,_,_,rfl,rfl,s _ _ j,s _ _ k,by rw[d.length,f.length];exact l,λp g=>?_])
  exact q _ m _ _ _ (.new s g) (.lst ax ((d.append f).mono (aY (s.free g) _)))
 .obtain⟨o,r,rfl,j,d⟩:=h.sq
  obtain⟨t,u,rfl,k,f⟩:=i.sq;obtain⟨v,l,n,m⟩:=c;refine .inr (.inr #[_,_,_,_,rfl,rfl,fg.of (s _ _ j),fg.of (s _ _ k),?_,by rw[d.length,f.length];exact l,?_])
  .rintro rfl;cases d;exact v rfl
  .refine#[?_,λ_ p g=>q _ m _ _ _ (.new s g) (.tup ax ((d.append f).mono (aY (s.free g) _)))]
   rintro rfl;cases f;exact(n rfl).elim
 .exact c.elim
theorem DvAll.rep(h:DvAll Z G a b):∀k:Nat,DvAll Z G (ak k a).flatten (ak k b).flatten
 |0=> .nil
 |k+1=>by rw[z0,z0,fZ,fZ];exact h.append (DvAll.rep h k)
theorem xp:OpR X (binaryOp .Mult) (cq Z Ru):=by
 refine(Qj.or Ql).imp ?_;intro x y H Q h;rfl';obtain⟨G,a,b,P,s,d,e,c,q⟩:=h;ac_rfl;unfold Ru at c
 split at c
 .exact .inl #[_,_,d.ofInt,e.ofInt,c.1,q _ c.2 _ G H (.refl s) (.int _)]
 .obtain⟨r,t,rfl,j,f⟩:=d.iL
  obtain⟨k,l,m,n⟩:=c;refine .inr #[_,_,_,rfl,e.ofInt,s _ _ j,k,l,by rw[f.length];exact m,λp g=>?_]
  exact q _ n _ _ _ (.new s g) (.lst ax ((f.rep _).mono (aY (s.free g) _)))
 .exact c.elim
mutual
def D.py:D->Option PyData
 | .non=>some .none
 | .bl b=>some (.bool b)
 | .int i=>some (.int i)
 | .str x=>some (.str x)
 | .lst l=>(iP l).map PyData.list
 | .tup l=>(iP l).map PyData.tuple
 | .kQ _=>none
 | .rng _ _=>none
 | .obj _=>none
 | .dm _=>none
 | .set _ _=>none
 | .x _=>none
 | .err _ _ _=>none
def iP:List D->Option (List PyData)
 | []=>some []
 |d::ds=>(D.py d).bind λa=>(iP ds).map λas=>a::as
end
theorem Dv.dp{K:ac}{G:Hp}{v:V}{d:D}(h:Dv Z G v d):∀{e:PyData},d.py=some e->Dp K G v e:=by
 refine Dv.rec (motive_1:=λv d _=>∀{e:PyData},d.py=some e->Dp K G v e) (motive_2:=λn f _=>∀{g:List PyData},iP f=some g->jD K G n g) ?_ ?_ ?_ ?_ ?_ ?_ ?_ ?_ ?_ ?_ ?_ ?_ ?_ ?_ ?_ h
 .intro e h;rw[D.py] at h;cases h;exact .non
 .intro b e h;rw[D.py] at h;cases h;exact .bl b
 .intro i e h;rw[D.py] at h;cases h;exact .int i
 .intro x k e h;rw[D.py] at h;cases h;exact .str x k
 .intro a o f q _ j e h
  rw[D.py] at h;cases c:iP f with
  |none=>rw[c] at h;cases h
  |some l=>rw[c] at h;cases h;exact .lst (cY.of q) (j c)
 .intro a o f q _ j e h
  rw[D.py] at h;cases c:iP f with
  |none=>rw[c] at h;cases h
  |some l=>rw[c] at h;cases h;exact .tup (fg.of q) (j c)
 .intro a e h;simp[D.py] at h
 .intro a lo u _ e h;simp[D.py] at h
 .intro a r _ _ e h;simp[D.py] at h
 .intro p z R w _ _ _ _ _ _ e h;simp[D.py] at h
 .intro a b r _ e h;simp[D.py] at h
 .intro a A k _ _ e h;simp[D.py] at h
 .intro a C B E o f _ _ _ _ e h;simp[D.py] at h
 .intro g h;rw[iP] at h;cases h;exact .nil
 .intro v n d f _ _ s t g h
  rw[iP] at h;cases c:d.py with
  |none=>rw[c] at h;cases h
  |some x=>
   rw[c] at h;cases m:iP f with
   |none=>rw[m] at h;cases h
   |some y=>rw[m] at h;cases h;exact .cons (s c) (t m)
theorem fg.mono{K:ac}{H b:Hp}(s:aZ H b)(h:fg K H a c):fg K b a c:=by
 rcases h with (h| ⟨o,h⟩) |h
 .exact .inl (.inl (s _ _ h))
 .exact .inl (.inr #[o,s _ _ h])
 .exact .inr h
theorem Dp.mono{K:ac}{G H:Hp}(s:aZ G H){d:PyData}(h:Dp K G v d):Dp K H v d:=
 Dp.rec (motive_1:=λv d _=>Dp K H v d) (motive_2:=λc e _=>jD K H c e) .non .bl .int .str (λh _ a=> .lst (h.mono s) a) (λh _ a=> .tup (h.mono s) a) .nil (λ_ _ a b=> .cons a b) h
def Ro(c:Bool):gU:=λx y P=>∃a b,x.py=some a/\y.py=some b/\a.depth<=64/\P (.bl (if c then !PyData.eqv a b else PyData.eqv a b))
abbrev BL:gU:=Ro false
abbrev rS:gU:=Ro true
theorem kC(e:X.A.units+64<cLine):OpR X (compareOp .Eq) (cq Z BL):=by
 refine(Qg e).imp ?_;intro x y H Q f;rfl';obtain⟨G,a,b,P,s,h,i,⟨c,d,j,k,l,m⟩,q⟩:=f;ac_rfl;exact#[c,d,(h.dp j).mono s,(i.dp k).mono s,l,q _ m _ G H (.refl s) (.bl _)]
theorem g7(e:X.A.units+64<cLine):OpR X (compareOp .NotEq) (cq Z rS):=by
 refine(Qk e).imp ?_;intro x y H Q f;rfl';obtain⟨G,a,b,P,s,h,i,⟨c,d,j,k,l,m⟩,q⟩:=f;ac_rfl;exact#[c,d,(h.dp j).mono s,(i.dp k).mono s,l,q _ m _ G H (.refl s) (.bl _)]
theorem sY(h:P (.bl (decide (i=j)))):BL (.int i) (.int j) P:=#[.int i, .int j,rfl,rfl,by simp[PyData.depth],by
 have:PyData.eqv (.int i) (.int j)=decide (i=j):=by
  rw[PyData.eqv]
  by_cases z:i=j<;>simp[z]
 simpa [this] using h]
theorem ju(h:P (.bl (!decide (i=j)))):rS (.int i) (.int j) P:=#[.int i, .int j,rfl,rfl,by simp[PyData.depth],by
 have:PyData.eqv (.int i) (.int j)=decide (i=j):=by
  rw[PyData.eqv]
  by_cases z:i=j<;>simp[z]
 simpa [this] using h]
def AL(p:Int->Int->Bool):gU:=λx y P=>match x,y with
 | .int i, .int j=>P (.bl (p i j))
 |_,_=>False
theorem tQ(h:OpR X f (Av λi j=> .bl (p i j))):OpR X f (cq Z (AL p)):=by
 refine h.imp ?_;intro x y H Q d;rfl';obtain⟨G,a,b,P,s,g,k,c,q⟩:=d;ac_rfl;unfold AL at c
 split at c
 .exact#[_,_,g.ofInt,k.ofInt,q _ c _ G H (.refl s) (.bl _)]
 .exact c.elim
end
end L2
namespace L2
open PySem PySem.Spec PyProof.Rows
section
variable {Z:DC} {X:Cx}
abbrev Z9:gU:=AL λi j=>decide (i<j)
abbrev Z8:gU:=AL λi j=>decide (i<=j)
abbrev Z6:gU:=AL λi j=>decide (j<i)
abbrev Z5:gU:=AL λi j=>decide (j<=i)
theorem pF:OpR X (compareOp .Lt) (cq Z Z9):=tQ UT
theorem Cy:OpR X (compareOp .LtE) (cq Z Z8):=tQ US
theorem UL:OpR X (compareOp .Gt) (cq Z Z6):=tQ UR
theorem Nf:OpR X (compareOp .GtE) (cq Z Z5):=tQ UQ
def Gi:D->Bool
 | .non=>true
 |_=>false
def Rq(a:Bool):gU:=λx y P=>match y with
 | .non=>P (.bl (if a then !Gi x else Gi x))
 |_=>False
theorem A1(h:Dv Z G v d):decide (v= .non)=Gi d:=by cases h<;>rfl
theorem Cw:OpR X (compareOp .Is) (cq Z (Rq false)):=by
 refine Qh.imp ?_;rintro x y H Q ⟨G,a,b,P,s,d,e,c,q⟩;cases e<;>first|exact c.elim|skip
 exact#[rfl,by rw[A1 d];exact q _ c _ G H (.refl s) (.bl _)]
theorem Be:OpR X (compareOp .IsNot) (cq Z (Rq true)):=by
 refine Nu.imp ?_;rintro x y H Q ⟨G,a,b,P,s,d,e,c,q⟩;cases e<;>first|exact c.elim|skip
 exact#[rfl,by rw[A1 d];exact q _ c _ G H (.refl s) (.bl _)]
def fw:D->Bool
 | .non=>true
 | .bl _=>true
 | .int _=>true
 | .str _=>true
 |_=>false
def kZ:D->D->Bool
 | .non, .non=>true
 | .bl a, .bl b=>a==b
 | .bl a, .int b=>(if a then 1 else 0)==b
 | .int a, .bl b=>a==(if b then 1 else 0)
 | .int a, .int b=>a==b
 | .str a, .str b=>a==b
 |_,_=>false
def inD(x:D)(l:List D):Bool:=l.any λy=>kZ y x
theorem tE(h:Dv Z G v d):iF v=fw d:=by cases h<;>rfl
theorem oR(h:DvAll Z G b c):b.all iF=c.all fw:=h.ind (p:=λb c=>b.all iF=c.all fw) rfl λa _ e=>by rw[aa7,aa7,tE a,e]
theorem BS(h:Dv Z G v d)(k:Dv Z G u e):yd v u=kZ d e:=by cases h<;>first|rfl| (cases k<;>rfl)
theorem Gd(h:Dv Z G v d):∀{b:List V}{c:List D},DvAll Z G b c->PD v b=inD d c
 |_,_, .nil=>rfl
 |_,_, .cons a e=>by
  unfold PD inD;rw[abM,abM,BS a h];exact FS _ (Gd h e)
def OT(a:Bool):gU:=λx y P=>match y with
 | .lst l=>fw x=true/\l.all fw=true/\P (.bl (if a then !inD x l else inD x l))
 | .tup l=>fw x=true/\l.all fw=true/\P (.bl (if a then !inD x l else inD x l))
 |_=>False
theorem NW:∀x y H Q,cq Z (OT c) x y H Q->U8 X.K c x y H Q:=by
 rintro x y H Q ⟨G,a,b,P,s,d,l,f,q⟩;cases l<;>first|exact f.elim|skip
 .rename_i p g m h e
  obtain⟨i,j,k⟩:=f;refine#[p,g,rfl, .inl (cY.of (s _ _ h)),by rw[tE d];exact i,by rw[oR e];exact j,?_]
  rw[Gd d e];exact q _ k _ G H (.refl s) (.bl _)
 .rename_i p g m h e
  obtain⟨i,j,k⟩:=f;refine#[p,g,rfl, .inr (fg.of (s _ _ h)),by rw[tE d];exact i,by rw[oR e];exact j,?_]
  rw[Gd d e];exact q _ k _ G H (.refl s) (.bl _)
theorem u6:OpR X (compareOp .In) (cq Z (OT false)):=GG.imp NW
theorem u7:OpR X (compareOp .NotIn) (cq Z (OT true)):=Au.imp NW
def Wd:gU:=λx y P=>match x,y with
 | .lst l, .int i=>∃d,gh l i=some d/\P d
 | .tup l, .int i=>∃d,gh l i=some d/\P d
 | .kQ l, .int i=>∃n,gh l i=some n/\P (.int n)
 |_,_=>False
theorem HF(h:DvAll Z G b a)(e:gh a i=some d):∃v,gh b i=some v/\Dv Z G v d:=by
 unfold gh at e ⊢;rw[h.length];cases z:lL a.length i with
 |none=>rw[z] at e;cases e
 |some j=>rw[z] at e;exact h.get e
theorem La(f:a->b)(l:List a)(i:Int):gh (l.map f) i=(gh l i).map f:=by
 unfold gh;rw[aG];cases lL l.length i with
 |none=>rfl
 |some j=>show(l.map f)[j]? =_;rw[b7];rfl
variable {a b c e:Expr} {ta tb tc te:bp} {pos:Pos}
theorem aQ(p:DE Z X a ta)(r:DE Z X b tb)(t:X.K=Z.K:=by rfl)(u:sV b:=by exact λ_ _=>rfl):DE Z X (.Subscript a b pos) (FU Wd ta tb):=by
 refine(GK (Es.or Ih) p r u).imp λw H Q h=>?_;rfl';obtain⟨G,x,P,s,e,h,q⟩:=Cj w H Q h;ac_rfl;refine#[G,x,P,s,e,h,λd y v z A B dv=>?_];rfl';obtain⟨C,E,F,I,J,L,M⟩:=q d y v z A B dv;ac_rfl;refine#[C,E,F,I,J,L,λN k O R S T U=>?_];obtain⟨G,a,b,P,s,l,m,f,q⟩:=M N k O R S T U;unfold Wd at f
 split at f
 .obtain⟨d,i,j⟩:=f
  obtain⟨_,_,rfl,h,e⟩:=l.iL;obtain⟨v,n,dv⟩:=HF e i;exact .inl #[_,_,_,v,rfl,m.ofInt,cY.of (s _ _ h),n,q _ j _ G _ (.refl s) dv]
 .obtain⟨d,i,j⟩:=f
  obtain⟨_,_,rfl,h,e⟩:=l.sq;obtain⟨v,n,dv⟩:=HF e i;exact .inr #[_,_,_,v,rfl,m.ofInt,fg.of (s _ _ h),n,q _ j _ G _ (.refl s) dv]
 rotate_left
 .exact f.elim
 .obtain⟨d,i,j⟩:=f
  rfl';obtain⟨_,rfl,h,_⟩:=l.Nh;ac_rfl;refine .inl #[_,_,_, .int d,rfl,m.ofInt,by rw[t];exact h.mono s,by rw[La,i];rfl,q _ j _ G _ (.refl s) (.int d)]
def cutD{f:Type}(d:List f)(lo g:Option Int):List f:=(d.drop (HT.cA d.length 0 lo)).take (HT.cA d.length d.length g-HT.cA d.length 0 lo)
theorem HN(h:DvAll Z G d f)(lo g:Option Int):DvAll Z G (vK d lo g) (cutD f lo g):=by
 unfold vK cutD;rw[h.length];exact(h.drop _).take _
theorem Jl(f:d->h)(l:List d)(lo g:Option Int):cutD (l.map f) lo g=(cutD l lo g).map f:=by
 unfold cutD;rw[aG,sT,vE]
abbrev Ft:=DN->(Option Int->Prop)->Prop
def Lx:Ft:=λ_ P=>P none
def SX(t:bp):Ft:=λf P=>t f λd=>match d with
 | .int i=>P (some i)
 |_=>False
def Uz(Z:DC)(t:Ft):TO:=λg H Q=>∃(G:Hp)(d:DN)(P:Option Int->Prop),aZ G H/\dr Z G g d/\t d P/\∀o,P o->∀h f,Ext G H h f->Q o f
def DO(Z:DC)(X:Cx)(e:Option Expr)(t:Ft):Prop:=PO X e (Uz Z t)
theorem PO.imp{e:Option Expr}(h:PO X e t)(f:∀g H Q,t' g H Q->t g H Q):PO X e t':=λd s g H Q I q=>h d s g H Q I (f _ _ _ q)
theorem kn:DO Z X none Lx:=by
 refine NM.imp λg H Q d=>?_;rfl';obtain⟨G,i,P,s,e,p,q⟩:=d;ac_rfl;exact q _ p G H (.refl s)
theorem ko(h:DE Z X e te):DO Z X (some e) (SX te):=by
 refine(NN h).imp ?_;intro n H Q g;rfl';obtain⟨G,j,P,s,e,h,q⟩:=g;ac_rfl;refine#[G,j,_,s,e,h,λd f v k l m dv=>?_];cases dv<;>first|exact f.elim|skip
 exact#[_,rfl,q _ f k l m]
def dSl(g:bp)(h i:Ft):bp:=λf P=>g f λx=>h f λlo=>i f λd=>match x with
 | .lst l=>P (.lst (cutD l lo d))
 | .tup l=>¬(HT.cA l.length 0 lo=0/\HT.cA l.length l.length d=l.length)/\P (.tup (cutD l lo d))
 | .kQ l=>P (.lst ((cutD l lo d).map D.int))
 |_=>False
variable {lo hi:Option Expr} {tl th:Ft} {p2:Pos}
theorem jb(r:DE Z X e te)(m:DO Z X lo tl)(g:DO Z X hi th)(t:X.K=Z.K:=by rfl):DE Z X (.Subscript e (.Slice lo hi none p2) pos) (dSl te tl th):=by
 refine(Kj (N5.or QR) r m g).imp ?_;intro C H Q w;rfl';obtain⟨G,n,P,s,o,h,q⟩:=w;ac_rfl;refine#[G,n,_,s,o,h,λd z v A F j dv=>?_];refine#[A,n,_,j.sub,o.mono j.gg,z,λl m B I k=>?_];refine#[B,n,_,k.sub,(o.mono j.gg).mono k.gg,m,λu g J L f=>?_];have x:=(j.trans k).trans f;have dv:=(dv.mono k.gg).mono f.gg;cases dv<;>first|exact g.elim|skip
 .rename_i h e
  exact .inl #[_,_,rfl,cY.of (f.sub _ _ h),λp i=>q _ g _ _ _ (x.trans (.new f.sub i)) (.lst ax ((HN e l u).mono (aY (f.sub.free i) _)))]
 .rename_i h e
  refine .inr #[_,_,rfl,fg.of (f.sub _ _ h),by rw[e.length];exact g.1,λp i=>q _ g.2 _ _ _ (x.trans (.new f.sub i)) (.tup ax ((HN e l u).mono (aY (f.sub.free i) _)))]
 .rename_i h _
  refine .inl #[_,_,rfl,by rw[t];exact h.mono f.sub,λp i=>q _ g _ _ _ (x.trans (.new f.sub i)) (.lst ax ?_)]
  show DvAll Z _ (cutD _ l u) _;rw[Jl];exact .ints _
def oJ:cv:=λd P=>match d with
 | [.lst l]=>P (.int l.length)
 | [.tup l]=>P (.int l.length)
 | [.kQ l]=>P (.int l.length)
 |_=>False
theorem bq(f:X.K=Z.K:=by rfl):cB X (.builtin "len") (gE Z oJ):=by
 refine Ab.imp ?_;rintro g H Q ⟨G,i,P,s,dv,d,q⟩;unfold oJ at d
 split at d
 .obtain⟨_,rfl,a⟩:=dv.ofOne
  obtain⟨_,_,rfl,h,e⟩:=a.iL;exact#[_,_,rfl, .inl (cY.of (s _ _ h)),by rw[e.length];exact q _ d _ G H (.refl s) (.int _)]
 .obtain⟨_,rfl,a⟩:=dv.ofOne
  obtain⟨_,_,rfl,h,e⟩:=a.sq;exact#[_,_,rfl, .inr (fg.of (s _ _ h)),by rw[e.length];exact q _ d _ G H (.refl s) (.int _)]
 .obtain⟨_,rfl,a⟩:=dv.ofOne
  obtain⟨_,rfl,h,_⟩:=a.Nh;exact#[_,_,rfl, .inl (by rw[f];exact h.mono s),by rw[aG];exact q _ d _ G H (.refl s) (.int _)]
 .exact d.elim
def Ld:cv:=λd P=>match d with
 | [.lst l]=>P (.lst l)
 | [.tup l]=>P (.lst l)
 |_=>False
theorem xN:cB X (.type "list") (gE Z Ld):=by
 refine Ac.imp ?_;rintro g H Q ⟨G,i,P,s,dv,d,q⟩;unfold Ld at d
 split at d
 .obtain⟨_,rfl,a⟩:=dv.ofOne
  obtain⟨_,_,rfl,h,e⟩:=a.iL;exact#[_,_,rfl, .inl (cY.of (s _ _ h)),λp f=>q _ d _ _ _ (.new s f) (.lst ax (e.mono (aY (s.free f) _)))]
 .obtain⟨_,rfl,a⟩:=dv.ofOne
  obtain⟨_,_,rfl,h,e⟩:=a.sq;exact#[_,_,rfl, .inr (fg.of (s _ _ h)),λp f=>q _ d _ _ _ (.new s f) (.lst ax (e.mono (aY (s.free f) _)))]
 .exact d.elim
def XI:String->D->Bool
 |"int", .int _=>true
 |"int", .bl _=>true
 |"bool", .bl _=>true
 |"list", .lst _=>true
 |"tuple", .tup _=>true
 |_,_=>false
def UN(n:String):Bool:=n=="int"||n=="bool"||n=="list"||n=="tuple"
def Sb:D->Bool
 | .non=>true
 | .bl _=>true
 | .int _=>true
 | .str _=>true
 | .lst _=>true
 | .tup _=>true
 |_=>false
def Wc(n:String)(t:bp):bp:=λf P=>t f λd=>Sb d=true/\P (.bl (XI n d))
theorem PR{K:ac}{H:Hp}(f:UN n=true)(g:Sb d=true)(h:Dv Z H v d):∃t,kg K H v t/\bx K t (.type n)=some (XI n d):=by
 unfold UN at f;rw[ab8,ab8,ab8,aaC,aaC,aaC,aaC] at f;cases h with
 |non=>exists _, .non;rcases f with ((rfl|rfl) |rfl) |rfl<;>kernel_rfl
 |bl b=>exists _, .bl b;rcases f with ((rfl|rfl) |rfl) |rfl<;>kernel_rfl
 |int b=>exists _, .int b;rcases f with ((rfl|rfl) |rfl) |rfl<;>kernel_rfl
 |str b=>exists _, .str b;rcases f with ((rfl|rfl) |rfl) |rfl<;>kernel_rfl
 |lst h a=>exists _, .lst h;rcases f with ((rfl|rfl) |rfl) |rfl<;>kernel_rfl
 |tup h a=>exists _, .tup h;rcases f with ((rfl|rfl) |rfl) |rfl<;>kernel_rfl
 |_=>cases g
end
section
variable {Z:DC} {X:Cx} {a b c e:Expr} {ta tb tc te:bp} {pos:Pos}
theorem mO(n:String)(k:DE Z X a ta)(l:Gl X "isinstance")(m:X.mg "isinstance"=none)(o:Gl X x)(r:X.mg x=none)(u:bootBuiltins x=some (.type n))(ok:UN n=true:=by decide)
  (w:x≠"__name__":=by decide) (y:(x==("__debug__":Str))=false:=by decide) (g:starEach [a, .Name x f] X.env=(false,eval a X.env)::starEach [.Name x f] X.env:=by rfl)
  (z:(backTo pos (starEach [.Name x f] X.env)).any (·.1)=false:=by rfl) (A:starEach [.Name x f] X.env=(false,eval (.Name x f) X.env)::starEach [] X.env:=by rfl):
  DE Z X (.Call (.Name "isinstance" p) [a, .Name x f] [] pos) (Wc n ta):=by
 have B:PE X (.Name x f) (tC (.ty n)):=Nw o r u rfl w y;refine(vc BG l m (by decide+kernel) (cK k (cK B fQ A) g) (by decide) (by decide) g z).imp ?_
 intro O H Q C;rfl';obtain⟨G,F,P,s,e,h,q⟩:=C;ac_rfl;exists G,F,_,s,e,h;rintro d ⟨I,J⟩ v L i j dv;obtain⟨t,M,N⟩:=PR (K:=X.K) (H:=i) ok I (dv.mono j.sub);exact#[v,n,t,_,rfl,M,N,q _ J _ L i j (.bl _)]
def r9(Z:DC)(g:fc):TG:=λv j H Q=>∃(G:Hp)(f:DN)(d:D)(P:DN->Prop),aZ G H/\dr Z G j f/\Dv Z G v d/\g d f P/\∀h,P h->∀i,dr Z G i h->Q i H
def DG(Z:DC)(X:Cx)(e:Expr)(g:fc):Prop:=PG X e (r9 Z g)
theorem PG.imp{e:Expr}{t i:TG}(h:PG X e t)(f:∀v g H Q,i v g H Q->t v g H Q):PG X e i:=λd s g H v u Q I r q=>h d s g H v u Q I r (f _ _ _ _ q)
def tu(i:Nat):fc:=λd f P=>P (f.set i (some d))
theorem cw(i:Nat)(f:X.N.Nodup)(g:X.N[i]? =some x:=by rfl)(j:Loc X.env.scope x:=by exact Or.inl rfl)(k:X.fn x=true\/X.env.scope.names.lookup x=some .local:=by subst_eqs):DG Z X (.Name x l) (tu i):=by
 refine(t6 f g j k).imp λv o H Q m=>?_;rfl';obtain⟨G,r,d,P,s,e,dv,h,q⟩:=m;ac_rfl;exact q _ h _ (e.set dv)
abbrev nH:=List D->DN->(DN->Prop)->Prop
def PY(Z:DC)(g:nH):z9:=λj k H Q=>∃(G:Hp)(d:DN)(f:List D)(P:DN->Prop),aZ G H/\dr Z G k d/\DvAll Z G j f/\g f d P/\∀h,P h->∀i,dr Z G i h->Q i H
def OE(Z:DC)(X:Cx)(d:List Expr)(g:nH):Prop:=Bz X d (PY Z g)
theorem Bz.imp{i:List Expr}(h:Bz X i t)(f:∀v g H Q,j v g H Q->t v g H Q):Bz X i j:=λd s g H v u Q I r q=>h d s g H v u Q I r (f _ _ _ _ q)
def LM:nH:=λd f P=>d= []/\P f
def HV(g:fc)(f:nH):nH:=λh i P=>match h with
 |d::r=>g d i λj=>f r j P
 | []=>False
theorem xW:OE Z X [] LM:=by
 refine yU.imp λv g H Q d=>?_;rfl';obtain⟨G,j,k,P,s,e,dv,⟨h,p⟩,q⟩:=d;subst h;cases dv;ac_rfl;exact#[rfl,q _ p _ e]
theorem j3(i:DG Z X e g)(j:OE Z X d f)(k:(assignEach (e::d) X.env).map (·.2)=assign e X.env::(assignEach d X.env).map (·.2):=by rfl):OE Z X (e::d) (HV g f):=by
 refine(qK i j k).imp ?_;intro v u H Q l;rfl';obtain⟨G,n,x,P,s,e,dv,h,q⟩:=l;ac_rfl;cases dv with
 |nil=>exact h.elim
 |cons a o=>
  refine#[_,_,rfl,G,n,_,_,s,e,a,h,λp r y t=>?_];exact#[G,p,_,P,s,t,o,r,q]
def LN(n:Nat)(f:nH):fc:=λd g P=>match d with
 | .tup l=>l.length=n/\f l g P
 |_=>False
theorem BO(n:Nat)(i:X.calm=true)(h:OE Z X f g)(j:(assignEach f X.env).length=n:=by rfl)(l:(assignEach f X.env).findIdx? (·.1)=none:=by rfl):DG Z X (.Tuple f k pos) (LN n g):=by
 refine(CB i h j l).imp ?_;rintro v r H Q ⟨G,m,d,P,s,e,dv,h,q⟩;cases dv<;>first|exact h.elim|skip
 rename_i a o t p f
 exact#[a,o,rfl,fg.of (s _ _ p),by rw[f.length];exact h.1,G,m,_,P,s,e,f,h.2,q]
def vH(Z:DC)(G:Hp)(J:It)(g:List D):Prop:=∀h f,aZ G h->aZ h f->∀i:Nat,(i<g.length->J.go i f)/\(g.length<=i->J.stop i f)/\
 ∀x j,i<g.length->J.yld i f x j->∃k d,Ext h f k j/\g[i]? =some d/\Dv Z k x d
def uY(Z:DC)(i:jC):TI:=λj H R=>∃(G:Hp)(d:DN)(P:List D->Prop),aZ G H/\dr Z G j d/\i d P/\∀f,P f->∀J g h,Ext G H g h->vH Z g J f->R J h
def DI(Z:DC)(X:Cx)(d e:Expr)(f:jC):Prop:=PI X d e (uY Z f)
theorem PI.imp{i e:Expr}(h:PI X i e t)(f:∀g H Q,t' g H Q->t g H Q):PI X i e t':=λd s g H Q I q=>h d s g H Q I (f _ _ _ q)
def Td(t:bp):jC:=λf P=>t f λd=>match d with
 | .lst l=>P l
 |_=>False
def Te(t:bp):jC:=λf P=>t f λd=>match d with
 | .tup l=>P l
 |_=>False
theorem MR{K:ac}{a:Addr}(h:G a=some (.lst f))(e:DvAll Z G f j):vH Z G (Ss K a) j:=by
 intro o r k m i;have g:=cY.of (K:=K) (m _ _ (k _ _ h));have l:=e.length;refine#[λn=>#[f,f[i],g,b8 (by lia)],λn=>#[f,g,by lia],?_]
 rintro x s n ⟨rfl,p⟩;obtain⟨d,q,dv⟩:=e.Ib (p _ g);exact#[o,d, .refl m,q,dv.mono k]
theorem PH{K:ac}{a:Addr}(h:G a=some (.tup f))(e:DvAll Z G f j):vH Z G (Su K a) j:=by
 intro o r k m i;have g:=fg.of (K:=K) (m _ _ (k _ _ h));have l:=e.length;refine#[λn=>#[f,f[i],g,b8 (by lia)],λn=>#[f,g,by lia],?_]
 rintro x s n ⟨rfl,p⟩;obtain⟨d,q,dv⟩:=e.Ib (p _ g);exact#[o,d, .refl m,q,dv.mono k]
theorem bL(h:DE Z X e te):DI Z X j e (Td te):=by
 refine(NH h).imp ?_;intro r H Q k;rfl';obtain⟨G,m,P,s,n,h,q⟩:=k;ac_rfl;refine#[G,m,_,s,n,h,λd f v o p g dv=>?_];cases dv<;>first|exact f.elim|skip
 rename_i i e
 exact#[_,rfl,#[_,cY.of (g.sub _ _ i)],q _ f _ o p g (MR i e)]
theorem O3(h:DE Z X e te):DI Z X j e (Te te):=by
 refine(QA h).imp ?_;intro r H Q k;rfl';obtain⟨G,m,P,s,n,h,q⟩:=k;ac_rfl;refine#[G,m,_,s,n,h,λd f v o p g dv=>?_];cases dv<;>first|exact f.elim|skip
 rename_i i e
 exact#[_,rfl,#[_,fg.of (g.sub _ _ i)],q _ f _ o p g (PH i e)]
def js(lo:Int)(n:Nat):List D:=(ad n).map λ(k:Nat)=>D.int (lo+(k:Int))
theorem vY{lo:Int}{n i:Nat}(h:i<n):(js lo n)[i]? =some (.int (lo+i)):=by
 unfold js;rw[b7,n5 h];rfl
theorem JX(lo:Int)(n:Nat):vH Z G (OJ lo n) (js lo n):=by
 intro f h j g i;have l:(js lo n).length=n:=by unfold js;simp
 rw[l];refine#[λd=>d,λd=>d,?_];rintro x k d ⟨rfl,rfl⟩;exact#[f,_, .refl g,vY d, .int _]
def Wr(t:i7):jC:=λd P=>t d λf=>match f with
 | [.int j]=>(-(2^62)<=j/\j<2^62)/\P (js 0 j.toNat)
 |_=>False
variable {t:i7}
def iE(l:List D):List D:=l.mapIdx λi x=> .tup [.int (i:Int),x]
def O2(t:i7):jC:=λd P=>t d λf=>match f with
 | [.lst l]=>P (iE l)
 |_=>False
theorem MQ{K:ac}{a:Addr}(h:G a=some (.lst f))(e:DvAll Z G f g):vH Z G (Sr K a) (iE g):=by
 intro r s m j i;have k:=cY.of (K:=K) (j _ _ (m _ _ h));have l:=e.length;rw[show(iE g).length=g.length by unfold iE;simp]
 refine#[λn=>#[f,f[i],k,b8 (by lia)],λn=>#[f,k,by lia],?_]
 rintro x u n ⟨t,y,rfl,o,rfl,p⟩;obtain⟨d,q,dv⟩:=e.Ib (p _ k);refine#[_,_, .new j o,by unfold iE;rw[List.getElem?_mapIdx,q];rfl,?_]
 exact .tup ax (.cons (.int _) (.cons ((dv.mono m).mono (aY (j.free o) _)) .nil))
theorem dY{k1}(j:Gl X "enumerate")(k:X.mg "enumerate"=none)(l:DA Z X [a] t)(m:starEach [a] X.env= [(false,eval a X.env)]:=by rfl):DI Z X (.Tuple g k1 i) (.Call (.Name "enumerate" p) [a] [] pos) (O2 t):=by
 refine(NG j k l m).imp ?_;intro x H Q n;rfl';obtain⟨G,r,P,s,u,h,q⟩:=n;ac_rfl;refine#[G,r,_,s,u,h,λz d A v w f dv=>?_]
 split at d
 .obtain⟨_,rfl,a⟩:=dv.ofOne
  obtain⟨_,_,rfl,h,e⟩:=a.iL;exact#[_,rfl,#[_,f.sub _ _ h],q _ d _ v w f (MQ h e)]
 .exact d.elim
def zh(src:List (Option Nat))(d:DN):DN:=src.map λo=>o.bind λi=>(d[i]?).bind id
theorem dr.src{ρ:DN}(e:dr Z G g ρ)(src:List (Option Nat)):dr Z G (nX src g) (zh src ρ):=by
 refine#[by unfold nX zh;simp,λi d h=>?_]
 unfold zh at h;unfold nX;rw[b7] at h ⊢;cases k:src[i]? with
 |none=>rw[k] at h;cases h
 |some o=>
  rw[k] at h;cases o with
  |none=>cases h
  |some j=>
   have f:(ρ[j]?).bind id=some d:=Do h;cases m:ρ[j]? with
   |none=>rw[m] at f;cases f
   |some z=>
    rw[m] at f;rfl';have n:z=some d:=f;subst n;obtain⟨v,p,dv⟩:=e.at_ j d m;ac_rfl;exact#[v,by show some ((g[j]?).bind id)=_;rw[p];rfl,dv]
def lcW(g:fc)(i:eI)(j:bp):List D->DN->List D->(DN->List D->Prop)->Prop
 | [],k,f,N=>N k f
 |x::l,k,f,N=>g x k λh=>i h λb=>if b=true then j h λd=>f.length<sizeLine/\lcW g i j l h (f++ [d]) N else lcW g i j l h f N
def SS(f:jC)(g:fc)(h:eI)(i:bp)(src:List (Option Nat)):bp:=λd P=>f d λj=>lcW g h i j (zh src d) [] λ_ out=>P (.lst out)
def rj(g:fc)(h:eI)(i:jC)(j:fc)(k:eI)(l:bp):List D->DN->List D->(List D->Prop)->Prop
 | [],_,d,P=>P d
 |x::m,n,d,P=>g x n λf=>h f λb=>if b=true then i f λo=>lcW j k l o f d λp q=>rj g h i j k l m p q P else rj g h i j k l m f d P
def Rt(f:jC)(g:fc)(h:eI)(i:jC)(j:fc)(k:eI)(l:bp)(src:List (Option Nat)):bp:=λd P=>f d λm=>rj g h i j k l m (zh src d) [] λout=>P (.lst out)
def xT:eI:=λ_ P=>P true
def Dl(Z:DC)(X:Cx)(d:List Expr)(t:eI):Prop:=oz X d (liftT Z t)
theorem oz.imp{d:List Expr}{t j:TT}(h:oz X d t)(f:∀i H Q,j i H Q->t i H Q):oz X d j:=λg s i H Q I q=>h g s i H Q I (f _ _ _ q)
theorem e8:Dl Z X [] xT:=by
 refine EU.imp λg H Q d=>?_;rfl';obtain⟨G,i,P,s,e,p,q⟩:=d;ac_rfl;exact q _ p G H (.refl s)
theorem ya(h:DT Z X c d):Dl Z X [c] d:=NQ h
def CS(Z:DC)(f g:Hp)(h:Addr)(j:DN)(d:List D)(k:St)(H:Hp):Prop:=
 ∃(G:Hp)(i:List V),aZ f G/\aZ G H/\aZ g H/\(∀b,g b≠none->f b=none->G b=none)/\G h=none/\H h=some (.lst i)/\DvAll Z G i d/\dr Z G k j
theorem fY(s:aZ H d){b:Addr}(h:H b≠none):d b≠none:=λz=>by
 cases e:H b with
 |none=>exact h e
 |some o=>rw[s b o e] at z;cases z
theorem oM{d:Type}{l:List d}{i:Nat}{x:d}(h:l[i]? =some x):l.drop i=x::l.drop (i+1):=by
 obtain⟨f,e⟩:=dQ.mp h;rw[nZ f,e]
theorem A6(hA:n f=none)(B:Hp)(it:vH Z B J p)(i:Nat)(M:DN)(k:List D)(σ:St)(H:Hp)
  (c:CS Z m n f M k σ H) (hG:∀G,aZ m G->aZ B G) (hi:i<p.length) (h:lcW g w A (p.drop i) M k N):
  J.go i H/\∀x C,J.yld i H x C->r9 Z g x σ C λq H4=>liftT Z w q H4 λb O=>
   if b=true then eO Z A q O λv P=>∃l,P f=some (.lst l)/\l.length<sizeLine/\(∃r s,CS Z m n f r s q (upd P f (.lst (l++ [v])))/\lcW g w A (p.drop (i+1)) r s N)
   else ∃r s,CS Z m n f r s q O/\lcW g w A (p.drop (i+1)) r s N:=by
 rfl';obtain⟨R,l,S,s2,T,off,gA,U,Y,en⟩:=c;obtain⟨go,_,yld⟩:=it R H (hG _ S) s2 i;ac_rfl;refine#[go hi,λx C y=>?_];rfl';obtain⟨G3,d,E,hd,dv⟩:=yld x C hi y;rw[oM hd] at h;ac_rfl;refine#[G3,M,d,_,E.sub,en.mono E.gg,dv,h,λF I q L=>?_];refine#[G3,F,_,E.sub,L,I,λb hb G5 O u=>?_];have j:=E.trans u;have a:∀{G t:Hp},Ext R H G t->G f=none:=λx=>x.off f (by rw[U];exact λz=>nomatch z) gA
 have EG:∀{G t:Hp},Ext R H G t->∀b,n b≠none->m b=none->G b=none:=λx b I h2=>x.off b (fY T I) (off b I h2);cases b with
 |false=>
  refine bJ #[F,k,#[G5,l,S.trans j.gg,j.sub,T.trans j.hh,EG j,a j,j.hh _ _ U,Y.mono j.gg,L.mono u.gg],?_];simpa using hb
 |true=>
  refine dH #[G5,F,_,u.sub,L.mono u.gg,(by simpa using hb),λd' iG v G6 P x6 X=>?_]
  have x:=j.trans x6;refine#[l,x.hh _ _ U,by rw[Y.length];exact iG.1,F,_,#[G6,l++ [v],S.trans x.gg,λb o e=>?_,λb o e=>?_,EG x,a x,ax,(Y.mono x.gg).snoc X,(L.mono u.gg).mono x6.gg],iG.2]
  .rw[aB (aW e (a x))];exact x.sub _ _ e
  .rw[aB (aW e hA)];exact(T.trans x.hh) _ _ e
theorem CS.done(c:CS Z i h d p f q j)(g:Ext G H i h)(r:h d=none):∃k,Ext G H k j/\Dv Z k (.ref d) (.lst f):=by
 rfl';obtain⟨u,v,w,x,y,off,l,A,B,F⟩:=c;ac_rfl;refine#[upd u d (.lst v),#[(g.gg.trans w).trans (aY l _),λb o e=>?_,g.hh.trans y,λb m C=>?_], .lst ax (B.mono (aY l _))]
 .by_cases z:b=d
  .subst z;rw[ax] at e;cases e;exact A
  .rw[aB z] at e;exact x _ _ e
 .have n:=fY g.hh m
  rw[aB (λz=>n (by rw[z];exact r))]
  exact off b n (g.off b m C)
theorem CS.begin(s:aZ d f)(i:f g=none)(l:dr Z d k j):CS Z d f g j [] k (upd f g (.lst [])):=
 #[d,[], .refl _,λb o e=>by rw[aB (aW e (s.free i))];exact s _ _ e,aY i _,λ_ _ h=>h,s.free i,ax, .nil,l]
variable {tg iter elt:Expr} {ifs:List Expr} {scope:Scope} {NC:List Str} {src:List (Option Nat)} {wi:jC} {g:fc} {tt:eI}
theorem Ik:∀p H Q,eO Z (SS wi g tt te src) p H Q->Oq (uY Z wi) (r9 Z g) (liftT Z tt) (eO Z te) src p H Q:=by
 intro p H Q E;rfl';obtain⟨G,F,P,s,z,h,q⟩:=E;ac_rfl;refine#[G,F,_,s,z,h,λf I J A L r B M u=>?_];refine#[λi m v k=>m=f.length-i/\i<=f.length/\∃o d,CS Z A L M o d v k/\lcW g tt te (f.drop i) o d λ_ out=>P (.lst out),#[_,rfl,fm _,_,[], .begin r.sub u ((z.mono r.gg).src src),I],?_];intro i m v k N;rfl';obtain⟨rfl,Y,o,d,c,w⟩:=N;ac_rfl
 by_cases C:i<f.length
 .obtain⟨O,l⟩:=A6 u A B i o d v k c (λ_ s=>s) C w
  exact .inr #[O,_,λa b n=>#[f.length-(i+1),by lia,rfl,C,n],l]
 .have e:f.drop i= []:=zY (by lia)
  rfl';rw[e] at w;obtain⟨R,x,dv⟩:=c.done r u;obtain⟨S,t,T,U,_⟩:=c;ac_rfl;exact .inl #[(B S k T U i).2.1 (by lia),q _ w _ R k x dv]
theorem lI(f:X.calm=true)(c:cT X scope)(h:eD scope X.N src NC)(i:DI Z X tg iter wi)
  (j:∀d s H,DG Z (dS X scope NC d s H) tg g) (k:∀d s H,Dl Z (dS X scope NC d s H) ifs tt) (l:∀d s H,DE Z (dS X scope NC d s H) elt te)
  (m:∀x,foldedSetIterable iter X.env x=pure x:=by intro _;rfl):DE Z X (.ListComp elt [#[tg,iter,ifs,0]] scope pos) (SS wi g tt te src):=(Nz f c h i j k l m).imp Ik
variable {t0 i0 t1 i1:Expr} {f0 f1:List Expr} {hU:jC} {g1:fc} {fH:eI}
theorem M1:∀σ H Q,eO Z (Rt wi g tt hU g1 fH te src) σ H Q->Si (uY Z wi) (r9 Z g) (liftT Z tt) (uY Z hU) (r9 Z g1) (liftT Z fH) (eO Z te) src σ H Q:=by
 intro σ H Q aS;rfl';obtain⟨G,ρ,P,s,en,h,q⟩:=aS;ac_rfl;refine#[G,ρ,_,s,en,h,λp hd J F u x1 it l hA=>?_];refine#[λi m fL I=>m=p.length-i/\i<=p.length/\∃w j,CS Z F u l w j fL I/\rj g tt hU g1 fH te (p.drop i) w j λout=>P (.lst out),#[_,rfl,fm _,_,[], .begin x1.sub hA ((en.mono x1.gg).src src),hd],?_];intro i m fL I jo;rfl';obtain⟨rfl,hi,w,j,c,hl⟩:=jo;ac_rfl
 by_cases bY:i<p.length
 .have c0:=c
  rfl';obtain⟨S,r,T,s2,s3,off,gA,rW,bC,Tw⟩:=c;obtain⟨go,_,yld⟩:=it S I T s2 i;ac_rfl;refine .inr #[go bY,λU L=>∃Y a,CS Z F u l Y a U L/\rj g tt hU g1 fH te (p.drop (i+1)) Y a λout=>P (.lst out),λU L n=>#[p.length-(i+1),by lia,rfl,bY,n],λx H3 y=>?_]
  rfl';obtain⟨G3,d,x3,Ak,dv⟩:=yld x H3 bY y;rw[oM Ak] at hl;ac_rfl;refine#[G3,w,d,_,x3.sub,Tw.mono x3.gg,dv,hl,λt M gb wC=>?_];refine#[G3,t,_,x3.sub,wC,M,λb X G5 H5 x5=>?_];have A:=x3.trans x5;have Bg:∀{G N:Hp},Ext S I G N->G l=none:=λx=>x.off l (by rw[rW];exact λz=>nomatch z) gA
  have EG:∀{G N:Hp},Ext S I G N->∀b,u b≠none->F b=none->G b=none:=λx b M h2=>x.off b (fY s3 M) (off b M h2);cases b with
  |false=>exact bJ #[t,j,#[G5,r,T.trans A.gg,A.sub,s3.trans A.hh,EG A,Bg A,A.hh _ _ rW,bC.mono A.gg,wC.mono x5.gg],by simpa using X]
  |true=>
   refine dH #[G5,t,_,x5.sub,wC.mono x5.gg,(by simpa using X),λO hes J1 G6 H6 x6 MP=>?_]
   have x:=A.trans x6;have c6:CS Z G6 H6 l t j gb H6->True:=λ_=>trivial
   refine#[λk m uB B=>m=O.length-k/\k<=O.length/\∃(OD:DN)(Dr:List D),(∃(G:Hp)(r:List V),aZ G6 G/\aZ G B/\aZ u B/\(∀b,u b≠none->F b=none->G b=none)/\G l=none/\B l=some (.lst r)/\DvAll Z G r Dr/\dr Z G uB OD)/\
    lcW g1 fH te (O.drop k) OD Dr λw xC=>rj g tt hU g1 fH te (p.drop (i+1)) w xC λout=>P (.lst out),
    #[_,rfl,fm _,t,j,#[G6,r, .refl _,x.sub,s3.trans x.hh,EG x,Bg x,x.hh _ _ rW,bC.mono x.gg,(wC.mono x5.gg).mono x6.gg],hes],?_]
   intro k m uB B jo;rfl';obtain⟨rfl,hk,OD,Dr,⟨G7,Q7,a1,a2,a3,a4,a5,a6,a7,a8⟩,Pt⟩:=jo;ac_rfl;have g16:aZ F G6:=T.trans x.gg
   by_cases MC:k<O.length
   .obtain⟨go1,_,Zh⟩:=MP G7 B a1 a2 k
    refine .inr #[go1 MC,λU L=>∃(Y:DN)(a:List D),(∃(G:Hp)(r:List V),aZ G6 G/\aZ G L/\aZ u L/\(∀b,u b≠none->F b=none->G b=none)/\G l=none/\L l=some (.lst r)/\DvAll Z G r a/\dr Z G U Y)/\
     lcW g1 fH te (O.drop (k+1)) Y a λw xC=>rj g tt hU g1 fH te (p.drop (i+1)) w xC λout=>P (.lst out),λU L n=>#[O.length-(k+1),by lia,rfl,MC,n],λy H8 hy=>?_]
    rfl';obtain⟨G8,d8,x8,hd8,Ti⟩:=Zh y H8 MC hy;rw[oM hd8] at Pt;ac_rfl;refine#[G8,OD,d8,_,x8.sub,a8.mono x8.gg,Ti,Pt,λRc h9 σ9 O9=>?_];refine#[G8,Rc,_,x8.sub,O9,h9,λb X OG K0 C1=>?_];have C:=x8.trans C1;have oA:∀{G N:Hp},Ext G7 B G N->G l=none:=λx=>x.off l (by rw[a6];exact λz=>nomatch z) a5
    have oB:∀{G N:Hp},Ext G7 B G N->∀b,u b≠none->F b=none->G b=none:=λx b M h2=>x.off b (fY a3 M) (a4 b M h2);cases b with
    |false=>exact bJ #[Rc,Dr,#[OG,Q7,a1.trans C.gg,C.sub,a3.trans C.hh,oB C,oA C,C.hh _ _ a6,a7.mono C.gg,O9.mono C1.gg],by simpa using X]
    |true=>
     refine dH #[OG,Rc,_,C1.sub,O9.mono C1.gg,(by simpa using X),λd' iG v Sn OH KW L4=>?_]
     have E:=C.trans KW;refine#[Q7,E.hh _ _ a6,by rw[a7.length];exact iG.1,Rc,_,#[Sn,Q7++ [v],a1.trans E.gg,λb o e=>?_,λb o e=>?_,oB E,oA E,ax,(a7.mono E.gg).snoc L4,(O9.mono C1.gg).mono KW.gg],iG.2]
     .rw[aB (aW e (oA E))];exact E.sub _ _ e
     .rw[aB (aW e hA)];exact(a3.trans E.hh) _ _ e
   .have e:O.drop k= []:=zY (by lia)
    rw[e] at Pt;exact .inl #[(MP G7 B a1 a2 k).2.1 (by lia),OD,Dr,#[G7,Q7,g16.trans a1,a2,a3,a4,a5,a6,a7,a8],Pt]
 .have e:p.drop i= []:=zY (by lia)
  rfl';rw[e] at hl;obtain⟨G',x,dv⟩:=c.done x1 hA;obtain⟨S,r,T,s2,_⟩:=c;ac_rfl;exact .inl #[(it S I T s2 i).2.1 (by lia),q _ hl _ G' I x dv]
theorem OZ(f:X.calm=true)(c:cT X scope)(h:eD scope X.N src NC)(i:DI Z X t0 i0 wi)
  (j:∀d s H,DG Z (dS X scope NC d s H) t0 g) (k:∀d s H,Dl Z (dS X scope NC d s H) f0 tt) (l:∀d s H,DI Z (dS X scope NC d s H) t1 i1 hU) (m:∀d s H,DG Z (dS X scope NC d s H) t1 g1)
  (n:∀d s H,Dl Z (dS X scope NC d s H) f1 fH) (o:∀d s H,DE Z (dS X scope NC d s H) elt te)
  (p:∀x,foldedSetIterable i0 X.env x=pure x:=by intro _;rfl) (q:∀env x,foldedSetIterable i1 env x=pure x:=by intro _ _;rfl):
  DE Z X (.ListComp elt [#[t0,i0,f0,0],#[t1,i1,f1,0]] scope pos) (Rt wi g tt hU g1 fH te src):=(Qu f c h i j k l m n o p q).imp M1
end
inductive cg (R:V->D->List Addr->Prop):List V->List D->List Addr->Prop
 |nil:cg R [] [] []
 |cons {v:V} {vs:List V} {d:D} {ds:List D} {f fs:List Addr}:R v d f->cg R vs ds fs->cg R (v::vs) (d::ds) (f++fs)
def yw:D->Bool
 | .lst _=>true
 |_=>false
def Own(Z:DC)(G H:Hp):Nat->V->D->List Addr->Prop
 |0,v,d,c=>Dv Z G v d/\c= []
 |n+1,v,d,c=>(∃a e g i,v= .ref a/\d= .lst g/\H a=some (.lst e)/\c=a::i/\cg (Own Z G H n) e g i)\/(1<=n/\∃a e g,v= .ref a/\d= .tup g/\G a=some (.tup e)/\cg (λv d f=>(yw d=true/\Own Z G H n v d f)\/(yw d=false/\Dv Z G v d/\f= [])) e g c)\/(∃a h,v= .ref a/\H a=some (.ext h)/\c= [a]/\((n=98/\∃b j,d= .set b j/\h=Rh b a j)\/(n=97/\∃k,d= .x k/\Jc G a h k)))
theorem Own.lst{Z:DC}{G H:Hp}{n:Nat}{v:V}{c:List D}{f:List Addr}(o:Own Z G H (n+1) v (.lst c) f):∃a d g h,v= .ref a/\D.lst c= .lst g/\H a=some (.lst d)/\f=a::h/\cg (Own Z G H n) d g h:=by
 rcases o with o| ⟨_,a,d,c,_,e,_⟩ | ⟨a,i,_,_,_,⟨_,b,j,e,_⟩ | ⟨_,k,e,_⟩⟩
 .exact o
 .cases e
 .cases e
 .cases e
theorem Own.xA(o:Own Z G H 98 v (.x k) d):∃a c,v= .ref a/\H a=some (.ext c)/\d= [a]/\Jc G a c k:=by
 rcases o with ⟨_,_,_,_,_,e,_⟩ | ⟨_,a,j,l,_,e,_⟩ | ⟨a,c,f,g,h,⟨_,b,m,e,n⟩ | ⟨_,k,e,i⟩⟩
 .cases e
 .cases e
 .cases e
 .cases e;exact#[a,c,f,g,h,i]
theorem Own.tup{Z:DC}{G H:Hp}{n:Nat}{v:V}{g:List D}{h:List Addr}(o:Own Z G H (n+1) v (.tup g) h):∃a c,v= .ref a/\G a=some (.tup c)/\cg (λv d f=>(yw d=true/\Own Z G H n v d f)\/(yw d=false/\Dv Z G v d/\f= [])) c g h:=by
 rcases o with ⟨a,c,g,m,_,e,_⟩ | ⟨_,a,c,g,i,e,j,l⟩ | ⟨a,p,_,_,_,⟨_,b,q,e,_⟩ | ⟨_,k,e,_⟩⟩
 .cases e
 .cases e;exact#[a,c,i,j,l]
 .cases e
 .cases e
theorem Own.one{d:D}(o:Own Z G H 1 v d b):∃a c e f,v= .ref a/\d= .lst e/\H a=some (.lst c)/\b=a::f/\cg (Own Z G H 0) c e f:=by
 rcases o with o| ⟨z,_⟩ | ⟨_,_,_,_,_,⟨z,_⟩ | ⟨z,_⟩⟩
 .exact o
 .exact absurd z (by decide)
 .exact absurd z (by decide)
 .exact absurd z (by decide)
theorem cg.imp{i:List V}(o:cg R i ds c)(h:∀v d f,(∀b∈f,b∈c)->R v d f->g v d f):cg g i ds c:=by
 induction o with
 |nil=>exact .nil
 |cons a _ j=>exact .cons (h _ _ _ (λb e=>fj _ e) a) (j λv d f k r=>h v d f (λb e=>cN _ (k b e)) r)
theorem cg.length{a:List V}{b:List Addr}(o:cg R a ds b):a.length=ds.length:=by
 induction o with
 |nil=>rfl
 |cons _ _ c=>exact FS (·+1) c
section
variable {Z:DC} {G G' H H':Hp}
theorem Own.keep:∀{v:V}{d:D}{g:List Addr},Own Z G H n v d g->aZ G G'->(∀b∈g,H' b=H b)->Own Z G' H' n v d g:=by
 induction n with
 |zero=>exact λh s _=>#[h.1.mono s,h.2]
 |succ n u=>
  intro v d g h s k
  rcases h with ⟨a,j,l,w,c,m,e,i,o⟩ | ⟨p,a,j,l,c,m,e,o⟩ | ⟨a,x,c,e,i,y⟩
  .subst i
   exact .inl #[a,j,l,w,c,m,by rw[k a (bB ..)];exact e,rfl,o.imp λv d f t r=>u r s λb q=>k b (bP _ (t b q))]
  .exact .inr (.inl #[p,a,j,l,c,m,s _ _ e,o.imp λv d f t r=>r.imp (λr=>#[r.1,u r.2 s λb q=>k b (t b q)]) λr=>#[r.1,r.2.1.mono s,r.2.2]])
  .exact .inr (.inr #[a,x,c,by rw[k a (by rw[i];exact bB ..)];exact e,i,y.imp id λ#[p,k,z,A]=>#[p,k,z,A.mono s]])
theorem cg.RA(o:cg R e ds g)(k:∀v d f,(∀b∈f,b∈g)->R v d f->Dv Z G' v d):DvAll Z G' e ds:=by
 induction o with
 |nil=>exact .nil
 |cons a _ h=>exact .cons (k _ _ _ (λb c=>fj _ c) a) (h λv d f i r=>k v d f (λb c=>cN _ (i b c)) r)
theorem Own.Rz(o:HO->Prop)(y:∀j,o (.lst j))(t:∀u,o (.ext u)):∀{v:V}{d:D}{l:List Addr},Own Z G H n v d l->aZ G G'->(∀b∈l,∀x,o x->H b=some x->G' b=some x)->Dv Z G' v d:=by
 induction n with
 |zero=>exact λh s _=>h.1.mono s
 |succ n w=>
  intro v d l h s k
  rcases h with ⟨a,j,z,B,i,c,g,e,m⟩ | ⟨_,a,j,z,i,c,g,m⟩ | ⟨a,u,i,g,e,A⟩
  .subst e i c
   exact .lst (k a (bB ..) _ (y _) g) (m.RA λv d f e r=>w r s λb p=>k b (bP _ (e b p)))
  .subst i c
   exact .tup (s _ _ g) (m.RA λv d f e r=>r.elim (λr=>w r.2 s λb p=>k b (e b p)) λr=>r.2.1.mono s)
  .subst i e
   rcases A with ⟨_,b,C,c,q⟩ | ⟨_,E,c,q⟩
   .subst c q
    exact .set (k a (bB ..) _ (t _) g)
   .subst c
    exact .x (k a (bB ..) _ (t _) g) (q.mono s)
theorem Own.dv{v:V}{d:D}(h:Own Z G H n v d a)(s:aZ G G')(k:∀b∈a,∀o,H b=some o->G' b=some o):Dv Z G' v d:=h.Rz (λ_=>True) (λ_=>trivial) (λ_=>trivial) s λb c x _ e=>k b c x e
theorem cg.flat(o:cg (Own Z G H 0) b ds c):DvAll Z G b ds/\c= []:=by
 induction o with
 |nil=>exact#[.nil,rfl]
 |cons a _ d=>exact#[.cons a.1 d.1,by rw[a.2,d.2];rfl]
theorem DvAll.own{d:List D}(h:DvAll Z G c d):cg (Own Z G H 0) c d []:=h.ind (p:=λc d=>cg (Own Z G H 0) c d []) .nil λa _ b=> .cons (f:= []) (fs:= []) #[a,rfl] b
theorem Dv.flat{v:V}{d:D}(h:Dv Z G v d)(f:fw d=true):Dv Z G' v d:=by
 cases h with
 |non=>exact .non
 |bl b=>exact .bl b
 |int i=>exact .int i
 |str x k=>exact .str x k
 |_=>cases f
end
mutual
def pE:D->Bool
 | .non=>true
 | .bl _=>true
 | .int _=>true
 | .str _=>true
 | .tup l=>Iq l
 |_=>false
def Iq:List D->Bool
 | []=>true
 |d::ds=>pE d&&Iq ds
end
theorem Dv.pE(k:∀b g,G b=some (.tup g)->e b=some (.tup g))(h:Dv Z G v d):L2.pE d=true->Dv Z e v d:=by
 have c:∀{p:Prop}{d:D},L2.pE d=false->L2.pE d=true->p:=λa b=>by rw[a] at b;cases b
 refine Dv.rec (motive_1:=λv d _=>L2.pE d=true->Dv Z e v d) (motive_2:=λl j _=>Iq j=true->DvAll Z e l j) (λ_=> .non) (λb _=> .bl b) (λi _=> .int i) (λx h _=> .str x h) (λ_ _ _=>c (by rw[L2.pE]<;>simp)) (λh _ m f=> .tup (k _ _ h) (m (by rw[L2.pE] at f;exact f))) (λ_=>c (by rw[L2.pE]<;>simp)) (λ_=>c (by rw[L2.pE]<;>simp)) (λ_ _=>c (by rw[L2.pE]<;>simp)) (λ_ _ _ _ _ _=>c (by rw[L2.pE]<;>simp)) (λ_=>c (by rw[L2.pE]<;>simp)) (λ_ _=>c (by rw[L2.pE]<;>simp)) (λ_ _ _ _=>c (by rw[L2.pE]<;>simp)) (λ_=> .nil) (λ_ _ n o f=>?_) h
 rw[Iq,sQ] at f;exact .cons (n f.1) (o f.2)
def Nv:HO->Bool
 | .lst _=>true
 | .ext _=>true
 |_=>false
theorem Own.dvL(h:Own Z G H n v d c)(s:aZ G a)(k:∀b∈c,∀o,Nv o=true->H b=some o->a b=some o):Dv Z a v d:=h.Rz (λo=>Nv o=true) (λ_=>rfl) (λ_=>rfl) s k
structure Bs where
 G₀:Hp
 H₀:Hp
 Gf:Hp
structure SIx (Z:DC) (B:Bs) (md:List Nat) (ρ:DN) (σ:St) (H G:Hp) (fp:Nat->List Addr):Prop where
 ex:Ext B.G₀ B.H₀ G H
 fl:aZ B.Gf G
 len:ρ.length=σ.length
 at_:∀(i:Nat)(d:D),ρ[i]? =some (some d)->∃v,σ[i]? =some (some v)/\Own Z G H (md.getD i 0) v d (fp i)
 nd:∀i,(fp i).Nodup
 ap:∀i j b,i≠j->b∈fp i->b∉fp j
 nw:∀i b,b∈fp i->B.H₀ b=none/\H b≠none/\G b=none
def SI(Z:DC)(B:Bs)(a:List Nat)(b:DN)(c:St)(H:Hp):Prop:=∃G d,SIx Z B a b c H G d
def dF:List Nat->DN->DN
 |_,[]=> []
 | [],o::a=>o::a
 |0::b,o::a=>o::dF b a
 | (_+1)::b,_::a=>none::dF b a
theorem sC:∀(a:List Nat)(b:DN),(dF a b).length=b.length
 |a,[]=>by cases a<;>rfl
 | [],o::b=>rfl
 |0::a,o::b=>by rw[dF,bN,sC a b,bN]
 | (_+1)::a,_::b=>by rw[dF,bN,sC a b,bN]
theorem vg:∀(c:List Nat)(e:DN)(i:Nat),(dF c e)[i]? =some (some d)->c.getD i 0=0/\e[i]? =some (some d)
 |c,[],i,h=>by cases c<;>simp[dF] at h
 | [],o::e,i,h=>#[by simp,h]
 |0::c,o::e,0,h=>#[rfl,by simpa [dF] using h]
 |0::c,o::e,i+1,h=>by
  rw[dF,uv] at h;obtain⟨a,b⟩:=vg c e i h;exact#[by rw[Dd];exact a,by rw[uv];exact b]
 | (_+1)::c,_::e,0,h=>by simp[dF] at h
 | (_+1)::c,_::e,i+1,h=>by
  rw[dF,uv] at h;obtain⟨a,b⟩:=vg c e i h;exact#[by rw[Dd];exact a,by rw[uv];exact b]
def Fl(b:List Nat):Bool->DN->DN
 |true,a=>a
 |false,a=>dF b a
def qB:Bool->D->Prop
 |true,d=>pE d=true
 |false,_=>True
section
variable {Z:DC} {B:Bs} {md:List Nat} {ρ:DN} {σ:St} {H G:Hp} {fp:Nat->List Addr}
theorem GW(h:(dF md ρ)[i]? =some (some d)):md.getD i 0=0/\ρ[i]? =some (some d):=vg md ρ i h
theorem SIx.yc(S:SIx Z B md ρ σ H G fp):dr Z G σ (dF md ρ):=by
 refine#[by rw[sC];exact S.len,λi d h=>?_]
 obtain⟨z,h⟩:=GW h;obtain⟨v,a,o⟩:=S.at_ i d h;rw[z] at o;exact#[v,a,o.1]
theorem SIx.D3(S:SIx Z B md ρ σ H G fp):dr Z H σ ρ:=by
 refine#[S.len,λi d h=>?_];obtain⟨v,a,o⟩:=S.at_ i d h;exact#[v,a,o.dv S.ex.sub λb _ u e=>e]
theorem SIx.grow{c f:Hp}(S:SIx Z B md ρ σ H G fp)(x:Ext G H c f):SIx Z B md ρ σ f c fp where
 ex:=S.ex.trans x
 fl:=S.fl.trans x.gg
 len:=S.len
 at_:=λi d h=>by
  obtain⟨v,j,o⟩:=S.at_ i d h;refine#[v,j,o.keep x.gg λb a=>?_];cases e:H b with
  |none=>exact absurd e (S.nw i b a).2.1
  |some u=>exact x.hh _ _ e
 nd:=S.nd
 ap:=S.ap
 nw:=λi b a=>let #[k,g,l]:=S.nw i b a;#[k,fY x.hh g,x.off b g l]
theorem Ext.all(s:aZ G H)(x:Ext H H b a):Ext G H G a:=#[.refl _,s.trans x.hh,x.hh,λ_ _ h=>h]
open Classical in
noncomputable def jL(G H:Hp)(fp:Nat->List Addr):Hp:=λb=>if ∃i,b∈fp i then(match H b with|some (.lst xs)=>some (.lst xs) |some (.ext φ)=>some (.ext φ) |_=>none) else G b
open Classical in
noncomputable def uU(G:Hp)(fp:Nat->List Addr):Hp:=λb=>if ∃i,b∈fp i then none else G b
theorem KR(i:Nat)(h:b∈fp i)(a:Nv o=true)(e:H b=some o):jL G H fp b=some o:=by
 unfold jL;rw[ls #[i,h],e];cases o<;>first|rfl|cases a
theorem sO(h:¬∃i,b∈fp i):jL G H fp b=G b:=ir h
theorem SIx.RC(S:SIx Z B md ρ σ H G fp):aZ G (jL G H fp)/\aZ (jL G H fp) H/\dr Z (jL G H fp) σ ρ:=by
 have c:aZ G (jL G H fp):=λb o e=>by
  by_cases h:∃i,b∈fp i
  .obtain⟨i,f⟩:=h
   rw[(S.nw i b f).2.2] at e;cases e
  .rw[sO h];exact e
 refine#[c,λb o e=>?_,S.len,λi d h=>?_]
 .by_cases h:∃i,b∈fp i
  .unfold jL at e
   rw[ls h] at e
   split at e
   .next l a=>rw[a];exact e
   .next m a=>rw[a];exact e
   .cases e
  .rw[sO h] at e;exact S.ex.sub _ _ e
 .obtain⟨v,g,o⟩:=S.at_ i d h
  exact#[v,g,o.dvL c λb j u k a=>KR i j k a]
theorem SIx.Yu(S:SIx Z B md ρ σ H G fp)(x:Ext (jL G H fp) H a g):Ext G H (uU a fp) g/\∀b d,a b=some (.tup d)->uU a fp b=some (.tup d):=by
 obtain⟨j,l,_⟩:=S.RC;refine#[#[λb o e=>?_,λb o e=>?_,x.hh,λb f k=>?_],λb d e=>?_]
 .have h:¬∃i,b∈fp i:=by
   rintro⟨i,c⟩;rw[(S.nw i b c).2.2] at e;cases e
  unfold uU;rw[ir h];exact x.gg _ _ (j _ _ e)
 .unfold uU at e
  split at e
  .cases e
  .exact x.sub _ _ e
 .unfold uU
  split
  .rfl
  .next h=>exact x.off b f (by rw[sO h];exact k)
 .have h:¬∃i,b∈fp i:=by
   rintro⟨i,c⟩;have f:=(S.nw i b c).2.1;cases hw:jL G H fp b with
   |none=>rw[x.off b f hw] at e;cases e
   |some o=>
    have:=x.gg _ _ hw
    rw[e] at this;cases Do this;unfold jL at hw;rw[ls #[i,c]] at hw
    split at hw<;>cases hw
  unfold uU;rw[ir h];exact e
theorem SIx.ev(S:SIx Z B md ρ σ H G fp)(m:Bool)(h:t (Fl md m ρ) P)
  (f:∀d,P d->qB m d/\∀v b a,SIx Z B md ρ σ a b fp->Ext G H b a->Dv Z b v d->Q v a):eO Z t σ H Q:=by
 cases m with
 |false=>exact#[G,_,P,S.ex.sub,S.yc,h,λd c v b a x dv=>(f d c).2 v b a (S.grow x) x dv]
 |true=>
  obtain⟨j,i,e⟩:=S.RC;refine#[jL G H fp,_,P,i,e,h,λd c v b a x dv=>?_];obtain⟨g,k⟩:=S.Yu x;exact(f d c).2 v _ a (S.grow g) g (dv.pE k (f d c).1)
theorem SIx.Wv(S:SIx Z B md ρ σ H G fp)(h:t ρ P)(c:∀b,P b->∀a,SIx Z B md ρ σ a G fp->Q b a):liftT Z t σ H Q:=
 #[H,ρ,P, .refl _,S.D3,h,λb d e a x=>c b d a (S.grow (Ext.all S.ex.sub x))]
theorem SIx.nW(S:SIx Z B md ρ σ H G fp)(l:md.getD i 0=0)(dv:Dv Z G v d):SIx Z B md (ρ.set i (some d)) (σ.set i (some v)) H G (λj=>if j=i then[] else fp j) where
 ex:=S.ex
 fl:=S.fl
 len:=by rw[f9,f9];exact S.len
 at_:=λj c h=>by
  by_cases z:i=j
  .subst z
   by_cases a:i<ρ.length
   .rw[lF a] at h
    cases Do h;exact#[v,lF (by rw[<-S.len];exact a),by rw[l,ls rfl];exact#[dv,rfl]]
   .rw[zW (jS a),iu (jS a)] at h;cases h
  .rw[lG z] at h ⊢
   rw[ir (Ne.symm z)];exact S.at_ j c h
 nd:=λj=>by split;exact gQ;exact S.nd j
 ap:=λj k b ne e f=>by
  split at e
  .cases e
  .split at f
   .cases f
   .exact S.ap j k b ne e f
 nw:=λj b g=>by
  split at g
  .cases g
  .exact S.nw j b g
theorem SIx.IJ{f:List Addr}(S:SIx Z B md ρ σ H G fp)(m:md.getD i 0=n)(o:Own Z G H n v d f)(nd:f.Nodup)(nw:∀b∈f,B.H₀ b=none/\H b≠none/\G b=none)(ap:∀b∈f,∀j,j≠i->b∉fp j):
  SIx Z B md (ρ.set i (some d)) (σ.set i (some v)) H G (λj=>if j=i then f else fp j) where
 ex:=S.ex
 fl:=S.fl
 len:=by rw[f9,f9];exact S.len
 at_:=λj c h=>by
  by_cases z:i=j
  .subst z
   by_cases e:i<ρ.length
   .rw[lF e] at h
    cases Do h;exact#[v,lF (by rw[<-S.len];exact e),by rw[m,ls rfl];exact o]
   .rw[zW (jS e),iu (jS e)] at h;cases h
  .rw[lG z] at h ⊢
   rw[ir (Ne.symm z)];exact S.at_ j c h
 nd:=λj=>by split;exact nd;exact S.nd j
 ap:=λj k b ne g a=>by
  split at g
  .next z=>
   rw[ir (λw=>ne (z.trans w.symm))] at a;exact ap b g k (λw=>ne (z.trans w.symm)) a
  .next z=>
   split at a
   .exact ap b a j z g
   .exact S.ap j k b ne g a
 nw:=λj b l=>by
  split at l
  .exact nw b l
  .exact S.nw j b l
noncomputable def plus(G H:Hp)(F:Addr->Prop):Hp:=λb=>open Classical in if F b then H b else G b
theorem kF(h:F b):plus G H F b=H b:=by unfold plus;rw[ls h]
theorem h7(h:¬F b):plus G H F b=G b:=by unfold plus;rw[ir h]
theorem h8(s:aZ G H):aZ (plus G H F) H:=λb o e=>by
 by_cases h:F b
 .rw[kF h] at e;exact e
 .rw[h7 h] at e;exact s _ _ e
theorem eF(s:aZ G H):aZ G (plus G H F):=λb o e=>by
 by_cases h:F b
 .rw[kF h];exact s _ _ e
 .rw[h7 h];exact e
theorem SIx.evR(S:SIx Z B md ρ σ H G fp)(h:t ρ P)(g:∀d,P d->∀v a c,Ext B.G₀ B.H₀ a c->Dv Z a v d->Q v c):eO Z t σ H Q:=by
 let F:Addr->Prop:=λb=>∃i,b∈fp i
 have s:=S.ex.sub
 have j:Ext B.G₀ B.H₀ (plus G H F) H:=#[S.ex.gg.trans (eF s),h8 s,S.ex.hh,λb f k=>by
  rw[h7 (λ#[i,l]=>f (S.nw i b l).1)];exact S.ex.off b f k]
 refine#[plus G H F,ρ,P,h8 s,#[S.len,λi d h=>?_],h,λd m v a c x dv=>g d m v a c (j.trans x) dv];obtain⟨v,n,o⟩:=S.at_ i d h;exact#[v,n,o.dv (eF s) λb f u e=>by rw[kF #[i,f]];exact e]
end
structure iA where
 nx:DN->Prop
 rt:D->Prop
 bk:DN->Prop:=λ_=>False
 ct:DN->Prop:=λ_=>False
 xc:DN->D->Prop:=λ_ _=>False
abbrev cX:=iA->DN->Prop
structure Meets (Z:DC) (X:Cx) (B:Bs) (md:List Nat) (rn:Nat) (E:iA) (Dn:Ends):Prop where
 nx:∀ρ,E.nx ρ->∀σ H,SI Z B md ρ σ H->Dn.nx σ H
 rt:∀d,E.rt d->∀v f G' H',Ext B.G₀ B.H₀ G' H'->Own Z G' H' rn v d f->f.Nodup->(∀b∈f,B.H₀ b=none/\H' b≠none/\G' b=none)->Dn.rt v H'
 bk:∀ρ,E.bk ρ->∀σ H,SI Z B md ρ σ H->Dn.bk σ H
 ct:∀ρ,E.ct ρ->∀σ H,SI Z B md ρ σ H->Dn.ct σ H
 xc:∀ρ d,E.xc ρ d->∀σ H G fp a,SIx Z B md ρ σ H G fp->Dv Z G (.ref a) d->VR X σ H a
def se(Z:DC)(X:Cx)(a:List Nat)(c:Nat)(t:cX):TS:=λd e H=>∃(B:Bs)(b:DN)(E:iA),SI Z B a b e H/\t E b/\Meets Z X B a c E d
def DSt(Z:DC)(X:Cx)(a:List Nat)(b:Nat)(st:Stmt)(t:cX):Prop:=PS X st (se Z X a b t)
def uD(Z:DC)(X:Cx)(a:List Nat)(b:Nat)(c:List Stmt)(t:cX):Prop:=oj X c (se Z X a b t)
theorem PS.imp{X:Cx}{st:Stmt}{t c:TS}(h:PS X st t)(f:∀D b H,c D b H->t D b H):PS X st c:=λa s b H D I q=>h a s b H D I (f _ _ _ q)
theorem oj.imp{X:Cx}{st:List Stmt}{t c:TS}(h:oj X st t)(f:∀D b H,c D b H->t D b H):oj X st c:=λa s b H D I q=>h a s b H D I (f _ _ _ q)
section
variable {Z:DC} {X:Cx} {md:List Nat} {rn:Nat} {st:Stmt} {He:List Stmt} {t u:cX} {e:Expr} {te:bp} {pos:Pos}
def FT:cX:=λE a=>E.nx a
def HP(t u:cX):cX:=λE a=>t {E with nx:=u E} a
theorem ba:uD Z X md rn [] FT:=by
 refine yW.imp λD b H a=>?_;obtain⟨B,c,E,S,h,M⟩:=a;exact M.nx _ h _ _ S
theorem ah(a:DSt Z X md rn st t)(b:uD Z X md rn He u):uD Z X md rn (st::He) (HP t u):=by
 refine(dB a b).imp λD k H c=>?_;rfl';obtain⟨B,f,E,S,h,M⟩:=c;ac_rfl;exact#[B,f,_,S,h,#[λg i m n j=>#[B,g,E,j,i,M],M.rt,M.bk,M.ct,M.xc]]
theorem ao(a:DSt Z X md rn st t):uD Z X md rn [st] t:=pM a
theorem jc:DSt Z X md rn st (λ_ _=>False):=by
 refine Ko.imp λD b H a=>?_;obtain⟨B,c,E,S,h,M⟩:=a;exact h
def Wl(a:bp):cX:=λE b=>a b E.rt
theorem aR(a:DE Z X e te):DSt Z X md 0 (.Return (some e) pos) (Wl te):=by
 refine(m9 a).imp λD l H c=>?_;rfl';obtain⟨B,n,E,⟨G,o,S⟩,h,M⟩:=c;ac_rfl;exact S.evR h λd g v i j x dv=>M.rt d g v [] i j x #[dv,rfl] gQ (λb k=>by cases k)
def S9(i:Nat):cX:=λE a=>∃d,a[i]? =some (some d)/\E.rt d
theorem LZ(i:Nat)(f:md.getD i 0=rn:=by rfl)(g:X.N[i]? =some x:=by rfl)(a:kN X.env.scope x:=by subst_eqs)(b:(x==("__debug__":Str))=false:=by decide)(j:(x==("__classdict__":Str))=false:=by decide):
  DSt Z X md rn (.Return (some (.Name x c)) pos) (S9 i):=by
 refine(m9 (CA g a b j)).imp λD n H k=>?_;rfl';obtain⟨B,q,E,⟨G,m,S⟩,⟨d,b,h⟩,M⟩:=k;obtain⟨v,a,o⟩:=S.at_ i d b;rw[f] at o;ac_rfl;exact#[v,a,M.rt d h v (m i) G H S.ex o (S.nd i) (S.nw i)]
def Lr(c:eI)(t u:cX):cX:=λE a=>c a λb=>if b=true then t E a else u E a
theorem bU(j:DT Z X c tc)(k:uD Z X md rn a t)(d:uD Z X md rn b u):DSt Z X md rn (.If c a b pos) (Lr tc t u):=by
 refine(GR j k d).imp ?_;intro D n H l;rfl';obtain⟨B,f,E,⟨G,g,S⟩,h,M⟩:=l;ac_rfl;refine S.Wv h λb d p i=>?_;cases b with
 |true=>exact dH #[B,f,E,#[G,g,i],(d),M]
 |false=>exact bJ #[B,f,E,#[G,g,i],(d),M]
def Lz(b:List Nat)(m:Bool)(i:Nat)(c:bp):cX:=λE a=>c (Fl b m a) λd=>qB m d/\E.nx (a.set i (some d))
theorem bz(m:Bool)(i:Nat)(g:X.N.Nodup)(j:DE Z X e k)(l:c.getD i 0=0:=by rfl)(n:X.N[i]? =some x:=by rfl)(o:Loc X.env.scope x:=by subst_eqs)(p:swapsWith e (some (.Name x a)) b.line X.env=pure false:=by rfl)
  (q:X.fn x=true\/X.env.scope.names.lookup x=some .local:=by subst_eqs):DSt Z X c z (.Assign [.Name x a] e b) (Lz c m i k):=by
 refine(jY g n o j p q).imp ?_;intro D A H r;rfl';obtain⟨B,F,E,⟨G,I,S⟩,h,M⟩:=r;ac_rfl;exact S.ev m h λd f=>#[f.1,λv w J y x dv=>M.nx _ f.2 _ _ #[w,_,y.nW l dv]]
theorem Jx(i:Nat){NC:List Str}{src:List (Option Nat)}(q:X.calm=true)(r:X.N.Nodup)(c:cT X a)(w:eD a X.N src NC)(y:DI Z X k iter n)
  (z:∀j s H,DG Z (dS X a NC j s H) k g) (A:∀j s H,Dl Z (dS X a NC j s H) f o) (C:∀j s H,DE Z (dS X a NC j s H) b te)
  (F:swapsWith (.ListComp b [#[k,iter,f,0]] a pos) (some (.Name x l)) m.line X.env=pure true:=by rfl) (I:md.getD i 0=0:=by rfl) (J:X.N[i]? =some x:=by rfl) (L:Loc X.env.scope x:=by subst_eqs)
  (O:X.fn x=true\/X.env.scope.names.lookup x=some .local:=by subst_eqs)
  (P:∀x,foldedSetIterable iter X.env x=pure x:=by intro _;rfl):DSt Z X md rn (.Assign [.Name x l] (.ListComp b [#[k,iter,f,0]] a pos) m) (Lz md false i (SS n g o te src)):=by
 refine(ve q r J L c w y z A C F O P).imp ?_;intro D Q H R;rfl';obtain⟨B,t,E,⟨G,u,S⟩,h,M⟩:=R;ac_rfl;refine Ik Q H _ (S.ev false h λd p=>#[p.1,λv U H' Y x dv=>M.nx _ p.2 _ _ #[U,_,Y.nW I dv]])
end
end L2
namespace L2
open PySem PySem.Spec PyProof.Rows
section
variable {Z:DC} {X:Cx} {B:Bs} {md:List Nat} {rn:Nat} {ρ:DN} {σ:St} {H G:Hp} {fp:Nat->List Addr}
def Ii(Z:DC)(a:List Nat)(g:fc):TG:=λv f H Q=>∃(B:Bs)(b:DN)(d:D)(P:DN->Prop)(G:Hp)(h:Nat->List Addr),SIx Z B a b f H G h/\Dv Z G v d/\g d b P/\∀c,P c->∀e i,SIx Z B a c e H G i->Q e H
def M0(Z:DC)(a:List Nat)(g:nH):z9:=λf h H Q=>∃(B:Bs)(b:DN)(c:List D)(P:DN->Prop)(G:Hp)(i:Nat->List Addr),SIx Z B a b h H G i/\DvAll Z G f c/\g c b P/\∀d,P d->∀e j,SIx Z B a d e H G j->Q e H
def IY(Z:DC)(X:Cx)(a:List Nat)(e:Expr)(g:fc):Prop:=PG X e (Ii Z a g)
def HE(Z:DC)(X:Cx)(a:List Nat)(b:List Expr)(g:nH):Prop:=Bz X b (M0 Z a g)
theorem aJ(i:Nat)(b:X.N.Nodup)(c:e.getD i 0=0:=by rfl)(f:X.N[i]? =some x:=by rfl)(g:Loc X.env.scope x:=by subst_eqs)(j:X.fn x=true\/X.env.scope.names.lookup x=some .local:=by subst_eqs):IY Z X e (.Name x a) (tu i):=by
 refine(t6 b f g j).imp λv m H Q k=>?_;rfl';obtain⟨B,o,d,P,G,p,S,dv,h,q⟩:=k;ac_rfl;exact q _ h _ _ (S.nW c dv)
theorem cz:HE Z X md [] LM:=by
 refine yU.imp λv c H Q a=>?_;rfl';obtain⟨B,e,f,P,G,g,S,dv,⟨h,p⟩,q⟩:=a;subst h;cases dv;ac_rfl;exact#[rfl,q _ p _ _ S]
theorem aN(d:IY Z X md e g)(f:HE Z X md b c)(i:(assignEach (e::b) X.env).map (·.2)=assign e X.env::(assignEach b X.env).map (·.2):=by rfl):HE Z X md (e::b) (HV g c):=by
 refine(qK d f i).imp ?_;intro v t H Q j;rfl';obtain⟨B,l,w,P,G,m,S,dv,h,q⟩:=j;ac_rfl;cases dv with
 |nil=>exact h.elim
 |cons a n=>exact#[_,_,rfl,B,l,_,_,G,m,S,a,h,λo p x r s=>#[B,o,_,P,G,r,s,n,p,q]]
theorem eH(n:Nat)(f:X.calm=true)(h:HE Z X md b e)(g:(assignEach b X.env).length=n:=by rfl)(i:(assignEach b X.env).findIdx? (·.1)=none:=by rfl):IY Z X md (.Tuple b k c) (LN n e):=by
 refine(CB f h g i).imp ?_;rintro v p H Q ⟨B,j,d,P,G,l,S,dv,h,q⟩;cases dv<;>first|exact h.elim|skip
 rename_i a m r o b
 exact#[a,m,rfl,fg.of (S.ex.sub _ _ o),by rw[b.length];exact h.1,B,j,_,P,G,l,S,b,h.2,q]
def V7(b:List Nat)(c:bp)(g:fc):cX:=λE a=>c (dF b a) λd=>g d a E.nx
theorem BP(i:DE Z X e c)(j:IY Z X md a g)(k:swapsWithSole [a] e b.line X.env=pure false:=by rfl)(hw:swappedStores [a] e X.env=pure none:=by rfl)
  (l:(assignEach [a] X.env).map (·.2)= [assign a X.env]:=by rfl):DSt Z X md rn (.Assign [a] e b) (V7 md c g):=by
 refine(lh i j k hw l).imp ?_;intro D w H m;rfl';obtain⟨B,o,E,⟨G,p,S⟩,h,M⟩:=m;ac_rfl;exact S.ev false h λd q=>#[trivial,λv f z r x dv=>#[B,o,d,E.nx,f,p,r,dv,q,λA s C t u=>M.nx _ s _ _ #[f,t,u]]]
def rg(g:fc)(a:cX)(E:iA):List D->DN->Prop
 | [],b=>E.nx b
 |x::c,b=>g x b λd=>a {nx:=rg g a E c,ct:=rg g a E c,bk:=E.nx,rt:=E.rt,xc:=E.xc} d
def Rp(b:List Nat)(m:Bool)(c:jC)(g:fc)(d:cX):cX:=λE a=>c (Fl b m a) λe=>rg g d E e a
theorem AY(S:SIx Z B md h c H G fp)(O:vH Z G J k)(P:rg g r E k h)(M:Meets Z X B md rn E q):
  ∃W:Nat->Nat->St->Hp->Prop,(∃m,W 0 m c H)/\∀i m c H,W i m c H->
   (J.stop i H/\q.nx c H)\/(J.go i H/\∃N:St->Hp->Prop,(∀j a,N j a->∃F,F<m/\W (i+1) F j a)/\∀x a,J.yld i H x a->Ii Z md g x c a λI v=>se Z X md rn r {q with nx:=N,ct:=N,bk:=q.nx} I v):=by
 let p:Bs:={B with Gf:=G}
 have back:∀h c H,SI Z p md h c H->SI Z B md h c H:=λh c H #[s,t,f]=>#[s,t,#[f.ex,S.fl.trans f.fl,f.len,f.at_,f.nd,f.ap,f.nw]];have Q:SIx Z p md h c H G fp:=#[S.ex, .refl _,S.len,S.at_,S.nd,S.ap,S.nw];refine#[λi m c H=>m=k.length-i/\i<=k.length/\∃h,SI Z p md h c H/\rg g r E (k.drop i) h,#[_,rfl,fm _,h,#[G,fp,Q],P],?_];intro i m I v R;rfl';obtain⟨rfl,hi,U,⟨s,t,f⟩,u⟩:=R;obtain⟨Y,stop,yld⟩:=O s v f.fl f.ex.sub i;ac_rfl
 by_cases z:i<k.length
 .refine .inr #[Y z,λj a=>∃l,SI Z p md l j a/\rg g r E (k.drop (i+1)) l,λj a n=>#[k.length-(i+1),by lia,rfl,z,n],λx a y=>?_]
  rfl';obtain⟨L,d,x3,Ak,dv⟩:=yld x a z y;rw[oM Ak] at u;ac_rfl;refine#[p,U,d,_,L,t,f.grow x3,dv,u,λA h4 gb C S4=>?_];exact#[p,A,_,#[L,C,S4],h4,#[λl o j a b=>#[l,b,o],M.rt,λl o j a b=>M.nx _ o _ _ (back _ _ _ b),λl o j a b=>#[l,b,o],λl d o j a G' BV a' b kq=>M.xc l d o j a G' BV a' #[b.ex,S.fl.trans b.fl,b.len,b.at_,b.nd,b.ap,b.nw] kq]]
 .have e:k.drop i= []:=zY (by lia)
  rw[e] at u;exact .inl #[stop (by lia),M.nx _ u _ _ (back _ _ _ #[s,t,f])]
variable {tg iter:Expr} {body:List Stmt} {wi:jC} {g:fc} {tb:cX} {pos:Pos}
theorem cH(a:X.calm=true)(b:PassesOwn (model X.prog X.w) X.A X.env X.xe)(c:DI Z X tg iter wi)(d:IY Z X md tg g)(e:uD Z X md rn body tb)
  (f:∀x,foldedSetIterable iter X.env x=pure x:=by intro _;rfl):DSt Z X md rn (.For tg iter body [] pos) (Rp md false wi g tb):=by
 refine(IB b a c d e f).imp ?_;intro D n H i;rfl';obtain⟨B,p,E,⟨G,q,S⟩,h,M⟩:=i;ac_rfl;exact#[G,_,_,S.ex.sub,S.yc,h,λr k J s t l m=>AY (S.grow l) m k M]
def P0(Z:DC)(d:jC):TI:=λe H R=>∃(G:Hp)(a:DN)(P:List D->Prop),aZ G H/\dr Z G e a/\d a P/\∀b,P b->∀J f c,Ext G H f c->(∀h,vH Z h J b)->R J c
def VE(Z:DC)(X:Cx)(a e:Expr)(b:jC):Prop:=PI X a e (P0 Z b)
theorem DZ(a:X.calm=true)(b:PassesOwn (model X.prog X.w) X.A X.env X.xe)(c:VE Z X tg iter wi)(d:IY Z X md tg g)(e:uD Z X md rn body tb)
  (f:∀x,foldedSetIterable iter X.env x=pure x:=by intro _;rfl):DSt Z X md rn (.For tg iter body [] pos) (Rp md true wi g tb):=by
 refine(IB b a c d e f).imp ?_;intro D o H i;rfl';obtain⟨B,k,E,⟨G,q,S⟩,h,M⟩:=i;ac_rfl;exact#[H,k,_, .refl _,S.D3,h,λr l J s t m n=>AY (S.grow (Ext.all S.ex.sub m)) (n _) l M]
variable {a b e:Expr} {ta te:bp} {t:i7}
theorem xX(d:Gl X "range")(f:X.mg "range"=none)(i:DA Z X [a] t)(j:starEach [a] X.env= [(false,eval a X.env)]:=by rfl):VE Z X tg (.Call (.Name "range" p) [a] [] pos) (Wr t):=by
 refine(GL d f i j).imp ?_;intro v H Q k;rfl';obtain⟨G,m,P,s,n,h,q⟩:=k;ac_rfl;refine#[G,m,_,s,n,h,λx c y o r u dv=>?_]
 split at c
 .obtain⟨_,rfl,a⟩:=dv.ofOne
  exact#[_,by rw[a.ofInt],c.1.1,c.1.2,q _ c.2 _ o r u λ_=>JX 0 _]
 .exact c.elim
def HQ(c:eI)(i:cX):cX:=λE d=>∃W:Nat->DN->Prop,(∃m,W m d)/\∀m d,W m d->c d λb=>if b=true then i {nx:=λh=>∃f,f<m/\W f h,ct:=λh=>∃f,f<m/\W f h,bk:=E.nx,rt:=E.rt,xc:=E.xc} d else E.nx d
theorem j4(z:PassesOwn (model X.prog X.w) X.A X.env X.xe)(C:DT Z X c tc)(l:uD Z X md rn body tb):DSt Z X md rn (.While c body [] pos) (HQ tc tb):=by
 refine(Kq z C l).imp ?_;intro D s H p;rfl';obtain⟨B,n,E,S,⟨W,⟨I,J⟩,h⟩,M⟩:=p;ac_rfl;refine#[λm s H=>∃n,SI Z B md n s H/\W m n,#[I,n,S,J],?_];intro m P Q p;rfl';obtain⟨u,⟨v,x,L⟩,N⟩:=p;ac_rfl;refine L.Wv (h m u N) λb l i y=>?_;cases b with
 |false=>exact bJ (M.nx _ (l) _ _ #[v,x,y])
 |true=>
  refine dH #[λo i=>∃d f,f<m/\SI Z B md d o i/\W f d,λo i #[d,f,j,k,O]=>#[f,j,d,k,O],B,u,_,#[v,x,y],(l),?_];exact#[λd #[f,j,k] o i r=>#[d,f,j,r,k],M.rt,M.nx,λd #[f,j,k] o i r=>#[d,f,j,r,k],M.xc]
abbrev jB:=DN->(List D->Prop)->Prop
def uX(Z:DC)(n:Nat)(t:jB):TE:=λj H Q=>∃(G:Hp)(h:DN)(P:List D->Prop),aZ G H/\dr Z G j h/\t h P/\∀i,P i->∀v f d c,Ext G H d c->Own Z d c n v (.lst i) f->f.Nodup->(∀b∈f,H b=none/\c b≠none/\d b=none)->Q v c
def DF(Z:DC)(X:Cx)(n:Nat)(e:Expr)(t:jB):Prop:=PE X e (uX Z n t)
theorem Ext.side(x:Ext G H d c)(f:c p=none):Ext G H d (upd c p o):=
 #[x.gg,λb u e=>by rw[aB (aW e (x.sub.free f))];exact x.sub _ _ e,x.hh.trans (aY f _),x.off]
theorem EK(x:Ext G H d f)(i:f p=none)(dv:DvAll Z d c h):
  Own Z d (upd f p (.lst c)) 1 (.ref p) (.lst h) [p]/\([p]:List Addr).Nodup/\∀b∈([p]:List Addr),H b=none/\(upd f p (.lst c)) b≠none/\d b=none:=by
 refine#[.inl #[p,c,h,[],rfl,rfl,ax,rfl,dv.own],by simp,λb j=>?_]
 have:b=p:=by simpa using j
 subst this;exact#[x.hh.free i,(ax▸λz=>nomatch z),x.sub.free i]
def RF(t:i7):jB:=λd P=>t d λc=>c.length<=sizeLine/\P c
theorem gS(h:DA Z X c t):DF Z X 1 (.List c pos) (RF t):=by
 refine(Iw h).imp ?_;intro v H Q j;rfl';obtain⟨G,l,P,s,e,h,q⟩:=j;ac_rfl;exists G,l,_,s,e,h;rintro x ⟨m,n⟩ y z A d f;refine#[by rw[f.length];exact m,λp i=>?_]
 obtain⟨o,r,u⟩:=EK d i f;exact q _ n _ _ _ _ (d.side i) o r u
def Tx(d:jC)(g:fc)(f:eI)(h:bp)(src:List (Option Nat)):jB:=λc P=>d c λi=>lcW g f h i (zh src c) [] λ_ out=>P out
theorem Ey:∀v H Q,uX Z 1 (Tx wi g u te src) v H Q->Oq (uY Z wi) (r9 Z g) (liftT Z u) (eO Z te) src v H Q:=by
 intro v H Q R;rfl';obtain⟨G,T,P,s,x,h,q⟩:=R;ac_rfl;refine#[G,T,_,s,x,h,λj U J E Y f F k y=>?_];refine#[λi m A l=>m=j.length-i/\i<=j.length/\∃p d,CS Z E Y k p d A l/\lcW g u te (j.drop i) p d λ_ out=>P out,#[_,rfl,fm _,_,[], .begin f.sub y ((x.mono f.gg).src src),U],?_];rintro i m A l ⟨rfl,hi,p,d,c,C⟩
 by_cases I:i<j.length
 .obtain⟨a,o⟩:=A6 y E F i p d A l c (λ_ s=>s) I C
  exact .inr #[a,_,λaH H' n=>#[j.length-(i+1),by lia,rfl,I,n],o]
 .have e:j.drop i= []:=zY (by lia)
  rfl';rw[e] at C;obtain⟨L,t,M,N,B,off,X,O,bC,x⟩:=c;ac_rfl;refine .inl #[(F L l M N i).2.1 (by lia),q _ C (.ref k) [k] L l #[f.gg.trans M,N,f.hh.trans B,λb r hg=>off b (fY f.hh r) (f.off b r hg)] (.inl #[k,t,d,[],rfl,rfl,O,rfl,bC.own]) (by simp) λb r=>?_]
  have:b=k:=by simpa using r
  subst this;exact#[f.hh.free y,(by rw[O];exact λz=>nomatch z),X]
variable {elt:Expr} {ifs:List Expr} {scope:Scope} {NC:List Str} {src:List (Option Nat)} {tt:eI}
def Lw(d:List Nat)(i:Nat)(t:jB):cX:=λE c=>t (dF d c) λf=>E.nx (c.set i (some (.lst f)))
theorem u5{t:jB}(p:md.getD i 0=n)(S:SIx Z B md ρ σ H G fp)(h:t (dF md ρ) λl=>E.nx (ρ.set i (some (.lst l))))(M:Meets Z X B md rn E k):uX Z n t σ H λv m=>k.nx (σ.set i (some v)) m:=by
 refine#[G,_,_,S.ex.sub,S.yc,h,λl q v f r m x o s d=>?_];refine M.nx _ q _ _ #[r,_,(S.grow x).IJ p o s (λb c=>#[S.ex.hh.free (d b c).1,(d b c).2]) λb c j _ u=>(S.nw j b u).2.1 (d b c).1]
theorem gT(i:Nat){t:jB}(j:X.N.Nodup)(k:DF Z X n e t)(l:f.getD i 0=n:=by rfl)(m:X.N[i]? =some x:=by rfl)(o:Loc X.env.scope x:=by subst_eqs)(p:swapsWith e (some (.Name x c)) d.line X.env=pure false:=by rfl)
  (q:X.fn x=true\/X.env.scope.names.lookup x=some .local:=by subst_eqs):DSt Z X f u (.Assign [.Name x c] e d) (Lw f i t):=by
 refine(jY j m o k p q).imp ?_;intro D v H r;rfl';obtain⟨B,y,E,⟨G,z,S⟩,h,M⟩:=r;ac_rfl;exact u5 l S h M
theorem Ju(i:Nat)(k:X.calm=true)(l:X.N.Nodup)(c:cT X scope)(m:eD scope X.N src NC)(n:DI Z X tg iter wi)
  (o:∀d s H,DG Z (dS X scope NC d s H) tg g) (p:∀d s H,Dl Z (dS X scope NC d s H) ifs tt) (q:∀d s H,DE Z (dS X scope NC d s H) elt te)
  (r:swapsWith (.ListComp elt [#[tg,iter,ifs,0]] scope pos) (some (.Name x f)) j.line X.env=pure true:=by rfl) (u:md.getD i 0=1:=by rfl) (v:X.N[i]? =some x:=by rfl) (w:Loc X.env.scope x:=by subst_eqs)
  (y:X.fn x=true\/X.env.scope.names.lookup x=some .local:=by subst_eqs)
  (z:∀x,foldedSetIterable iter X.env x=pure x:=by intro _;rfl):DSt Z X md rn (.Assign [.Name x f] (.ListComp elt [#[tg,iter,ifs,0]] scope pos) j) (Lw md i (Tx wi g tt te src)):=by
 refine(ve k l v w c m n o p q r y z).imp ?_;intro D A H C;rfl';obtain⟨B,J,E,⟨G,L,S⟩,h,M⟩:=C;ac_rfl;exact Ey A H _ (u5 u S h M)
end
section
variable {Z:DC} {X:Cx} {B:Bs} {md:List Nat} {rn:Nat} {ρ:DN} {σ:St} {H G:Hp} {fp:Nat->List Addr} {a e k o:Expr} {ta te tk tp:bp} {pos apos aK p2:Pos}
theorem SIx.mut{b:Addr}(S:SIx Z B md ρ σ H G fp)(r:σ[i]? =some (some v))(n:b∈fp i)(o:Own Z G (upd H b c) (md.getD i 0) v m (fp i)):SIx Z B md (ρ.set i (some m)) σ (upd H b c) G fp where
 ex:=by
  obtain⟨d,p,f⟩:=S.nw i b n;exact#[S.ex.gg,λx u e=>by rw[aB (aW e f)];exact S.ex.sub _ _ e,λx u e=>by rw[aB (aW e d)];exact S.ex.hh _ _ e,S.ex.off]
 fl:=S.fl
 len:=by rw[f9];exact S.len
 at_:=λj w h=>by
  by_cases z:i=j
  .subst z
   by_cases g:i<ρ.length
   .rw[lF g] at h
    cases Do h;exact#[v,r,o]
   .rw[zW (jS g),iu (jS g)] at h;cases h
  .rw[lG z] at h
   obtain⟨u,s,t⟩:=S.at_ j w h;exact#[u,s,t.keep (.refl _) λx l=>aB λq=>S.ap i j b z n (q▸l)]
 nd:=S.nd
 ap:=S.ap
 nw:=λj x l=>by
  obtain⟨d,p,f⟩:=S.nw j x l;refine#[d,?_,f]
  by_cases z:x=b
  .rw[z,ax];exact λq=>nomatch q
  .rw[aB z];exact p
theorem SIx.one{i:Nat}{d:D}(S:SIx Z B md ρ σ H G fp)(j:md.getD i 0=1)(h:ρ[i]? =some (some d)):∃l b c,d= .lst c/\σ[i]? =some (some (.ref l))/\H l=some (.lst b)/\DvAll Z G b c/\
  ∀f g,DvAll Z G f g->SIx Z B md (ρ.set i (some (.lst g))) σ (upd H l (.lst f)) G fp:=by
 rfl';obtain⟨v,m,o⟩:=S.at_ i d h;rw[j] at o;obtain⟨l,b,c,u,rfl,rfl,q,n,r⟩:=o.one;obtain⟨dv,rfl⟩:=r.flat;ac_rfl;refine#[l,b,c,rfl,m,q,dv,λf g s=>S.mut m (by rw[n];simp) ?_]
 rw[j,n];exact .inl #[l,f,g,[],rfl,rfl,ax,rfl,s.own]
theorem cg.BB:∀{m:List V}{n:List D}{j:List Addr}(p:Nat){dp:D},cg (Own Z G H 1) m n j->j.Nodup->n[p]? =some dp->∃l c ds,dp= .lst ds/\m[p]? =some (.ref l)/\H l=some (.lst c)/\DvAll Z G c ds/\l∈j/\
  ∀g i,DvAll Z G g i->cg (Own Z G (upd H l (.lst g)) 1) m (n.set p (.lst i)) j
 |_,_,_,_,_, .nil,_,h=>by simp at h
 |_,_,_,0,dp, .cons (f:=f) (fs:=fs) a q,s,h=>by
  simp at h;subst h;rfl';obtain⟨l,c,ds,j,rfl,rfl,C,u,E⟩:=a.one;obtain⟨dv,rfl⟩:=E.flat;subst u;ac_rfl;refine#[l,c,ds,rfl,rfl,C,dv,by simp,λg i w=> .cons (.inl #[l,g,i,[],rfl,rfl,ax,rfl,w.own]) (q.imp λv d f u r=>r.keep (.refl _) λb x=>aB λz=>?_)]
  have:=(bS.mp s).1
  exact this (z▸u _ x)
 |_,_,_,p+1,dp, .cons (f:=f) (fs:=fs) a q,s,h=>by
  rfl';obtain⟨P,F,I⟩:=c9.mp s;obtain⟨l,c,ds,J,L,M,N,y,O⟩:=cg.BB p (dp:=dp) q F (by simpa using h)
  ac_rfl;refine#[l,c,ds,J,by simpa using L,M,N,cN _ y,λg i w=>?_]
  refine .cons (a.keep (.refl _) λb x=>aB λz=>?_) (O g i w);exact I b x l y z
theorem SIx.two(S:SIx Z B md ρ σ H G fp)(n:md.getD i 0=2)(h:ρ[i]? =some (some (.lst c)))(w:c[p]? =some dp):∃T b l d f,dp= .lst f/\σ[i]? =some (some (.ref T))/\H T=some (.lst b)/\b.length=c.length/\b[p]? =some (.ref l)/\H l=some (.lst d)/\DvAll Z G d f/\
  ∀g j,DvAll Z G g j->SIx Z B md (ρ.set i (some (.lst (c.set p (.lst j))))) σ (upd H l (.lst g)) G fp:=by
 rfl';obtain⟨v,q,o⟩:=S.at_ i _ h;rw[n] at o;obtain⟨T,b,P,y,rfl,A,r,m,s⟩:=o.lst;cases A;have t:=S.nd i;rw[m] at t;obtain⟨C,E⟩:=bS.mp t;obtain⟨l,d,f,F,I,J,L,u,M⟩:=cg.BB p s E w;ac_rfl;refine#[T,b,l,d,f,F,q,r,s.length,I,J,L,λg j N=>S.mut q (by rw[m];exact bP _ u) ?_]
 rw[n,m];exact .inl #[T,b,_,y,rfl,rfl,by rw[aB (λz=>C (by rw[z];exact u))];exact r,rfl,M g j N]
theorem ty_list{K:ac}{l:Addr}{b:List V}(h:H l=some (.lst b)):Q5 K "list" (.ref l) H:= .inl #[rfl,_,cY.of h]
def V6(f:List Nat)(m:Bool)(i:Nat)(g:bp):cX:=λE b=>∃c,b[i]? =some (some (.lst c))/\g (Fl f m b) λd=>qB m d/\c.length<sizeLine/\E.nx (b.set i (some (.lst (c++ [d]))))
theorem mP(m:Bool)(i:Nat)(t:DE Z X e te)(g:md.getD i 0=1:=by rfl)(u:X.N[i]? =some x:=by rfl)(w:kN X.env.scope x:=by subst_eqs)(f:(x==("__debug__":Str))=false:=by decide)(y:(x==("__classdict__":Str))=false:=by decide)
  (z:attributeBase (.Name x b) "append" X.env (eval (.Name x b) X.env)=eval (.Name x b) X.env:=by rfl)
  (A:((backTo aK (starEach [e] X.env)).all (λx=>!x.1)&&(backToKw aK (keywordEach [] X.env)).all (λx=>x.1.isSome)&&decide (([e]:List Expr).length+([]:List Keyword).length+(if ([]:List Keyword).isEmpty then 0 else 1)<30))=true:=by rfl)
  (C:(apos.endLine==aK.line)=true:=by rfl) (j:starEach [e] X.env=(false,eval e X.env)::starEach [] X.env:=by rfl) (F:(backTo aK (starEach [] X.env)).any (·.1)=false:=by rfl)
  (I:swapsWith (.Call (.Attribute (.Name x b) "append" apos) [e] [] aK) none pos.line X.env=pure false:=by rfl):
  DSt Z X md rn (.Expr (.Call (.Attribute (.Name x b) "append" apos) [e] [] aK) pos) (V6 md m i te):=by
 refine(fW (sA Os aat aau g6 (pv i u w f y) (cK t fQ j) z A C j F) I).imp ?_;intro D k H J;rfl';obtain⟨B,o,E,⟨G,L,S⟩,⟨ds,p,h⟩,M⟩:=J;ac_rfl;rfl';obtain⟨l,xs,_,_,q,O,_⟩:=S.one g p;ac_rfl;refine#[_,q,ty_list O,S.ev m h λd f=>#[f.1,λv P H' Q x dv=>?_]];rfl';obtain⟨_,R,T⟩:=f;obtain⟨l',U,eM,Y,r,a,s,put⟩:=Q.one g p;cases Y;ac_rfl;rw[q] at r;cases r;exact#[l,U,v,rfl,rfl,a,by rw[s.length];exact R,M.nx _ T _ _ #[P,L,put _ _ (s.snoc dv)]]
theorem DvAll.ins{b:List V}{c:List D}{v:V}{d:D}(n:Nat)(h:DvAll Z G b c)(dv:Dv Z G v d):DvAll Z G (Wb.ins b n v) (Wb.ins c n d):=(h.take n).append (.cons dv (h.drop n))
def Wa(f:List Nat)(m:Bool)(i:Nat)(g h:bp):cX:=λE b=>∃c,b[i]? =some (some (.lst c))/\g b λj=>∃k,j= .int k/\h (Fl f m b) λd=>qB m d/\(0<=k/\k<=c.length/\c.length<sizeLine)/\E.nx (b.set i (some (.lst (Wb.ins c k.toNat d))))
theorem O5(m:Bool)(i:Nat)(u:DE Z X k tk)(w:DE Z X e te)(n:md.getD i 0=1:=by rfl)(y:X.N[i]? =some x:=by rfl)(z:kN X.env.scope x:=by subst_eqs)(f:(x==("__debug__":Str))=false:=by decide)(A:(x==("__classdict__":Str))=false:=by decide)
  (C:attributeBase (.Name x b) "insert" X.env (eval (.Name x b) X.env)=eval (.Name x b) X.env:=by rfl)
  (I:((backTo aK (starEach [k,e] X.env)).all (λx=>!x.1)&&(backToKw aK (keywordEach [] X.env)).all (λx=>x.1.isSome)&&decide (([k,e]:List Expr).length+([]:List Keyword).length+(if ([]:List Keyword).isEmpty then 0 else 1)<30))=true:=by rfl)
  (J:(apos.endLine==aK.line)=true:=by rfl) (p:starEach [k,e] X.env=(false,eval k X.env)::starEach [e] X.env:=by rfl) (L:starEach [e] X.env=(false,eval e X.env)::starEach [] X.env:=by rfl) (O:(backTo aK (starEach [e] X.env)).any (·.1)=false:=by rfl)
  (P:swapsWith (.Call (.Attribute (.Name x b) "insert" apos) [k,e] [] aK) none pos.line X.env=pure false:=by rfl):
  DSt Z X md rn (.Expr (.Call (.Attribute (.Name x b) "insert" apos) [k,e] [] aK) pos) (Wa md m i tk te):=by
 refine(fW (sA Os PySem.F.slot_list_insert PySem.F.type_list_insert Gv (pv i y z f A) (cK u (cK w fQ L) p) C I J p O) P).imp ?_;intro D σ H Q;rfl';obtain⟨B,ρ,E,⟨G,R,S⟩,⟨ds,r,h⟩,M⟩:=Q;ac_rfl;rfl';obtain⟨l,xs,_,_,s,T,_⟩:=S.one n r;ac_rfl;refine#[_,s,ty_list T,S.ev true h ?_];rintro _ ⟨k,rfl,h⟩;refine#[rfl,λv1 G1 H1 U x1 Y=>U.ev m h λd f=>#[f.1,λv a H' o x dv=>?_]];rfl';cases Y.ofInt;obtain⟨_,⟨h2,g,WH⟩,h3⟩:=f;obtain⟨l',dq,eM,e1,t,BR,j,put⟩:=o.one n r;cases e1;ac_rfl;rw[s] at t;cases t;exact#[l,dq,k,v,rfl,rfl,BR,h2,by rw[j.length];exact g,by rw[j.length];exact WH,M.nx _ h3 _ _ #[a,R,put _ _ (j.ins _ dv)]]
def SK(g:List Nat)(m:Bool)(i:Nat)(h l:bp):cX:=λE b=>∃c,b[i]? =some (some (.lst c))/\h b λn=>∃p j f,n= .int p/\lL c.length p=some j/\c[j]? =some (.lst f)/\
 l (Fl g m b) λd=>qB m d/\f.length<sizeLine/\E.nx (b.set i (some (.lst (c.set j (.lst (f++ [d]))))))
theorem BC{j n:Nat}(d:b.length=n)(h:lL n i=some j)(e:b[j]? =some v):gh b i=some v:=by unfold gh;rw[d,h];exact e
theorem LR(m:Bool)(i:Nat)(P:DE Z X k tp)(Q:DE Z X e te)(u:md.getD i 0=2:=by rfl)(R:sV k:=by exact λ_ _=>rfl)(U:X.N[i]? =some x:=by rfl)(Y:kN X.env.scope x:=by subst_eqs)(g:(x==("__debug__":Str))=false:=by decide)(a:(x==("__classdict__":Str))=false:=by decide)
  (cR:attributeBase (.Subscript (.Name x b) k c) "append" X.env (eval (.Subscript (.Name x b) k c) X.env)=eval (.Subscript (.Name x b) k c) X.env:=by rfl)
  (gI:((backTo aK (starEach [e] X.env)).all (λx=>!x.1)&&(backToKw aK (keywordEach [] X.env)).all (λx=>x.1.isSome)&&decide (([e]:List Expr).length+([]:List Keyword).length+(if ([]:List Keyword).isEmpty then 0 else 1)<30))=true:=by rfl)
  (cc:(apos.endLine==aK.line)=true:=by rfl) (w:starEach [e] X.env=(false,eval e X.env)::starEach [] X.env:=by rfl) (cV:(backTo aK (starEach [] X.env)).any (·.1)=false:=by rfl)
  (jG:swapsWith (.Call (.Attribute (.Subscript (.Name x b) k c) "append" apos) [e] [] aK) none pos.line X.env=pure false:=by rfl):
  DSt Z X md rn (.Expr (.Call (.Attribute (.Subscript (.Name x b) k c) "append" apos) [e] [] aK) pos) (SK md m i tp te):=by
 refine(fW (sA Os aat aau g6 (GK Es (pv i U Y g a) P R) (cK Q fQ w) cR gI cc w cV) jG).imp ?_;intro D σ H aS;rfl';obtain⟨B,ρ,E,⟨G,fp,S⟩,⟨fJ,n,h⟩,M⟩:=aS;obtain⟨v0,q,o⟩:=S.at_ i _ n;ac_rfl;refine#[_,q,S.ev true h ?_];rintro _ ⟨p,j,ds,rfl,hj,g,h⟩;refine#[rfl,λv1 G1 H1 z x1 qV=>?_];rfl';cases qV.ofInt;obtain⟨T,A,l,xs,eM,e1,C,F,e4,I,e6,bC,_⟩:=z.two u n g;rw[C] at q;cases q;ac_rfl;refine#[T,A,p, .ref l,rfl,rfl,cY.of F,BC e4 hj I,ty_list e6,z.ev m h λd r=>#[r.1,λv G' H' S' x dv=>?_]];rfl';obtain⟨T',s,l',dq,ds2,Tt,J,BR,e4',L,t,O,put⟩:=S'.two u n g;cases Tt;ac_rfl;rw[C] at J;cases J
 have:s=A:=by
  have:=x.hh _ _ F
  rw[BR] at this;cases this;rfl
 rw[this,I] at L;cases L;exact#[l,dq,v,rfl,rfl,t,by rw[O.length];exact r.2.1,M.nx _ r.2.2 _ _ #[G',fp,put _ _ (O.snoc dv)]]
def OX(f:List Nat)(m:Bool)(i:Nat)(g h:bp):cX:=λE b=>h (Fl f m b) λd=>qB m d/\∃c,b[i]? =some (some (.lst c))/\g b λl=>∃k j,l= .int k/\lL c.length k=some j/\E.nx (b.set i (some (.lst (c.set j d))))
theorem AN(m:Bool)(i:Nat)(z:DE Z X k tk)(A:DE Z X e te)(r:md.getD i 0=1:=by rfl)(C:X.N[i]? =some x:=by rfl)(F:kN X.env.scope x:=by subst_eqs)(g:(x==("__debug__":Str))=false:=by decide)(I:(x==("__classdict__":Str))=false:=by decide)
  (J:∀v,assign (.Subscript (.Name x b) k c) X.env v=(do
   let n <-holding [v] (eval (.Name x b) X.env)
   let q <-holding [v,n] (eval k X.env)
   standAt c
   holding [v,n,q] (setItem n q v)
   release [v,n,q] []):=by intro _;rfl)
  (L:swapsWithSole [.Subscript (.Name x b) k c] e pos.line X.env=pure false:=by rfl) (hw:swappedStores [.Subscript (.Name x b) k c] e X.env=pure none:=by rfl)
  (p:(assignEach [.Subscript (.Name x b) k c] X.env).map (·.2)= [assign (.Subscript (.Name x b) k c) X.env]:=by rfl):DSt Z X md rn (.Assign [.Subscript (.Name x b) k c] e pos) (OX md m i tk te):=by
 refine(lh A (qJ (pv i C F g I) z set_list J) L hw p).imp ?_;intro D σ H O;rfl';obtain⟨B,ρ,E,⟨G,P,S⟩,h,M⟩:=O;ac_rfl;refine S.ev m h λd g=>#[g.1,λv G' H' t x dv=>?_];rfl';obtain⟨_,ds,p,h⟩:=g;obtain⟨l,xs,_,_,u,e3,_⟩:=t.one r p;ac_rfl;refine#[_,u,t.ev true h ?_];rintro _ ⟨k,j,rfl,Q,R⟩;refine#[rfl,λv1 T H1 U Y a=>?_];rfl';cases a.ofInt;obtain⟨l',o,eM,e1,w,BR,y,put⟩:=U.one r p;cases e1;ac_rfl;rw[u] at w;cases w;exact#[l,o,k,j,rfl,rfl,BR,by rw[y.length];exact Q,M.nx _ R _ _ #[T,P,put _ _ (y.set (dv.mono Y.gg) j)]]
def Wj(f:List Nat)(i j:Nat):cX:=λE b=>∃c d,b[j]? =some (some (.lst (c++ [d])))/\E.nx ((b.set j (some (.lst c))).set i (some d))
theorem O6(i j:Nat)(u:X.N.Nodup)(w:f.getD i 0=0:=by rfl)(z:f.getD j 0=1:=by rfl)(A:X.N[i]? =some x:=by rfl)(C:Loc X.env.scope x:=by subst_eqs)
  (I:X.N[j]? =some y:=by rfl) (J:kN X.env.scope y:=by subst_eqs) (L:(y==("__debug__":Str))=false:=by decide) (O:(y==("__classdict__":Str))=false:=by decide)
  (P:attributeBase (.Name y py) "pop" X.env (eval (.Name y py) X.env)=eval (.Name y py) X.env:=by rfl) (Q:(b.endLine==r.line)=true:=by rfl)
  (R:swapsWith (.Call (.Attribute (.Name y py) "pop" b) [] [] r) (some (.Name x q)) g.line X.env=pure false:=by rfl)
  (T:X.fn x=true\/X.env.scope.names.lookup x=some .local:=by subst_eqs):DSt Z X f rn (.Assign [.Name x q] (.Call (.Attribute (.Name y py) "pop" b) [] [] r) g) (Wj f i j):=by
 refine(jY u A C (Iv Os PySem.F.slot_list_pop PySem.F.type_list_pop P7 (pv j I J L O) P Q) R T).imp ?_;intro D σ H U;rfl';obtain⟨B,ρ,E,⟨G,fp,S⟩,⟨n,d,a,h⟩,M⟩:=U;ac_rfl;rfl';obtain⟨l,c,eM,e,k,s,p,put⟩:=S.one z a;cases e;have t:c.length=n.length+1:=by rw[p.length];simp
 obtain⟨v,o,dv⟩:=p.get (i:=c.length-1) (d:=d) (by rw[t];simp)
 ac_rfl;refine#[_,k,ty_list s,l,c,v,rfl,rfl,s,o,M.nx _ h _ _ #[G,_,(put c.dropLast n ?_).nW w dv]]
 have:=p.take n.length
 rw[List.take_left'] at this
 .rw[List.dropLast_eq_take,t];exact this
 .rfl
theorem SIx.IG(S:SIx Z B md ρ σ H G fp)(h:ρ[j]? =some (some d)):∃v,σ[j]? =some (some v)/\Dv Z (plus G H λb=>b∈fp j) v d/\SIx Z B md (ρ.set j none) σ H (plus G H λb=>b∈fp j) (λk=>if k=j then[] else fp k):=by
 have s:=S.ex.sub;obtain⟨v,m,o⟩:=S.at_ j d h;refine#[v,m,o.dv (eF s) λb g u e=>by rw[kF g];exact e,?_]
 refine#[#[S.ex.gg.trans (eF s),h8 s,S.ex.hh,λb g n=>?_],S.fl.trans (eF s),by rw[f9];exact S.len,λk c f=>?_,λk=>by split;exact gQ;exact S.nd k,λk p b ne f i=>?_,λk b g=>?_]
 .rw[h7 (λz=>g (S.nw j b z).1)];exact S.ex.off b g n
 .by_cases z:j=k
  .subst z
   by_cases l:j<ρ.length
   .rw[lF l] at f;cases f
   .rw[zW (jS l),iu (jS l)] at f;cases f
  .rw[lG z] at f
   obtain⟨u,q,r⟩:=S.at_ k c f;exact#[u,q,by rw[ir (Ne.symm z)];exact r.keep (eF s) λ_ _=>rfl]
 .split at f
  .cases f
  .split at i
   .cases i
   .exact S.ap k p b ne f i
 .split at g
  .cases g
  .next z=>
   obtain⟨t,x,y⟩:=S.nw k b g;exact#[t,x,by rw[h7 (λw=>S.ap k j b z g w)];exact y]
def SM(f:List Nat)(i j:Nat):cX:=λE b=>∃c d,b[i]? =some (some (.lst c))/\b[j]? =some (some d)/\c.length<sizeLine/\E.nx ((b.set j none).set i (some (.lst (c++ [d]))))
theorem LS(i j:Nat)(q:i≠j:=by decide)(r:md.getD i 0=1:=by rfl)(s:X.N[j]? =some y:=by rfl)(c:kN X.env.scope y:=by subst_eqs)(f:(y==("__debug__":Str))=false:=by decide)(t:(y==("__classdict__":Str))=false:=by decide)(u:X.N[i]? =some x:=by rfl)(w:kN X.env.scope x:=by subst_eqs)(z:(x==("__debug__":Str))=false:=by decide)(A:(x==("__classdict__":Str))=false:=by decide)
  (C:attributeBase (.Name x b) "append" X.env (eval (.Name x b) X.env)=eval (.Name x b) X.env:=by rfl)
  (F:((backTo aK (starEach [.Name y py] X.env)).all (λx=>!x.1)&&(backToKw aK (keywordEach [] X.env)).all (λx=>x.1.isSome)&&decide (([.Name y py]:List Expr).length+([]:List Keyword).length+(if ([]:List Keyword).isEmpty then 0 else 1)<30))=true:=by rfl)
  (I:(apos.endLine==aK.line)=true:=by rfl) (m:starEach [.Name y py] X.env=(false,eval (.Name y py) X.env)::starEach [] X.env:=by rfl) (J:(backTo aK (starEach [] X.env)).any (·.1)=false:=by rfl)
  (L:swapsWith (.Call (.Attribute (.Name x b) "append" apos) [.Name y py] [] aK) none pos.line X.env=pure false:=by rfl):
  DSt Z X md rn (.Expr (.Call (.Attribute (.Name x b) "append" apos) [.Name y py] [] aK) pos) (SM md i j):=by
 refine(fW (sA Os aat aau g6 (pv i u w z A) (cK (pv j s c f t) fQ m) C F I m J) L).imp ?_;intro D σ H O;rfl';obtain⟨B,Q,E,⟨G,fp,S⟩,⟨R,d,T,U,Y,h⟩,M⟩:=O;ac_rfl;rfl';obtain⟨v,a,dv,e⟩:=S.IG U;have k:(Q.set j none)[i]? =some (some (.lst R)):=by rw[lG (Ne.symm q)];exact T
 obtain⟨l,o,eM,e1,e2,n,p,put⟩:=e.one r k;cases e1;ac_rfl;exact#[_,e2,ty_list n,_,a,l,o,v,rfl,rfl,n,by rw[p.length];exact Y,M.nx _ h _ _ #[_,_,put _ _ (p.snoc dv)]]
end
structure VB (mg:Str->Option Value):Prop where
 len:mg "len"=none
 range:mg "range"=none
 max:mg "max"=none
 min:mg "min"=none
 enumerate:mg "enumerate"=none
 zip:mg "zip"=none
 sorted:mg "sorted"=none
 all:mg "all"=none
 isinstance:mg "isinstance"=none
 int:mg "int"=none
 bool:mg "bool"=none
 list:mg "list"=none
 tuple:mg "tuple"=none
 sum:mg "sum"=none
 reversed:mg "reversed"=none
theorem BF:bootBuiltins "max"=some (.builtin "max"):=by decide+kernel
theorem HI:bootBuiltins "min"=some (.builtin "min"):=by decide+kernel
theorem Dz:bootBuiltins "bool"=some (.type "bool"):=by decide+kernel
theorem HH:bootBuiltins "int"=some (.type "int"):=by decide+kernel
theorem sW:bootBuiltins "list"=some (.type "list"):=by decide+kernel
theorem AG:bootBuiltins "tuple"=some (.type "tuple"):=by decide+kernel
theorem BE:bootBuiltins "all"=some (.builtin "all"):=by decide+kernel
theorem kh:bootBuiltins "sorted"=some (.builtin "sorted"):=by decide+kernel
theorem bh:bootBuiltins "len"=some (.builtin "len"):=by decide+kernel
section
variable {P:Program} {w:World} {K:ac} {mg:Str->Option Value} {base:Heap} {Z:DC}
def xt(N:List Str)(a:List D):DN:=a.map some++ak (N.length-a.length) none
def c4(Z:DC)(n:Nat)(g:cv):Sp:=λh H Q _=>∃(G:Hp)(e:List D)(P:D->Prop),aZ G H/\DvAll Z G h e/\g e P/\∀d,P d->∀v f c a,Ext G H c a->Own Z c a n v d f->f.Nodup->(∀b∈f,H b=none/\a b≠none/\c b=none)->Q v a
theorem Own.pure(x:Ext G H c a)(o:Own Z c a n v d f)(i:∀b∈f,H b=none/\a b≠none/\c b=none):∃h,Ext G H h a/\Dv Z h v d:=by
 refine#[plus c a λb=>b∈f,#[x.gg.trans (eF x.sub),h8 x.sub,x.hh,λb g j=>?_],o.dv (eF x.sub) λb g u e=>by rw[kF g];exact e]
 rw[h7 (λz=>g (i b z).1)];exact x.off b g j
theorem KI:∀a H Q E,br Z b a H Q E->c4 Z n b a H Q E:=by
 intro a H Q E c;rfl';obtain⟨G,g,P,s,dv,h,q⟩:=c;ac_rfl;exact#[G,g,P,s,dv,h,λd i v f t j x o u k=>let #[l,m,p]:=o.pure x k;q d i v l j m p]
theorem je(l:Nat){x a:Str}{st:Stmt}{f:Addr}{n:FuncData}{N g:List Str}{k:Nat}{m:cv}(F:z8 K x a st f n)(S:aO N g (av st))(o:List Nat)(u:∀i,i<g.length->o.getD i 0=0)(len:∀c P,m c P->c.length=g.length)
  (y:∀(j:Value)(A:Around)(outer:List Env)(s:Shared)(H:Hp)(E:XK)(c:List D)(R:D->Prop),cP k (A.deeper (envOfC a (av st) s.heap.objs.size f j))->m c R->
   ∃t,uD Z (vL cF P w K mg base N a (av st) f j A outer s H E).lM o l (fC st) t/\t {nx:=λ_=>l=0/\R .non,rt:=R} (xt N c)):FnOk P w K mg base cF (k+1) f n g (c4 Z l m):=by
 refine F.ok S (λB H Q E h=>?_) (λj A outer s H B Q E C h=>?_)
 .obtain⟨G,c,R,s,dv,h,q⟩:=h
  rw[dv.length];exact len _ _ h
 rfl';obtain⟨G,c,R,J,dv,h,q⟩:=h;have L:=q;obtain⟨t,M,O⟩:=y j A outer s H E c R C h;have hl:=len _ _ h;ac_rfl;refine#[_,M,#[G,H,G],_,_,#[G,λ_=> [],?_],O,#[λρ p aH T #[U,fp,X]=>q _ p.2 _ [] U T X.ex (by rw[p.1];exact#[.non,rfl]) gQ (λb Y=>by cases Y),L,λ_ z=>z.elim,λ_ z=>z.elim,λ_ _ z=>z.elim]]
 refine#[.refl J, .refl _,by unfold xt start;simp[dv.length],λi d e=>?_,λ_=>gQ,(λ_ _ _ _ z=>by cases z),(λ_ _ z=>by cases z)]
 unfold xt at e
 have r:i<c.length:=by
  apply Da;intro z;rw[lE (by simpa using jS z),zX] at e
  split at e<;>cases e
 rw[mI (by simpa using r),b7] at e
 have iG:c[i]? =some d:=by
  cases z:c[i]? with
  |none=>rw[z] at e;cases e
  |some d'=>rw[z] at e;cases e;rfl
 obtain⟨v,hv,kq⟩:=dv.get iG;refine#[v,?_,by rw[u i (by lia)];exact#[kq,rfl]]
 unfold start;rw[mI (by simpa [dv.length] using r),b7,hv];rfl
theorem bA{x c:Str}{st:Stmt}{f:Addr}{m:FuncData}{N e:List Str}{k:Nat}{j:cv}(F:z8 K x c st f m)(S:aO N e (av st))(l:List Nat)(n:∀i,i<e.length->l.getD i 0=0)(len:∀d P,j d P->d.length=e.length)
  (o:∀(g:Value)(A:Around)(outer:List Env)(s:Shared)(H:Hp)(E:XK)(d:List D)(R:D->Prop),cP k (A.deeper (envOfC c (av st) s.heap.objs.size f g))->j d R->
   ∃t,uD Z (vL cF P w K mg base N c (av st) f g A outer s H E).lM l 0 (fC st) t/\t {nx:=λ_=>0=0/\R .non,rt:=R} (xt N d)):FnOk P w K mg base cF (k+1) f m e (br Z j):=
 (je 0 F S l n len λg A outer s H E d R p h=>let #[t,a,b]:=o g A outer s H E d R p h;#[t,a,b]).imp KI
end
section
variable {Z:DC} {X:Cx} {a b c e o:Expr} {ta tb te:bp} {t:i7} {es:List Expr} {pos apos:Pos}
def Sz:cv:=λd P=>∃i j,d= [.int i, .int j]/\P (.int (if j<i then j else i))
def Sy:cv:=λd P=>∃i j,d= [.int i, .int j]/\P (.int (if j>i then j else i))
theorem Fj(h:DvAll Z G d [.int i, .int j]):d= [.int i, .int j]:=by
 cases h with
 |cons a f=>
  cases f with
  |cons b bs=>cases bs;cases a;cases b;rfl
theorem xO(d:X.calm=true):cB X (.builtin "max") (gE Z Sy):=by
 refine(FF d).imp ?_;intro k H Q f;rfl';obtain⟨G,m,P,s,dv,⟨i,j,rfl,h⟩,q⟩:=f;ac_rfl;exact#[i,j,Fj dv,q _ h _ G H (.refl s) (.int _)]
theorem DK(d:X.calm=true):cB X (.builtin "min") (gE Z Sz):=by
 refine(FG d).imp ?_;intro k H Q f;rfl';obtain⟨G,m,P,s,dv,⟨i,j,rfl,h⟩,q⟩:=f;ac_rfl;exact#[i,j,Fj dv,q _ h _ G H (.refl s) (.int _)]
def VY:cv:=λd P=>∃bs:List Bool,d= [.lst (bs.map D.bl)]/\P (.bl (bs.all id))
theorem HX:∀{d:List V}{bs:List Bool},DvAll Z G d (bs.map D.bl)->d=bs.map V.bl
 |d,[],h=>by cases h;rfl
 |d,b::bs,h=>by
  cases h with
  |cons a f=>cases a;rw[HX f];rfl
theorem tB:∀{d:List V}{f:List Int},DvAll Z G d (f.map D.int)->d=f.map V.int
 |d,[],h=>by cases h;rfl
 |d,b::bs,h=>by
  cases h with
  |cons a g=>cases a;rw[tB g];rfl
theorem BI(d:X.calm=true):cB X (.builtin "all") (gE Z VY):=by
 refine(Jf d).imp ?_;rintro i H Q ⟨G,j,P,s,dv,⟨bs,rfl,f⟩,q⟩;cases dv with
 |cons a g=>
  cases g;cases a with
  |lst h e=>exact#[_,bs,rfl,HX e▸s _ _ h,q _ f _ G H (.refl s) (.bl _)]
def HG:cv:=λg P=>∃d:List Int,g= [.lst (d.map D.int)]/\d.length<64/\∀f:List Int,f.Perm d->f.Pairwise (·<=·)->P (.lst (f.map D.int))
theorem Jh:cB X (.builtin "sorted") (gE Z HG):=by
 refine Ae.imp ?_;rintro n H Q ⟨G,r,P,s,dv,⟨f,rfl,g,i⟩,q⟩;cases dv with
 |cons a j=>
  cases j;cases a with
  |lst h e=>
   refine#[_,f,rfl,cY.of (tB e▸s _ _ h),g,λp d k l m=>?_];exact q _ (i d l m) _ _ _ (.new s k) (.lst ax (.ints d))
def pairD(k:Nat×Nat):D:= .tup [.int (k.1:Nat), .int (k.2:Nat)]
def OP:cv:=λg P=>∃d:List (Nat×Nat),g= [.lst (d.map pairD)]/\d.length<=1000/\∀f:List (Nat×Nat),f.Perm d->f.Pairwise Wb.lexLe->P (.lst (f.map pairD))
theorem AQ:∀{d:List V}{f:List (Nat×Nat)},DvAll Z G d (f.map pairD)->∃L:List (Addr×(Nat×Nat)),d=L.map (λe=>V.ref e.1)/\L.map (·.2)=f/\xB G L
 |d,[],h=>by cases h;exact#[[],rfl,rfl,λp g=>by cases g]
 |d,n::f,h=>by
  cases h with
  |cons a j=>
   obtain⟨L,k,l,m⟩:=AQ j;unfold pairD at a;cases a with
   | @tup p r x g e=>
    refine#[(p,n)::L,by rw[k];rfl,by rw[<-l];rfl,λq i=>?_]
    rcases bo.mp i with rfl|i
    .have:r=u9 n:=by
      cases e with
      |cons s u=>
       cases u with
       |cons v w=>cases s;cases v;cases w;rfl
     rw[<-this];exact g
    .exact m q i
theorem xB.dv:∀{L:List (Addr×(Nat×Nat))},xB G L->DvAll Z G (L.map λe=>V.ref e.1) ((L.map (·.2)).map pairD)
 | [],_=> .nil
 |x::L,h=> .cons (.tup (h x (bB ..)) (.cons (.int _) (.cons (.int _) .nil))) (xB.dv λp d=>h p (bP _ d))
theorem AI:cB X (.builtin "sorted") (gE Z OP):=by
 refine Af.imp ?_;rintro w H Q ⟨G,l,P,s,dv,⟨f,rfl,y,d⟩,q⟩;cases dv with
 |cons a m=>
  cases m;cases a with
  | @lst p z l h e=>
   obtain⟨L,rfl,g,i⟩:=AQ e;have A:L.length=f.length:=by rw[<-g];simp
   refine#[_,L,rfl,cY.of (s _ _ h),λp d=>s _ _ (i p d),by lia,λp M j k n=>?_]
   have r:(M.map (·.2)).Perm f:=by rw[<-g];exact k.map _
   have u:xB (upd G p (.lst (M.map λe=>V.ref e.1))) M:=λx v=>aY (s.free j) _ _ _ (i x (k.mem_iff.mp v));exact q _ (d _ r n) _ _ _ (.new s j) (.lst ax u.dv)
def OU(g h:bp):bp:=λf P=>g f λd=>∃l,d= .lst l/\h f λy=>fw y=true/\l.all fw=true/\∃(j:Nat)(z:D),l[j]? =some z/\kZ z y=true/\(∀(m:Nat) z,m<j->l[m]? =some z->kZ z y=false)/\P (.int (j:Nat))
theorem qw(E:DE Z X o ta)(I:DE Z X e tb)
  (J:attributeBase o "index" X.env (eval o X.env)=eval o X.env:=by rfl)
  (L:((backTo d (starEach [e] X.env)).all (λx=>!x.1)&&(backToKw d (keywordEach [] X.env)).all (λx=>x.1.isSome)&&decide (([e]:List Expr).length+([]:List Keyword).length+(if ([]:List Keyword).isEmpty then 0 else 1)<30))=true:=by rfl)
  (M:(apos.endLine==d.line)=true:=by rfl) (r:starEach [e] X.env=(false,eval e X.env)::starEach [] X.env:=by rfl) (N:(backTo d (starEach [] X.env)).any (·.1)=false:=by rfl):
  DE Z X (.Call (.Attribute o "index" apos) [e] [] d) (OU ta tb):=by
 refine(sA Os PySem.F.slot_list_index PySem.F.type_list_index J9 E (cK I fQ r) J L M r N).imp ?_;intro σ H Q O;rfl';obtain⟨G,A,P,s,B,h,q⟩:=O;ac_rfl;exists G,A,_,s,B,h;rintro _ ⟨l,rfl,S⟩ v T H1 f dv;cases dv with
 | @lst p U ds C e=>
  refine#[ty_list (f.sub _ _ C),T,A,_,f.sub,B.mono f.gg,S,λy Y u a b i k=>?_];rfl';obtain⟨c,t,j,z,h3,h4,h5,h6⟩:=Y;have n:=e.mono i.gg;obtain⟨w,hw,dw⟩:=n.get h3;ac_rfl;refine#[p,U,u,j,w,rfl,rfl,i.hh _ _ (f.sub _ _ C),by rw[tE k];exact c,by rw[oR n];exact t,hw,by rw[BS dw k];exact h4,λm z' hm hz=>?_,q _ h6 _ a b (f.trans i) (.int _)]
  obtain⟨d',iG,kq⟩:=n.Ib hz;rw[BS kq k];exact h5 m d' hm iG
end
structure AF (Z:DC):Prop where
 cl:xu Z.K Z.C
 nR:mL Z.K Z.C "rows"
section
variable {Z:DC} {X:Cx} {a b c e o:Expr} {ta tb te:bp} {t:i7} {es:List Expr} {pos apos:Pos}
def Ta(f:bp):bp:=λg P=>f g λd=>∃w,d= .dm w/\P (aP w)
theorem l7(T:AF Z)(i:DE Z X o ta)(d:X.K=Z.K:=by rfl)(j:attributeBase o "rows" X.env (eval o X.env)=eval o X.env:=by rfl):DE Z X (.Attribute o "rows" apos) (Ta ta):=by
 refine(Qs i j).imp ?_;intro B H Q k;rfl';obtain⟨G,m,P,s,n,h,q⟩:=k;ac_rfl;exists G,m,_,s,n,h;rintro _ ⟨w,rfl,r⟩ v u x f dv;cases dv with
 | @dm p y R w z A g F I=>exact#[p,Z.C,y,_, .ref R,rfl,f.sub _ _ z,by rw[d];exact T.cl,by rw[d];exact T.nR,rfl,q _ r _ u x f A]
def FP(g:cv)(h:bp)(t:i7):bp:=λf P=>h f λd=>∃w,d= .dm w/\t f λi=>g (.dm w::i) P
theorem A9(x:([("rows",V.ref 0)]:List (Str×V)).lookup m=none):∀j H Q,eO Z (FP i ta t) j H Q->Hj Z.C m (br Z i) [] E0 (eO Z ta) (Gp Z t) j H Q:=by
 intro j H Q y;rfl';obtain⟨G,r,P,s,u,h,q⟩:=y;ac_rfl;exists G,r,_,s,u,h;rintro _ ⟨w,rfl,k⟩ v B b f dv;have E:=dv;cases dv with
 | @dm p F R w I c g e o=>
  refine#[p,F,_,rfl,f.sub _ _ I,?_,B,r,_,f.sub,u.mono f.gg,k,λX J L M N l O=>?_]
  .have S:(m==("rows":Str))=false:=by
    cases z:(m==("rows":Str)) with
    |false=>rfl
    |true=>simp[bm,z] at x
   simp[bm,S]
  .show br Z i (V.ref p::(L++ [])) N Q E0
   rw[f7];exact#[M,_,P,l.sub, .cons (E.mono l.gg) O,J,λd k v T U Y n=>q d k v T U ((f.trans l).trans Y) n]
variable {sd:cv} {k:Nat} {f:Addr} {fd:FuncData} {ps:List Str} {m:Str}
theorem l6(T:AF Z)(h:DE Z X o ta)(i:Meth Z.K Z.C m f)(F:FnOk X.prog X.w X.K X.mg X.base cF k f fd ps (br Z sd))(j:cP k X.A)(l:Binds X.K fd ps [])(n:DA Z X (e::es) t)(d:X.K=Z.K:=by rfl)
  (p:([("rows",V.ref 0)]:List (Str×V)).lookup m=none:=by decide) (q:starEach (e::es) X.env=(false,eval e X.env)::starEach es X.env:=by rfl) (r:(backTo pos (starEach es X.env)).any (·.1)=false:=by rfl)
  (s:eval (.Call (.Attribute o m apos) (e::es) [] pos) X.env=(do
   let g <-eval o X.env
   standAt apos.atName
   let (f,first) <-holding [g] (getMethod g m pl)
   callWith pos f first (backTo pos (starEach (e::es) X.env)) (backToKw pos (keywordEach [] X.env))):=by rfl):DE Z X (.Call (.Attribute o m apos) (e::es) [] pos) (FP sd ta t):=
 (NB (pl:=pl) h (by rw[d];exact T.cl) (by rw[d];exact i) F j l .nil m7 n q r s).imp (A9 p)
theorem e7(T:AF Z)(l:DE Z X o ta)(n:Meth Z.K Z.C m f)(F:FnOk X.prog X.w X.K X.mg X.base cF k f fd ps (br Z sd))(r:cP k X.A)(u:Binds X.K fd ps [])(i:X.K=Z.K:=by rfl)
  (x:([("rows",V.ref 0)]:List (Str×V)).lookup m=none:=by decide)
  (y:eval (.Call (.Attribute o m apos) [] [] pos) X.env=(do
   let j <-eval o X.env
   standAt apos.atName
   let (f,first) <-holding [j] (getMethod j m pl)
   callWith pos f first (backTo pos (starEach [] X.env)) (backToKw pos (keywordEach [] X.env))):=by rfl):DE Z X (.Call (.Attribute o m apos) [] [] pos) (FP sd ta fB):=
 (Bi (pl:=pl) l (by rw[i];exact T.cl) (by rw[i];exact n) F r u .nil m7 y).imp λz H Q h=>by
  rfl';obtain⟨G,E,P,s,I,h,q⟩:=A9 x z H Q h;ac_rfl;refine#[G,E,P,s,I,h,λd J v L M N dv=>?_];rfl';obtain⟨p,O,fs,R,S,U,Y,t,P',a,b,c,e⟩:=q d J v L M N dv;ac_rfl;exact#[p,O,fs,R,S,U,e _ c _ Y _ (.refl a) .nil]
def E7(Z:DC):Sp:=λi H Q _=>∃(p h:Addr)(v:V)(G:Hp)(w:List (List Nat)),i= [.ref p,v]/\H p=some (.ins Z.C h [])/\aZ G H/\G p=none/\Dv Z G v (aP w)/\Wb.Good w/\1<=w.length/\w.length<=14/\
 ∀(R:Addr)(d g:Hp),aZ G d->aZ d g->(∀b o,H b=some o->b≠p->g b=some o)->(∀b,H b≠none->G b=none->d b=none)->g p=some (.ins Z.C h [("rows", .ref R)])->Dv Z d (.ref R) (aP w)->Q .non g
def SU(t:i7):bp:=λd P=>t d λg=>∃w,g= [aP w]/\Wb.Good w/\1<=w.length/\w.length<=14/\P (.dm w)
theorem DX(M:Mk Z.K Z.C f)(F:FnOk X.prog X.w X.K X.mg X.base cF k f fd ps (E7 Z))(S:cP (k+1) X.A)(n:Gl X x)(T:X.mg x=some (.ref Z.C))(j:Binds X.K fd ps [])
  (U:DA Z X (e::es) t) (Y:X.K=Z.K:=by rfl) (a:(x==("__debug__":Str))=false:=by decide) (c:starEach (e::es) X.env=(false,eval e X.env)::starEach es X.env:=by rfl) (m:(backTo pos (starEach es X.env)).any (·.1)=false:=by rfl):
  DE Z X (.Call (.Name x p) (e::es) [] pos) (SU t):=by
 refine(NA (by rw[Y];exact M) F S n T j .nil m7 U a c m).imp ?_
 intro σ H Q aS;rfl';obtain⟨G,ρ,P,s,en,h,q⟩:=aS;ac_rfl;exists G,ρ,_,s,en,h;rintro _ ⟨w,rfl,g,E,I,hp⟩ vs G1 H1 d r p l i u ne;cases r with
 | @cons v _ _ _ dv r=>
  cases r;have wK:upd H1 l (.own p) p=none:=by rw[aB (Ne.symm ne)];exact i
  have y:=(aY u (.own p)).trans (aY wK (.ins Z.C l []));refine#[p,l,v,G1,w,rfl,ax,d.sub.trans y,d.sub.free i,dv,g,E,I,λR J H2 g1 g2 kp off B yb=>#[rfl,?_]];have L:J p=none:=off p (by rw[ax];exact λz=>nomatch z) (d.sub.free i)
  refine q _ hp _ (upd J p (.ins Z.C l [("rows", .ref R)])) H2 #[(d.gg.trans g1).trans (aY L _),λb o e=>?_,λb o e=>?_,λb j n=>?_] (.dm ax (yb.mono (aY L _)) g E I)
  .by_cases z:b=p
   .subst z;rw[ax] at e;cases e;exact B
   .rw[aB z] at e;exact g2 _ _ e
  .have N:=d.hh _ _ e
   exact kp b o (y _ _ N) (aW N i)
  .have O:=fY d.hh j
   have nb:b≠p:=λz=>O (by rw[z];exact i)
   rw[aB nb];exact off b (fY y O) (d.off b j n)
end
section
variable {Z:DC} {X:Cx} {pos:Pos}
def MX(g:fc)(b:jB):List D->DN->List D->(List D->Prop)->Prop
 | [],_,a,N=>N a
 |x::d,e,a,N=>g x e λc=>b c λf=>a.length<sizeLine/\MX g b d c (a++ [.lst f]) N
def RE(b:jC)(g:fc)(c:jB)(src:List (Option Nat)):jB:=λa P=>b a λd=>MX g c d (zh src a) [] P
def VC(Z:DC)(n:Nat)(e a:Hp)(c:Addr)(g:DN)(d:List D)(h:St)(H:Hp):Prop:=
 ∃(G:Hp)(f:List V)(fs:List Addr),aZ e G/\aZ G H/\aZ a H/\(∀b,a b≠none->e b=none->G b=none)/\H c=some (.lst f)/\cg (Own Z G H n) f d fs/\(c::fs).Nodup/\(∀b∈c::fs,a b=none/\H b≠none/\G b=none)/\dr Z G h g
theorem cg.snoc:∀{b:List V}{ds:List D}{fs:List Addr}{v:V}{d:D}{f:List Addr},cg R b ds fs->R v d f->cg R (b++ [v]) (ds++ [d]) (fs++f)
 |_,_,_,v,d,f, .nil,r=>by simpa using cg.cons r .nil
 |_,_,_,v,d,f, .cons a c,r=>by rw[f6];exact .cons a (c.snoc r)
theorem J4:∀S H Q,uX Z (n+1) (RE wi g F src) S H Q->Oq (uY Z wi) (r9 Z g) Ov (uX Z n F) src S H Q:=by
 intro S H Q aS;rfl';obtain⟨G,ρ,P,s,en,h,q⟩:=aS;ac_rfl;refine#[G,ρ,_,s,en,h,λw hd J U H1 p it l A=>?_];refine#[λi m fL u=>m=w.length-i/\i<=w.length/\∃I t,VC Z n U H1 l I t fL u/\MX g F (w.drop i) I t P,#[_,rfl,fm _,_,[],#[U,[],[], .refl _,λb o e=>?_,aY A _,λ_ _ h=>h,ax, .nil,by simp,λb j=>?_,(en.mono p.gg).src src],hd],?_]
 .rw[aB (aW e (p.sub.free A))];exact p.sub _ _ e
 .have:b=l:=by simpa using j
  subst this;exact#[A,(by rw[ax];exact λz=>nomatch z),p.sub.free A]
 intro i m fL u jo;rfl';obtain⟨rfl,hi,I,t,⟨Y,L,fs,M,X,N,off,rW,ol,nd,B,Tw⟩,O⟩:=jo;ac_rfl
 by_cases bY:i<w.length
 .obtain⟨go,_,yld⟩:=it Y u M X i
  refine .inr #[go bY,λaH H'=>∃aL hV,VC Z n U H1 l aL hV aH H'/\MX g F (w.drop (i+1)) aL hV P,λaH H' k=>#[w.length-(i+1),by lia,rfl,bY,k],λx H3 y=>?_]
  obtain⟨G3,d,E,Ak,dv⟩:=yld x H3 bY y;rw[oM Ak] at O;refine#[G3,I,d,_,E.sub,Tw.mono E.gg,dv,O,λbO h1 gb wC=>?_];unfold Ov;dsimp only;rw[ls rfl];refine#[G3,bO,_,E.sub,wC,h1,λeM iG v f G6 H6 x6 ow fnd WA=>?_];have x:=E.trans x6;have R:l∈l::fs:=bB ..
  have C:∀b∈l::fs,H6 b=u b/\G6 b=none:=λb j=>by
   obtain⟨_,q2,q3⟩:=B b j;refine#[?_,x.off b q2 q3];cases e:u b with
   |none=>exact absurd e q2
   |some o=>exact x.hh _ _ e
  have hA6:H6 l=some (.lst L):=by rw[(C l R).1];exact rW
  have Wx:∀b∈f,u b=none:=λb j=>E.hh.free (WA b j).1;have Wz:∀b∈f,∀c∈l::fs,b≠c:=λb j c hc z=>(B c hc).2.1 (by rw[<-z];exact Wx b j)
  refine#[L,hA6,by rw[ol.length];exact iG.1,bO,_,#[G6,L++ [v],fs++f,M.trans x.gg,λb o e=>?_,λb o e=>?_,λb j hg=>x.off b (fY N j) (off b j hg),ax,?_,?_,λb j=>?_,wC.mono x6.gg],iG.2]
  .rw[aB (aW e (C l R).2)];exact x.sub _ _ e
  .rw[aB (aW e A)];exact(N.trans x.hh) _ _ e
  .refine cg.snoc (ol.imp λv d f' hf r=>r.keep x.gg λb j=>?_) (ow.keep (.refl _) λb j=>?_)
   .have F4:b∈fs:=hf b j
    rw[aB (λz=>(bS.mp nd).1 (by rw[<-z];exact F4))]
    exact(C b (bP _ F4)).1
   .exact aB (Wz b j l R)
  .rw[<-wx]
   exact c9.mpr #[nd,fnd,λa ha b j=>Ne.symm (Wz b j a ha)]
  .rw[<-wx] at j
   by_cases z:b=l
   .subst z
    exact#[A,(by rw[ax];exact λz=>nomatch z),(C b R).2]
   .rcases bH.mp j with j|j
    .rw[aB z,(C b j).1]
     exact#[(B b j).1,(B b j).2.1,(C b j).2]
    .rw[aB z]
     exact#[N.free (Wx b j),(WA b j).2]
 .have e:w.drop i= []:=zY (by lia)
  rw[e] at O;refine .inl #[(it Y u M X i).2.1 (by lia),q _ O (.ref l) (l::fs) Y u #[p.gg.trans M,X,p.hh.trans N,λb j hg=>off b (fY p.hh j) (p.off b j hg)] (.inl #[l,L,t,fs,rfl,rfl,rW,rfl,ol]) nd λb j=>#[p.hh.free (B b j).1,(B b j).2]]
variable {tg iter elt:Expr} {scope:Scope} {NC:List Str} {src:List (Option Nat)} {wi:jC} {g:fc} {tf:jB} {md:List Nat} {rn:Nat}
theorem FW(i:Nat)(e:X.calm=true)(f:X.N.Nodup)(c:cT X scope)(j:eD scope X.N src NC)(k:DI Z X tg iter wi)
  (l:∀a s H,DG Z (dS X scope NC a s H) tg g) (m:∀a s H,DF Z (dS X scope NC a s H) n elt tf)
  (o:swapsWith (.ListComp elt [#[tg,iter,[],0]] scope pos) (some (.Name x b)) d.line X.env=pure true:=by rfl) (p:md.getD i 0=n+1:=by rfl) (q:X.N[i]? =some x:=by rfl) (r:Loc X.env.scope x:=by subst_eqs)
  (t:X.fn x=true\/X.env.scope.names.lookup x=some .local:=by subst_eqs)
  (u:∀x,foldedSetIterable iter X.env x=pure x:=by intro _;rfl):DSt Z X md rn (.Assign [.Name x b] (.ListComp elt [#[tg,iter,[],0]] scope pos) d) (Lw md i (RE wi g tf src)):=by
 refine(ve e f q r c j k l (λ_ _ _=>EU) m o t u).imp ?_;intro D v H w;rfl';obtain⟨B,A,E,⟨G,C,S⟩,h,M⟩:=w;ac_rfl;exact J4 v H _ (u5 p S h M)
end
abbrev j6:=inClass
structure Bx (Z:DC) (m qual:Str) (st:Stmt) (ps:List Str) where
 f:Addr
 fd:FuncData
 F:z8 Z.K m qual st f fd
 b:Binds Z.K fd ps []
 m:Meth Z.K Z.C m f
def ui(K:ac):Sp:=λc H Q _=>∃(a:Addr)(b:List Int),c= [.ref a]/\cY K H a (b.map V.int)/\b.length<=63/\∀d,Q (.bl true) d
def IK:cv:=λb P=>∃a:List Int,b= [.kQ a]/\a.length<=63/\P (.bl true)
theorem PV{Z:DC}:∀b H Q E,ui Z.K b H Q E->br Z IK b H Q E:=by
 rintro b H Q E ⟨a,c,rfl,f,e,q⟩;exact#[H,[.kQ c],λd=>d= .bl true, .refl _, .cons (.kQ f e) .nil,#[c,rfl,e,rfl],λd g v i h x dv=>by subst g;cases dv;exact q h]
theorem Vs(k:Nat){l:ca}{q:Program}{e:List Str}{o:(Str->Option Value)->Heap->Prop}{m:World->Heap->Prop}{d:DefRec}{K:Params->ac}(H:3*k<150)(p:l.most=some 63)(r:d.params.defaults= [])
  (t:∀(w:World)(h:Heap),m w h->(K w.params).In h)
  (F:∀(w:World)(g:Str->Option Value)(i:Addr)(h:Heap),(K w.params).In h->h.Ns mainGlobals g->g d.name=some (.ref i)->
   ∃j:FuncData,(∀(s:Shared)(u:Value),BindsTo s j #[[u],[]] [("_law_script",u)])/\∀base:Heap,(K w.params).In base->base.Ns mainGlobals g->FnOk l.prog w (K w.params) g base cF k i j ["_law_script"] (ui (K w.params))):
  dy q e o m l.row.toRowW d [] (λf v=>db f v):=
 L2.OA (n:=63) (k:=50) (x:="_law_script") (CX:=λ_=>cF) (sp:=λw=>ui (K w.params)) p (by decide) r #[rfl,by decide,by decide] t (λw g i h a b c=>by
  obtain⟨j,A,B⟩:=F w g i h a b c;exact#[j,A,λbase x y=>(B base x y).mono (by lia)]) (λ_ _ a C E _ G=>#[a,C,rfl,G,E,λ_=>rfl]) λ_ _ _ _ _ z=>z
theorem cI{c:Bool}{A B:Prop}(a:c=true->A)(b:c=false->B):if c=true then A else B:=by
 cases c with
 |true=>exact dH (a rfl)
 |false=>exact bJ (b rfl)
theorem pz{ρ:DN}(c:j->D)(p:j->Bool)(f:j->D):∀(e:List j)(d:DN)(a:List D)(N:DN->List D->Prop),(∀y∈e,∀(Y:D->Prop)(r:Prop),(p y=true->Y (f y))->(p y=false->r)->k (ρ.set i (some (c y))) λb=>if b=true then q (ρ.set i (some (c y))) Y else r)->
  (∃o,d=ρ.set i o)->a.length+e.length<=sizeLine->(∀d,N d (a++(e.filter p).map f))->lcW (tu i) k q (e.map c) d a N
 | [],d,a,N,_,_,_,h=>by
  show N d a;simpa using h d
 |y::e,d,a,N,l,#[o,s],g,h=>by
  show k (d.set i (some (c y))) _;rw[s,List.set_set];rw[bN] at g;refine l y (bB ..) _ _ (λm=>#[by lia,?_]) (λm=>?_)
  .refine pz c p f e _ (a++ [f y]) N (λz g=>l z (bP _ g)) #[_,rfl] (by simp;lia) λn=>?_
   have:=h n
   rw[vC,m] at this;simpa using this
  .refine pz c p f e _ a N (λz g=>l z (bP _ g)) #[_,rfl] (by lia) λn=>?_
   have:=h n
   rw[vC,m] at this;simpa using this
theorem jr{ρ:DN}(a:c->D)(f:c->D)(b:List c)(N:DN->List D->Prop)(j:∀y∈b,∀(Y:D->Prop),Y (f y)->g (ρ.set i (some (a y))) Y)(k:ρ[i]? =some none)(l:b.length<=sizeLine)(h:∀d,N d (b.map f)):lcW (tu i) xT g (b.map a) ρ [] N:=by
 refine pz (ρ:=ρ) a (λ_=>true) f b ρ [] N (λy m Y o n _=>?_) #[none,?_] (by simpa using l) λd=>by rw[List.filter_eq_self.mpr (λ_ _=>rfl),wy];exact h d
 .unfold xT
  dsimp only;rw[ls rfl];exact j y m Y (n rfl)
 .obtain⟨p,e⟩:=dQ.mp k
  rw[<-e,List.set_getElem_self]
theorem AX(I:Nat->DN->Prop):∀(b:List D)(k:Nat)(a:DN),I k a->(∀(j:Nat)(d:D)(a:DN),b[j]? =some d->I (k+j) a->∀A:DN->Prop,(∀a,I (k+j+1) a->A a)->g d a λn=>m {nx:=A,ct:=A,bk:=E.nx,rt:=E.rt,xc:=E.xc} n)->
  (∀a,I (k+b.length) a->E.nx a)->rg g m E b a
 | [],k,a,c,e,f=>f a c
 |d::b,k,a,c,e,f=>by
  refine e 0 d a rfl c _ λo p=>?_
  exact AX I b (k+1) o p (λj q h r i A s=>by
   refine e (j+1) q h (by simpa using r) (by rw[show k+(j+1)=k+1+j by lia];exact i) A λl t=>s l ?_
   rw[show k+1+j+1=k+(j+1)+1 by lia];exact t) (λh i=>f h (by rw[bN,show k+(b.length+1)=k+1+b.length by lia];exact i))
theorem bM(I:Nat->DN->Prop)(e:I 0 a)(f:∀(j:Nat)(d:D)(a:DN),b[j]? =some d->I j a->∀A:DN->Prop,(∀a,I (j+1) a->A a)->g d a λi=>c {nx:=A,ct:=A,bk:=E.nx,rt:=E.rt,xc:=E.xc} i)
  (k:∀a,I b.length a->E.nx a):rg g c E b a:=AX I b 0 a e (λj d a l h A m=>f j d a l (by simpa using h) A λn o=>m n (by simpa using o)) (λa h=>k a (by simpa using h))
theorem Me{g:fc}{c:cX}{E:iA}{lo:Int}{n:Nat}{a:DN}(I:Nat->DN->Prop)(f:I 0 a)(i:∀(j:Nat)(a:DN),j<n->I j a->∀A:DN->Prop,(∀a,I (j+1) a->A a)->g (.int (lo+j)) a λk=>c {nx:=A,ct:=A,bk:=E.nx,rt:=E.rt,xc:=E.xc} k)
  (m:∀a,I n a->E.nx a):rg g c E (js lo n) a:=by
 have l:(js lo n).length=n:=by unfold js;simp
 refine bM I f (λj d a b h A o=>?_) (λa h=>m a (by rw[l] at h;exact h))
 have e:j<n:=by
  have:=(dQ.mp b).1
  rw[l] at this;exact this
 rw[vY e] at b;cases Do b;exact i j a e h A o
theorem jm(I:Nat->DN->Prop)(g:Nat)(h:I g a)(i:∀m a,I m a->c a λb=>if b=true then f {nx:=λe=>∃d,d<m/\I d e,ct:=λe=>∃d,d<m/\I d e,bk:=E.nx,rt:=E.rt,xc:=E.xc} a else E.nx a):HQ c f E a:=#[I,#[g,h],i]
section
variable {Z:DC} {X:Cx} {a b c e:Expr} {ta tb te:bp} {t:i7} {pos:Pos}
variable {md:List Nat} {rn:Nat} {k:Expr} {tk:bp}
variable {apos aK:Pos}
variable {es:List Expr}
def Ma(g:cv)(t:i7):jB:=λh P=>t h λi=>g i λd=>∃f,d= .lst f/\P f
theorem LJ{k:Nat}(F:FnOk X.prog X.w X.K X.mg X.base cF k f m r (c4 Z n g))(y:cP k X.A)(z:Gl X x)(B:X.mg x=some (.ref f))(C:ar X.K (.ref f)=true)(d:Binds X.K m r [])
  (E:DA Z X (e::es) t) (I:(x==("__debug__":Str))=false:=by decide) (J:starEach (e::es) X.env=(false,eval e X.env)::starEach es X.env:=by rfl) (L:(backTo pos (starEach es X.env)).any (·.1)=false:=by rfl):
  DF Z X n (.Call (.Name x p) (e::es) [] pos) (Ma g t):=by
 refine(pL F y z B C d .nil m7 E I J L).imp ?_;intro σ H Q M;rfl';obtain⟨G,O,P,s,R,h,q⟩:=M;ac_rfl;refine#[G,O,_,s,R,h,λS T U Y a j c=>?_];show c4 Z n g (U++ []) a Q E0;rw[f7];exists Y,S,_,j.sub,c,T;intro _ l v f G2 H2 x2 o nd u;rfl';obtain⟨eM,rfl,hp⟩:=l;ac_rfl;exact q _ hp v f G2 H2 (j.trans x2) o nd λb d=>#[j.hh.free (u b d).1,(u b d).2]
end
section
variable {X:Cx} {elt t0 i0 t1 i1:Expr} {f0 f1:List Expr} {scope:Scope} {pos:Pos} {wi hU:TI} {g g1:TG} {tt fH:TT} {te:TE} {src:List (Option Nat)} {NC:List Str}
end
section
variable {Z:DC} {X:Cx} {md:List Nat} {rn:Nat} {elt t0 i0 t1 i1:Expr} {f0 f1:List Expr} {scope:Scope} {pos:Pos} {wi hU:jC} {g g1:fc} {tt fH:eI} {te:bp} {src:List (Option Nat)} {NC:List Str}
end
section
variable {Z:DC} {X:Cx} {md:List Nat} {rn:Nat} {e:Expr} {pos:Pos}
theorem DvAll.flat{G d:Hp}:∀{c:List V}{b:List D},DvAll Z G c b->b.all fw=true->DvAll Z d c b
 |_,_, .nil,_=> .nil
 |_,_, .cons a f,h=>by
  rw[aa7,sQ] at h;exact .cons (a.flat h.1) (f.flat h.2)
end
theorem jd{l:List D}{j:Nat}{d:D}(h:(iE l)[j]? =some d):∃x,l[j]? =some x/\d= .tup [.int (j:Int),x]:=by
 unfold iE at h;rw[List.getElem?_mapIdx] at h;cases e:l[j]? with
 |none=>rw[e] at h;cases h
 |some x=>rw[e] at h;cases h;exact#[x,rfl,rfl]
theorem fu(l:List D):(iE l).length=l.length:=by unfold iE;simp
theorem c5{a b:Type}{f:a->b}{l:List a}{j:Nat}{y:b}(h:(l.map f)[j]? =some y):∃x,l[j]? =some x/\y=f x:=by
 rw[b7] at h;cases e:l[j]? with
 |none=>rw[e] at h;cases h
 |some x=>rw[e] at h;cases h;exact#[x,rfl,rfl]
theorem dA(r:List Nat):(r.map ae).all fw=true:=by simp[ae,fw]
theorem iH{r:List Nat}{p:Nat}:inD (ae p) (r.map ae)=decide (p∈r):=by
 unfold inD;rw[List.any_map]
 have:((λy=>kZ y (ae p))∘ae)=λq:Nat=>decide (q=p):=by
  funext q
  simp[ae,kZ,Function.comp]
  by_cases z:q=p
  .simp[z]
  .have:¬(q:Int)=(p:Int):=by lia
   simp[z,this]
 rw[this]
 by_cases h:p∈r
 .rw[FM h,List.any_eq_true];exact#[p,h,by simp]
 .rw[GM h]
  apply ux.mpr;intro z;rw[List.any_eq_true] at z;obtain⟨q,a,e⟩:=z
  exact h (by have:q=p:=by simpa using e
              rw[<-this];exact a)
theorem fI{l:List D}{p:Nat}{d:D}(h:l[p]? =some d):gh l (p:Int)=some d:=Dx h
theorem uj(h:p<w.length):(w.map au)[p]? =some (au (Wb.row w p)):=by
 rw[b7,Wb.EZ h];rfl
section
variable {Z:DC} {X:Cx} {md:List Nat} {rn:Nat} {e:Expr} {te:bp} {pos:Pos}
def SQ(b:bp):cX:=λE a=>b a λ_=>E.nx a
theorem LV(a:DE Z X e te)(b:swapsWith e none pos.line X.env=pure false:=by rfl):DSt Z X md rn (.Expr e pos) (SQ te):=by
 refine(fW a b).imp ?_;intro D k H c;rfl';obtain⟨B,g,E,⟨G,i,S⟩,h,M⟩:=c;ac_rfl;exact#[H,g,_, .refl _,S.D3,h,λd j v m n x dv=>M.nx _ j _ _ #[G,i,S.grow (Ext.all S.ex.sub x)]]
end
theorem Sm(h:A):xT a (λb=>if b=true then A else B):=by
 unfold xT;dsimp only;rw[ls rfl];exact h
theorem Ig{c:Bool}{A B:Prop}(e:c=false)(h:B):if c=true then A else B:=by rw[ir (by rw[e];exact dD)];exact h
theorem tN(I:DN->Prop)(e:n->D)(p:n->Bool)(f:n->D):∀(j:List n)(i:DN)(a:List D)(N:DN->List D->Prop),(∀y∈j,∀i,I i->∀(Y:DN->D->Prop)(v:DN->Prop),(∀c,I c->p y=true->Y c (f y))->(∀c,I c->p y=false->v c)->g (e y) i λc=>l c λb=>if b=true then m c (Y c) else v c)->
  I i->a.length+j.length<=sizeLine->(∀i,I i->N i (a++(j.filter p).map f))->lcW g l m (j.map e) i a N
 | [],i,a,N,_,o,_,h=>by
  show N i a;simpa using h i o
 |y::j,i,a,N,q,o,k,h=>by
  rw[bN] at k;refine q y (bB ..) i o (λc d=>a.length<sizeLine/\lcW g l m (j.map e) c (a++ [d]) N) (λc=>lcW g l m (j.map e) c a N) (λc r s=>#[by lia,?_]) (λc r s=>?_)
  .refine tN I e p f j _ (a++ [f y]) N (λz k=>q z (bP _ k)) r (by simp;lia) λt u=>?_
   have:=h t u
   rw[vC,s] at this;simpa using this
  .refine tN I e p f j _ a N (λz k=>q z (bP _ k)) r (by lia) λt u=>?_
   have:=h t u
   rw[vC,s] at this;simpa using this
theorem RO(h:b.length=1):∃d,b= [d]:=by
 cases b with
 |nil=>cases h
 |cons a l=>
  cases l with
  |nil=>exact#[a,rfl]
  |cons _ _=>cases h
theorem RP(h:b.length=2):∃e c,b= [e,c]:=by
 cases b with
 |nil=>cases h
 |cons a l=>
  obtain⟨c,rfl⟩:=RO (acC h);exact#[a,c,rfl]
theorem RQ(h:b.length=3):∃f c d,b= [f,c,d]:=by
 cases b with
 |nil=>cases h
 |cons a l=>
  obtain⟨c,d,rfl⟩:=RP (acC h);exact#[a,c,d,rfl]
theorem XT(h:b.length=4):∃g c d e,b= [g,c,d,e]:=by
 cases b with
 |nil=>cases h
 |cons a l=>
  obtain⟨c,d,e,rfl⟩:=RQ (acC h);exact#[a,c,d,e,rfl]
section
variable {Z:DC} {X:Cx} {e:Expr} {es:List Expr} {t:i7} {pos:Pos}
theorem aI{a:cv}{k j:Nat}{x:Str}{st:Stmt}{c:List Str}{p:Pos}(d:fo X.K X.mg x st c)(F:FnOk X.prog X.w X.K X.mg X.base cF k d.f d.fd c (br Z a))(g:cP j X.A)(h:DA Z X (e::es) t)(i:Gl X x:=by rfl)(l:k<=j:=by first|decide|lia)
  (n:(x==("__debug__":Str))=false:=by decide) (o:starEach (e::es) X.env=(false,eval e X.env)::starEach es X.env:=by rfl) (q:(backTo pos (starEach es X.env)).any (·.1)=false:=by rfl):
  DE Z X (.Call (.Name x p) (e::es) [] pos) (uI a t):=LH F (g.mono l) i d.m d.F.kp d.b h n o q
theorem qx{n:Nat}{a:cv}{k j:Nat}{x:Str}{st:Stmt}{c:List Str}{p:Pos}(d:fo X.K X.mg x st c)(F:FnOk X.prog X.w X.K X.mg X.base cF k d.f d.fd c (c4 Z n a))(g:cP j X.A)(h:DA Z X (e::es) t)(i:Gl X x:=by rfl)(l:k<=j:=by first|decide|lia)
  (o:(x==("__debug__":Str))=false:=by decide) (q:starEach (e::es) X.env=(false,eval e X.env)::starEach es X.env:=by rfl) (r:(backTo pos (starEach es X.env)).any (·.1)=false:=by rfl):
  DF Z X n (.Call (.Name x p) (e::es) [] pos) (Ma a t):=LJ F (g.mono l) i d.m d.F.kp d.b h o q r
theorem qT(f:Scope)(e:X.env.scope=f:=by rfl)(k:d.kind= .function:=by rfl)(a:∀x∈d.names,x.2= .local->d.names.lookup x.1=some .local:=by decide+kernel)(b:∀x∈d.names,x.2≠ .cell:=by decide+kernel)
  (c:∀x∈d.names,x.2= .free->f.names.lookup x.1=some .cell\/f.names.lookup x.1=some .free:=by decide+kernel):cT X d:=cT.of f e k a b c
end
section
variable {K:ac} {h:Heap} {mg:Str->Option Value}
abbrev OL(K:ac)(x:Str)(d:Addr):Prop:=b6 K mainGlobals x=some (some (.ref d))
abbrev Dm(K:ac)(x a:Str)(st:Stmt)(d:Addr)(b c:Option Addr)(e:Array (Option Value))(f kV g i j k:Value):Prop:=K.lookup d=some #[f,b, .func (bj x a (iD st) (fC st) (av st) .none kV g i c j k),e]
def fo.of{x:Str}{st:Stmt}{e:List Str}{d:Addr}{o f:Option Addr}{p:Array (Option Value)}{q kV r g n i:Value}(X:K.In h)(G:h.Ns mainGlobals mg)(a:OL K x d)(l:Dm K x x st d o f p q kV r g n i)(c:bd K n x=true)(k:ar K (.ref d)=true)
  (b:∀(kV j g:Value)(f:Option Addr)(s i:Value)(m:List Value),m.length=e.length->bindArgs (bj x x (iD st) (fC st) (av st) .none kV j g f s i) #[m,[]]=pure (e.zip m)):fo K mg x st e:=
 #[d,_,tG l c k,(tG l c k).binds b,aba X G a]
def Bx.of{Z:DC}{m e:Str}{st:Stmt}{g:List Str}{d:Addr}{r i:Option Addr}{s:Array (Option Value)}{t kV u j q n:Value}(a:am Z.K (.ref Z.C) m=some (some (.ref d)))(f:bD Z.K (.ref d)=true)(l:Dm Z.K m e st d r i s t kV u j q n)(c:bd Z.K q e=true)(k:ar Z.K (.ref d)=true)
  (b:∀(kV o j:Value)(i:Option Addr)(v n:Value)(p:List Value),p.length=g.length->bindArgs (bj m e (iD st) (fC st) (av st) .none kV o j i v n) #[p,[]]=pure (g.zip p)):Bx Z m e st g:=
 #[d,_,tG l c k,(tG l c k).binds b,#[a,f,k]]
end
end L2
namespace Wb
def gr(w:W):Nat:=(w.map bi).sum
theorem xV{r:List Nat}:∀{w:W}{p:Nat},p<w.length->gr (w.set p r)+(row w p).length=gr w+r.length
 | [],_,h=>by simp at h
 |a::w,0,_=>by simp[gr,row];lia
 |a::w,p+1,h=>by
  have b:=xV (r:=r) (w:=w) (p:=p) (by simpa using h)
  have e:row (a::w) (p+1)=row w p:=by simp[row]
  rw[e];simp only[gr,List.set_cons_succ,bT,rM] at b ⊢;lia
theorem LI{w:W}{p i u j:Nat}(a:p<w.length)(c:u<w.length)(ne:u≠p):gr (tie w p i u j)=gr w+2:=by
 unfold tie;have d:=xV (r:=ins (row w p) i u) a;have b:=xV (w:=w.set p (ins (row w p) i u)) (r:=ins (row w u) j p) (p:=u) (by simpa using c)
 rw[pO a,ir (Ne.symm ne)] at b;rw[pj] at d b;lia
theorem Jr(w:W):gr w=((ad w.length).map λp=>(row w p).length).sum:=by
 unfold gr
 congr 1
 refine List.ext_getElem (by simp) λi b c=>?_
 rw[List.getElem_map,List.getElem_map,List.getElem_range];have a:i<w.length:=by simpa using b
 have:=EZ a
 rw[b8 a] at this;rw[Do this]
theorem cQ(w:W):(aM w).length=gr w:=by
 rw[Jr];unfold aM;rw[List.length_flatMap]
 congr 1
 apply De;intro p _;rw[aG]
theorem bu{w:W}(g:Good w):(aM w).Nodup:=by
 unfold aM dc;refine pK (λp _=>?_) ?_
 .rw[iV]
  exact(g.nod p).imp λne e=>ne (FS Prod.snd e)
 .refine List.Pairwise.imp ?_ aa5
  intro a b lt x c y d e;obtain⟨_,_,rfl⟩:=aX.mp c;obtain⟨_,_,rfl⟩:=aX.mp d
  have:=FS Prod.fst e
  simp at this;lia
theorem qg(w:W):fA (row w) w.length=(aM w).filter λd=>decide (d.1<d.2):=by
 unfold fA aM;rw[List.filter_flatMap]
 congr 1
 funext p
 rw[List.filter_map];rfl
theorem Hm(g:Good w):2*(fA (row w) w.length).length<=gr w:=by
 rw[qg,<-cQ];have f:=List.length_eq_countP_add_countP (λd:Nat×Nat=>decide (d.1<d.2)) (l:=aM w)
 have p:((aM w).filter λd=>decide (d.1<d.2)).length<=((aM w).filter λd=>decide (d.2<d.1)).length:=by
  have:=aF (l:=((aM w).filter λd=>decide (d.1<d.2)).map λd=>(d.2,d.1)) (m:=(aM w).filter λd=>decide (d.2<d.1)) ?_ ?_
  .rwa [aG] at this
  .unfold dc
   rw[iV];refine List.Pairwise.imp ?_ ((bu g).filter _);intro a b ne e;have i:=FS Prod.fst e;have j:=FS Prod.snd e;exact ne (PP j i)
  .intro x k
   obtain⟨d,n,rfl⟩:=aX.mp k;obtain⟨o,c⟩:=qt.mp n;refine qt.mpr #[aD.mpr (g.sym _ _ (aD.mp o)),?_];simpa using c
 have q:((aM w).filter λd=>decide (d.2<d.1)).length<=(aM w).countP λd=>!decide (d.1<d.2):=by
  rw[<-abB];apply List.countP_mono_left;intro d _ h;simp at h ⊢;lia
 rw[abB] at f
 have r:(aM w).countP (λd=>!decide (d.1<d.2))=List.countP (λa=>decide ¬(decide (a.1<a.2)=true)) (aM w):=by
  congr 1
  funext d
  by_cases h:d.1<d.2<;>simp[h]
 lia
structure RI (w:W) (bs:List Bool) (ws ex:List Nat) (c:Nat):Prop where
 len:bs.length=w.length
 z:bs[0]? =some true
 wt:∀x∈ws,bs[x]? =some true
 cl:∀x,bs[x]? =some true->x∈ws\/x∈ex\/∀q∈row w x,bs[q]? =some true
 cnt:bs.count false+ws.length<=c
theorem RI.pop(h:RI w bs (b++ [p]) [] (c+1)):RI w bs b [p] c:=
 #[h.len,h.z,λx a=>h.wt x (fj _ a),λx a=>by
  rcases h.cl x a with q|q|q
  .rcases bH.mp q with q|q
   .exact .inl q
   .exact .inr (.inl q)
  .cases q
  .exact .inr (.inr q),by have:=h.cnt;rw[cE] at this;simp at this;lia]
theorem RI.push(h:RI w bs f g c)(j:bs[q]? =some false):RI w (bs.set q true) (f++ [q]) g c:=by
 obtain⟨b,i⟩:=dQ.mp j
 have d:∀x,bs[x]? =some true->(bs.set q true)[x]? =some true:=λx a=>by
  rw[n6]
  by_cases e:q=x
  .rw[ls e,ls b]
  .rw[ir e];exact a
 refine#[by rw[f9];exact h.len,d _ h.z,λx a=>?_,λx a=>?_,?_]
 .rcases bH.mp a with z|z
  .exact d _ (h.wt x z)
  .have:x=q:=by simpa using z
   rw[this,n6,ls rfl,ls b]
 .by_cases e:q=x
  .exact .inl (by rw[e];simp)
  .rw[n6,ir e] at a
   rcases h.cl x a with z|z|z
   .exact .inl (fj _ z)
   .exact .inr (.inl z)
   .exact .inr (.inr λy k=>d _ (z y k))
 .have l:=h.cnt
  have:0<bs.count false:=vB.mpr (by rw[<-i];exact uA b)
  rw[abC b,i,cE];simp;lia
theorem RI.close(h:RI w bs a [p] c)(b:∀q∈row w p,bs[q]? =some true):RI w bs a [] c:=
 #[h.len,h.z,h.wt,λx d=>by
  rcases h.cl x d with q|q|q
  .exact .inl q
  .have:x=p:=by simpa using q
   rw[this];exact .inr (.inr b)
  .exact .inr (.inr q),h.cnt]
theorem RI.all{w:W}(g:Good w)(h:RI w bs [] [] c):bs=ak w.length true:=by
 have:=kT g (S:=λx=>bs[x]? =some true) h.z λp q b d=>by
  rcases h.cl p b with z|z|z
  .cases z
  .cases z
  .exact z q d
 refine rJ λi=>?_
 by_cases a:i<w.length
 .rw[this i a,zX,ls a]
 .rw[iu (by rw[h.len];lia),iu (by simp;lia)]
structure AE (w:W):Prop where
 rng:∀p q,q∈row w p->q<w.length
 irr:∀p,p∉row w p
 nod:∀p,(row w p).Nodup
 sym:∀p q,q∈row w p->p∈row w q
theorem Good.near(g:Good w):AE w:=#[g.rng,g.irr,g.nod,g.sym]
theorem AE.good(n:AE w)(h:∀p,p<w.length->Reach w 0 p):Good w:=#[n.rng,n.irr,n.nod,n.sym,h]
end Wb
namespace L2
open PySem PySem.Spec PyProof.Rows
section
variable {Z:DC} {X:Cx} {md:List Nat} {rn:Nat} {a b e k:Expr} {pos:Pos} {ta tb te tk:bp} {t:jB}
def Ww(g h:bp):jB:=λf P=>g f λi=>∃c,i= .lst c/\h f λj=>∃d,j= .lst d/\c.length+d.length<=sizeLine/\P (c++d)
theorem O1(l:DE Z X a ta)(m:DE Z X b tb):DF Z X 1 (.BinOp a .Add b pos) (Ww ta tb):=by
 refine(ND Iu l m).imp ?_;intro I H Q n;rfl';obtain⟨G,f,P,s,e,h,q⟩:=n;ac_rfl;exists G,f,_,s,e,h;rintro _ ⟨L,rfl,h⟩ M r N c u;exists r,f,_,c.sub,e.mono c.gg,h;rintro _ ⟨O,rfl,v,w⟩ R S T d y;obtain⟨U,Y,rfl,z,g⟩:=u.iL;obtain⟨k,t,rfl,A,i⟩:=y.iL;have B:=g.mono d.gg;have x:=c.trans d;refine#[_,_,_,_,rfl,rfl,d.hh _ _ (c.sub _ _ z),d.sub _ _ A,by rw[g.length,i.length];exact v,λp j=>?_]
 obtain⟨C,E,F⟩:=EK x j (B.append i);exact q _ w _ _ _ _ (x.side j) C E F
variable {tg iter elt:Expr} {ifs:List Expr} {scope:Scope} {NC:List Str} {src:List (Option Nat)} {wi:jC} {g:fc} {tt:eI}
theorem LK(f:X.calm=true)(c:cT X scope)(h:eD scope X.N src NC)(i:DI Z X tg iter wi)
  (j:∀d s H,DG Z (dS X scope NC d s H) tg g) (l:∀d s H,Dl Z (dS X scope NC d s H) ifs tt) (m:∀d s H,DE Z (dS X scope NC d s H) elt te)
  (n:∀x,foldedSetIterable iter X.env x=pure x:=by intro _;rfl):DF Z X 1 (.ListComp elt [#[tg,iter,ifs,0]] scope pos) (Tx wi g tt te src):=(Nz f c h i j l m n).imp Ey
variable {B:Bs} {ρ:DN} {σ:St} {H G:Hp} {fp:Nat->List Addr}
theorem SIx.evF(S:SIx Z B md ρ σ H G fp)(h:t ρ P)
  (m:∀c,P c->c.all fw=true/\∀v i d,SIx Z B md ρ σ d i fp->Ext G H i d->Dv Z i v (.lst c)->Q v d):uX Z 1 t σ H Q:=by
 exists H,ρ,P, .refl _,S.D3,h;intro c n v f i d x o F p;obtain⟨q,k⟩:=m c n;obtain⟨a,r,I,J,rfl,s,u,w,y⟩:=o.lst;cases s;obtain⟨dv,rfl⟩:=y.flat;have j:H a=none:=(p a (by rw[w];simp)).1
 have A:G a=none:=S.ex.sub.free j
 have l:Ext G H (upd G a (.lst r)) d:=by
  refine#[aY A _,λb o e=>?_,x.hh,λb C E=>?_]
  .by_cases z:b=a
   .subst z
    rw[ax] at e;rw[<-e];exact u
   .rw[aB z] at e
    exact x.hh _ _ (S.ex.sub _ _ e)
  .rw[aB (λz=>C (by rw[z];exact j))];exact E
 exact k _ _ _ (S.grow l) l (.lst ax (dv.flat q))
def LA(i:Nat)(h:bp)(t:jB):cX:=λE c=>t c λd=>d.all fw=true/\∃f,c[i]? =some (some (.lst f))/\h c λl=>∃k j,l= .int k/\lL f.length k=some j/\E.nx (c.set i (some (.lst (f.set j (.lst d)))))
theorem xZ(i:Nat)(A:DE Z X k tk)(C:DF Z X 1 e t)(r:md.getD i 0=1:=by rfl)(F:X.N[i]? =some x:=by rfl)(I:kN X.env.scope x:=by subst_eqs)(n:(x==("__debug__":Str))=false:=by decide)(J:(x==("__classdict__":Str))=false:=by decide)
  (L:∀v,assign (.Subscript (.Name x c) k f) X.env v=(do
   let o <-holding [v] (eval (.Name x c) X.env)
   let q <-holding [v,o] (eval k X.env)
   standAt f
   holding [v,o,q] (setItem o q v)
   release [v,o,q] []):=by intro _;rfl)
  (O:swapsWithSole [.Subscript (.Name x c) k f] e pos.line X.env=pure false:=by rfl) (hw:swappedStores [.Subscript (.Name x c) k f] e X.env=pure none:=by rfl)
  (p:(assignEach [.Subscript (.Name x c) k f] X.env).map (·.2)= [assign (.Subscript (.Name x c) k f) X.env]:=by rfl):DSt Z X md rn (.Assign [.Subscript (.Name x c) k f] e pos) (LA i tk t):=by
 refine(lh C (qJ (pv i F I n J) A set_list L) O hw p).imp ?_;intro D σ H P;rfl';obtain⟨B,ρ,E,⟨G,Q,S⟩,h,M⟩:=P;ac_rfl;refine S.evF h λd n=>#[n.1,λv G' H' u x dv=>?_];rfl';obtain⟨_,ds,p,h⟩:=n;obtain⟨l,xs,_,_,w,e3,_⟩:=u.one r p;ac_rfl;refine#[_,w,u.ev true h ?_];rintro _ ⟨k,j,rfl,R,T⟩;refine#[rfl,λv1 U H1 Y a b=>?_];rfl';cases b.ofInt;obtain⟨l',g,eM,e1,y,BR,z,put⟩:=Y.one r p;cases e1;ac_rfl;rw[w] at y;cases y;exact#[l,g,k,j,rfl,rfl,BR,by rw[z.length];exact R,M.nx _ T _ _ #[U,Q,put _ _ (z.set (dv.mono a.gg) j)]]
end
structure VI (Z:DC):Prop where
 ha:am Z.K (.ref Z.C) "__class__"=some (some (.builtin "object.__class__"))
 hn:ce Z.K (.builtin "object.__class__") "__get__"=some (some (.builtin "getset_descriptor.__get__"))
 htk:cs Z.K (.builtin "object.__class__")=some true
 hm:dn Z.K Z.C (.type "object")=some true
 hk:bx Z.K (.ref Z.C) (.ref Z.C)=some true
section
variable {Z:DC} {X:Cx} {a:Expr} {ta:bp} {pos:Pos}
theorem Aa:cB X (.builtin "isinstance") (λc H Q=>∃(x:V)(C:Addr)(t:Value)(b:Bool),c= [x, .ref C]/\kg X.K H x t/\bx X.K t (.ref C)=some b/\Q (.bl b) H):=by
 intro d s k H c l Q I f h;obtain⟨x,n,t,b,rfl,g,e,q⟩:=h;obtain⟨m,o,rfl,i,j⟩:=f.two;cases j;exact yx I i g e λp=>#[.bl b,H,I.tok _,rfl,q]
def OV(t:bp):bp:=λb P=>t b λd=>∃w,d= .dm w/\P (.bl true)
theorem Jq(T:AF Z)(W:VI Z)(j:DE Z X a ta)(k:Gl X "isinstance")(l:X.mg "isinstance"=none)(m:Gl X "Web")(n:X.mg "Web"=some (.ref Z.C))(c:X.K=Z.K:=by rfl)(f:starEach [a, .Name "Web" b] X.env=(false,eval a X.env)::starEach [.Name "Web" b] X.env:=by rfl)
  (o:(backTo pos (starEach [.Name "Web" b] X.env)).any (·.1)=false:=by rfl) (r:starEach [.Name "Web" b] X.env=(false,eval (.Name "Web" b) X.env)::starEach [] X.env:=by rfl):
  DE Z X (.Call (.Name "isinstance" p) [a, .Name "Web" b] [] pos) (OV ta):=by
 have t:PE X (.Name "Web" b) (tC (.ref Z.C)):=EN m n (v:= .ref Z.C) rfl (by decide)
 refine(vc Aa k l (by decide+kernel) (cK j (cK t fQ r) f) (by decide) (by decide) f o).imp ?_
 rintro A H Q ⟨G,u,P,s,e,h,q⟩;exists G,u,_,s,e,h;rintro d ⟨w,rfl,x⟩ v y z i dv;cases dv with
 | @dm p B R w hw E g F I=>
  exact#[_,Z.C,_,true,rfl, .ins (i.sub _ _ hw) (by rw[c];exact T.cl) (by rw[c];exact W.ha) (by rw[c];exact W.hn) (by rw[c];exact W.htk) (by rw[c];exact W.hm),by rw[c];exact W.hk,q _ x _ y z i (.bl _)]
end
end L2
namespace Fw
open PySem L2 Wb
def top(i:Nat):Stmt:=PySem.Challenge.pw_mapdye_k22_whole_filled.main.body.getD i (.Pass #[0,0,0,0])
abbrev lW:Stmt:=top 12
abbrev pV:Stmt:=top 13
abbrev y8:Stmt:=top 14
abbrev pU:Stmt:=top 15
abbrev lU:Stmt:=top 16
abbrev pT:Stmt:=top 19
abbrev kH:Stmt:=top 20
abbrev lX:Stmt:=top 21
abbrev kL:Stmt:=top 22
abbrev lS:Stmt:=top 23
abbrev eo:Stmt:=top 24
abbrev kI:Stmt:=top 25
abbrev kJ:Stmt:=top 26
abbrev lV:Stmt:=top 29
abbrev vq:Stmt:=top 30
abbrev kK:Stmt:=top 31
abbrev lR:Stmt:=top 32
abbrev vp:Stmt:=top 33
abbrev jK:Stmt:=top 35
abbrev pS:Stmt:=top 36
abbrev lP:Stmt:=top 37
abbrev kG:Stmt:=top 38
abbrev iS:Stmt:=top 39
abbrev nh:Stmt:=top 40
abbrev gM:Stmt:=top 41
abbrev lQ:Stmt:=top 42
abbrev sF:Stmt:=top 43
abbrev jj:Stmt:=top 44
abbrev gz:Stmt:=top 45
abbrev dR:Stmt:=top 46
abbrev CH:Stmt:=top 47
abbrev fG:Stmt:=L2.j6 (top 27) 0
abbrev pQ:Stmt:=L2.j6 (top 27) 1
abbrev jZ:Stmt:=L2.j6 (top 27) 2
abbrev lu:Stmt:=L2.j6 (top 27) 3
abbrev pR:Stmt:=L2.j6 (top 27) 4
abbrev lO:Stmt:=L2.j6 (top 27) 5
theorem qb:aO ["web","side","sides","p","q"] ["web","side"] (av lW):=by bv_omega
theorem Bo:aO ["web","walked","told","side","sides","step"] ["web"] (av pV):=by bv_omega
theorem Bn:aO ["web"] ["web"] (av y8):=by bv_omega
theorem uf:aO ["web","points","ties","rounds"] ["web"] (av pU):=by bv_omega
theorem p9:aO ["web"] ["web"] (av lU):=by bv_omega
theorem ue:aO ["thing","many"] ["thing","many"] (av pT):=by bv_omega
theorem nP:aO ["rows","p","row","q"] ["rows"] (av kH):=by bv_omega
theorem qc:aO ["rows","p","row"] ["rows"] (av lX):=by bv_omega
theorem nV:aO ["rows","p","row","place","q"] ["rows"] (av kL):=by bv_omega
theorem p8:aO ["rows","p","row","q"] ["rows"] (av lS):=by bv_omega
theorem iT:aO ["rows","reached","waiting","p","q"] ["rows"] (av eo):=by bv_omega
theorem nQ:aO ["rows","q","reached"] ["rows"] (av kI):=by bv_omega
theorem nS:aO ["rows","fault"] ["rows"] (av kJ):=by bv_omega
theorem qa:aO ["row","ahead","p","place"] ["row","ahead","p"] (av lV):=by bv_omega
theorem zc:aO ["web","land","i","j","told","points","a","b","turns"] ["web","land","i","j"] (av vq):=by bv_omega
theorem nU:aO ["web","kept","number","land","i","a","j"] ["web","kept"] (av kK):=by bv_omega
theorem p4:aO ["web","kept","ties","corner","number","i","j","land"] ["web","kept"] (av lR):=by bv_omega
theorem y9:aO ["web"] ["web"] (av vp):=by bv_omega
theorem mD:aO ["_law_script","_law_k"] ["_law_script","_law_k"] (av jK):=by bv_omega
theorem ud:aO ["_law_script","_law_k","_law_many","_law_base","_law_cell","_law_digits","_law_number","_law_found","_law_turn"] ["_law_script","_law_k","_law_many","_law_base"] (av pS):=by bv_omega
theorem pX:aO ["_law_turns_here","_law_left","_law_found","_law_p","_law_row_here","_law_q","_law_walk","_law_here","_law_around"] ["_law_turns_here"] (av lP):=by bv_omega
theorem nN:aO ["_law_row_here","_law_ahead","_law_point","_law_at"] ["_law_row_here","_law_ahead","_law_point"] (av kG):=by bv_omega
theorem nO:aO ["_law_walks","_law_number","_law_k"] ["_law_walks","_law_number"] (av iS):=by bv_omega
theorem rA:aO ["_law_turns_here","_law_number","_law_walk","_law_i","_law_p","_law_j","_law_q"] ["_law_turns_here","_law_number"] (av nh):=by bv_omega
theorem pY:aO ["_law_turns_here","_law_row_here","_law_order","_law_k","_law_found","_law_p","_law_old","_law_start"] ["_law_turns_here","_law_row_here"] (av gM):=by bv_omega
theorem p0:aO ["_law_script","_law_turns_here","_law_number"] ["_law_script"] (av lQ):=by bv_omega
theorem wa:aO ["_law_web","_law_turns_here","_law_ties","_law_p","_law_row_here","_law_k","_law_q"] ["_law_web","_law_turns_here"] (av sF):=by bv_omega
theorem lB:aO ["_law_thing","_law_many"] ["_law_thing","_law_many"] (av jj):=by bv_omega
theorem lA:aO ["_law_some","_law_turns_here","_law_tie"] ["_law_some","_law_turns_here"] (av gz):=by bv_omega
theorem pZ:aO ["_law_found","_law_turns_here","_law_made","_law_p","_law_row_here","_law_new"] ["_law_found","_law_turns_here"] (av dR):=by bv_omega
theorem II:aO ["_law_script","_law_turns_here","_law_web","_law_found"] ["_law_script"] (av CH):=by bv_omega
theorem mB:aO ["self","turns","rows","fault"] ["self","turns"] (av fG):=by bv_omega
theorem ua:aO ["self"] ["self"] (av pQ):=by bv_omega
theorem rm:aO ["self"] ["self"] (av jZ):=by bv_omega
theorem uc:aO ["self"] ["self"] (av lu):=by bv_omega
theorem ub:aO ["self","a","b","many"] ["self","a","b"] (av pR):=by bv_omega
theorem pW:aO ["self","p","q","row"] ["self","p","q"] (av lO):=by bv_omega
set_option genInjectivity false in
structure Txt (Z:DC) (mg:Str->Option Value) where
 B:VB mg
 x_set:mg "set"=none
 d_round_from:fo Z.K mg "round_from" lW ["web","side"]
 d_lands:fo Z.K mg "lands" pV ["web"]
 d_count:fo Z.K mg "count" y8 ["web"]
 d_is_plane:fo Z.K mg "is_plane" pU ["web"]
 d_need_plane:fo Z.K mg "need_plane" lU ["web"]
 d_is_among:fo Z.K mg "is_among" pT ["thing","many"]
 d_alien_fault:fo Z.K mg "alien_fault" kH ["rows"]
 d_self_fault:fo Z.K mg "self_fault" lX ["rows"]
 d_twice_fault:fo Z.K mg "twice_fault" kL ["rows"]
 d_lone_fault:fo Z.K mg "lone_fault" lS ["rows"]
 d_reached_from_first:fo Z.K mg "reached_from_first" eo ["rows"]
 d_apart_fault:fo Z.K mg "apart_fault" kI ["rows"]
 d_first_fault:fo Z.K mg "first_fault" kJ ["rows"]
 d_put_behind:fo Z.K mg "put_behind" lV ["row","ahead","p"]
 d_put_in:fo Z.K mg "put_in" vq ["web","land","i","j"]
 d_next_corner:fo Z.K mg "next_corner" kK ["web","kept"]
 d_filled_but:fo Z.K mg "filled_but" lR ["web","kept"]
 d_filled:fo Z.K mg "filled" vp ["web"]
 d__law_cell_at:fo Z.K mg "_law_cell_at" jK ["_law_script","_law_k"]
 d__law_row:fo Z.K mg "_law_row" pS ["_law_script","_law_k","_law_many","_law_base"]
 d__law_lands:fo Z.K mg "_law_lands" lP ["_law_turns_here"]
 d__law_behind:fo Z.K mg "_law_behind" kG ["_law_row_here","_law_ahead","_law_point"]
 d__law_corner:fo Z.K mg "_law_corner" iS ["_law_walks","_law_number"]
 d__law_deed:fo Z.K mg "_law_deed" nh ["_law_turns_here","_law_number"]
 d__law_named:fo Z.K mg "_law_named" gM ["_law_turns_here","_law_row_here"]
 d__law_turns:fo Z.K mg "_law_turns" lQ ["_law_script"]
 d__law_is:fo Z.K mg "_law_is" sF ["_law_web","_law_turns_here"]
 d__law_is_point:fo Z.K mg "_law_is_point" jj ["_law_thing","_law_many"]
 d__law_are_ties:fo Z.K mg "_law_are_ties" gz ["_law_some","_law_turns_here"]
 d__law_right:fo Z.K mg "_law_right" dR ["_law_found","_law_turns_here"]
 d_law:fo Z.K mg "law" CH ["_law_script"]
 W:AF Z
 mC:mg "Web"=some (.ref Z.C)
 i_f:Addr
 i_fd:FuncData
 i_F:z8 Z.K "__init__" "Web.__init__" fG i_f i_fd
 mkW:Mk Z.K Z.C i_f
 m___init__b:Binds Z.K i_fd ["self","turns"] []
 m_many:Bx Z "many" "Web.many" pQ ["self"]
 m_turns:Bx Z "turns" "Web.turns" jZ ["self"]
 m_ties:Bx Z "ties" "Web.ties" lu ["self"]
 m_tied:Bx Z "tied" "Web.tied" pR ["self","a","b"]
 m_behind:Bx Z "behind" "Web.behind" lO ["self","p","q"]
 iW:VI Z
 t___name__:∃tk,mg "__name__"=some (.str "law_mapdye_k22_whole_filled" tk)
 c_MOST_POINTS:∃tk,mg "MOST_POINTS"=some (.int 14 tk)
variable {P:Program} {w:World} {mg:Str->Option Value} {base:Heap} {Z:DC} (T:Txt Z mg)
def N6:cv:=λa P=>∃(i n:Int),a= [.int i, .int n]/\P (.bl (decide (0<=i/\i<n)))
theorem gw:FnOk P w Z.K mg base cF 1 T.d_is_among.f T.d_is_among.fd ["thing","many"] (br Z N6):=by
 have d:=ue.nd;refine bA T.d_is_among.F ue [0,0] (by decide) (λb R h=>by obtain⟨_,_,rfl,_⟩:=h;rfl) (λe A outer s H E b R c h=>?_)
 have g:=c.units;exists _,(ao (aR (kW (mO "int" (aa 0) rfl T.B.isinstance rfl T.B.int HH) (kW (HU (mO "bool" (aa 0) rfl T.B.isinstance rfl T.B.bool Dz)) (sZ (AM Cy pF ay (aa 0) (aa 1)))))));obtain⟨i,n,rfl,q⟩:=h;refine#[_,rfl,rfl,true,rfl,dH #[_,rfl,rfl,false,rfl,true,rfl,dH #[_,rfl,?_]]];refine#[_,rfl,cI (λa=>#[_,rfl,?_]) (λa=>?_)]
 .have a:0<=i:=KF a
  show R (.bl (decide (i<n)));rw[show decide (i<n)=decide (0<=i/\i<n) by simp[a]]
  exact q
 .have a:¬0<=i:=On a
  rw[show decide (0<=i/\i<n)=false by simp[a]] at q
  exact q
def xr:cv:=λa P=>∃(w:W),a= [aP w]/\AE w/\1<=w.length/\w.length<=14/\P .non
theorem rB{w:W}(h:(iE (w.map au))[j]? =some d):j<w.length/\d= .tup [.int (j:Int),au (row w j)]:=by
 obtain⟨x,b,rfl⟩:=jd h;obtain⟨r,a,rfl⟩:=c5 b;have c:j<w.length:=(dQ.mp a).1;exists c;rw[QM a]
theorem wV:FnOk P w Z.K mg base cF 2 T.d_alien_fault.f T.d_alien_fault.fd ["rows"] (br Z xr):=by
 have c:=nP.nd;refine bA T.d_alien_fault.F nP [0,0,0,0] (by decide) (λn R h=>by obtain⟨_,rfl,_⟩:=h;rfl) (λy A outer s H E n R m h=>?_)
 have z:=m.units
 refine#[_,(ah (cH rfl Gc (dY rfl T.B.enumerate (ab (aa 0) af)) (eH 2 rfl (aN (aJ 1 c) (aN (aJ 2 c) cz))) (ao (cH rfl Gc (bL (aa 2)) (aJ 3 c) (ao (bU (dO (dz (aI T.d_is_among (gw T) m (ab (aa 3) (ab (az bq rfl T.B.len bh (ab (aa 0) af)) af))))) (ao (aR (eG (ab tj (ab (aa 1) (ab (aa 3) af)))))) ba)))))
   (ao (aR gq))),?_]
 obtain⟨a,rfl,g,C,G,q⟩:=h;refine#[_,rfl,bM (λ_ e=>∃i l b,e= [some (aP a),i,l,b]) #[_,_,_,rfl] ?_ ?_]
 .rintro j d _ o ⟨i,l,b,rfl⟩ A p
  obtain⟨I,rfl⟩:=rB o;exists rfl,rfl;refine#[_,rfl,bM (λ_ e=>∃b,e= [some (aP a),some (.int (j:Int)),some (au (row a j)),b]) #[_,rfl] ?_ ?_]
  .rintro k J _ r ⟨t,rfl⟩ L u
   obtain⟨x,v,rfl⟩:=c5 r;refine#[_,rfl,_,rfl,_,_,rfl,#[rfl,?_]];have M:x<a.length:=g.rng _ _ (dM v);rw[show decide ((0:Int)<=(x:Int)/\(x:Int)<((a.map au).length:Int))=true by simp;lia]
   exact bJ (u _ #[_,rfl])
  .rintro _ ⟨t,rfl⟩
   exact p _ #[_,_,_,rfl]
 .rintro _ ⟨i,l,b,rfl⟩
  exact q
theorem yR:FnOk P w Z.K mg base cF 1 T.d_self_fault.f T.d_self_fault.fd ["rows"] (br Z xr):=by
 have i:=qc.nd;refine bA T.d_self_fault.F qc [0,0,0] (by decide) (λk R h=>by obtain⟨_,rfl,_⟩:=h;rfl) (λt A outer s H E k R l h=>?_)
 have u:=l.units
 refine#[_,(ah (cH rfl Gc (dY rfl T.B.enumerate (ab (aa 0) af)) (eH 2 rfl (aN (aJ 1 i) (aN (aJ 2 i) cz))) (ao (bU (aV u6 (aa 1) (aa 2) (by with_unfolding_all rfl)) (ao (aR (eG (ab tj (ab (aa 1) (ab (aa 1) af)))))) ba)))
   (ao (aR gq))),?_]
 obtain⟨a,rfl,g,v,x,q⟩:=h;refine#[_,rfl,bM (λ_ m=>∃b c,m= [some (aP a),b,c]) #[_,_,rfl] ?_ ?_]
 .rintro j d _ n ⟨b,c,rfl⟩ A o
  obtain⟨y,rfl⟩:=rB n;exists rfl,rfl;exists _,rfl,_,rfl,rfl,dA _,_,rfl
  have e:inD (.int (j:Int)) ((row a j).map ae)=false:=by
   have:=iH (r:=row a j) (p:=j)
   rw[GM (g.irr j)] at this;exact this
  rw[ir dD,e];exact bJ (o _ #[_,_,rfl])
 .rintro _ ⟨b,c,rfl⟩
  exact q
theorem mN(l:List a)(k:Nat)(h:k<=l.length):cutD l none (some (k:Int))=l.take k:=by
 unfold cutD;have b:HT.cA l.length 0 none=0:=rfl
 have c:HT.cA l.length l.length (some (k:Int))=k:=by
  simp only[HT.cA]
  split<;>lia
 rw[b,c];simp
theorem wX:FnOk P w Z.K mg base cF 1 T.d_twice_fault.f T.d_twice_fault.fd ["rows"] (br Z xr):=by
 have i:=nV.nd;refine bA T.d_twice_fault.F nV [0,0,0,0,0] (by decide) (λt R h=>by obtain⟨_,rfl,_⟩:=h;rfl) (λQ A outer s H E t R u h=>?_)
 have S:=u.units
 refine#[_,(ah (cH rfl Gc (dY rfl T.B.enumerate (ab (aa 0) af)) (eH 2 rfl (aN (aJ 1 i) (aN (aJ 2 i) cz))) (ao (cH rfl Gc (dY rfl T.B.enumerate (ab (aa 2) af)) (eH 2 rfl (aN (aJ 3 i) (aN (aJ 4 i) cz))) (ao (bU (aV u6 (aa 4) (jb (aa 2) kn (ko (aa 3))) (by with_unfolding_all rfl)) (ao (aR (eG (ab tj (ab (aa 1) (ab (aa 4) af)))))) ba)))))
   (ao (aR gq))),?_]
 obtain⟨a,rfl,g,U,X,q⟩:=h;refine#[_,rfl,bM (λ_ l=>∃n o b c,l= [some (aP a),n,o,b,c]) #[_,_,_,_,rfl] ?_ ?_]
 .rintro j d _ v ⟨n,o,b,c,rfl⟩ A C
  obtain⟨Y,rfl⟩:=rB v;exists rfl,rfl;refine#[_,rfl,bM (λ_ l=>∃b c,l= [some (aP a),some (.int (j:Int)),some (au (row a j)),b,c]) #[_,_,rfl] ?_ ?_]
  .rintro k d' _ G ⟨I,J,rfl⟩ A' L
   obtain⟨y,M,rfl⟩:=jd G;obtain⟨x,r,rfl⟩:=c5 M;have gY:k<(row a j).length:=(dQ.mp r).1;exists rfl,rfl;exists _,rfl,_,rfl,_,rfl;have N:cutD ((row a j).map ae) none (some (k:Int))=((row a j).take k).map ae:=by rw[mN _ _ (by simp;lia),sT]
   refine(?_:OT false (ae x) (.lst (cutD ((row a j).map ae) none (some (k:Int)))) _);rw[N];exists rfl,dA _,_,rfl
   have e:inD (ae x) (((row a j).take k).map ae)=false:=by
    rw[iH,GM];intro z;obtain⟨m,p⟩:=rG z
    have O:m<k:=by
     have:=(dQ.mp p).1
     rw[gO] at this;lia
    rw[C7 O] at p;exact absurd ((zQ (by lia) (g.nod j)).mp (p.trans r.symm)) (by lia)
   rw[ir dD,e];exact bJ (L _ #[_,_,rfl])
  .rintro _ ⟨I,J,rfl⟩
   exact C _ #[_,_,_,_,rfl]
 .rintro _ ⟨n,o,b,c,rfl⟩
  exact q
theorem yO:FnOk P w Z.K mg base cF 1 T.d_lone_fault.f T.d_lone_fault.fd ["rows"] (br Z xr):=by
 have c:=p8.nd;refine bA T.d_lone_fault.F p8 [0,0,0,0] (by decide) (λo R h=>by obtain⟨_,rfl,_⟩:=h;rfl) (λJ A outer s H E o R t h=>?_)
 have L:=t.units
 refine#[_,(ah (cH rfl Gc (dY rfl T.B.enumerate (ab (aa 0) af)) (eH 2 rfl (aN (aJ 1 c) (aN (aJ 2 c) cz))) (ao (cH rfl Gc (bL (aa 2)) (aJ 3 c) (ao (bU (aV u7 (aa 1) (aQ (aa 0) (aa 3)) (by with_unfolding_all rfl)) (ao (aR (eG (ab tj (ab (aa 1) (ab (aa 3) af)))))) ba)))))
   (ao (aR gq))),?_]
 obtain⟨a,rfl,g,M,N,q⟩:=h;refine#[_,rfl,bM (λ_ i=>∃l m b,i= [some (aP a),l,m,b]) #[_,_,_,rfl] ?_ ?_]
 .rintro j d _ u ⟨l,m,b,rfl⟩ A v
  obtain⟨O,rfl⟩:=rB u;exists rfl,rfl;refine#[_,rfl,bM (λ_ i=>∃b,i= [some (aP a),some (.int (j:Int)),some (au (row a j)),b]) #[_,rfl] ?_ ?_]
  .rintro k Q _ y ⟨z,rfl⟩ S C
   obtain⟨x,G,rfl⟩:=c5 y;have n:=dM G;have I:x<a.length:=g.rng _ _ n;exists _,rfl,_,rfl,_,rfl,_,fI (uj I),rfl,dA _,_,rfl
   have e:inD (.int (j:Int)) ((row a x).map ae)=true:=by
    have:=iH (r:=row a x) (p:=j)
    rw[FM (g.sym _ _ n)] at this;exact this
   rw[ls rfl,e];exact bJ (C _ #[_,rfl])
  .rintro _ ⟨z,rfl⟩
   exact v _ #[_,_,_,rfl]
 .rintro _ ⟨l,m,b,rfl⟩
  exact q
def wA(bs:List Bool):List D:=bs.map D.bl
theorem Lj{bs:List Bool}{i:Nat}{b:Bool}(h:bs[i]? =some b):(wA bs)[i]? =some (.bl b):=by unfold wA;rw[b7,h];rfl
theorem DJ(bs:List Bool)(i:Nat)(b:Bool):(wA bs).set i (.bl b)=wA (bs.set i b):=by unfold wA;rw[vG]
theorem DH(bs:List Bool):(wA bs).length=bs.length:=aG _
theorem j7{n k:Nat}(h:k<n):lL n (k:Int)=some k:=by unfold lL;rw[ls (by lia),ls (by lia)];simp
def Hc:cv:=λa P=>∃(w:W),a= [aP w]/\AE w/\1<=w.length/\w.length<=14/\∀bs m,RI w bs [] [] m->(∀x,bs[x]? =some true->Reach w 0 x)->P (.lst (wA bs))
def Met(w:W)(bs:List Bool):Prop:=∀x,bs[x]? =some true->Reach w 0 x
theorem mZ:FnOk P w Z.K mg base cF 1 T.d_reached_from_first.f T.d_reached_from_first.fd ["rows"] (br Z Hc):=by
 have v:=iT.nd;refine bA T.d_reached_from_first.F iT [0,1,1,0,0] (by decide) (λds R h=>by obtain⟨_,rfl,_⟩:=h;rfl) (λbG A outer s H E ds R hr h=>?_)
 have hu:=hr.units
 refine#[_,(ah (Ju 1 (NC:= ["row"]) (src:= [none]) rfl v (qT (av eo)) trivial (bL (aa 0)) (λ_ _ _=>(cw 0 (show(["row"]:List Str).Nodup from by decide+kernel))) (λ_ _ _=>e8) (λ_ _ _=>fq))
   (ah (AN false 1 ay fq)
   (ah (gT 2 v (gS (ab ay af)))
   (ah (j4 Gc (dz (aa 2)) (ah (O6 3 2 v)
   (ao (cH rfl Gc (bL (aQ (aa 0) (aa 3))) (aJ 4 v) (ao (bU (dO (dz (aQ (aa 1) (aa 4)))) (ah (AN false 1 (aa 4) fq)
   (ao (mP false 2 (aa 4)))) ba))))))
   (ao (aR (aa 1))))))),?_]
 obtain⟨c,rfl,g,h1,bX,q⟩:=h;refine#[_,rfl,jr (ρ:= [none]) au (λ_=> .bl false) c _ (λy b Y h=>h) rfl (small (by lia)) λaL=>?_]
 have e0:c.map (λ_=>D.bl false)=wA (ak c.length false):=by unfold wA;rw[List.map_replicate,List.map_const']
 rw[e0];refine#[trivial,_,rfl,0,0,rfl,by rw[DH,zZ];exact j7 (k:=0) (by lia),?_]
 rw[DJ];refine#[by show 1<=sizeLine;decide,?_]
 refine jm (λm ρ=>∃(bs:List Bool)(l:List Nat)(U B:Option D),ρ= [some (aP c),some (.lst (wA bs)),some (.lst (l.map ae)),U,B]/\RI c bs l [] m/\Met c bs/\m<=14/\bs.count false+l.length=m) c.length ?_ ?_
 .refine#[_,[0],none,none,rfl,#[by simp,?_,?_,λx d=>?_,?_],λx d=>?_,bX,?_]
  .rw[n6,ls rfl,ls (by rw[zZ];lia)]
  .intro x d
   have:x=0:=by simpa using d
   rw[this,n6,ls rfl,ls (by rw[zZ];lia)]
  .by_cases e:0=x
   .exact .inl (by rw[<-e];simp)
   .rw[n6,ir e,zX] at d
    split at d<;>cases d
  .rw[abC (by rw[zZ];lia),abS,aci]
   simp;lia
  .by_cases e:0=x
   .rw[<-e];exact .refl _
   .rw[n6,ir e,zX] at d
    split at d<;>cases d
  .rw[abC (by rw[zZ];lia),abS,aci]
   simp;lia
 .rintro m _ ⟨bs,l,U,B,rfl,C,mt,hc,X⟩
  exists _,rfl,rfl
  rcases abh l with rfl| ⟨M,p,e⟩
  .exact bJ #[_,rfl,q bs m C mt]
  .rw[Dc] at e
   subst e;rw[show zv (.lst ((M++ [p]).map ae))=true by simp[zv]]
   refine dH ?_;rw[cE] at X;simp only[zJ] at X;obtain⟨o,rfl⟩:∃o,m=o+1:=#[m-1,by lia]
   have N:=C.pop;have hp:bs[p]? =some true:=C.wt p (by simp)
   have An:p<c.length:=by rw[<-C.len];exact(dQ.mp hp).1
   refine#[M.map ae,ae p,by rw[c8];rfl,?_]
   refine#[_,rfl,_,rfl,_,fI (uj An),bM (λj ρ=>∃(a:List Bool)(i:List Nat)(B:Option D),ρ= [some (aP c),some (.lst (wA a)),some (.lst (i.map ae)),some (ae p),B]/\RI c a i [p] o/\Met c a/\(∀k y,k<j->(row c p)[k]? =some y->a[y]? =some true)/\a.count false+i.length=o) ?_ ?_ ?_]
   .exact#[bs,M,_,rfl,N,mt,(λk n r=>by lia),by lia]
   .rintro j x _ d ⟨a,i,o5,rfl,t,G,I,O⟩ A hA
    obtain⟨n,J,rfl⟩:=c5 d;have Q:=g.rng _ _ (dM J);have S:n<a.length:=by rw[t.len];exact Q
    have u:a[n]? =some (a[n]):=b8 S;exists _,rfl,_,rfl,_,fI (Lj u),rfl;generalize a[n]=bn at u;cases bn with
    |true=>
     refine bJ (hA _ #[a,i,_,rfl,t,G,λk y r b=>?_,O])
     by_cases e:k=j
     .rw[e,J] at b;cases b;exact u
     .exact I k y (by lia) b
    |false=>
     refine dH ?_;refine#[trivial,_,rfl,_,rfl,_,n,rfl,by rw[DH];exact j7 S,?_]
     rw[DJ];have L:=t.push u;have aac:=L.cnt;refine#[_,rfl,_,rfl,trivial,dG (by rw[aG];lia),?_]
     have er:i.map ae++ [ae n]=(i++ [n]).map ae:=by rw[c8];rfl
     rw[er];refine hA _ #[a.set n true,i++ [n],_,rfl,L,λy b=>?_,λk y r b=>?_,?_]
     .by_cases e:n=y
      .rw[<-e];exact .step (mt p hp) (dM J)
      .rw[n6,ir e] at b;exact G y b
     .rw[n6]
      by_cases e:n=y
      .rw[ls e,ls S]
      .rw[ir e]
       refine I k y ?_ b;apply Da;intro z
       have:k=j:=by lia
       rw[this,J] at b;cases b;exact e rfl
     .obtain⟨hl,he⟩:=dQ.mp u
      have:0<a.count false:=vB.mpr (by rw[<-he];exact uA hl)
      rw[abC hl,he,cE];simp;lia
   .rintro _ ⟨a,i,o5,rfl,t,G,I,O⟩
    have L:=t.close λy b=>by
     obtain⟨k,r⟩:=rG b;exact I k y (by rw[aG];exact(dQ.mp r).1) r
    exact#[o,by lia,a,i,_,_,rfl,L,G,by lia,O]
def E6:cv:=λa P=>∃(w:W),a= [aP w]/\AE w/\1<=w.length/\w.length<=14/\(Good w->P .non)/\(¬Good w->∀q,P (.tup [.str "apart", .int 0,ae q]))
theorem wW:FnOk P w Z.K mg base cF 2 T.d_apart_fault.f T.d_apart_fault.fd ["rows"] (br Z E6):=by
 have n:=nQ.nd;refine bA T.d_apart_fault.F nQ [0,0,0] (by decide) (λu R h=>by obtain⟨_,rfl,_⟩:=h;rfl) (λO A outer s H E u R o h=>?_)
 have Q:=o.units
 refine#[_,(ah (cH rfl Gc (dY rfl T.B.enumerate (ab (aI T.d_reached_from_first (mZ T) o (ab (aa 0) af)) af)) (eH 2 rfl (aN (aJ 1 n) (aN (aJ 2 n) cz))) (ao (bU (dO (dz (aa 2))) (ao (aR (eG (ab tj (ab ay (ab (aa 1) af)))))) ba)))
   (ao (aR gq))),?_]
 obtain⟨q,rfl,g,v,z,C,G⟩:=h;refine#[_,rfl,q,rfl,g,v,z,λbs m r mt=>bM (λk I=>(∀x,x<k->bs[x]? =some true)/\∃c i,I= [some (aP q),c,i]) #[λx t=>absurd t (ab6 x),_,_,rfl] ?_ ?_]
 .rintro j d _ J ⟨l,c,i,rfl⟩ A L
  obtain⟨y,M,rfl⟩:=jd J;obtain⟨b,a,rfl⟩:=c5 M;exists rfl,rfl;cases b with
  |true=>
   refine#[_,rfl,rfl,bJ (L _ #[λx t=>?_,_,_,rfl])]
   by_cases e:x=j
   .rw[e];exact a
   .exact l x (by lia)
  |false=>
   refine#[_,rfl,rfl,dH #[_,rfl,by show 3<=sizeLine;decide,G (λN=>?_) j]]
   have:=r.all N
   rw[this,zX] at a
   split at a<;>cases a
 .rintro _ ⟨l,c,i,rfl⟩
  refine C (g.good λp S=>mt p (l p ?_))
  have:=r.len
  unfold wA iE;simp;lia
theorem nJ:FnOk P w Z.K mg base cF 3 T.d_first_fault.f T.d_first_fault.fd ["rows"] (br Z E6):=by
 have b:=nS.nd;refine bA T.d_first_fault.F nS [0,0] (by decide) (λj R h=>by obtain⟨_,rfl,_⟩:=h;rfl) (λm A outer s H E j R a h=>?_)
 have n:=a.units
 refine#[_,(ah (bz false 1 b (aI T.d_alien_fault (wV T) a (ab (aa 0) af)))
   (ah (bU (aV Cw (aa 1) gq (bf _)) (ao (bz false 1 b (aI T.d_self_fault (yR T) a (ab (aa 0) af)))) ba)
   (ah (bU (aV Cw (aa 1) gq (bf _)) (ao (bz false 1 b (aI T.d_twice_fault (wX T) a (ab (aa 0) af)))) ba)
   (ah (bU (aV Cw (aa 1) gq (bf _)) (ao (bz false 1 b (aI T.d_lone_fault (yO T) a (ab (aa 0) af)))) ba)
   (ah (bU (aV Cw (aa 1) gq (bf _)) (ao (bz false 1 b (aI T.d_apart_fault (wW T) a (ab (aa 0) af)))) ba)
   (ao (aR (aa 1)))))))),?_]
 obtain⟨c,rfl,g,d,e,k,l⟩:=h;exists _,rfl,c,rfl,g,d,e,trivial;refine#[_,rfl,_,rfl,dH #[_,rfl,c,rfl,g,d,e,trivial,?_]];refine#[_,rfl,_,rfl,dH #[_,rfl,c,rfl,g,d,e,trivial,?_]];refine#[_,rfl,_,rfl,dH #[_,rfl,c,rfl,g,d,e,trivial,?_]];refine#[_,rfl,_,rfl,dH #[_,rfl,c,rfl,g,d,e,λi=>#[trivial,_,rfl,k i],λi q=>#[trivial,_,rfl,l i q]]]
theorem mv{P:Program}{w:World}{base:Heap}{Z:DC}(T:Txt Z l):FnOk P w Z.K l base cF 4 T.i_f T.i_fd ["self","turns"] (E7 Z):=by
 have Mh:=nJ (P:=P) (w:=w) (base:=base) T;have m:=mB.nd;refine T.i_F.ok mB (λJ H Q E h=>?_) (λbG A outer s H J Q E n h=>?_)
 .obtain⟨p,r,v,G,a,rfl,_⟩:=h;rfl
 obtain⟨p,r,v,G,a,rfl,u,L,M,dv,g,N,O,q⟩:=h;have hu:=n.units
 refine#[_,dB (t:=se Z _ [0,0,0,0] 0 _)
   (bU (dO (Jy Cy Cy ay (az bq rfl T.B.len bh (ab (aa 1) af)) (Jp rfl T.c_MOST_POINTS))) (ao jc) ba)
  (dB (t:=se Z _ [0,0,0,0] 0 _)
   (Jx 2 (NC:= ["row"]) (src:= [none]) rfl m (qT (av fG)) trivial (bL (aa 1)) (λ_ _ _=>(cw 0 (show(["row"]:List Str).Nodup from by decide+kernel))) (λ_ _ _=>e8) (λ_ _ _=>(km xN rfl T.B.list sW (ab (aa 0) af))))
  (dB (t:=se Z _ [0,0,0,0] 0 _)
   (bz false 3 m (aI T.d_first_fault (nJ T) n (ab (aa 2) af)))
  (dB (t:=se Z _ [0,0,0,0] 0 _)
   (bU (aV Be (aa 3) gq (bf _)) (ao jc) ba)
  (pM (QC (pv 0) (pv 2) rfl))))),?_]
 have x:(a.map au).length=a.length:=aG _;refine#[#[G,H,G],[some (.obj p),some (aP a),none,none],{nx:=λρ=>ρ= [some (.obj p),some (aP a),none,none],rt:=λ_=>False},#[G,λ_=> [],?_],?_,#[?_,λ_ z=>z.elim,λ_ z=>z.elim,λ_ z=>z.elim,λ_ _ z=>z.elim]]
 .refine#[.refl L, .refl _,rfl,λi d c=>?_,λ_=>gQ,(λ_ _ _ _ z=>by cases z),(λ_ _ z=>by cases z)]
  match i,c with
  |0,c=>cases c;exact#[_,rfl, .obj p,rfl]
  |1,c=>cases c;exact#[_,rfl,dv,rfl]
  |2,c=>cases c
  |3,c=>cases c
  |i+4,c=>cases c
 .have S:D.bl (decide ((1:Int)<=((a.map au).length:Int)))= .bl true:=FS D.bl (FM (by rw[x];lia))
  have U:D.bl (decide (((a.map au).length:Int)<=14))= .bl true:=FS D.bl (FM (by rw[x];lia))
  exact#[_,rfl,true,S,dH #[true,U,bJ rfl]]
 rintro _ rfl HC H1 X;refine#[#[G,H,G],_,{nx:=λρ=>ρ= [some (.obj p),some (aP a),some (aP a),none],rt:=λ_=>False},X,?_,#[?_,λ_ z=>z.elim,λ_ z=>z.elim,λ_ z=>z.elim,λ_ _ z=>z.elim]]
 .exact#[_,rfl,jr (ρ:= [none]) au au a _ (λy hy Y h=>#[_,rfl,h]) rfl (small (by lia)) λaL=>#[trivial,rfl]]
 rintro _ rfl fL H2 S2;refine#[#[G,H,G],_,{nx:=λρ=>ρ= [some (.obj p),some (aP a),some (aP a),some .non],rt:=λ_=>False},S2,?_,#[?_,λ_ z=>z.elim,λ_ z=>z.elim,λ_ z=>z.elim,λ_ _ z=>z.elim]]
 .exact#[_,rfl,a,rfl,g.near,N,O,λ_=>#[trivial,rfl],λz=>absurd g z]
 rintro _ rfl xa H3 S3;refine#[#[G,H,G],_,{nx:=λρ=>ρ= [some (.obj p),some (aP a),some (aP a),some .non],rt:=λ_=>False},S3,?_,#[?_,λ_ z=>z.elim,λ_ z=>z.elim,λ_ z=>z.elim,λ_ _ z=>z.elim]]
 .exact#[_,rfl,_,rfl,bJ rfl]
 rintro _ rfl gb H4 ⟨F,fp,f⟩;obtain⟨v0,i3,o0⟩:=f.at_ 0 _ rfl;obtain⟨v2,Pz,o2⟩:=f.at_ 2 _ rfl;obtain⟨d0,_⟩:=o0;obtain⟨I,_⟩:=o2;cases d0;have Z4:=I;cases I with
 | @lst R xs ds hR e=>
  have k:=f.ex.hh _ _ u;refine#[_,Pz,_,i3,p,Z.C,r,[],rfl,k,T.W.cl,T.W.nR,by decide,?_]
  have g4:F p=none:=f.ex.off p (by show H p≠none;rw[u];exact λz=>nomatch z) M
  refine q R F _ f.ex.gg (λb o j=>?_) (λb o j nb=>?_) f.ex.off ax Z4
  .rw[aB (aW j g4)];exact f.ex.sub _ _ j
  .rw[aB nb];exact f.ex.hh _ _ j
def QV:cv:=λa P=>∃(w:W),a= [.dm w]/\P (.int (w.length:Int))
theorem jW:FnOk P w Z.K mg base cF 1 T.m_many.f T.m_many.fd ["self"] (br Z QV):=by
 have d:=ua.nd;refine bA T.m_many.F ua [0] (by decide) (λb R h=>by obtain⟨_,rfl,_⟩:=h;rfl) (λe A outer s H E b R c h=>?_)
 have g:=c.units;exists _,(ao (aR (az bq rfl T.B.len bh (ab (l7 T.W (aa 0)) af))));obtain⟨a,rfl,q⟩:=h;exists _,rfl,a,rfl;refine(?_:R (.int ((a.map au).length:Int)));rw[aG];exact q
def Oh:cv:=λa P=>∃(w:W),a= [.dm w]/\w.length<=14/\P (aP w)
end Fw
namespace L2
open PySem PySem.Spec PyProof.Rows
section
variable {Z:DC} {X:Cx} {md:List Nat} {rn:Nat} {e:Expr} {pos p2:Pos} {te:bp} {t:jB} {lo hi:Option Expr} {tl th:Ft}
def S8(t:jB):cX:=λE a=>t a λb=>E.rt (.lst b)
theorem xY(g:DF Z X rn e t):DSt Z X md rn (.Return (some e) pos) (S8 t):=by
 refine(m9 g).imp λD C H j=>?_;rfl';obtain⟨B,l,E,⟨G,m,S⟩,h,M⟩:=j;ac_rfl
 let F:Addr->Prop:=λb=>∃i,b∈m i
 have s:=S.ex.sub
 have n:Ext B.G₀ B.H₀ (plus G H F) H:=#[S.ex.gg.trans (eF s),h8 s,S.ex.hh,λb a p=>by
  rw[h7 (λ#[i,q]=>a (S.nw i b q).1)];exact S.ex.off b a p]
 refine#[plus G H F,l,_,h8 s,#[S.len,λi d h=>?_],h,λJ r v f w y x o z c=>M.rt _ r v f w y (n.trans x) o z λb a=>#[S.ex.hh.free (c b a).1,(c b a).2]];obtain⟨v,A,o⟩:=S.at_ i d h;exact#[v,A,o.dv (eF s) λb a u e=>by rw[kF #[i,a]];exact e]
end
theorem cg.set{R:V->D->List Addr->Prop}:∀{j:List V}{t:List D}{i:List Addr}(p:Nat){v:V}{d:D}{f:List Addr},cg R j t i->p<j.length->R v d f->i.Nodup->f.Nodup->(∀b∈f,b∉i)->
  ∃k,cg R (j.set p v) (t.set p d) k/\k.Nodup/\∀b∈k,b∈i\/b∈f
 |_,_,_,_,_,_,_, .nil,h,_,_,_,_=>by simp at h
 |_,_,_,0,v,d,f, .cons (f:=u) (fs:=fs) a l,_,r,m,n,off=>by
  obtain⟨w,q,x⟩:=c9.mp m;refine#[f++fs, .cons r l,c9.mpr #[n,q,λb g c s e=>off b g (cN _ (e▸s))],λb g=>?_]
  rcases bH.mp g with g|g
  .exact .inr g
  .exact .inl (cN _ g)
 |_,_,_,p+1,v,d,f, .cons (f:=u) (fs:=fs) a l,h,r,m,n,off=>by
  obtain⟨w,q,x⟩:=c9.mp m;obtain⟨A,o,B,y⟩:=cg.set p l (by simpa using h) r q n λb g z=>off b g (cN _ z)
  refine#[u++A, .cons a o,c9.mpr #[w,B,λb g c s e=>?_],λb g=>?_]
  .rcases y c s with z|z
   .exact x b g c z e
   .exact off c z (fj _ (e▸g))
  .rcases bH.mp g with g|g
   .exact .inl (fj _ g)
   .rcases y b g with z|z
    .exact .inl (cN _ z)
    .exact .inr z
section
variable {Z:DC} {X:Cx} {md:List Nat} {rn:Nat} {e k:Expr} {pos:Pos} {tk:bp} {t:jB}
variable {B:Bs} {ρ:DN} {σ:St} {H G:Hp} {fp:Nat->List Addr}
theorem SIx.Va{f:List Addr}(S:SIx Z B md ρ σ H G fp)(v:σ[i]? =some (some (.ref T)))(r:T∈fp i)(o:Own Z G (upd H T c) (md.getD i 0) (.ref T) q f)(nd:f.Nodup)
  (nw:∀b∈f,B.H₀ b=none/\H b≠none/\G b=none) (ap:∀b∈f,∀j,j≠i->b∉fp j):SIx Z B md (ρ.set i (some q)) σ (upd H T c) G (λj=>if j=i then f else fp j) where
 ex:=by
  obtain⟨d,m,g⟩:=S.nw i T r;exact#[S.ex.gg,λx u e=>by rw[aB (aW e g)];exact S.ex.sub _ _ e,λx u e=>by rw[aB (aW e d)];exact S.ex.hh _ _ e,S.ex.off]
 fl:=S.fl
 len:=by rw[f9];exact S.len
 at_:=λj w h=>by
  by_cases z:i=j
  .subst z
   by_cases p:i<ρ.length
   .rw[lF p] at h
    cases h;exact#[_,v,by rw[ls rfl];exact o]
   .rw[zW (jS p),iu (jS p)] at h;cases h
  .rw[lG z] at h
   obtain⟨u,A,C⟩:=S.at_ j w h;exists u,A;rw[ir (Ne.symm z)];exact C.keep (.refl _) λb a=>aB λy=>S.ap i j T z r (y▸a)
 nd:=λj=>by split;exact nd;exact S.nd j
 ap:=λj k b ne n l=>by
  split at n
  .next z=>
   rw[ir (λw=>ne (z.trans w.symm))] at l;exact ap b n k (λw=>ne (z.trans w.symm)) l
  .next z=>
   split at l
   .exact ap b l j z n
   .exact S.ap j k b ne n l
 nw:=λj b a=>by
  have s:∀b,H b≠none->upd H T c b≠none:=λb a=>by
   by_cases z:b=T
   .subst z;rw[ax];exact λw=>nomatch w
   .rw[aB z];exact a
  split at a
  .obtain⟨d,m,g⟩:=nw b a;exact#[d,s b m,g]
  .obtain⟨d,m,g⟩:=S.nw j b a;exact#[d,s b m,g]
def Jo(i:Nat)(c:bp)(t:jB):cX:=λE a=>t a λd=>d.all fw=true/\∃b,a[i]? =some (some (.lst b))/\c a λf=>∃k j,f= .int k/\lL b.length k=some j/\E.nx (a.set i (some (.lst (b.set j (.lst d)))))
theorem D0(i:Nat)(hk:DE Z X k tk)(he:DF Z X 1 e t)(y:md.getD i 0=2:=by rfl)(hi:X.N[i]? =some x:=by rfl)(hv:kN X.env.scope x:=by subst_eqs)(hd:(x==("__debug__":Str))=false:=by decide)(eE:(x==("__classdict__":Str))=false:=by decide)
  (ha:∀v,assign (.Subscript (.Name x n) k p) X.env v=(do
   let s <-holding [v] (eval (.Name x n) X.env)
   let A <-holding [v,s] (eval k X.env)
   standAt p
   holding [v,s,A] (setItem s A v)
   release [v,s,A] []):=by intro _;rfl)
  (hs:swapsWithSole [.Subscript (.Name x n) k p] e pos.line X.env=pure false:=by rfl) (hw:swappedStores [.Subscript (.Name x n) k p] e X.env=pure none:=by rfl)
  (u:(assignEach [.Subscript (.Name x n) k p] X.env).map (·.2)= [assign (.Subscript (.Name x n) k p) X.env]:=by rfl):DSt Z X md rn (.Assign [.Subscript (.Name x n) k p] e pos) (Jo i tk t):=by
 refine(lh he (qJ (pv i hi hv hd eE) hk set_list ha) hs hw u).imp ?_;rintro D σ H ⟨B,ρ,E,⟨G,fp,S⟩,h,M⟩;exists H,ρ,_, .refl _,S.D3,h;rintro d ⟨JO,ds,u,h⟩ v f G' H' x o nd nw;have x':=Ext.all S.ex.sub x;have Y:=S.grow x';obtain⟨a,xs,eM,fh,rfl,ed,WO,T4,ol⟩:=o.lst;cases ed;obtain⟨dv,rfl⟩:=ol.flat;have c:H a=none:=(nw a (by rw[T4];simp)).1
 have ga:G a=none:=S.ex.sub.free c;have C:∀j,a∉fp j:=λj z=>(S.nw j a z).2.1 c;obtain⟨v0,F,o0⟩:=Y.at_ i _ u;rw[y] at o0;obtain⟨T,ys,_,fpT,rfl,eT,hT,hfT,oT⟩:=o0.lst;refine#[_,F,Y.ev true h ?_];rintro _ ⟨k,j,rfl,g,h3⟩;refine#[rfl,λv1 I H1 q x1 qV=>?_];cases qV;obtain⟨v2,Pz,Yq⟩:=q.at_ i _ u;rw[y] at Yq;obtain⟨T2,J,ds2,D7,rfl,e2,Mn,l,L⟩:=Yq.lst;cases e2;rw[F] at Pz;cases Pz;have P8:=q.nd i;rw[l] at P8;obtain⟨nT,i4⟩:=bS.mp P8;have aT:a≠T:=λz=>C i (by rw[l,z];simp)
 have a1:H1 a=some (.lst xs):=x1.hh _ _ WO;have O:I a=none:=x1.off a (by rw[WO];exact λz=>nomatch z) ga
 have P:j<J.length:=by
  have:=L.length
  unfold lL at g
  split at g
  .split at g
   .cases g;lia
   .cases g
  .split at g
   .cases g;lia
   .cases g
 obtain⟨Q,on,U,sub⟩:=cg.set (R:=Own Z I H1 1) j (v:= .ref a) (d:= .lst d) (f:= [a]) L P (.inl #[a,xs,d,[],rfl,rfl,a1,rfl,((dv.flat JO).own)]) i4 (by simp) (λb c z=>by
  have:b=a:=by simpa using c
  subst this;exact C i (by rw[l];exact bP _ z))
 have Tn:T∉Q:=λz=>by
  rcases sub T z with z|z
  .exact nT z
  .exact aT ((by simpa using z:T=a).symm)
 refine#[T,J,k,j,rfl,rfl,Mn,by rw[L.length];exact g,M.nx _ h3 _ _ #[I,_,q.Va (f:=T::Q) F (by rw[l];simp) ?_ (bS.mpr #[Tn,U]) (λb c=>?_) (λb c m qY=>?_)]]
 .rw[y]
  exact .inl #[T,J.set j (.ref a),_,Q,rfl,rfl,ax,rfl,on.imp λv d f hf r=>r.keep (.refl _) λb c=>aB λz=>Tn (by rw[<-z];exact hf b c)]
 .rcases bo.mp c with rfl|c
  .exact q.nw i _ (by rw[l];simp)
  .rcases sub b c with z|z
   .exact q.nw i b (by rw[l];exact bP _ z)
   .have:b=a:=by simpa using z
    subst this;exact#[S.ex.hh.free (by assumption),(by rw[a1];exact λz=>nomatch z),O]
 .rcases bo.mp c with rfl|c
  .exact λz=>q.ap i m _ (Ne.symm qY) (by rw[l];simp) z
  .rcases sub b c with z|z
   .exact λw=>q.ap i m b (Ne.symm qY) (by rw[l];exact bP _ z) w
   .have:b=a:=by simpa using z
    subst this;exact C m
end
section
variable {X:Cx} {e k:Expr} {te tk:TE} {pos p2:Pos}
end
section
variable {Z:DC} {X:Cx} {md:List Nat} {rn:Nat} {e e2 k:Expr} {es:List Expr} {pos p2 apos aK:Pos} {te tk tp:bp} {t u:jB}
def SV(b:List Nat)(i:Nat)(c:cv)(t:i7):cX:=λE a=>t (dF b a) λf=>c f λd=>E.nx (a.set i (some d))
theorem LW(i:Nat){t:i7}{k:Nat}(P:X.N.Nodup)(F:FnOk X.prog X.w X.K X.mg X.base cF k f z C (c4 Z n l))(Q:cP k X.A)(R:Gl X y)(T:X.mg y=some (.ref f))(U:ar X.K (.ref f)=true)(a:Binds X.K z C [])
  (Y:DA Z X (e::g) t) (u:(y==("__debug__":Str))=false:=by decide) (he:starEach (e::g) X.env=(false,eval e X.env)::starEach g X.env:=by rfl) (eX:(backTo I (starEach g X.env)).any (·.1)=false:=by rfl)
  (hm:J.getD i 0=n:=by rfl) (hi:X.N[i]? =some x:=by rfl) (hx:Loc X.env.scope x:=by subst_eqs) (hs:swapsWith (.Call (.Name y p) (e::g) [] I) (some (.Name x c)) m.line X.env=pure false:=by rfl)
  (hf:X.fn x=true\/X.env.scope.names.lookup x=some .local:=by subst_eqs):DSt Z X J rn (.Assign [.Name x c] (.Call (.Name y p) (e::g) [] I) m) (SV J i l t):=by
 refine(jY P hi hx (pL F Q R T U a .nil m7 Y u he eX) hs hf).imp ?_;rintro D σ H ⟨B,ρ,E,⟨G,fp,S⟩,h,M⟩;refine#[G,_,_,S.ex.sub,S.yc,h,λds q vs G1 H1 r bC=>?_];show c4 Z n l (vs++ []) H1 _ E0;rw[f7];refine#[G1,ds,_,r.sub,bC,q,λd q v f L H2 x2 o nd O=>?_];have x:=r.trans x2;have s:∀b∈f,H b=none/\H2 b≠none/\L b=none:=λb a=>#[r.hh.free (O b a).1,(O b a).2];exact M.nx _ q _ _ #[L,_,(S.grow x).IJ hm o nd (λb a=>#[S.ex.hh.free (s b a).1,(s b a).2]) λb a j _ hj=>(S.nw j b hj).2.1 (s b a).1]
theorem cg.Ri:∀{m:List V}{n:List D}{j:List Addr}(p:Nat){ds:List D},cg (λv d f=>(yw d=true/\Own Z G H 1 v d f)\/(yw d=false/\Dv Z G v d/\f= [])) m n j->j.Nodup->n[p]? =some (.lst ds)->∃l c,m[p]? =some (.ref l)/\H l=some (.lst c)/\DvAll Z G c ds/\l∈j/\
  ∀g i,DvAll Z G g i->cg (λv d f=>(yw d=true/\Own Z G (upd H l (.lst g)) 1 v d f)\/(yw d=false/\Dv Z G v d/\f= [])) m (n.set p (.lst i)) j
 |_,_,_,_,_, .nil,_,h=>by simp at h
 |_,_,_,0,dp, .cons (f:=f) (fs:=fs) a o,q,h=>by
  simp at h;subst h
  rcases a with ⟨_,a⟩ | ⟨e,_⟩
  .obtain⟨l,c,ds,j,rfl,e,A,s,B⟩:=a.one
   cases e;obtain⟨dv,rfl⟩:=B.flat;subst s;refine#[l,c,rfl,A,dv,by simp,λg i w=> .cons (.inl #[rfl, .inl #[l,g,i,[],rfl,rfl,ax,rfl,w.own]]) (o.imp λv d f s r=>r.imp (λr=>#[r.1,r.2.keep (.refl _) λb x=>aB λz=>?_]) id)]
   have:=(bS.mp q).1
   exact this (by subst z;exact s _ x)
  .cases e
 |_,_,_,p+1,dp, .cons (f:=f) (fs:=fs) a o,q,h=>by
  obtain⟨M,C,E⟩:=c9.mp q;obtain⟨l,c,F,I,J,y,L⟩:=cg.Ri p (ds:=dp) o C (by simpa using h)
  refine#[l,c,by simpa using F,I,J,cN _ y,λg i w=>?_]
  refine .cons (a.imp (λr=>#[r.1,r.2.keep (.refl _) λb x=>aB λz=>E b x l y z]) id) (L g i w)
theorem SIx.Zd(S:SIx Z B md g j H G n)(q:md.getD i 0=2)(h:g[i]? =some (some (.tup b)))(y:b[p]? =some (.lst m)):∃T a l c r,D.lst m= .lst r/\j[i]? =some (some (.ref T))/\H T=some (.tup a)/\a.length=b.length/\a[p]? =some (.ref l)/\H l=some (.lst c)/\DvAll Z G c r/\
  ∀d f,DvAll Z G d f->SIx Z B md (g.set i (some (.tup (b.set p (.lst f))))) j (upd H l (.lst d)) G n:=by
 obtain⟨v,s,o⟩:=S.at_ i _ h;rw[q] at o;obtain⟨T,a,rfl,w,x⟩:=o.tup;obtain⟨l,c,z,A,C,E,F⟩:=cg.Ri p x (S.nd i) y;refine#[T,a,l,c,m,rfl,s,S.ex.sub _ _ w,x.length,z,A,C,λd f I=>S.mut s E ?_];rw[q];exact .inr (.inl #[by decide,T,a,_,rfl,rfl,w,F d f I])
def Jm(i:Nat)(c:bp):cX:=λE b=>∃a,b[i]? =some (some (.tup a))/\c b λd=>∃p j f,d= .int p/\lL a.length p=some j/\a[j]? =some (.lst f)/\E.nx (b.set i (some (.tup (a.set j (.lst [])))))
theorem DY(i:Nat)(m:DE Z X k tp)(n:md.getD i 0=2:=by rfl)(q:sV k:=by exact λ_ _=>rfl)
  (r:X.N[i]? =some x:=by rfl) (s:kN X.env.scope x:=by subst_eqs) (c:(x==("__debug__":Str))=false:=by decide) (v:(x==("__classdict__":Str))=false:=by decide)
  (w:attributeBase (.Subscript (.Name x a) k b) "clear" X.env (eval (.Subscript (.Name x a) k b) X.env)=eval (.Subscript (.Name x a) k b) X.env:=by rfl) (y:(apos.endLine==aK.line)=true:=by rfl)
  (z:swapsWith (.Call (.Attribute (.Subscript (.Name x a) k b) "clear" apos) [] [] aK) none pos.line X.env=pure false:=by rfl):DSt Z X md rn (.Expr (.Call (.Attribute (.Subscript (.Name x a) k b) "clear" apos) [] [] aK) pos) (Jm i tp):=by
 refine(fW (Iv Os PySem.F.slot_list_clear PySem.F.type_list_clear J8 (GK Ih (pv i r s c v) m q) w y) z).imp ?_;rintro D t H ⟨B,u,E,⟨G,A,S⟩,⟨fJ,f,h⟩,M⟩;obtain⟨v0,d,o⟩:=S.at_ i _ f;refine#[_,d,S.ev true h ?_];rintro _ ⟨p,j,ds,rfl,C,c,h⟩;refine#[rfl,λv1 I H1 J x1 L=>?_];cases L;obtain⟨T,O,l,P,eM,Q,R,U,Y,e,g,bC,put⟩:=J.Zd n f c;cases Q;rw[R] at d;cases d;exact#[T,O,p, .ref l,rfl,rfl,fg.of U,BC Y C e,ty_list g,l,P,rfl,rfl,g,M.nx _ h _ _ #[I,A,put [] [] .nil]]
end
section
variable {Z:DC} {X:Cx} {md:List Nat} {rn:Nat} {elt t0 i0 t1 i1:Expr} {f0 f1:List Expr} {scope:Scope} {pos:Pos} {wi hU:jC} {g g1:fc} {tt fH:eI} {te:bp} {src:List (Option Nat)} {NC:List Str}
end
section
variable {Z:DC} {X:Cx}
theorem t8(a:List Int):∀n,n<=a.length->preSum (λi=>a.getD i 0) n=(a.take n).sum
 |0,_=>by simp[preSum]
 |n+1,h=>by
  have:=t8 a n (by lia)
  rw[preSum,this,abc (by lia),List.sum_append,ck,b8 (by lia)]
  simp
theorem FI(m:X.calm=true):cB X (.builtin "sum") (λf H Q=>∃(p:Addr)(c:List Int),f= [.ref p]/\H p=some (.lst (c.map V.int))/\Q (.int c.sum) H):=by
 intro g s L H f M Q I n h;rfl';obtain⟨p,c,rfl,y,q⟩:=h;obtain⟨u,rfl,z⟩:=n.one;subst z;obtain⟨a,r,pl,O⟩:=I.list (cY.of y);have j:=r.length;rw[aG] at j;ac_rfl;refine call_sum_walkG (aa1 pl.isList ?_)
 have k:p<s.heap.objs.size:=by
  obtain⟨o,B,_⟩:=pl.isList;exact FB B
 have C:p≠s.heap.objs.size:=bV k;refine#[_,_,_,a.toArray.size,_,_,λi=>c.getD i 0,rfl,Walks.list (show X.A.in1.handled=none from I.ok.hd m) s.heap.objs.size p C a.toArray,#[#[_,GE _ rfl,rfl,rfl],pl.isList.push _],?_,?_,λE P R F=>?_]
 .intro b l
  show b<(s.heap.push _).objs.size;rw[aaY];simp only[bo,abd,or_false] at l
  rcases l with rfl|rfl
  .exact zR _
  .exact rK k
 .intro i v G
  have d:a[i]? =some v:=by simpa using G
  have S:i<a.length:=(dQ.mp d).1;obtain⟨w,hw,J⟩:=r.get (i:=i) (x:= .int (c.getD i 0)) (by rw[b7,ck,b8 (by lia)];rfl)
  rw[hw] at d;cases Do d;exact J
 .have kept:∀b o,s.heap.get? b=some o->E.get? b=some o:=λb o e=>F b o (by simp;exact bV (FB e)) (tz _ e)
  have e:preSum (λi=>c.getD i 0) a.toArray.size=c.sum:=by
   rw[dN,<-j,t8 c _ (bb _),wk (bb _)]
  rw[e];exact#[.int _,H,I.kept kept,#[_,rfl],q]
def VZ:cv:=λb P=>∃a:List Int,b= [.lst (a.map D.int)]/\P (.int a.sum)
theorem HM(b:X.calm=true):cB X (.builtin "sum") (gE Z VZ):=by
 refine(FI b).imp ?_;rintro g H Q ⟨G,i,P,s,dv,⟨c,rfl,d⟩,q⟩;cases dv with
 |cons a f=>
  cases f;cases a with
  |lst h e=>exact#[_,c,rfl,tB e▸s _ _ h,q _ d _ G H (.refl s) (.int _)]
theorem HK:bootBuiltins "sum"=some (.builtin "sum"):=by decide+kernel
end
theorem dW.ok{P:Program}{w:World}{H:Hp}{a:Addr}(x:dW b a d h):eC P w H h a (.ext (dW b a d)):=by
 refine#[x,let #[o,_,_,_,c,_]:=x;#[o,c],λg i p k=>?_];obtain⟨o,e,f,t,c,r⟩:=p;exact#[o,e,f,t,k o c,r]
theorem gd.mem:∀{b:List (Int×Addr)}{c:List (Int×Int)},gd H b c->∀e∈b,∃p∈c,e.1=cm p/\H e.2=some (.tup [.int p.1, .int p.2])
 |_,_, .nil,e,a=>nomatch a
 |_,_, .cons (p:=p) h t,e,a=>by
  rcases bo.mp a with rfl|a
  .exact#[p,bB ..,rfl,h]
  .obtain⟨q,d,f⟩:=t.mem e a
   exact#[q,bP _ d,f]
theorem gd.RT:∀{c:List (Int×Addr)}{d:List (Int×Int)},gd H c d->∀p∈d,∃a,(cm p,a)∈c/\H a=some (.tup [.int p.1, .int p.2])
 |_,_, .nil,p,b=>nomatch b
 |_,_, .cons (a:=a) h t,p,b=>by
  rcases bo.mp b with rfl|b
  .exact#[a,bB ..,h]
  .obtain⟨e,f,g⟩:=t.RT p b
   exact#[e,bP _ f,g]
theorem gd.len:∀{a:List (Int×Addr)}{ps:List (Int×Int)},gd H a ps->a.length=ps.length
 |_,_, .nil=>rfl
 |_,_, .cons _ t=>FS (·+1) t.len
theorem gd.snoc(h:H a=some (.tup [.int p.1, .int p.2])):∀{b:List (Int×Addr)}{c:List (Int×Int)},gd H b c->gd H (b++ [(cm p,a)]) (c++ [p])
 |_,_, .nil=> .cons h .nil
 |_,_, .cons h' t=> .cons h' (gd.snoc h t)
section
variable {X:Cx} {pins:List (Addr×Obj)} {σ:St} {H:Hp} {s:Shared}
theorem Inv.rk{p:Int×Int}(I:Inv X pins σ H s)(h:H a=some (.tup [.int p.1, .int p.2])):IsTupleKey (intKind X.prog X.w) s.heap [p.1,p.2] a:=by
 rfl';obtain⟨c,r,⟨o,d,e,n,f⟩,_⟩:=I.tuple (fg.of h);obtain⟨i,j,rfl,⟨t,rfl⟩,⟨u,rfl⟩⟩:=Vals.two r;ac_rfl;exact#[o,_,n,d,e,f, .cons (by simp[intKind,Value.isInt]) (.cons (by simp[intKind,Value.isInt]) .nil)]
theorem Inv.nW(I:Inv X pins σ H s)(h:H a=some (.ext (dW b a c))):dW b a c s.heap:=(I.hok a _ h).1
theorem m6(P:Program)(w:World)(p:Int×Int):tupleKeyHash (intKind P w) [p.1,p.2]=cm p:=rfl
theorem Inv.Yw(I:Inv X pins σ H s)(g:gd H b f)(h:a.toList.Perm (b.map λe=>(e.1,Value.ref e.2))):Jb X.prog X.w s.heap a:=λi e c=>by
 rfl';have k:e∈a.toList:=by rw[<-eW] at c;exact dM c
 obtain⟨d,l,rfl⟩:=aX.mp (h.mem_iff.mp k);obtain⟨p,_,m,n⟩:=g.mem d l;ac_rfl;exact#[[p.1,p.2],d.2,by rw[m6,m],I.rk n]
theorem Inv.oU{h:List (Int×Addr)}{j:List (Int×Int)}{b:Array (Int×Value)}(I:Inv X pins σ H s)(k:gd H h j)(l:b.toList.Perm (h.map λe=>(e.1,Value.ref e.2)))(p:Int×Int):
  (∃(i:Nat)(c:Addr),b[i]? =some (tupleKeyHash (intKind X.prog X.w) [p.1,p.2], .ref c)/\IsTupleKey (intKind X.prog X.w) s.heap [p.1,p.2] c)↔p∈j:=by
 constructor
 .rintro⟨i,c,d,f⟩
  have g:(tupleKeyHash (intKind X.prog X.w) [p.1,p.2],Value.ref c)∈b.toList:=by rw[<-eW] at d;exact dM d
  obtain⟨m,r,t⟩:=aX.mp (l.mem_iff.mp g);obtain⟨q,u,x,n⟩:=k.mem m r
  have:m.2=c:=by have:=(IR t).2;injection this
  rw[this] at n
  have:=(I.rk n).inj f
  simp at this
  have:q=p:=PP this.1 this.2
  rw[<-this];exact u
 .intro v
  obtain⟨a,d,f⟩:=k.RT p v;have g:(cm p,Value.ref a)∈b.toList:=l.mem_iff.mpr (aX.mpr #[_,d,rfl]);obtain⟨i,o⟩:=List.mem_iff_getElem?.mp g;rw[eW] at o;exact#[i,a,by rw[m6];exact o,I.rk f]
theorem Ki(d:Gl X "set")(f:X.mg "set"=none):PE X (.Call (.Name "set" p) [] [] a) (λg H Q=>∀q,H q=none->Q (.ref q) (upd H q (.ext (dW (dh X.w) q [])))):=by
 intro c s g H Q I h;refine aaH (qD I d f (u:= .type "set") (by decide+kernel) ?_ (by decide) (by decide))
 refine PyProof.Rows.callWith_type rfl (PyProof.Rows.evalArgs_nil3 (BH ?_));have i:=I.hok.fresh (bb _);exact#[.ref s.heap.objs.size,_,I.laid (t':=s.toks) (λb o e=>tz _ e) (bb _) (o:= .ext (dW (dh X.w) s.heap.objs.size [])) (dW.ok #[_,_,_,_,GE _ rfl,iC.new X.w, .refl _]),rfl,h _ i]
theorem XG(i:X.A.units+64<cLine)(I:Inv X pins σ H s)(j:H c=some (.tup [.int p.1, .int p.2]))(k:H a=some (.ext (dW (dh X.w) a e)))(f:gd H e b)
  (h:∀d,Q (decide (p∈b)) {s with toks:=d}):wpAny (model X.prog X.w) X.A (contains (.ref a) (.ref c)) Q E s:=by
 rfl';obtain⟨o,m,r,t,n,S,g⟩:=I.nW k;ac_rfl;refine um i n S (I.Yw f g) (I.rk j) λd=>?_
 have:PySem.oU X.prog X.w s.heap m [p.1,p.2]=decide (p∈b):=by
  classical
  unfold PySem.oU;exact aaE.mpr (I.oU f g p)
 rw[this];exact h d
theorem GH(f:X.A.units+64<cLine):OpR X (compareOp .NotIn) (λx y H Q=>∃c a b d p,x= .ref c/\y= .ref a/\H c=some (.tup [.int p.1, .int p.2])/\H a=some (.ext (dW (dh X.w) a b))/\gd H b d/\Q (.bl (!decide (p∈d))) H):=by
 intro e s n H x y v u Q I g i h;rfl';obtain⟨c,a,b,d,p,rfl,rfl,k,l,m,q⟩:=h;ac_rfl;cases g;cases i;exact be (XG f I k l m λr=>mo #[.bl _,H,I.tok _,rfl,q])
theorem M7(hu:X.A.units+64<cLine):Ja X "set.add" (λx j H Q=>∃l c d a p,x= .ref l/\j= [.ref c]/\H c=some (.tup [.int p.1, .int p.2])/\H l=some (.ext (dW (dh X.w) l d))/\gd H d a/\a.length<=300/\
  (p∈a->Q .non H)/\(p∉a->Q .non (upd H l (.ext (dW (dh X.w) l (d++ [(cm p,c)])))))):=by
 intro k s σ H x j v us Q I B C h;rfl';obtain⟨l,c,d,a,p,rfl,rfl,G,m,g,hz,J,L⟩:=h;subst B;obtain⟨u,rfl,M⟩:=C.one;subst M;obtain⟨o,N,ep,t,n,S,f⟩:=I.nW m;have O:s.TypeIs (.ref l) "set":=#[o,n,S.ex.1];ac_rfl;refine SB F.slot_set_add O F.entry_set_add ?_ (F.args_set_add_2 _ _);unfold Builtin.«set.add» Builtin.Frozenset.oneOther;simp only[abX,bind_assoc];unfold Builtin.Frozenset.addrOf setAdd;refine be (mo ?_)
 try dsimp only
 refine be (mo ?_)
 try dsimp only
 refine be ?_;refine KM ?_;have q:=I.rk G;refine be (abJ ?_ q ?_)
 .show X.A.units+1<cLine;lia
 have sz:N.size=a.length:=by
  have:=f.length_eq
  rw[cD,aG,g.len] at this;exact this
 refine uk (s:={s with toks:=s.toks+([p.1,p.2].length+1)}) (by show X.A.units+1<cLine;lia) n S (I.Yw g f) q (by lia) (λP=>?_) λR h' r T U t' Y y Z U0=>?_
 .show wpAny _ _ (ret Value.none) _ _ _
  exact mo #[_,rfl, .non,H,I.tok _,rfl,J ((I.oU g f p).mp P)]
 .show wpAny _ _ (ret Value.none) _ _ _
  have Xe:p∉a:=λz=>by
   obtain⟨i,c',h1,h2⟩:=(I.oU g f p).mpr z;exact R i _ h1 c' rfl h2
  have I':=I.write (h':=h') (t':=s.toks+([p.1,p.2].length+1)) (x:=l) (e:=l) (o:= .ext (dW (dh X.w) l (d++ [(cm p,c)]))) (by rw[m];trivial) (.inl rfl) (λb u hb e=>Y.extBut b u hb e) #[r,y] (dW.ok #[r,T,U,t',y,Z,by
   rw[c8];exact U0.trans (f.append_right _)])
  exact mo #[_,rfl, .non,_,I',rfl,L Xe]
def YX(b:Bool)(r:V->List V->Hp->VK->Prop)(d:TE)(t:TA):TE:=λa H Q=>d a H λx c=>(∃p e,x= .ref p/\c p=some (.ext (dW b p e)))/\t a c λf g=>r x f g Q
variable {o e:Expr} {es:List Expr} {to:TE} {t:TA} {name:Str} {apos aK:Pos} {id:String} {r:V->List V->Hp->VK->Prop}
theorem Qr{b:Bool}(n:PlainAttrs "set")(slot:Slot "set" name id)(q:typeOf (.builtin id)=pure (.type "method_descriptor"))(u:Ja X id r)(w:PE X o to)(y:PA X (e::d) t)
  (z:attributeBase o name X.env (eval o X.env)=eval o X.env:=by rfl)
  (A:((backTo f (starEach (e::d) X.env)).all (λx=>!x.1)&&(backToKw f (keywordEach [] X.env)).all (λx=>x.1.isSome)
   &&decide ((e::d).length+([]:List Keyword).length+(if ([]:List Keyword).isEmpty then 0 else 1)<30))=true:=by rfl)
  (B:(apos.endLine==f.line)=true:=by rfl) (C:starEach (e::d) X.env=(false,eval e X.env)::starEach d X.env:=by rfl) (E:(backTo f (starEach d X.env)).any (·.1)=false:=by rfl):
  PE X (.Call (.Attribute o name apos) (e::d) [] f) (YX b r to t):=by
 intro c s g H Q I h;refine aa4 z A B rfl (thn (w c s g H _ I h) λv F G=>?_);rfl';obtain⟨x,L,j,M,N,O⟩:=G;ac_rfl;rfl';obtain⟨p,iZ,rfl,P⟩:=N;subst M;obtain⟨k,_,_,_,l,S,_⟩:=j.nW P;ac_rfl;refine#["set",id,n,slot,q,#[k,l,S.ex.1],λa R=>?_,?_]
 .cases R;exact#[k,l,S.ex.2.1]
 have m:=y f c F g L _ j O;rw[C] at m ⊢;refine aaJ (by show(false|| (backTo f (starEach d X.env)).any (·.1))=false;rw[E]<;>rfl) (abn ?_)
 exact thn m λT U #[Y,Z,I2,r2,q2]=>u c U g Z (.ref p) Y (.ref p) T Q I2 rfl r2 q2
end
def k5(a:List (Int×Int))(p:Int×Int):List (Int×Int):=if p∈a then a else a++ [p]
section
variable {Z:DC} {X:Cx} {B:Bs} {md:List Nat} {rn:Nat} {ρ:DN} {σ:St} {H G:Hp} {fp:Nat->List Addr} {a e k o:Expr} {ta te tk tp:bp} {pos apos aK p2:Pos}
def ET(p:Int×Int):D:= .tup [.int p.1, .int p.2]
theorem Dv.Bf(h:Dv Z G v (ET p)):∃c,v= .ref c/\G c=some (.tup [.int p.1, .int p.2]):=by
 rfl';obtain⟨c,l,rfl,b,f⟩:=Dv.sq h;obtain⟨m,n,rfl,g,i⟩:=f.GC;rw[g.ofInt,i.ofInt] at b;ac_rfl;exact#[c,rfl,b]
def V9(w:World)(c:Bool):gU:=λa b P=>∃p d,a=ET p/\b= .x (.mz (dh w) d)/\P (.bl (if c=true then !decide (p∈d) else decide (p∈d)))
theorem GB(d:X.A.units+64<cLine):OpR X (compareOp .NotIn) (cq Z (V9 X.w true)):=by
 refine(GH d).imp ?_;rintro x y H Q ⟨G,a,b,P,s,f,g,⟨p,i,rfl,rfl,h⟩,q⟩;obtain⟨c,rfl,j⟩:=f.Bf;cases g with
 |x l ok=>
  rfl';obtain⟨_,n,rfl,r⟩:=ok;ac_rfl;exact#[c,_,n,i,p,rfl,rfl,s _ _ j,s _ _ l,r.mono s,q _ h _ G H (.refl s) (.bl _)]
def OY(w:World)(i:Nat):cX:=λE b=>E.nx (b.set i (some (.x (.mz (dh w) []))))
theorem Jw(i:Nat)(n:X.N.Nodup)(q:Gl X "set")(r:X.mg "set"=none)(s:t.getD i 0=98:=by rfl)(u:X.N[i]? =some x:=by rfl)(v:Loc X.env.scope x:=by subst_eqs)(y:swapsWith (.Call (.Name "set" p) [] [] A) (some (.Name x d)) m.line X.env=pure false:=by rfl)
  (C:X.fn x=true\/X.env.scope.names.lookup x=some .local:=by subst_eqs):DSt Z X t O (.Assign [.Name x d] (.Call (.Name "set" p) [] [] A) m) (OY X.w i):=by
 refine(jY n u v (Ki q r) y C).imp ?_;intro D P H F;rfl';obtain⟨B,R,E,⟨G,T,S⟩,h,M⟩:=F;ac_rfl;intro c g;have J:G c=none:=S.ex.sub.free g;have x:Ext G H G (upd H c (.ext (dW (dh X.w) c []))):=#[.refl _,S.ex.sub.trans (aY g _),aY g _,λ_ _ z=>z];refine M.nx _ h _ _ #[G,_,(S.grow x).IJ s (f:= [c]) (.inr (.inr #[c,_,rfl,ax,rfl, .inr #[rfl,_,rfl,gQ,[],rfl, .nil]])) (by simp) (λb l=>?_) λb l j _ L=>?_]
 .rw[cC] at l;subst l
  exact#[S.ex.hh.free g,(by rw[ax];exact λz=>nomatch z),J]
 .rw[cC] at l;subst l
  exact(S.nw j _ L).2.1 g
def SH(w:World)(f:List Nat)(m:Bool)(i:Nat)(g:bp):cX:=λE b=>∃c,b[i]? =some (some (.x (.mz (dh w) c)))/\g (Fl f m b) λd=>∃p,d=ET p/\c.length<=300/\E.nx (b.set i (some (.x (.mz (dh w) (k5 c p)))))
theorem LQ(m:Bool)(i:Nat)(hu:X.A.units+64<cLine)(he:DE Z X e te)(s:md.getD i 0=98:=by rfl)(hi:X.N[i]? =some x:=by rfl)(hv:kN X.env.scope x:=by subst_eqs)(t:(x==("__debug__":Str))=false:=by decide)(eE:(x==("__classdict__":Str))=false:=by decide)
  (cR:attributeBase (.Name x g) "add" X.env (eval (.Name x g) X.env)=eval (.Name x g) X.env:=by rfl)
  (gI:((backTo aK (starEach [e] X.env)).all (λx=>!x.1)&&(backToKw aK (keywordEach [] X.env)).all (λx=>x.1.isSome)&&decide (([e]:List Expr).length+([]:List Keyword).length+(if ([]:List Keyword).isEmpty then 0 else 1)<30))=true:=by rfl)
  (cc:(apos.endLine==aK.line)=true:=by rfl) (I:starEach [e] X.env=(false,eval e X.env)::starEach [] X.env:=by rfl) (cV:(backTo aK (starEach [] X.env)).any (·.1)=false:=by rfl)
  (jG:swapsWith (.Call (.Attribute (.Name x g) "add" apos) [e] [] aK) none pos.line X.env=pure false:=by rfl):
  DSt Z X md rn (.Expr (.Call (.Attribute (.Name x g) "add" apos) [e] [] aK) pos) (SH X.w md m i te):=by
 refine(fW (Qr (b:=dh X.w) PySem.F.plainAttrs_set PySem.F.slot_set_add PySem.F.type_set_add (M7 hu) (pv i hi hv t eE) (cK he fQ I) cR gI cc I cV) jG).imp ?_;intro D σ H aS;rfl';obtain⟨B,J,E,⟨G,L,S⟩,⟨O,n,h⟩,M⟩:=aS;ac_rfl;rfl';obtain⟨v0,y,P⟩:=S.at_ i _ n;rw[s] at P;obtain⟨l,φ,rfl,hl,_,nd,es,rfl,pe⟩:=P.xA;ac_rfl;refine#[_,y,#[l,_,rfl,hl],S.ev m h λd t=>?_];obtain⟨p,rfl,hz,q⟩:=t;refine#[by cases m<;>trivial,λv Q H' C x dv=>?_]
 rfl';obtain⟨c,rfl,R⟩:=dv.Bf;obtain⟨v1,T,U⟩:=C.at_ i _ n;rw[y] at T;ac_rfl;cases Do T;rfl';rw[s] at U;obtain⟨l',Zq,e',MD,Y,jz,iZ,rfl,k⟩:=U.xA;cases e';ac_rfl;refine#[l,c,iZ,O,p,rfl,rfl,x.sub _ _ R,MD,k.mono x.sub,hz,λr=>?_,λr=>?_]
 .rw[k5,ls r] at q
  refine M.nx _ q _ _ #[Q,L,?_]
  have e:J.set i (some (.x (.mz (dh X.w) O)))=J:=by
   refine rJ λj=>?_
   by_cases z:i=j
   .subst z
    have bY:=(dQ.mp n).1;rw[lF bY,n]
   .rw[lG z]
  rw[e];exact C
 .rw[k5,ir r] at q
  refine M.nx _ q _ _ #[Q,L,C.mut y (b:=l) (by rw[Y];simp) ?_]
  rw[s,Y];refine .inr (.inr #[l,_,rfl,ax,rfl, .inr #[rfl,_,rfl,?_,_,rfl,k.snoc R]]);rw[c9];refine#[jz,by simp,λa ha b o z=>r ?_]
  rw[cC] at o;rw[<-o,<-z];exact ha
end
section
variable {Z:DC} {X:Cx}
def Le:cv:=λa P=>∃L:List (List Nat),a= [.lst (L.map au)]/\L.length<=1000/\∀M:List (List Nat),M.Perm L->M.Pairwise mr->P (.lst (M.map au))
theorem O7(h:Dv Z G v (au r)):∃a,v= .ref a/\G a=some (.lst ((kR r).map V.int)):=by
 obtain⟨a,d,rfl,b,c⟩:=Dv.iL h
 have:d=(kR r).map V.int:=by
  have e:r.map ae=(kR r).map D.int:=by unfold kR;rw[b9];rfl
  rw[e] at c;exact tB c
 rw[this] at b;exact#[a,rfl,b]
theorem QL(h:G a=some (.lst ((kR r).map V.int))):Dv Z G (.ref a) (au r):=by
 have e:au r= .lst ((kR r).map D.int):=by unfold au kR;rw[b9];rfl
 rw[e];exact .lst h (.ints _)
theorem AO:∀{b:List V}{L:List (List Nat)},DvAll Z G b (L.map au)->∃A:List (Addr×List Nat),b=A.map (λe=>V.ref e.1)/\A.map (·.2)=L/\Fx G A
 |b,[],h=>by cases h;exact#[[],rfl,rfl,λp c=>by cases c]
 |b,r::L,h=>by
  cases h with
  |cons a f=>
   obtain⟨A,g,i,j⟩:=AO f;obtain⟨p,rfl,c⟩:=O7 a;refine#[(p,r)::A,by rw[g];rfl,by rw[<-i];rfl,λq d=>?_]
   rcases bo.mp d with rfl|d
   .exact c
   .exact j q d
theorem Fx.dv:∀{L:List (Addr×List Nat)},Fx G L->DvAll Z G (L.map λe=>V.ref e.1) ((L.map (·.2)).map au)
 | [],_=> .nil
 |x::L,h=> .cons (QL (h x (bB ..))) (Fx.dv λp a=>h p (bP _ a))
theorem FJ(j:X.A.units+64<cLine):cB X (.builtin "sorted") (gE Z Le):=by
 refine(xM j).imp ?_;rintro t H Q ⟨G,k,P,s,dv,⟨c,rfl,u,b⟩,q⟩;cases dv with
 |cons a l=>
  cases l;cases a with
  | @lst p v k h e=>
   obtain⟨L,rfl,d,f⟩:=AO e;have w:L.length=c.length:=by rw[<-d];simp
   refine#[_,L,rfl,cY.of (s _ _ h),λp b=>s _ _ (f p b),by lia,λp M g i m=>?_]
   have n:(M.map (·.2)).Perm c:=by rw[<-d];exact i.map _
   have o:Fx (upd G p (.lst (M.map λe=>V.ref e.1))) M:=λx r=>aY (s.free g) _ _ _ (f x (i.mem_iff.mp r));exact q _ (b _ n m) _ _ _ (.new s g) (.lst ax o.dv)
end
section
variable {Z:DC} {X:Cx} {md:List Nat} {rn:Nat} {a b:Expr} {pos:Pos} {ta:i7}
def Wi(d:List Nat)(i j:Nat)(e:i7):cX:=λE c=>e (dF d c) λf=>∃a b,f= [a,b]/\E.nx ((c.set i (some a)).set j (some b))
theorem BQ(i j:Nat){kt k2 GU}(d:X.calm=true)(e:X.N.Nodup)(f:DA Z X [a,b] ta)(g:X.N[i]? =some x:=by rfl)(k:X.N[j]? =some y:=by rfl)(l:i≠j:=by decide)(m:md.getD i 0=0:=by rfl)(n:md.getD j 0=0:=by rfl)
  (o:X.env.scope.names.lookup x=some .local:=by rfl) (p:X.env.scope.names.lookup y=some .local:=by rfl)
  (hw:swappedStores [.Tuple [.Name x c, .Name y py] kt pt] (.Tuple [a,b] k2 GU) X.env=pure (some [x,y]):=by rfl)
  (q:swapsWithSole [.Tuple [.Name x c, .Name y py] kt pt] (.Tuple [a,b] k2 GU) pos.line X.env=pure false:=by rfl):
  DSt Z X md rn (.Assign [.Tuple [.Name x c, .Name y py] kt pt] (.Tuple [a,b] k2 GU) pos) (Wi md i j ta):=by
 refine(QD d e g k l o p f hw q).imp ?_;intro D I H r;rfl';obtain⟨B,t,E,⟨G,L,S⟩,h,M⟩:=r;ac_rfl;exists G,dF md t,_,S.ex.sub,S.yc,h;rintro _ ⟨a,b,rfl,w⟩ O z P x A;obtain⟨v,u,rfl,C,F⟩:=A.GC;exact#[v,u,rfl,M.nx _ w _ _ #[z,_,((S.grow x).nW m C).nW n F]]
end
section
variable {Z:DC} {X:Cx} {e:Expr} {te:bp} {pos p:Pos}
variable {o:Expr} {ta:bp} {m:Str} {f:Addr} {fd:FuncData} {ps:List Str} {sd:cv} {k n:Nat} {apos:Pos}
def Tz(b:cv)(c:bp):jB:=λg P=>c g λd=>∃w,d= .dm w/\b [.dm w] λd=>∃a,d= .lst a/\P a
theorem Js(T:AF Z)(l:DE Z X o ta)(r:Meth Z.K Z.C m f)(F:FnOk X.prog X.w X.K X.mg X.base cF k f fd ps (c4 Z n sd))(t:cP k X.A)(a:Binds X.K fd ps [])(d:X.K=Z.K:=by rfl)
  (u:([("rows",V.ref 0)]:List (Str×V)).lookup m=none:=by decide)
  (x:eval (.Call (.Attribute o m apos) [] [] pos) X.env=(do
   let i <-eval o X.env
   standAt apos.atName
   let (f,first) <-holding [i] (getMethod i m pl)
   callWith pos f first (backTo pos (starEach [] X.env)) (backToKw pos (keywordEach [] X.env))):=by rfl):DF Z X n (.Call (.Attribute o m apos) [] [] pos) (Tz sd ta):=by
 refine(Bi (pl:=pl) l (by rw[d];exact T.cl) (by rw[d];exact r) F t a .nil m7 x).imp ?_
 rintro σ H Q ⟨G,y,P,s,B,h,q⟩;exists G,y,_,s,B,h;rintro _ ⟨w,rfl,E⟩ v I J c dv;have L:=dv;cases dv with
 | @dm p M R w N Ao g h1 h2=>
  refine#[p,M,_,rfl,c.sub _ _ N,?_,?_]
  .have O:(m==("rows":Str))=false:=by
    cases z:(m==("rows":Str)) with
    |false=>rfl
    |true=>simp[bm,z] at u
   simp[bm,O]
  .show c4 Z n sd (V.ref p::([]++ [])) J Q E0
   exists I,_,_,c.sub, .cons L .nil,E;rintro _ ⟨ds,rfl,S⟩ v f U Y e o nd j;exact q _ S v f U Y (c.trans e) o nd λb a=>#[c.hh.free (j b a).1,(j b a).2]
end
section
variable {Z:DC} {X:Cx} {pins:List (Addr×Obj)} {σ:St} {H:Hp} {s:Shared} {o e:Expr} {ta tb:bp} {apos:Pos}
end
theorem eZ.ok{P:Program}{w:World}{H:Hp}{a:Addr}{vs:List FV}(x:eZ a c vs h):eC P w H h a (.ext (eZ a c vs)):=by
 refine#[x,let #[_,o,_,_,b,_]:=x;#[o,b],λf g p k=>?_];obtain⟨z,o,d,e,b,r⟩:=p;exact#[z,o,d,e,k o b,r]
inductive kM (H:Hp):List (Int×Addr)->List (Int×Int)->List FV->List (List Int×Addr×Value)->Prop
 |nil:kM H [] [] [] []
 |cons {a:Addr} {p:Int×Int} {v:FV} {u:Value} {es:List (Int×Addr)} {ks:List (Int×Int)} {vs:List FV} {xs:List (List Int×Addr×Value)}:H a=some (.tup [.int p.1, .int p.2])->I0 v u->kM H es ks vs xs->kM H ((cm p,a)::es) (p::ks) (v::vs) (([p.1,p.2],a,u)::xs)
theorem kM.keys:∀{c:List (Int×Addr)}{a:List (Int×Int)}{d:List FV}{b:List (List Int×Addr×Value)},kM H c a d b->b.map (·.1)=a.map λp=> [p.1,p.2]
 |_,_,_,_, .nil=>rfl
 |_,_,_,_, .cons _ _ t=>by rw[bT,bT,t.keys]
theorem kM.len:∀{c:List (Int×Addr)}{a:List (Int×Int)}{d:List FV}{b:List (List Int×Addr×Value)},kM H c a d b->b.length=a.length
 |_,_,_,_, .nil=>rfl
 |_,_,_,_, .cons _ _ t=>FS (·+1) t.len
theorem kM.snoc(b:H a=some (.tup [.int p.1, .int p.2]))(h:I0 v u):∀{c:List (Int×Addr)}{d:List (Int×Int)}{e:List FV}{f:List (List Int×Addr×Value)},kM H c d e f->kM H (c++ [(cm p,a)]) (d++ [p]) (e++ [v]) (f++ [([p.1,p.2],a,u)])
 |_,_,_,_, .nil=> .cons b h .nil
 |_,_,_,_, .cons k' g t=> .cons k' g (kM.snoc b h t)
theorem vO(P:Program)(w:World)(p:Int×Int)(a:Addr)(u:Value):entryOfKey (tupleKind (intKind P w)) ([p.1,p.2],a,u)=#[cm p, .ref a,u]:=by
 unfold entryOfKey;rw[show(tupleKind (intKind P w)).hash [p.1,p.2]=cm p from m6 P w p]
theorem Ts(d:IW l b g):∀{c:List (Int×Int)},gd H b c->∃f,kM H b c g f/\∀(P:Program)(w:World),l=f.map (entryOfKey (tupleKind (intKind P w))):=by
 induction d with
 |nil=>intro c i;cases i;exact#[[], .nil,λ_ _=>rfl]
 | @cons e l h a v b g j k m d n=>
  intro c i;cases i with
  | @cons _ p _ r h t=>
   obtain⟨f,o,q⟩:=n t;refine#[([p.1,p.2],a,e.val)::f, .cons h m o,λP w=>?_];rw[bT,<-q P w,vO];obtain⟨s,u,ev⟩:=e;simp only at j k ⊢;rw[j,k]
theorem L9{e:List (Int×Int)}(d:kM H a e b c):IW (c.map (entryOfKey (tupleKind (intKind P w)))) a b:=by
 induction d with
 |nil=>exact .nil
 |cons _ h t f=>
  rw[bT,vO];exact .cons rfl rfl h f
theorem kM.isKey(I:Inv X a e H s)(d:kM H f g i c):∀x∈c,IsTupleKey (intKind X.prog X.w) s.heap x.1 x.2.1:=by
 induction d with
 |nil=>intro x b;cases b
 |cons h _ _ j=>
  intro x b
  rcases bo.mp b with rfl|b
  .exact I.rk h
  .exact j x b
theorem oI{K:Type} [DecidableEq K] {b:List (K×Addr×Value)} {k:K}:(atKey b k).isSome=true↔k∈b.map (·.1):=by
 unfold atKey;rw[Option.isSome_map,List.find?_isSome,aX]
 constructor
 .rintro⟨x,a,e⟩;exact#[x,a,KF e]
 .rintro⟨x,a,e⟩;exact#[x,a,FM e]
theorem qI{p:Int×Int}{a:List (Int×Int)}: [p.1,p.2]∈a.map (λp=> [p.1,p.2])↔p∈a:=by
 rw[aX]
 constructor
 .rintro⟨q,b,e⟩
  simp at e;rw[<-show q=p from PP e.1 e.2];exact b
 .intro h;exact#[p,h,rfl]
theorem EL{c:List (Int×Int)}(h:c.Nodup):(c.map λp=> [p.1,p.2]).Nodup:=by
 rw[nY,iV];rw[nY] at h;exact h.imp λ {a b} n e=>n (by simp at e;exact PP e.1 e.2)
section
variable {X:Cx} {pins:List (Addr×Obj)} {σ:St} {H:Hp} {s:Shared}
theorem Inv.Tf(I:Inv X pins σ H s)(h:H a=some (.ext (eZ a b e)))(f:gd H b c)(g:c.Nodup):
  (a==sysModules)=false/\∃xs,kM H b c e xs/\s.heap.DictOfH (tupleKind (intKind X.prog X.w)) a xs:=by
 rfl';obtain⟨z,o,j,k,l,m,n,p⟩:=(I.hok a _ h).1;obtain⟨xs,d,q⟩:=Ts p f;ac_rfl;exact#[z,xs,d,o,j,k,l,m,n,q _ _,d.isKey I,by rw[d.keys];exact EL g]
theorem PF(t:X.A.units+64<cLine)(I:Inv X pins σ H s)(i:H c=some (.tup [.int p.1, .int p.2]))(j:H a=some (.ext (eZ a d g)))(l:gd H d b)(m:b.Nodup)
  (h:∀n,Q (.bool (decide (p∈b))) {s with toks:=n}):wpAny (model X.prog X.w) X.A (compareOp .In (.ref c) (.ref a)) Q E s:=by
 rfl';obtain⟨z,q,f,r⟩:=I.Tf j l m;ac_rfl;refine wpAny_in_heap (knd:=tupleKind (intKind X.prog X.w)) (k:= [p.1,p.2]) (by show X.A.units+1<cLine;lia) (I.rk i) z r ?_
 have:(atKey q [p.1,p.2]).isSome=decide (p∈b):=by
  by_cases e:p∈b
  .rw[FM e];exact oI.mpr (by rw[f.keys];exact qI.mpr e)
  .rw[GM e]
   apply ux.mpr;exact λz=>e (qI.mp (by rw[<-f.keys];exact oI.mp z))
 rw[this];exact h _
theorem Nr(g:X.A.units+64<cLine):OpR X (compareOp .In) (λx y H Q=>∃c a d b e p,x= .ref c/\y= .ref a/\H c=some (.tup [.int p.1, .int p.2])/\H a=some (.ext (eZ a d e))/\gd H d b/\b.Nodup/\Q (.bl (decide (p∈b))) H):=by
 intro f s r H x y v u Q I i j h;rfl';obtain⟨c,a,d,b,e,p,rfl,rfl,l,m,n,o,q⟩:=h;ac_rfl;cases i;cases j;exact PF g I l m n o λw=>#[.bl _,H,I.tok _,rfl,q]
theorem Ny:PE X (.Dict [] [] b) (λd H Q=>∀q,H q=none->Q (.ref q) (upd H q (.ext (eZ q [] [])))):=by
 intro c s d H Q I h;have e:=I.hok.fresh (bb s.heap.objs.size);refine wpAny_Dict_empty #[.ref s.heap.objs.size,_,I.laid (a:=s.heap.objs.size) (t':=s.toks) (λ_ _ q=>tz _ q) (bb _) (o:= .ext (eZ s.heap.objs.size [] [])) (eZ.ok #[?_,_, #[],0,GE _ rfl,#[rfl,rfl,rfl],rfl, .nil]),rfl,h _ e];have f:mainGlobals<s.heap.objs.size:=(I.mod.glob.keeps I.bk).lt;have g:sysModules<s.heap.objs.size:=Nat.lt_trans (by decide) f
 exact aav.mpr (Ne.symm (bV g))
def vF:FV->V
 | .int i=> .int i
 | .bl b=> .bl b
theorem Pg(h:RelV (vF f) u):I0 f u:=by
 cases f with
 |int i=>exact h
 |bl b=>exact h
variable {o i value:Expr} {td ti tv:TE} {pos pos':Pos}
def Vo(j k l:TE):TS:=λD b H=>l b H λv m=>j b m λx n=>k b n λy d=>∃a c f e g p h,x= .ref a/\y= .ref c/\v=vF h/\d a=some (.ext (eZ a f g))/\d c=some (.tup [.int p.1, .int p.2])/\gd d f e/\e.Nodup/\p∉e/\e.length<=300/\D.nx b (upd d a (.ext (eZ a (f++ [(cm p,c)]) (g++ [h]))))
theorem NO(hu:X.A.units+64<cLine)(J:PE X o td)(L:PE X i ti)(M:PE X value tv)(N:swapsWith value (some (.Subscript o i pos')) pos.line X.env=pure false:=by rfl):PS X (.Assign [.Subscript o i pos'] value pos) (Vo td ti tv):=by
 intro d s f H D I h;refine wpAny_Assign_Subscript (thn (M d s f H _ I h) λr O #[v,P,Q,R,S]=>thn (J d O f P _ Q S) λu T #[x,U,Y,Z,q2]=>thn (L d T f U _ Y q2) λiv s3 #[y,H3,g,ry,a,c,m,ks,n,p,t,e1,e2,e3,B,C,pe,nd,np,hz,q3]=>?_) N;subst e1 e2 e3;cases Z;cases ry;obtain⟨z,j,l,hm⟩:=g.Tf B pe nd;refine wpAny_setItem_heap (knd:=tupleKind (intKind X.prog X.w)) (k:= [p.1,p.2]) (by show X.A.units+1<cLine;lia) (g.rk C) hm (λh' E sb=>?_) (small (by rw[l.len];lia))
 have na:atKey j [p.1,p.2]=none:=by
  cases e:atKey j [p.1,p.2] with
  |none=>rfl
  |some q=>exact absurd (qI.mp (by rw[<-l.keys];exact oI.mp (by rw[e];rfl))) np
 rw[storedH_new na] at E;rfl';have x2:kM H3 (m++ [(cm p,c)]) (ks++ [p]) (n++ [t]) (j++ [([p.1,p.2],c,r)]):=l.snoc C (Pg R);obtain⟨F,Tu,uM,G,wK,iG,uO,_,_⟩:=E;have I':=g.write (h':=h') (t':=s3.toks+(tupleKind (intKind X.prog X.w)).draws [p.1,p.2]) (x:=a) (e:=a) (o:= .ext (eZ a (m++ [(cm p,c)]) (n++ [t]))) (by rw[B];trivial) (.inl rfl) (λb u hb e=>sb.extBut b u hb e) #[F,G] (eZ.ok #[z,F,Tu,uM,G,wK,iG,by rw[uO];exact L9 x2])
 ac_rfl;exact#[f,_,I',q3]
end
section
variable {Z:DC} {X:Cx} {B:Bs} {md:List Nat} {rn:Nat} {ρ:DN} {σ:St} {H G:Hp} {fp:Nat->List Addr} {a e k o:Expr} {ta te tk tp:bp} {pos apos aK p2:Pos}
def V8(c:Bool):gU:=λa b P=>∃p d f,a=ET p/\b= .x (.mw d f)/\P (.bl (if c=true then !decide (p∈d) else decide (p∈d)))
theorem Qd(d:X.A.units+64<cLine):OpR X (compareOp .In) (cq Z (V8 false)):=by
 refine(Nr d).imp ?_;rintro x y H Q ⟨G,a,b,P,s,f,g,⟨p,i,j,rfl,rfl,h⟩,q⟩;obtain⟨c,rfl,l⟩:=f.Bf;cases g with
 |x m ok=>
  rfl';obtain⟨r,t,rfl,u⟩:=ok;ac_rfl;exact#[c,_,t,i,j,p,rfl,rfl,s _ _ l,s _ _ m,u.mono s,r,q _ h _ G H (.refl s) (.bl _)]
def SN(i:Nat):cX:=λE b=>E.nx (b.set i (some (.x (.mw [] []))))
theorem LU(i:Nat)(n:X.N.Nodup)(p:q.getD i 0=98:=by rfl)(r:X.N[i]? =some x:=by rfl)(s:Loc X.env.scope x:=by subst_eqs)(t:swapsWith (.Dict [] [] u) (some (.Name x d)) m.line X.env=pure false:=by rfl)
  (v:X.fn x=true\/X.env.scope.names.lookup x=some .local:=by subst_eqs):DSt Z X q F (.Assign [.Name x d] (.Dict [] [] u) m) (SN i):=by
 refine(jY n r s Ny t v).imp ?_;intro D I H w;rfl';obtain⟨B,L,E,⟨G,O,S⟩,h,M⟩:=w;ac_rfl;intro c g;have A:G c=none:=S.ex.sub.free g;have x:Ext G H G (upd H c (.ext (eZ c [] []))):=#[.refl _,S.ex.sub.trans (aY g _),aY g _,λ_ _ z=>z];refine M.nx _ h _ _ #[G,_,(S.grow x).IJ p (f:= [c]) (.inr (.inr #[c,_,rfl,ax,rfl, .inr #[rfl,_,rfl,gQ,[],rfl, .nil]])) (by simp) (λb l=>?_) λb l j _ C=>?_]
 .rw[cC] at l;subst l
  exact#[S.ex.hh.free g,(by rw[ax];exact λz=>nomatch z),A]
 .rw[cC] at l;subst l
  exact(S.nw j _ C).2.1 g
def WC:FV->D
 | .int i=> .int i
 | .bl b=> .bl b
theorem Dv.Yt(h:Dv Z G v (WC f)):v=vF f:=by
 cases f with
 |int i=>exact h.ofInt
 |bl b=>exact h.tW
def Tb(f:List Nat)(i:Nat)(j l:bp):cX:=λE b=>l (dF f b) λd=>∃g c h,d=WC g/\b[i]? =some (some (.x (.mw c h)))/\j (dF f b) λm=>∃p,m=ET p/\p∉c/\c.length<=300/\E.nx (b.set i (some (.x (.mw (c++ [p]) (h++ [g])))))
theorem L1(i:Nat)(U:X.A.units+64<cLine)(Y:DE Z X k tk)(o:DE Z X e te)(m:md.getD i 0=98:=by rfl)(hi:X.N[i]? =some x:=by rfl)(hv:kN X.env.scope x:=by subst_eqs)(n:(x==("__debug__":Str))=false:=by decide)(eE:(x==("__classdict__":Str))=false:=by decide)
  (hs:swapsWith e (some (.Subscript (.Name x s) k g)) pos.line X.env=pure false:=by rfl):DSt Z X md rn (.Assign [.Subscript (.Name x s) k g] e pos) (Tb md i tk te):=by
 refine(NO U (pv i hi hv n eE) Y o hs).imp ?_;intro D σ H aS;rfl';obtain⟨B,ρ,E,⟨G,fp,S⟩,h,M⟩:=aS;ac_rfl;refine S.ev false h λd n=>#[trivial,λv G1 H1 t x1 dv=>?_];rfl';obtain⟨fv,ks,vs,rfl,w,h2⟩:=n;ac_rfl;obtain rfl:=dv.Yt;rfl';obtain⟨v0,q,y⟩:=t.at_ i _ w;rw[m] at y;obtain⟨l,φ,rfl,hl,_,nd,es,rfl,pe⟩:=y.xA;ac_rfl;refine#[_,q,t.ev false h2 λkd r=>#[trivial,λu G2 H2 C F du=>?_]];rfl';obtain⟨p,rfl,I,hz,hn⟩:=r;obtain⟨c,rfl,J⟩:=du.Bf;obtain⟨v1,L,O⟩:=C.at_ i _ w;rw[q] at L;ac_rfl;cases Do L;rfl';rw[m] at O;obtain⟨l',Zq,e',MD,P,Q,iZ,rfl,R⟩:=O.xA;cases e';ac_rfl;refine#[l,c,iZ,ks,vs,p,fv,rfl,rfl,rfl,MD,F.sub _ _ J,R.mono F.sub,Q,I,hz,M.nx _ hn _ _ #[G2,fp,C.mut q (b:=l) (by rw[P];simp) ?_]]
 rw[m,P];refine .inr (.inr #[l,_,rfl,ax,rfl, .inr #[rfl,_,rfl,?_,_,rfl,R.snoc J]]);rw[c9];refine#[Q,by simp,λa ha b T z=>I ?_]
 rw[cC] at T;rw[<-T,<-z];exact ha
end
section
variable {Z:DC} {X:Cx} {B:Bs} {md:List Nat} {rn:Nat} {ρ:DN} {σ:St} {H G:Hp} {fp:Nat->List Addr} {e k:Expr} {pos p2 apos aK:Pos} {tp te:bp} {t:jB}
theorem SIx.Ya{b:Addr}{f':List Addr}(S:SIx Z B md ρ σ H G fp)(p:σ[i]? =some (some v))(n:b∈fp i)(o:Own Z G (upd H b c) (md.getD i 0) v m f')(nd:f'.Nodup)(nw:∀x∈f',B.H₀ x=none/\H x≠none/\G x=none)(ap:∀x∈f',∀j,j≠i->x∉fp j):
  SIx Z B md (ρ.set i (some m)) σ (upd H b c) G (λj=>if j=i then f' else fp j) where
 ex:=by
  obtain⟨r,C,s⟩:=S.nw i b n;exact#[S.ex.gg,λx u e=>by rw[aB (aW e s)];exact S.ex.sub _ _ e,λx u e=>by rw[aB (aW e r)];exact S.ex.hh _ _ e,S.ex.off]
 fl:=S.fl
 len:=by rw[f9];exact S.len
 at_:=λj w h=>by
  by_cases z:i=j
  .subst z
   by_cases g:i<ρ.length
   .rw[lF g] at h
    cases Do h;exact#[v,p,by rw[ls rfl];exact o]
   .rw[zW (jS g),iu (jS g)] at h;cases h
  .rw[lG z] at h
   obtain⟨u,y,A⟩:=S.at_ j w h;exact#[u,y,by rw[ir (Ne.symm z)];exact A.keep (.refl _) λx a=>aB λq=>S.ap i j b z n (by rw[<-q];exact a)]
 nd:=λj=>by split;exact nd;exact S.nd j
 ap:=λj k b ne f d=>by
  split at f
  .next z=>
   rw[ir (λw=>ne (z.trans w.symm))] at d;exact ap b f k (λw=>ne (z.trans w.symm)) d
  .next z=>
   split at d
   .exact ap b d j z f
   .exact S.ap j k b ne f d
 nw:=λj x a=>by
  have l:B.H₀ x=none/\H x≠none/\G x=none:=by
   split at a
   .exact nw x a
   .exact S.nw j x a
  refine#[l.1,?_,l.2.2]
  by_cases z:x=b
  .rw[z,ax];exact λq=>nomatch q
  .rw[aB z];exact l.2.1
def OR(c:List Nat)(i:Nat)(t:jB):cX:=λE a=>∃b,a[i]? =some (some (.lst b))/\t (dF c a) λl=>b.length<sizeLine/\E.nx (a.set i (some (.lst (b++ [.lst l]))))
theorem Jt(i:Nat)(k:DF Z X 1 e t)(J:md.getD i 0=2:=by rfl)(hi:X.N[i]? =some x:=by rfl)(hv:kN X.env.scope x:=by subst_eqs)(hd:(x==("__debug__":Str))=false:=by decide)(eE:(x==("__classdict__":Str))=false:=by decide)
  (cR:attributeBase (.Name x n) "append" X.env (eval (.Name x n) X.env)=eval (.Name x n) X.env:=by rfl)
  (gI:((backTo aK (starEach [e] X.env)).all (λx=>!x.1)&&(backToKw aK (keywordEach [] X.env)).all (λx=>x.1.isSome)&&decide (([e]:List Expr).length+([]:List Keyword).length+(if ([]:List Keyword).isEmpty then 0 else 1)<30))=true:=by rfl)
  (cc:(apos.endLine==aK.line)=true:=by rfl) (L:starEach [e] X.env=(false,eval e X.env)::starEach [] X.env:=by rfl) (cV:(backTo aK (starEach [] X.env)).any (·.1)=false:=by rfl)
  (jG:swapsWith (.Call (.Attribute (.Name x n) "append" apos) [e] [] aK) none pos.line X.env=pure false:=by rfl):
  DSt Z X md rn (.Expr (.Call (.Attribute (.Name x n) "append" apos) [e] [] aK) pos) (OR md i t):=by
 refine(fW (sA Os aat aau g6 (pv i hi hv hd eE) (cK k fQ L) cR gI cc L cV) jG).imp ?_;intro Dn σ H aS;rfl';obtain⟨B,ρ,E,⟨G,fp,S⟩,⟨fJ,h1,h⟩,M⟩:=aS;ac_rfl;rfl';obtain⟨v0,O,o⟩:=S.at_ i _ h1;rw[J] at o;obtain⟨T,y,LP,u,rfl,e0,A,m,P⟩:=o.lst;cases e0;ac_rfl;exists _,O,ty_list A,G,_,_,S.ex.sub,S.yc,h;rintro l ⟨hz,hn⟩ v f G' C x ow nd p;have F:=S.grow x;have I:=x.hh _ _ A
 have Uw:∀b∈u,C b=H b:=λb c=>by
  cases z:H b with
  |none=>exact absurd z (S.nw i b (by rw[m];exact bP _ c)).2.1
  |some o=>exact x.hh _ _ z
 have Q:=S.nd i;rw[m] at Q;obtain⟨R,Nb⟩:=bS.mp Q
 have U:T∉f:=λz=>by
  have:=(p T z).1
  rw[A] at this;cases this
 have ff:∀b∈u,b∉f:=λb c z=>(S.nw i b (by rw[m];exact bP _ c)).2.1 (p b z).1
 have Y:∀b,b≠T->upd C T (.lst (y++ [v])) b=C b:=λb c=>aB c;refine#[T,y,v,rfl,rfl,I,by rw[P.length];exact hz,M.nx _ hn _ _ #[G',_,F.Ya (b:=T) (f':=T::(u++f)) O (by rw[m];exact bB ..) ?_ ?_ ?_ ?_]]
 .rw[J]
  refine .inl #[T,y++ [v],_,u++f,rfl,rfl,ax,rfl,cg.snoc (P.imp λv d g c r=>r.keep x.gg λb q=>?_) (ow.keep (.refl _) λb c=>Y b λz=>U (by rw[<-z];exact c))]
  rw[Y b λz=>R (by rw[<-z];exact c b q)]
  exact Uw b (c b q)
 .rw[bS,c9]
  exact#[λz=>(bH.mp z).elim R U,Nb,nd,λa ha b c z=>ff a ha (by rw[z];exact c)]
 .intro b c
  rcases bo.mp c with rfl|c
  .exact F.nw i b (by rw[m];exact bB ..)
  .rcases bH.mp c with c|c
   .exact F.nw i b (by rw[m];exact bP _ c)
   .exact#[S.ex.hh.free (p b c).1,(p b c).2]
 .intro b c j hj z
  have s:b∈fp i\/b∈f:=by
   rw[m]
   rcases bo.mp c with rfl|c
   .exact .inl (bB ..)
   .exact(bH.mp c).imp (bP _) id
  rcases s with s|s
  .exact S.ap j i b hj z s
  .exact(S.nw j b z).2.1 (p b s).1
end
end L2
namespace Wb
def cG(w:W)(d:Nat×Nat)(r:List (Nat×Nat)):Prop:=∃k,0<k/\aC w k d=d/\(∀j,0<j->j<k->aC w j d≠d)/\r=walk w d k
theorem cL:e∈walk w d k↔∃i,i<k/\e=aC w i d:=by
 unfold walk;rw[aX]
 constructor
 .rintro⟨i,a,rfl⟩;exact#[i,dE.mp a,rfl]
 .rintro⟨i,a,rfl⟩;exact#[i,dE.mpr a,rfl]
theorem cG.first(h:cG w d r):d∈r:=by
 obtain⟨k,a,_,_,rfl⟩:=h;exact cL.mpr #[0,a,rfl]
theorem cG.next(h:cG w d r)(a:e∈r):bW w e∈r:=by
 obtain⟨k,b,f,_,rfl⟩:=h;obtain⟨i,g,rfl⟩:=cL.mp a
 by_cases c:i+1<k
 .exact cL.mpr #[i+1,c,rfl]
 .have:i+1=k:=by lia
  refine cL.mpr #[0,b,?_];show aC w (i+1) d=d;rw[this];exact f
theorem cG.iter(h:cG w d r)(a:e∈r):∀n,aC w n e∈r
 |0=>a
 |n+1=>h.next (h.iter a n)
theorem cG.back(h:cG w d r)(a:e∈r):∃n,aC w n e=d:=by
 obtain⟨k,c,b,_,rfl⟩:=h;obtain⟨i,f,rfl⟩:=cL.mp a;exists k-i;rw[<-cJ i (k-i),show k-i+i=k by lia]
 exact b
theorem cG.nodup{w:W}(g:Good w)(h:cG w d r)(a:aw w d):r.Nodup:=by
 obtain⟨k,c,e,b,rfl⟩:=h;exact qh g a b
theorem cG.aM(g:Good w)(h:cG w d r)(a:aw w d):∀e∈r,aw w e:=by
 obtain⟨k,b,c,f,rfl⟩:=h;exact nE g a
structure Wk (w:W) (ds:List (Nat×Nat)) (i:Nat) (rs:List (List (Nat×Nat))):Prop where
 rnd:∀r∈rs,∃d,cG w d r/\aw w d/\∀e∈r,lexLe d e
 nod:rs.flatten.Nodup
 met:∀j e,j<i->ds[j]? =some e->e∈rs.flatten
theorem Wk.zero(w:W)(a:List (Nat×Nat)):Wk w a 0 []:=#[(λr h=>by cases h),gQ,(λj e h=>by lia)]
theorem Wk.skip(h:Wk w a i b)(g:a[i]? =some d)(k:d∈b.flatten):Wk w a (i+1) b:=
 #[h.rnd,h.nod,λj e l f=>by
  by_cases c:j=i
  .subst c;rw[g] at f;cases f;exact k
  .exact h.met j e (by lia) f]
theorem Wk.take{w:W}(g:Good w){k:List (Nat×Nat)}(all:∀e,aw w e->e∈k)(dart:∀e∈k,aw w e)(u:k.Pairwise lexLe){i:Nat}{o:List (List (Nat×Nat))}(h:Wk w k i o)(p:k[i]? =some d)(v:d∉o.flatten)(l:cG w d r):Wk w k (i+1) (o++ [r]):=by
 have s:aw w d:=dart d (dM p)
 have off:∀e∈r,e∉o.flatten:=λe f x=>by
  obtain⟨q,t,y⟩:=i6.mp x;obtain⟨M,A,_,_⟩:=h.rnd q t;obtain⟨n,B⟩:=l.back f;exact v (i6.mpr #[q,t,by rw[<-B];exact A.iter y n])
 refine#[λq C=>?_,?_,λj e m f=>?_]
 .rcases bH.mp C with z|z
  .exact h.rnd q z
  .rw[cC.mp z]
   refine#[d,l,s,λe f=>?_];obtain⟨j,m⟩:=rG (all e (l.aM g s e f))
   by_cases c:j<i
   .exact absurd (h.met j e c m) (off e f)
   .by_cases E:j=i
    .subst E;rw[p] at m;cases m
     exact .inr #[rfl,bb _]
    .obtain⟨F,G⟩:=dQ.mp p
     obtain⟨H,I⟩:=dQ.mp m;rw[<-G,<-I];exact zV.mp u i j F H (by lia)
 .rw[wq,c9]
  refine#[h.nod,by simpa using l.nodup g s,λa J b L e=>?_]
  subst e;exact off a (by simpa using L) J
 .rw[wq,bH]
  by_cases c:j=i
  .subst c;rw[p] at f;cases f
   exact .inr (by simpa using l.first)
  .exact .inl (h.met j e (by lia) f)
theorem Wk.fin(g:Good w)(all:∀e,aw w e->e∈a)(h:Wk w a a.length b):b.flatten.Perm (aM w):=by
 have sub:∀e,e∈b.flatten↔e∈aM w:=λe=>by
  rw[aD]
  constructor
  .intro c
   obtain⟨r,i,k⟩:=i6.mp c;obtain⟨d,R,l,_⟩:=h.rnd r i;exact R.aM g l e k
  .intro c
   obtain⟨j,f⟩:=rG (all e c);exact h.met j e (dQ.mp f).1 f
 exact(mH h.nod (bu g)).mpr sub
structure cU (w:W) (rs:List (List (Nat×Nat))):Prop where
 rnd:∀r∈rs,∃d,cG w d r/\aw w d/\∀e∈r,lexLe d e
 perm:rs.flatten.Perm (aM w)
theorem cU.Nj(R:cU w a)(p:b.Perm a):cU w b:=
 #[λr c=>R.rnd r (p.mem_iff.mp c),(p.flatten).trans R.perm]
theorem LC(g:Good w)(h:aw w d):d.1≠d.2:=λe=>g.irr d.1 (by have:d.2∈row w d.1:=h;rw[<-e] at this;exact this)
theorem xK{w:W}(g:Good w){f:List (Nat×Nat)}(l:f.Perm (fA (row w) w.length)):(f++f.map λt=>(t.2,t.1)).Perm (aM w):=by
 have e:=qg w;have n:=bu g
 have m:∀t,t∈f↔aw w t/\t.1<t.2:=λt=>by
  rw[l.mem_iff,e,qt,aD,decide_eq_true_eq]
 have i:f.Nodup:=l.nodup_iff.mpr (by rw[e];exact n.filter _)
 refine(mH ?_ n).mpr λd=>?_
 .rw[c9]
  refine#[i,?_,λa o b p z=>?_]
  .rw[nY,iV]
   rw[nY] at i;exact i.imp λ {a b} h z=>h (PP (IR z).2 (IR z).1)
  .obtain⟨c,j,rfl⟩:=aX.mp p
   have k:=((m a).mp o).2;have q:=((m c).mp j).2;rw[z] at k;have k:c.2<c.1:=k;lia
 .rw[bH,aX,aD]
  constructor
  .rintro(h| ⟨c,j,rfl⟩)
   .exact((m d).mp h).1
   .exact g.sym _ _ ((m c).mp j).1
  .intro h
   rcases Nat.lt_or_gt_of_ne (LC g h) with c|c
   .exact .inl ((m d).mpr #[h,c])
   .exact .inr #[(d.2,d.1),(m _).mpr #[g.sym _ _ h,c],rfl]
theorem cG.uniq(h:cG w d r)(b:cG w d a):r=a:=by
 obtain⟨k,e,f,g,rfl⟩:=h;obtain⟨m,i,j,l,rfl⟩:=b
 rcases abR k m with c|c|c
 .exact absurd f (l k e c)
 .rw[c]
 .exact absurd j (g m i c)
theorem cU.sub{c a:List (List (Nat×Nat))}(R:cU w c)(f:cU w a):∀r∈c,r∈a:=λr j=>by
 obtain⟨d,b,k,l⟩:=R.rnd r j;have m:d∈a.flatten:=f.perm.mem_iff.mpr (aD.mpr k);obtain⟨o,g,h⟩:=i6.mp m;obtain⟨p,i,u,q⟩:=f.rnd o g;obtain⟨n,s⟩:=i.back h;have t:lexLe d p:=by rw[<-s];exact l _ (b.iter b.first n)
 have e:=qE t (q d h);subst e;rw[b.uniq i];exact g
theorem cU.ne{w:W}{a:List (List (Nat×Nat))}(R:cU w a):∀r∈a,r≠ []:=λr b z=>by
 obtain⟨d,c,_⟩:=R.rnd r b
 have:=c.first
 rw[z] at this;cases this
theorem vP:∀{l:List (List c)},l.flatten.Nodup->(∀r∈l,r≠ [])->l.Nodup
 | [],_,_=>gQ
 |a::l,h,b=>by
  rw[fZ,c9] at h;refine bS.mpr #[λd=>?_,vP h.2.1 λr e=>b r (bP _ e)];cases a with
  |nil=>exact b [] (bB ..) rfl
  |cons x a=>exact h.2.2 x (bB ..) x (i6.mpr #[_,d,bB ..]) rfl
theorem cU.nodup{w:W}(g:Good w)(R:cU w a):a.Nodup:=vP (R.perm.nodup_iff.mpr (bu g)) R.ne
abbrev fU(a:List (List (Nat×Nat))):List (List Nat):=a.map λr=>r.map (·.1)
theorem Gr(h:L2.mr a b)(c:L2.mr b a):a=b:=by
 have:=L2.tP (L2.kR a) (L2.kR b) c h
 exact L2.Fe (by rw[this])
theorem cU.uniq(g:Good w)(R:cU w a)(c:cU w b)(s:(fU a).Pairwise L2.mr)(d:(fU b).Pairwise L2.mr):fU a=fU b:=by
 have e:a.Perm b:=(mH (R.nodup g) (c.nodup g)).mpr λr=>#[R.sub c r,c.sub R r];exact aaX (λ_ _ _ _=>Gr) s d (e.map _)
open Classical in
noncomputable def fV(w:W):List (List Nat):=if h:∃rs,cU w rs/\(fU rs).Pairwise L2.mr then fU h.choose else[]
theorem JZ(g:Good w)(R:cU w a)(s:(fU a).Pairwise L2.mr):fV w=fU a:=by
 have h:∃a,cU w a/\(fU a).Pairwise L2.mr:=#[a,R,s];unfold fV;rw[dif_pos h];exact h.choose_spec.1.uniq g R h.choose_spec.2 s
theorem NZ(h:cG w d r)(a:i<r.length):r.getD ((i+1)%r.length) (0,0)=bW w (r.getD i (0,0)):=by
 obtain⟨k,b,f,l,rfl⟩:=h;rw[cM] at a ⊢
 have at_:∀j,j<k->(walk w d k).getD j (0,0)=aC w j d:=λj g=>by
  unfold walk;rw[ck,b7,n5 g];rfl
 rw[at_ i a]
 by_cases c:i+1<k
 .rw[gP c,at_ _ c];rfl
 .have e:i+1=k:=by lia
  rw[e,qp,at_ 0 b];show d=aC w (i+1) d;rw[e,f]
theorem hZ(r:List (Nat×Nat))(i:Nat):(r.map (·.1)).getD i 0=(r.getD i (0,0)).1:=by
 rw[ck,ck,b7];cases r[i]? <;>rfl
theorem eU{a b:List Nat}{x y:Nat}(c:(a++x::y::b).Nodup):aE (a++x::y::b) x=y:=by
 have d:x∉a:=λh=>by
  have:=(c9.mp c).2.2 x h x (bB ..)
  exact this rfl
 have e:(a++x::y::b).idxOf x=a.length:=by
  rw[List.idxOf_append,ir d,List.idxOf_cons_self];simp
 unfold aE;rw[e,gP (by simp),ck,lE (by lia)]
 simp
theorem ik{b:List Nat}{x y:Nat}(a:(y::(b++ [x])).Nodup):aE (y::(b++ [x])) x=y:=by
 have c:x∉y::b:=λh=>by
  have d:(y::b++ [x]).Nodup:=a;exact(c9.mp d).2.2 x h x (by simp) rfl
 have e:(y::(b++ [x])).idxOf x=b.length+1:=by
  show(y::b++ [x]).idxOf x=_;rw[List.idxOf_append,ir c];simp
 unfold aE;rw[e]
 have:(b.length+1+1)%(y::(b++ [x])).length=0:=by simp
 rw[this];rfl
theorem nk{a b:List Nat}{x:Nat}(f:(a++b).Nodup)(h:x∈a++b):aE (b++a) x=aE (a++b) x:=by
 have d:(b++a).Nodup:=(mK.nodup_iff).mp f;obtain⟨u,v,e⟩:=zN h;cases v with
 |cons y v=>
  rw[e,eU (e▸f)]
  rcases List.append_eq_append_iff.mp e with ⟨c,g,i⟩ | ⟨c,g,i⟩
  .
   rw[i,show c++x::y::v++a=c++x::y::(v++a) by simp]
   refine eU ?_;rw[i] at d;simpa using d
  .
   cases c with
   |nil=>
    have j:b=x::y::v:=by simpa using i.symm
    rw[j,show x::y::v++a= []++x::y::(v++a) by simp]
    refine eU ?_;rw[j] at d;simpa using d
   |cons z c=>
    have l:x=z/\y::v=c++b:=by simpa using i
    obtain⟨rfl,n⟩:=l;cases c with
    |nil=>
     have j:b=y::v:=by simpa using n.symm
     rw[g,j,show y::v++(u++ [x])=y::((v++u)++ [x]) by simp]
     refine ik ?_;rw[g,j] at d;simpa using d
    |cons z c=>
     have l:y=z/\v=c++b:=by simpa using n
     obtain⟨rfl,rfl⟩:=l;rw[g,show b++(u++x::y::c)=(b++u)++x::y::c by simp]
     refine eU ?_;rw[g] at d;simpa using d
 |nil=>
  cases b with
  |nil=>simp
  |cons y b=>
   rcases abh b with rfl| ⟨k,z,rfl⟩
   .
    have:a=u/\y=x:=by
     have:=List.append_inj' e rfl
     exact#[this.1,by simpa using this.2]
    obtain⟨rfl,rfl⟩:=this;cases a with
    |nil=>rfl
    |cons t a=>
     have m:aE (t::a++ [y]) y=t:=ik (b:=a) f;rw[m];show aE ([]++y::t::a) y=t;exact eU (d)
   .have o:z=x:=by
     rw[Dc] at e;have e:(a++y::k)++ [z]=u++ [x]:=by simpa using e
     exact by simpa using(List.append_inj' e rfl).2
    subst o;rw[Dc] at f d ⊢;cases a with
    |nil=>simp
    |cons t a=>
     have m:aE (t::a++y::(k++ [z])) z=t:=by
      have:=ik (y:=t) (b:=a++y::k) (x:=z) (by simpa using f)
      simpa using this
     have p:aE (y::(k++ [z])++t::a) z=t:=by
      have:=eU (a:=y::k) (x:=z) (y:=t) (b:=a) (by simpa using d)
      simpa using this
     rw[m,p]
theorem vt{i:Nat}(a:l.Nodup)(h:i+1<l.length):aE l (l.getD i 0)=l.getD (i+1) 0:=by
 have e:l.getD i 0=l[i]:=by rw[ck,b8 (by lia)];rfl
 unfold aE;rw[e,a.idxOf_getElem i (by lia),gP h]
theorem Hf(a:l.Nodup)(h:i+1=l.length):aE l (l.getD i 0)=l.getD 0 0:=by
 have e:l.getD i 0=l[i]:=by rw[ck,b8 (by lia)];rfl
 unfold aE;rw[e,a.idxOf_getElem i (by lia),h,qp]
section
variable {w:W} {R:List Nat} {A:Nat×Nat->Prop} {v m:Nat} {y:Nat->Nat}
end
theorem getD_inj{l:List Nat}(a:l.Nodup)(b:i<l.length)(c:j<l.length)(e:l.getD i 0=l.getD j 0):i=j:=by
 have f:l.getD i 0=l[i]:=by rw[ck,b8 b];rfl
 have g:l.getD j 0=l[j]:=by rw[ck,b8 c];rfl
 rw[f,g] at e;have d:=a.idxOf_getElem i b;have h:=a.idxOf_getElem j c;rw[e,h] at d;exact d.symm
theorem rU{l:List Nat}{i:Nat}(h:i<l.length):l.getD i 0∈l:=by
 rw[ck,b8 h];exact uA h
section
variable {w:W} {R:List Nat} {A:Nat×Nat->Prop}
end
end Wb
set_option maxHeartbeats 1000000
namespace Wb
theorem w9(a:(v::l).Nodup)(d:x∈l)(f:x≠l.getD (l.length-1) 0):aE (v::l) x=aE l x:=by
 obtain⟨i,g,rfl⟩:=Bv.mp d;have e:l[i]=l.getD i 0:=by rw[ck,b8 g];rfl
 have h:i+1<l.length:=by
  apply Da;intro c;exact f (by rw[e,show l.length-1=i by lia])
 have b:=vt (i:=i+1) a (by simp;lia)
 have j:=vt (i:=i) (bS.mp a).2 h;rw[Dd,Dd] at b;rw[e,b,j]
section
variable {w w':W} {R:List Nat} {f:Nat}
end
theorem yr{f:Nat->Nat}{x:Nat}:∀{l:List Nat},(∀y∈l,f y=f x->y=x)->(l.map f).idxOf (f x)=l.idxOf x
 | [],_=>rfl
 |a::l,h=>by
  rw[bT,ab9,ab9,yr λy b=>h y (bP _ b)]
  by_cases c:a=x
  .subst c;simp
  .have:f a≠f x:=λz=>c (h a (bB ..) z)
   have d:(f a==f x)=false:=by simpa using this
   have e:(a==x)=false:=by simpa using c
   rw[d,e]
theorem Hg{f:Nat->Nat}{l:List Nat}{x:Nat}(h:∀y∈l,f y=f x->y=x)(a:x∈l):aE (l.map f) (f x)=f (aE l x):=by
 have e:=hJ a;show(l.map f).getD (((l.map f).idxOf (f x)+1)%(l.map f).length) 0=_;rw[yr h,aG,ck,b7,e];rfl
section
variable {w w':W} {f:Nat->Nat}
open Classical in
end
theorem y4{w:W}(h:i<w.length):row (w.set i r) x=if i=x then r else row w x:=by
 unfold row;rw[ck,n6,ck]
 by_cases e:i=x
 .subst e;rw[ls rfl,ls h,ls rfl];rfl
 .rw[ir e,ir e]
theorem Cv{c d:Type}{f:c->d}{l:List c}(g:l.Nodup)(inj:∀a∈l,∀b∈l,f a=f b->a=b):(l.map f).Nodup:=by
 rw[nY,iV];exact(nY.mp g).imp_of_mem λ {a b} h i j e=>j (inj a h b i e)
section
variable {w:W} {R:List Nat} {A:Nat×Nat->Prop}
theorem vW{f:h->List k}:∀{l:List h},l.Nodup->(∀a∈l,(f a).Nodup)->(∀a∈l,∀b∈l,∀x,x∈f a->x∈f b->a=b)->(l.flatMap f).Nodup
 | [],_,_,_=>gQ
 |a::l,m,i,j=>by
  obtain⟨n,o⟩:=bS.mp m;rw[z5,c9];refine#[i a (bB ..),vW o (λb d=>i b (bP _ d)) (λb d c p=>j b (bP _ d) c (bP _ p)),λx q y g e=>?_];obtain⟨b,d,g⟩:=vD.mp g;subst e
  have:=j a (bB ..) b (bP _ d) x q g
  exact n (by rw[this];exact d)
end
theorem gN{w:W}{d:Nat×Nat}(h:i<k):(walk w d k)[i]? =some (aC w i d):=by
 unfold walk;rw[b7,n5 h];rfl
theorem sM{w:W}(h:¬i<k):(walk w d k)[i]? =none:=iu (by rw[cM];lia)
theorem cG.N0{w:W}(g:Good w)(h:cG w d r)(b:aw w d)(c:m<r.length):cG w (r.getD m (0,0)) (r.drop m++r.take m):=by
 obtain⟨k,n,l,o,rfl⟩:=h;rw[cM] at c;have e:(walk w d k).getD m (0,0)=aC w m d:=by rw[ck,gN c];rfl
 rw[e];have per:aC w k (aC w m d)=aC w m d:=by rw[<-cJ,rN,cJ,l]
 refine#[k,n,per,λj p q z=>?_,?_]
 .have:aC w m (aC w j d)=aC w m d:=by rw[<-cJ,rN,cJ,z]
  exact o j p q (pk g (bQ g b j) b m this)
 .refine rJ λi=>?_
  have a:((walk w d k).drop m).length=k-m:=by rw[qr,cM]
  by_cases s:i<k-m
  .rw[mI (by rw[a];exact s),vz,gN (by lia),gN (by lia),<-cJ,rN]
  .rw[lE (by rw[a];lia),a]
   by_cases t:i<k
   .rw[Dg,ls (by lia),gN (by lia),gN t,<-cJ,show i+m=(i-(k-m))+k by lia,cJ,l]
   .rw[Dg,ir (by lia),sM (by lia)]
structure Dk (w v:W) (f:Nat×Nat->Nat×Nat):Prop where
 dart:∀d,aw w d->aw v (f d)
 inj:∀d e,aw w d->aw w e->f d=f e->d=e
 nx:∀d,aw w d->bW v (f d)=f (bW w d)
theorem Dk.aC{w v:W}{f:Nat×Nat->Nat×Nat}(M:Dk w v f)(g:Good w){d:Nat×Nat}(a:aw w d):∀n,Wb.aC v n (f d)=f (Wb.aC w n d)
 |0=>rfl
 |n+1=>by
  show bW v (Wb.aC v n (f d))=f (bW w (Wb.aC w n d));rw[M.aC g a n,M.nx _ (bQ g a n)]
theorem Dk.rnd{w v:W}{f:Nat×Nat->Nat×Nat}(M:Dk w v f)(g:Good w)(h:cG w d r)(a:aw w d):cG v (f d) (r.map f):=by
 obtain⟨k,b,c,e,rfl⟩:=h;refine#[k,b,by rw[M.aC g a,c],λj l m z=>?_,?_]
 .rw[M.aC g a] at z
  exact e j l m (M.inj _ _ (bQ g a j) a z)
 .unfold walk
  rw[b9];exact De λi _=>(M.aC g a i).symm
theorem mT(a b:Nat×Nat):lexLe a b\/lexLe b a:=by unfold lexLe;lia
theorem Cg(h:lexLe a b)(d:lexLe b c):lexLe a c:=by unfold lexLe at*;lia
theorem A7:∀c:List (Nat×Nat),c≠ []->∃e∈c,∀x∈c,lexLe e x
 | [],h=>absurd rfl h
 | [a],_=>#[a,by simp,λx d=>by rw[cC] at d;subst d;exact(mT x x).elim id id]
 |a::b::c,_=>by
  obtain⟨e,i,g⟩:=A7 (b::c) (by simp)
  rcases mT a e with h|h
  .refine#[a,by simp,λx d=>?_]
   rcases bo.mp d with rfl|d
   .exact(mT x x).elim id id
   .exact Cg h (g x d)
  .refine#[e,bP _ i,λx d=>?_]
   rcases bo.mp d with rfl|d
   .exact h
   .exact g x d
open Classical in
noncomputable def wL(c:List (Nat×Nat)):Nat:=if h:∃e,e∈c/\∀x∈c,lexLe e x then c.idxOf h.choose else 0
theorem JY(h:c≠ []):wL c<c.length/\c.getD (wL c) (0,0)∈c/\(∀x∈c,lexLe (c.getD (wL c) (0,0)) x)/\wL c=c.idxOf (c.getD (wL c) (0,0)):=by
 have d:∃e,e∈c/\∀x∈c,lexLe e x:=let #[e,a,b]:=A7 c h;#[e,a,b];have g:wL c=c.idxOf d.choose:=by unfold wL;rw[dif_pos d]
 have s:=d.choose_spec;have l:=rF.mpr s.1
 have i:c.getD (wL c) (0,0)=d.choose:=by
  rw[g,ck,b8 l];exact z4 l
 rw[i,g];exact#[l,s.1,s.2,rfl]
noncomputable def AH(c:List (Nat×Nat)):List (Nat×Nat):=c.drop (wL c)++c.take (wL c)
theorem xE(c:List (Nat×Nat)):(AH c).Perm c:=by
 unfold AH
 have:=mK (l₁:=c.drop (wL c)) (l₂:=c.take (wL c))
 rwa [iU] at this
theorem Jd{w:W}(g:Good w)(h:cG w d r)(a:aw w d):∃e,cG w e (AH r)/\aw w e/\∀x∈AH r,lexLe e x:=by
 have ne:r≠ []:=λz=>by have:=h.first;rw[z] at this;cases this
 obtain⟨b,c,i,_⟩:=JY ne;exact#[_,h.N0 g a b,h.aM g a _ c,λx j=>i x ((xE r).mem_iff.mp j)]
theorem rf{f:List b->List b}(h:∀r,(f r).Perm r):∀a:List (List b),(a.map f).flatten.Perm a.flatten
 | []=> .nil
 |r::a=>by
  rw[bT,fZ,fZ];exact(h r).append (rf h a)
theorem DU{w v:W}(g:Good w)(b:Good v){f:Nat×Nat->Nat×Nat}(dart:∀d,aw w d->aw v (f d))(inj:∀d e,aw w d->aw w e->f d=f e->d=e)(sur:∀e,aw v e->∃d,aw w d/\f d=e):((aM w).map f).Perm (aM v):=by
 refine(mH ?_ (bu b)).mpr λe=>?_
 .rw[nY,iV]
  have:=bu g
  rw[nY] at this;exact aar (λc i n z=>n (inj _ _ (aD.mp c) (aD.mp i) z)) this
 .rw[aX,aD]
  exact#[λ#[d,a,z]=>z▸dart d (aD.mp a),λh=>let #[d,a,z]:=sur e h;#[d,aD.mpr a,z]]
structure By (w v:W) (φ:Nat->Nat):Prop where
 len:v.length=w.length
 lt:∀p,p<w.length->φ p<w.length
 inj:∀p q,p<w.length->q<w.length->φ p=φ q->p=q
 sur:∀y,y<w.length->∃p,p<w.length/\φ p=y
 row:∀p,p<w.length->∃b,Wb.row v (φ p)=((Wb.row w p).map φ).drop b++((Wb.row w p).map φ).take b
theorem By.mem{w v:W}(N:By w v a){p y:Nat}(c:p<w.length):y∈Wb.row v (a p)↔y∈(Wb.row w p).map a:=by
 obtain⟨b,e⟩:=N.row p c;rw[e,bH]
 conv=>rhs;rw[<-iU b ((Wb.row w p).map a),bH]
 exact or_comm
theorem By.dmap{w v:W}(N:By w v c)(g:Good w):Dk w v (λd=>(c d.1,c d.2)):=by
 have i:∀d,aw w d->d.1<w.length/\d.2<w.length:=λd h=>#[aU h,g.rng _ _ h];refine#[λd h=>?_,λd e j k z=>?_,λd h=>?_]
 .exact(N.mem (i d h).1).mpr (aX.mpr #[d.2,h,rfl])
 .have m:=(IR z).1
  have o:=(IR z).2;exact PP (N.inj _ _ (i d j).1 (i e k).1 m) (N.inj _ _ (i d j).2 (i e k).2 o)
 .obtain⟨b,e⟩:=N.row d.2 (i d h).2
  have l:d.1∈Wb.row w d.2:=g.sym _ _ h;have p:∀y∈Wb.row w d.2,c y=c d.1->y=d.1:=λy q z=>N.inj _ _ (g.rng _ _ q) (i d h).1 z
  have r:((Wb.row w d.2).map c).Nodup:=by
   have:=g.nod d.2
   rw[nY] at this ⊢;rw[iV];exact aar (λs t n z=>n (N.inj _ _ (g.rng _ _ s) (g.rng _ _ t) z)) this
  have u:c d.1∈(Wb.row w d.2).map c:=aX.mpr #[_,l,rfl];show(c d.2,aE (Wb.row v (c d.2)) (c d.1))=(c d.2,c (aE (Wb.row w d.2) d.1));rw[e];have A:=nk (a:=((Wb.row w d.2).map c).take b) (b:=((Wb.row w d.2).map c).drop b) (x:=c d.1) (by rw[iU];exact r) (by rw[iU];exact u)
  rw[A,iU,Hg p l]
theorem By.YT{w v:W}(N:By w v a):∀e,aw v e->∃d,aw w d/\(a d.1,a d.2)=e:=λe h=>by
 have b:=aU h;rw[N.len] at b;obtain⟨p,g,c⟩:=N.sur e.1 b;have h:e.2∈Wb.row v e.1:=h;rw[<-c] at h;obtain⟨q,i,j⟩:=aX.mp ((N.mem g).mp h);exact#[(p,q),i,PP c j]
abbrev Dt:=Nat×Nat
def lZ(w:W):Dt->List Dt->Dt->Prop
 |x,[],y=>x=y
 |x,a::l,y=>x=a/\lZ w (bW w a) l y
theorem fX{w:W}:∀{l m:List Dt}{x z:Dt},lZ w x (l++m) z↔∃y,lZ w x l y/\lZ w y m z
 | [],m,x,z=>#[λh=>#[x,rfl,h],λ#[y,e,h]=>by have e:x=y:=e;subst e;exact h]
 |a::l,m,x,z=>#[λ#[e,h]=>let #[y,b,c]:=fX.mp h;#[y,#[e,b],c],λ#[y,#[e,b],c]=>#[e,fX.mpr #[y,b,c]]]
theorem zw(w:W)(d:Dt)(n:Nat):walk w d (n+1)=d::walk w (bW w d) n:=by
 refine rJ λi=>?_;cases i with
 |zero=>rw[gN (by lia)];rfl
 |succ i=>
  rw[uv]
  by_cases h:i<n
  .rw[gN (by lia),gN h]
   exact FS some (cJ (w:=w) (d:=d) 1 i)
  .rw[sM (by lia),sM h]
theorem qL{w:W}:∀{l:List Dt}{x y:Dt},lZ w x l y↔l=walk w x l.length/\y=aC w l.length x
 | [],x,y=>#[λh=>#[rfl,(show x=y from h).symm],λh=>h.2.symm]
 |a::l,x,y=>by
  have e:aC w (l.length+1) x=aC w l.length (bW w x):=cJ (w:=w) (d:=x) 1 l.length
  constructor
  .rintro⟨rfl,h⟩
   obtain⟨b,c⟩:=qL.mp h;rw[bN,zw,e];exact#[FS (x::·) b,c]
  .rintro⟨b,c⟩
   rw[bN,zw] at b;obtain⟨g,i⟩:=W1 b;rw[bN,e] at c;subst g;exact#[rfl,qL.mpr #[i,c]]
theorem cG.GV{w:W}(h:cG w d r):lZ w d r d:=by
 obtain⟨k,b,a,c,rfl⟩:=h;exact qL.mpr #[by rw[cM],by rw[cM,a]]
theorem qO{w:W}(h:lZ w d r d)(ne:r≠ [])(e:r.Nodup):cG w d r:=by
 obtain⟨c,g⟩:=qL.mp h;refine#[r.length,Df.mpr ne,g.symm,λj k i z=>?_,c];have a:r[j]? =some (aC w j d):=by rw[c];exact gN i
 have b:r[0]? =some (aC w 0 d):=by rw[c];exact gN (by lia)
 rw[z] at a;have b:r[0]? =some d:=b
 have:=(zQ (by lia:j<r.length) e).mp (a.trans b.symm)
 lia
theorem vf{w v:W}:∀{l:List Dt}{x y:Dt},lZ w x l y->(∀e∈l,bW v e=bW w e)->lZ v x l y
 | [],x,y,h,_=>h
 |a::l,x,y,#[e,h],k=>#[e,by rw[k a (bB ..)];exact vf h λe b=>k e (bP _ b)]
theorem ic{w v:W}(h:lZ w x (l++ [z]) y)(k:∀e∈l,bW v e=bW w e)(c:bW v z=b):lZ v x (l++ [z]) b/\bW w z=y:=by
 obtain⟨m,d,g,a⟩:=fX.mp h;have a:bW w z=y:=a;exact#[fX.mpr #[m,vf d k,g,c],a]
theorem gZ{l:List b}(h:l≠ []):∃a z,l=a++ [z]:=#[l.dropLast,l.getLast h,(List.dropLast_concat_getLast h).symm]
theorem KN(d:(u::r::t).Nodup):aE (u::r::t) u=r/\∀x∈r::t,aE (u::r::t) x=if aE (r::t) x=r then u else aE (r::t) x:=by
 have g:=(bS.mp d).2;refine#[eU (a:= []) d,λx i=>?_];obtain⟨b,z,e⟩:=gZ (l:=r::t) (by simp)
 have lz:aE (r::t) z=r:=by
  cases t with
  |nil=>
   have:b= []/\z=r:=by
    cases b with
    |nil=>simp at e;exact#[rfl,e.symm]
    |cons a b=>simp at e
   rw[this.2];unfold aE;simp
  |cons a t=>
   cases b with
   |nil=>simp at e
   |cons c b=>
    have j:a::t=b++ [z]:=(W1 e).2
    have:=ik (b:=b) (x:=z) (y:=r) (by rw[<-j];exact g)
    rw[j];exact this
 have k:z∈r::t:=by rw[e];simp
 by_cases c:x=z
 .subst c
  rw[ls lz]
  have:=ik (b:=b) (x:=x) (y:=u) (by rw[<-e];exact d)
  rw[e];exact this
 .rw[ir (λh=>c (zo g i k (h.trans lz.symm)))]
  refine w9 d i ?_;rw[e];intro h;apply c;rw[h,ck,cE,lE (by simp),show b.length+ [z].length-1-b.length=0 by simp];rfl
def BA(l e:List Nat)(r u:Nat):Prop:=∃a t b,l=b++a/\a++b=r::t/\∃c d,e=d++c/\c++d=u::r::t
theorem BA.succ(P:BA l d r u)(p:l.Nodup)(q:u∉l):aE d u=r/\(∀x∈l,aE d x=if aE l x=r then u else aE l x)/\d.Nodup/\(∀x,x∈d↔x=u\/x∈l)/\r∈l:=by
 rfl';obtain⟨a,t,b,rfl,g,i,j,rfl,h⟩:=P;have e:(b++a).Perm (r::t):=by rw[<-g];exact mK
 have m:(j++i).Perm (u::r::t):=by rw[<-h];exact mK
 have n:(r::t).Nodup:=e.nodup_iff.mp p;have k:(u::r::t).Nodup:=bS.mpr #[λz=>q (e.mem_iff.mpr z),n];obtain⟨v,y⟩:=KN k;ac_rfl
 have A:∀x∈r::t,aE (b++a) x=aE (r::t) x:=λx c=>by
  have:=nk (a:=a) (b:=b) (x:=x) (by rw[g];exact n) (by rw[g];exact c)
  rw[this,g]
 have o:∀x∈u::r::t,aE (j++i) x=aE (u::r::t) x:=λx c=>by
  have:=nk (a:=i) (b:=j) (x:=x) (by rw[h];exact k) (by rw[h];exact c)
  rw[this,h]
 refine#[by rw[o u (by simp),v],λx c=>?_,m.nodup_iff.mpr k,λx=>?_,e.mem_iff.mpr (by simp)]
 .have c:=e.mem_iff.mp c
  rw[o x (bP _ c),A x c,y x c]
 .rw[m.mem_iff,bo,e.mem_iff]
theorem EX(h:l[i]? =some r):BA l (ins l i u) r u:=by
 obtain⟨b,e⟩:=dQ.mp h;have a:l.drop i=r::l.drop (i+1):=by rw[nZ b,e]
 refine#[l.drop i,l.drop (i+1)++l.take i,l.take i,(iU ..).symm,by rw[a];rfl,u::l.drop i,l.take i,rfl,by rw[a];rfl]
theorem NR(h:l[0]? =some r):BA l (ins l l.length u) r u:=by
 cases l with
 |nil=>simp at h
 |cons a t=>
  simp at h;subst h;refine#[a::t,t,[],rfl,by simp,[u],a::t,?_,rfl]
  unfold ins;simp
def kc(w:W)(a:List (List Dt)):Prop:=∀r∈a,∃d,cG w d r/\aw w d
def Fc(w:W)(n:Nat):Prop:=∃a,kc w a/\a.flatten.Perm (aM w)/\a.length=n
theorem JC(a:List (List c))(r:List c)(b:List (List c)):(a++r::b).flatten.Perm (r++(a++b).flatten):=by
 rw[wq,wq,fZ,<-f6,<-f6];exact aa6 _ mK
theorem sE{w:W}(g:Good w)(h:kc w k)(t:d∈k.flatten):∃l c,cG w d l/\aw w d/\(l++c.flatten).Perm k.flatten/\kc w c/\c.length+1=k.length:=by
 rfl';obtain⟨r,m,n⟩:=i6.mp t;obtain⟨e,o,p⟩:=h r m;obtain⟨i,q,v⟩:=Bv.mp n;have y:r.getD i (0,0)=d:=by rw[ck,b8 q];exact v
 have s:=o.N0 g p q;rw[y] at s;obtain⟨a,b,rfl⟩:=zN m;ac_rfl
 have z:(r.drop i++r.take i).Perm r:=by
  have:=mK (l₁:=r.drop i) (l₂:=r.take i)
  rwa [iU] at this
 refine#[_,a++b,s,o.aM g p d n,?_,λx j=>h x ?_,by simp;lia]
 .exact(z.append_right _).trans (JC a r b).symm
 .rcases bH.mp j with j|j
  .exact fj _ j
  .exact cN _ (bP _ j)
theorem kc.dart{w:W}(g:Good w)(h:kc w a):∀e∈a.flatten,aw w e:=λe b=>by
 obtain⟨r,c,i⟩:=i6.mp b;obtain⟨d,R,j⟩:=h r c;exact R.aM g j e i
theorem kc.keep{w v:W}(g:Good w)(h:kc w a)(k:∀e∈a.flatten,bW v e=bW w e)(dv:∀d,aw w d->aw v d):kc v a:=λr b=>by
 obtain⟨d,R,c⟩:=h r b;refine#[d,qO (vf R.GV λe i=>k e (i6.mpr #[r,b,i])) (λz=>?_) (R.nodup g c),dv d c]
 have:=R.first
 rw[z] at this;cases this
theorem Pe{w x:W}(g:Good w)(gx:Good x)(hp:aw w (p,r))(hu:aw w (u,v))(pu:p≠u)(nt:¬aw w (p,u))
  (P:∀e,aw w e->bW w e≠(p,r)->bW w e≠(u,v)->bW x e=bW w e) (k1:∀e,aw w e->bW w e=(p,r)->bW x e=(p,u)) (k2:∀e,aw w e->bW w e=(u,v)->bW x e=(u,p))
  (k3:bW x (p,u)=(u,v)) (k4:bW x (u,p)=(p,r)) (dx:∀d,aw x d↔d=(p,u)\/d=(u,p)\/aw w d) (h:Fc w c):
  (Fc x (c+1)\/(Fc x (c-1)/\2<=c))/\((∃m,cG w (p,r) m/\(u,v)∈m)->Fc x (c+1)):=by
 obtain⟨rs,hA,pm,hl⟩:=h;obtain⟨m,J,R1,_,p1,L,l1⟩:=sE g hA (pm.mem_iff.mpr (aD.mpr hp));have T:=p1.trans pm;have nd:=T.nodup_iff.mpr (bu g);obtain⟨Cu,i4,yH⟩:=c9.mp nd;have GA:¬aw w (u,p):=λh=>nt (g.sym _ _ h);have q:∀d,aw w d->d≠(p,u)/\d≠(u,p):=λd h=>#[λz=>nt (z▸h),λz=>GA (z▸h)];have k:∀e∈m,aw w e:=λe i=>aD.mp (T.mem_iff.mp (fj _ i));have upv:(p,r)≠(u,v):=λz=>pu (IR z).1;have Gw:(p,u)≠((u,p):Dt):=λz=>pu (IR z).1;have U:∀d,aw w d->aw x d:=λd h=>(dx d).mpr (.inr (.inr h))
 have one:(u,v)∈m->Fc x (c+1):=λR=>by
  obtain⟨a,b,X⟩:=zN R;have S:=R1.GV;rw[X] at S;obtain⟨y,Pa,Pb⟩:=fX.mp S;obtain rfl:y=(u,v):=Pb.1;have ZU:a≠ []:=λz=>by subst z;exact upv Pa
  obtain⟨a0,n,s⟩:=gZ ZU;obtain⟨b0,o,t⟩:=gZ (l:=(u,v)::b) (by simp)
  have Sw:=Pa;rw[s] at Sw;have Sx:=Pb;rw[t] at Sx;have Y:bW w n=(u,v):=(ic (v:=w) Sw (λ_ _=>rfl) rfl).2;have Z:bW w o=(p,r):=(ic (v:=w) Sx (λ_ _=>rfl) rfl).2;have P8:(a++(u,v)::b).Nodup:=X▸Cu;obtain⟨na,nb,UG⟩:=c9.mp P8;have B:∀e∈a,e∈m:=λe i=>by rw[X];exact fj _ i
  have C:∀e∈(u,v)::b,e∈m:=λe i=>by rw[X];exact cN _ i
  have E:n∈a:=by rw[s];simp
  have F:o∈(u,v)::b:=by rw[t];simp
  have M:∀e,aw w e->bW w e=(u,v)->e=n:=λe i h=>kB g i (k _ (B _ E)) (h.trans Y.symm);have N:∀e,aw w e->bW w e=(p,r)->e=o:=λe i h=>kB g i (k _ (C _ F)) (h.trans Z.symm);have UE:n∉a0:=λh=>by rw[s] at na;exact(c9.mp na).2.2 n h n (by simp) rfl
  have UI:o∉b0:=λh=>by rw[t] at nb;exact(c9.mp nb).2.2 o h o (by simp) rfl
  have Qa:=(ic (v:=x) Sw (λe i=>by
   have G:e∈a:=by rw[s];exact fj _ i
   exact P e (k _ (B e G)) (λh=>UG e G o F (N e (k _ (B e G)) h)) λh=>UE (M e (k _ (B e G)) h▸i)) (k2 n (k _ (B _ E)) Y)).1
  have Qb:=(ic (v:=x) Sx (λe i=>by
   have H:e∈(u,v)::b:=by rw[t];exact fj _ i
   exact P e (k _ (C e H)) (λh=>UI (N e (k _ (C e H)) h▸i)) λh=>UG n E e H (M e (k _ (C e H)) h).symm) (k1 o (k _ (C _ F)) Z)).1
  rw[<-s] at Qa;rw[<-t] at Qb;have Ra:lZ x (p,r) (a++ [(u,p)]) (p,r):=fX.mpr #[_,Qa,rfl,k4];have Rb:lZ x (u,v) ((u,v)::b++ [(p,u)]) (u,v):=fX.mpr #[_,Qb,rfl,k3];have RW:(a++ [(u,p)]).Nodup:=c9.mpr #[na,by simp,λe i f j z=>by rw[cC] at j;exact(q e (k _ (B e i))).2 (z.trans j)]
  have RX:((u,v)::b++ [(p,u)]).Nodup:=c9.mpr #[nb,by simp,λe i f j z=>by rw[cC] at j;exact(q e (k _ (C e i))).1 (z.trans j)]
  refine#[(a++ [(u,p)])::((u,v)::b++ [(p,u)])::J,λy I=>?_,?_,by rw[bN,bN];lia]
  .rcases bo.mp I with rfl|I
   .exact#[_,qO Ra (by simp) RW,U _ hp]
   .rcases bo.mp I with rfl|I
    .exact#[_,qO Rb (by simp) RX,U _ hu]
    .refine L.keep g (λe i=>P e (L.dart g e i) (λh=>?_) λh=>?_) U y I
     .exact yH o (C _ F) e i (N e (L.dart g e i) h).symm
     .exact yH n (B _ E) e i (M e (L.dart g e i) h).symm
  .refine(mH ?_ (bu gx)).mpr λd=>?_
   .rw[fZ,fZ,c9]
    refine#[RW,c9.mpr #[RX,i4,λe i f j z=>?_],λe i f j z=>?_]
    .rcases bH.mp i with i|i
     .exact yH e (C e i) f j z
     .rw[cC] at i;exact(q f (L.dart g f j)).1 (z.symm.trans i)
    .rcases bH.mp j with j|j
     .rcases bH.mp j with j|j
      .rcases bH.mp i with i|i
       .exact UG e i f j z
       .rw[cC] at i;exact(q f (k _ (C f j))).2 (z.symm.trans i)
      .rw[cC] at j
       rcases bH.mp i with i|i
       .exact(q e (k _ (B e i))).1 (z.trans j)
       .rw[cC] at i;exact Gw (j.symm.trans (z.symm.trans i))
     .rcases bH.mp i with i|i
      .exact yH e (B e i) f j z
      .rw[cC] at i;exact(q f (L.dart g f j)).2 (z.symm.trans i)
   .rw[aD,dx,<-aD (w:=w),<-T.mem_iff,X]
    simp only[fZ,bH,bo,abd,or_false]
    constructor
    .rintro((h|h) | ((h|h) |h) |h)
     .exact .inr (.inr (.inl (.inl h)))
     .exact .inr (.inl h)
     .exact .inr (.inr (.inl (.inr (.inl h))))
     .exact .inr (.inr (.inl (.inr (.inr h))))
     .exact .inl h
     .exact .inr (.inr (.inr h))
    .rintro(h|h| (h|h|h) |h)
     .exact .inr (.inl (.inr h))
     .exact .inl (.inr h)
     .exact .inl (.inl h)
     .exact .inr (.inl (.inl (.inl h)))
     .exact .inr (.inl (.inl (.inr h)))
     .exact .inr (.inr h)
 refine#[?_,λ#[r1',Zt,R]=>one (by rw[R1.uniq Zt];exact R)]
 by_cases R:(u,v)∈m
 .exact .inl (one R)
 .refine .inr ?_
  have hvr:(u,v)∈J.flatten:=by
   have:=T.mem_iff.mpr (aD.mpr hu)
   exact(bH.mp this).resolve_left R
  obtain⟨A,NX,R2,_,p2,Ml,l2⟩:=sE g L hvr;have Kt:(m++(A++NX.flatten)).Perm (aM w):=(p2.append_left m).trans T;have ndw:=Kt.nodup_iff.mpr (bu g);obtain⟨_,Ye,Na⟩:=c9.mp ndw;obtain⟨Kc,UJ,Yf⟩:=c9.mp Ye;have O:∀e∈A,aw w e:=λe i=>aD.mp (Kt.mem_iff.mp (cN _ (fj _ i)));have ne1:m≠ []:=λz=>by have:=R1.first;rw[z] at this;cases this
  have ne2:A≠ []:=λz=>by have:=R2.first;rw[z] at this;cases this
  obtain⟨a0,n,s⟩:=gZ ne1;obtain⟨b0,o,t⟩:=gZ ne2;have S:=R1.GV;rw[s] at S;have P2:=R2.GV;rw[t] at P2;have Y:bW w n=(p,r):=(ic (v:=w) S (λ_ _=>rfl) rfl).2;have Z:bW w o=(u,v):=(ic (v:=w) P2 (λ_ _=>rfl) rfl).2;have E:n∈m:=by rw[s];simp
  have F:o∈A:=by rw[t];simp
  have M:∀e,aw w e->bW w e=(p,r)->e=n:=λe i h=>kB g i (k _ E) (h.trans Y.symm);have N:∀e,aw w e->bW w e=(u,v)->e=o:=λe i h=>kB g i (O _ F) (h.trans Z.symm);have UE:n∉a0:=λh=>by rw[s] at Cu;exact(c9.mp Cu).2.2 n h n (by simp) rfl
  have UI:o∉b0:=λh=>by rw[t] at Kc;exact(c9.mp Kc).2.2 o h o (by simp) rfl
  have Vu:∀e∈m,∀f∈A,e≠f:=λe i f j=>Na e i f (fj _ j)
  have Qa:=(ic (v:=x) S (λe i=>by
   have G:e∈m:=by rw[s];exact fj _ i
   exact P e (k e G) (λh=>UE (M e (k e G) h▸i)) λh=>Vu e G o F (N e (k e G) h)) (k1 n (k _ E) Y)).1
  have Qb:=(ic (v:=x) P2 (λe i=>by
   have H:e∈A:=by rw[t];exact fj _ i
   exact P e (O e H) (λh=>Vu n E e H (M e (O e H) h).symm) λh=>UI (N e (O e H) h▸i)) (k2 o (O _ F) Z)).1
  rw[<-s] at Qa;rw[<-t] at Qb;have Q:lZ x (p,r) (m++((p,u)::(A++ [(u,p)]))) (p,r):=fX.mpr #[_,Qa,rfl,by rw[k3];exact fX.mpr #[_,Qb,rfl,k4]]
  have RU:∀e,e∈m++((p,u)::(A++ [(u,p)]))↔e∈m\/e=(p,u)\/e∈A\/e=(u,p):=λe=>by simp
  have Yh:(m++((p,u)::(A++ [(u,p)]))).Nodup:=by
   refine c9.mpr #[Cu,bS.mpr #[λh=>?_,c9.mpr #[Kc,by simp,λe i f j z=>?_]],λe i f j z=>?_]
   .rcases bH.mp h with h|h
    .exact(q _ (O _ h)).1 rfl
    .rw[cC] at h;exact Gw h
   .rw[cC] at j;exact(q e (O e i)).2 (z.trans j)
   .rcases bo.mp j with j|j
    .exact(q e (k e i)).1 (z.trans j)
    .rcases bH.mp j with j|j
     .exact Vu e i f j z
     .rw[cC] at j;exact(q e (k e i)).2 (z.trans j)
  refine#[#[(m++((p,u)::(A++ [(u,p)])))::NX,λy I=>?_,?_,by rw[bN];lia],by lia]
  .rcases bo.mp I with rfl|I
   .exact#[_,qO Q (by simp) Yh,U _ hp]
   .refine Ml.keep g (λe i=>P e (Ml.dart g e i) (λh=>?_) λh=>?_) U y I
    .exact Na n E e (cN _ i) (M e (Ml.dart g e i) h).symm
    .exact Yf o F e i (N e (Ml.dart g e i) h).symm
  .refine(mH ?_ (bu gx)).mpr λd=>?_
   .rw[fZ,c9]
    refine#[Yh,UJ,λe i f j z=>?_];have df:=Ml.dart g f j
    rcases(RU e).mp i with i|i|i|i
    .exact Na e i f (cN _ j) z
    .exact(q f df).1 (z.symm.trans i)
    .exact Yf e i f j z
    .exact(q f df).2 (z.symm.trans i)
   .rw[aD,dx,<-aD (w:=w),<-Kt.mem_iff,fZ,bH,RU]
    simp only[bH]
    constructor
    .rintro((h|h|h|h) |h)
     .exact .inr (.inr (.inl h))
     .exact .inl h
     .exact .inr (.inr (.inr (.inl h)))
     .exact .inr (.inl h)
     .exact .inr (.inr (.inr (.inr h)))
    .rintro(h|h|h|h|h)
     .exact .inl (.inr (.inl h))
     .exact .inl (.inr (.inr (.inr h)))
     .exact .inl (.inl h)
     .exact .inl (.inr (.inr (.inl h)))
     .exact .inr h
def Eu(b:Bool)(w:W):Prop:=2<=w.length->∃c,Fc w c/\2*(w.length+c)<=gr w+4/\(b=true->2*(w.length+c)=gr w+4)
theorem Eu.UH{w v:W}(g:Good w)(i:Good v)(E:Eu b w)(N:By w v a)(j:gr v=gr w):Eu b v:=λe=>by
 rw[N.len] at e ⊢;rfl';obtain⟨c,⟨l,m,n,o⟩,p,q⟩:=E e;ac_rfl;rw[j];refine#[c,#[l.map λr=>r.map λd=>(a d.1,a d.2),λx s=>?_,?_,by rw[aG];exact o],p,q]
 .obtain⟨r,t,rfl⟩:=aX.mp s
  obtain⟨d,R,h⟩:=m r t;exact#[_,(N.dmap g).rnd g R h,(N.dmap g).dart d h]
 .rw[<-List.map_flatten]
  exact(n.map _).trans (DU g i (N.dmap g).dart (N.dmap g).inj N.YT)
abbrev bI(s:List Dt):Dt:=s.headD (0,0)
def iK(a:Nat):List (List Dt)->List (List Dt×Nat)
 | []=> []
 | [s]=> [(s,a)]
 |s::t::l=>(s,(bI t).1)::iK a (t::l)
def ring(z:Nat)(p:List Dt×Nat):List Dt:=(z,(bI p.1).1)::(p.1++ [(p.2,z)])
theorem yI(a:Nat):∀b,(iK a b).map (·.1)=b
 | []=>rfl
 | [s]=>rfl
 |s::t::l=>by rw[iK,bT,yI a (t::l)]
theorem yL(a:Nat):∀(s:List Dt)(b:List (List Dt)),(iK a (s::b)).map (·.2)=b.map (λt=>(bI t).1)++ [a]
 |s,[]=>rfl
 |s,t::l=>by rw[iK,bT,yL a t l];rfl
theorem yK{w:W}:∀{c:List (List Dt)}{x:Dt},lZ w x c.flatten d->(∀s∈c,s≠ [])->∀p∈iK d.1 c,∃y,lZ w (bI p.1) p.1 y/\p.2=y.1/\(y=d\/∃t∈c,y=bI t)
 | [],_,_,_,p,b=>nomatch b
 | [s],x,h,ne,p,b=>by
  rw[iK,cC] at b;subst b;have h:lZ w x (s++ []) d:=h;rw[f7] at h;cases s with
  |nil=>exact absurd rfl (ne [] (bB ..))
  |cons a s=>exact#[d,#[rfl,h.2],rfl, .inl rfl]
 |s::t::l,x,h,ne,p,b=>by
  rw[fZ] at h;obtain⟨y,j,g⟩:=fX.mp h;have k:=ne t (by simp)
  have i:y=bI t:=by
   cases t with
   |nil=>exact absurd rfl k
   |cons a t=>exact g.1
  rw[iK,bo] at b
  rcases b with rfl|b
  .refine#[y,?_,by rw[i], .inr #[t,by simp,i]]
   cases s with
   |nil=>exact absurd rfl (ne [] (bB ..))
   |cons a s=>exact#[rfl,j.2]
  .obtain⟨u,m,n,o⟩:=yK g (λs q=>ne s (bP _ q)) p b
   exact#[u,m,n,o.imp id λ#[r,v,e]=>#[r,bP _ v,e]]
theorem vZ(z:Nat):∀l:List (List Dt×Nat),(l.map (ring z)).flatten.Perm ((l.map (·.1)).flatten++((l.map λp=>(z,(bI p.1).1))++l.map λp=>(p.2,z)))
 | []=> .refl _
 |p::l=>by
  have b:=vZ z l;rw[bT,fZ,bT,fZ,bT,bT];refine(aaq _ b).trans ?_;rw[List.perm_iff_count];intro a;simp only[ring,uy,List.count_cons,acp];lia
theorem IE{w v:W}:∀{s:List Dt}{x y c:Dt},s≠ []->lZ w x s y->(∀e∈s,bW w e=y->bW v e=c)->(∀e∈s,bW w e∈s.tail->bW v e=bW w e)->lZ v x s c
 | [],_,_,_,ne,_,_,_=>absurd rfl ne
 | [a],x,y,c,_,#[e,h],d,g=>#[e,(d a (cC.mpr rfl) h)]
 |a::b::s,x,y,c,_,#[e,h],d,g=>by
  exists e;have j:bW w a=b:=h.1;rw[g a (bB ..) (by rw[j];simp)]
  exact IE (by simp) h (λe i=>d e (bP _ i)) (λe i z=>g e (bP _ i) (bP _ z))
theorem xh(h:s≠ []):bI s∈s:=by
 cases s with
 |nil=>exact absurd rfl h
 |cons a s=>exact bB ..
theorem Pm{d:List (List Dt)}(l:d.flatten.Nodup)(ne:∀s∈d,s≠ []){s t:List Dt}(g:s∈d)(m:t∈d):bI s∉t.tail:=λh=>by
 obtain⟨n,i⟩:=abi.mp l
 by_cases e:s=t
 .subst e
  have:=n s g
  cases s with
  |nil=>exact ne [] g rfl
  |cons a s=>exact(bS.mp this).1 h
 .have j:=xh (ne s g)
  have k:bI s∈t:=List.mem_of_mem_tail h;obtain⟨a,b,rfl⟩:=zN g;rw[zM,Dh] at i
  rcases bH.mp m with c|c
  .exact i.2.2 t c s (bB ..) _ k _ j rfl
  .rcases bo.mp c with c|c
   .exact e c.symm
   .exact i.2.1.1 t c _ j _ k rfl
theorem Mb{w v:W}(g:Good w)(gv:Good v)(hz:z=w.length) 
  (R:cG w d (j::i).flatten) (C:aw w d) (n:∀s∈j::i,s≠ [])
  (J:((j::i).map λs=>(bI s).1).Nodup)
  (M:∀e,aw w e->(∀s∈j::i,bW w e≠bI s)->bW v e=bW w e)
  (k1:∀s∈j::i,∀e,aw w e->bW w e=bI s->bW v e=((bI s).1,z))
  (N:∀p∈iK d.1 (j::i),bW v (p.2,z)=(z,(bI p.1).1))
  (k3:∀s∈j::i,bW v (z,(bI s).1)=bI s)
  (dv:∀e,aw v e↔aw w e\/∃s∈j::i,e=((bI s).1,z)\/e=(z,(bI s).1))
  (h:Fc w c):Fc v (c+i.length)/\(aM v).length=(aM w).length+2*(i.length+1):=by
 obtain⟨rs,hA,E,hl⟩:=h;obtain⟨r1,l,R1,_,O,F,l1⟩:=sE g hA (E.mem_iff.mpr (aD.mpr C));obtain rfl:=R1.uniq R;have nd:=R.nodup g C
 have P:d=bI j:=by
  have:=R.GV
  cases j with
  |nil=>exact absurd rfl (n [] (bB ..))
  |cons a s=>exact this.1
 have G:∀e∈(j::i).flatten,aw w e:=R.aM g C;have Ak:∀s∈j::i,aw w (bI s):=λs k=>G _ (i6.mpr #[s,k,xh (n s k)]);generalize H:iK d.1 (j::i)=L at N;have A:L.map (·.1)=j::i:=by rw[<-H];exact yI _ _
 have f2:L.map (·.2)=i.map (λt=>(bI t).1)++ [d.1]:=by rw[<-H];exact yL _ _ _
 have f3:(L.map (·.2)).Perm ((j::i).map λs=>(bI s).1):=by
  rw[f2,bT,P];exact mK
 have f4:(L.map λp=>(z,(bI p.1).1))=(j::i).map λs=>(z,(bI s).1):=by rw[<-A,b9];rfl
 have f5:(L.map λp=>(p.2,z)).Perm ((j::i).map λs=>((bI s).1,z)):=by
  have:=f3.map λa:Nat=>(a,z)
  rw[b9,b9] at this;exact this
 have lt:∀s∈j::i,(bI s).1<z:=λs k=>by rw[hz];exact aU (Ak s k)
 have Q:=vZ z L;rw[A,f4] at Q
 have pv:((L.map (ring z)).flatten++l.flatten).Perm (aM w++(((j::i).map λs=>(z,(bI s).1))++(j::i).map λs=>((bI s).1,z))):=by
  refine(aa6 _ (Q.trans (aaq _ (aaq _ f5)))).trans ?_;rw[f6];refine(aaq _ mK).trans ?_;rw[<-f6];exact aa6 _ (O.trans E)
 have T:(aM w++(((j::i).map λs=>(z,(bI s).1))++(j::i).map λs=>((bI s).1,z))).Nodup:=by
  refine c9.mpr #[bu g,c9.mpr #[?_,?_,?_],?_]
  .have:=List.Pairwise.map (S:=λa b=>a≠b) (λa:Nat=>(z,a)) (λa b h e=>h (IR e).2) J
   rw[b9] at this;exact this
  .have:=List.Pairwise.map (S:=λa b=>a≠b) (λa:Nat=>(a,z)) (λa b h e=>h (IR e).1) J
   rw[b9] at this;exact this
  .intro a I b o e
   obtain⟨s,k,rfl⟩:=aX.mp I;obtain⟨t,U,rfl⟩:=aX.mp o
   have:=lt s k
   have:=(IR e).2
   lia
  .intro a I b o e
   have X:=aD.mp I;have Y:=aU X;have Z:=g.rng _ _ X
   rcases bH.mp o with o|o<;>obtain⟨s,k,rfl⟩:=aX.mp o<;>rw[e] at Y Z
   .have:z<w.length:=Y
    lia
   .have:z<w.length:=Z
    lia
 have pe:=(mH T (bu gv)).mpr λe=>by
  rw[aD (w:=v),dv e,bH,aD,bH,aX,aX];refine or_congr Iff.rfl #[λh=>h.elim (λ#[s,k,e]=>#[s,k, .inr e.symm]) λ#[s,k,e]=>#[s,k, .inl e.symm],λ#[s,k,e]=>e.elim (λe=> .inr #[s,k,e.symm]) λe=> .inl #[s,k,e.symm]]
 refine#[#[L.map (ring z)++l,?_,?_,?_],?_]
 .intro r u
  rcases bH.mp u with u|u
  .obtain⟨p,B,rfl⟩:=aX.mp u
   have q:p.1∈j::i:=by rw[<-A];exact aX.mpr #[p,B,rfl]
   obtain⟨y,y1,y2,y3⟩:=yK R.GV n p (by rw[H];exact B)
   obtain⟨t,U,ey⟩:∃t∈j::i,y=bI t:=y3.elim (λe=>#[j,bB ..,e.trans P]) id
   have q1:lZ v (bI p.1) p.1 (p.2,z):=by
    refine IE (n _ q) y1 (λe m x=>?_) λe m x=>?_
    .rw[y2,ey]
     exact k1 t U e (G e (i6.mpr #[_,q,m])) (by rw[x,ey])
    .exact M e (G e (i6.mpr #[_,q,m])) λs k z=>Pm nd n k q (z▸x)
   have nr:(ring z p).Nodup:=(abi.mp (c9.mp (pv.nodup_iff.mpr T)).1).1 _ (aX.mpr #[p,B,rfl]);refine#[(z,(bI p.1).1),qO #[rfl,?_] (by unfold ring;simp) nr,(dv _).mpr (.inr #[_,q, .inr rfl])]
   rw[k3 _ q];exact fX.mpr #[(p.2,z),q1,rfl,N p B]
  .refine kc.keep g F (λe m=>?_) (λe m=>(dv e).mpr (.inl m)) r u
   have de:=kc.dart g F e m;refine M e de λs k x=>?_
   have TZ:bW w e∈l.flatten:=by
    obtain⟨r2,Xt,Mv⟩:=i6.mp m;obtain⟨d2,R2,Ah⟩:=F r2 Xt;exact i6.mpr #[r2,Xt,R2.iter Mv 1]
   have hh:bI s∈(j::i).flatten:=i6.mpr #[s,k,xh (n s k)];exact(c9.mp ((O.trans E).nodup_iff.mpr (bu g))).2.2 _ hh _ TZ x.symm
 .rw[wq]
  exact pv.trans pe
 .rw[cE,aG,<-aG (f:=(·.1)) (as:=L),A,bN]
  lia
 .have:=pe.length_eq
  rw[cE,cE,aG,aG,bN] at this;lia
theorem yJ:∀{l:List (List Dt)},p∈iK b l->(∃A t B,l=A++p.1::t::B/\p.2=(bI t).1)\/(∃A,l=A++ [p.1]/\p.2=b)
 | [],h=>nomatch h
 | [s],h=>by
  rw[iK,cC] at h;subst h;exact .inr #[[],rfl,rfl]
 |s::t::l,h=>by
  rw[iK,bo] at h
  rcases h with rfl|h
  .exact .inl #[[],t,l,rfl,rfl]
  .rcases yJ h with ⟨A,c,B,e,a⟩ | ⟨A,e,a⟩
   .exact .inl #[s::A,c,B,by rw[e];rfl,a]
   .exact .inr #[s::A,by rw[e];rfl,a]
theorem EF(i:((a::d).map λs=>(bI s).1).Nodup)(j:p∈iK (bI a).1 (a::d)):aE ((a::d).map λs=>(bI s).1).reverse p.2=(bI p.1).1:=by
 have c:((a::d).map λs=>(bI s).1).reverse.Nodup:=(zP _).nodup_iff.mpr i
 rcases yJ j with ⟨A,t,B,e,g⟩ | ⟨A,e,g⟩
 .rw[e] at c ⊢
  have h:((A++p.1::t::B).map λs=>(bI s).1).reverse=(B.map λs=>(bI s).1).reverse++(bI t).1::(bI p.1).1::(A.map λs=>(bI s).1).reverse:=by simp
  rw[h] at c ⊢;rw[g];exact eU c
 .rw[e] at c ⊢
  have h:((A++ [p.1]).map λs=>(bI s).1).reverse=(bI p.1).1::(A.map λs=>(bI s).1).reverse:=by simp
  rw[h] at c ⊢;rw[g];cases A with
  |nil=>
   have:p.1=a:=by have:=(W1 e).1;exact this.symm
   rw[this];unfold aE;simp
  |cons b A=>
   have k:a=b:=(W1 e).1;have l:((b::A).map λs=>(bI s).1).reverse=(A.map λs=>(bI s).1).reverse++ [(bI b).1]:=by simp
   rw[l] at c ⊢;rw[k];exact ik c
structure K1 (w v:W) (hs:List Dt):Prop where
 len:v.length=w.length+1
 out:∀p,p<w.length->(∀h∈hs,h.1≠p)->row v p=row w p
 put:∀h∈hs,BA (row w h.1) (row v h.1) h.2 w.length
 last:row v w.length=(hs.map (·.1)).reverse
theorem Mc{w v:W}(g:Good w)(E:Good v)(R:cG w d (l::j).flatten)(A:aw w d)(t:∀s∈l::j,s≠ [])
  (B:((l::j).map λs=>(bI s).1).Nodup) (h:K1 w v ((l::j).map bI)) (F:Fc w c):Fc v (c+j.length)/\(aM v).length=(aM w).length+2*(j.length+1):=by
 have G:∀e∈(l::j).flatten,aw w e:=R.aM g A;have L:∀s∈l::j,aw w (bI s):=λs b=>G _ (i6.mpr #[s,b,xh (t s b)]);have H:∀p,w.length∉row w p:=λp z=>by have:=g.rng p _ z;lia
 have n:∀s∈l::j,aE (row v (bI s).1) w.length=(bI s).2/\(∀x∈row w (bI s).1,aE (row v (bI s).1) x=if aE (row w (bI s).1) x=(bI s).2 then w.length else aE (row w (bI s).1) x)/\∀x,x∈row v (bI s).1↔x=w.length\/x∈row w (bI s).1:=λs b=>by
  have:=(h.put _ (aX.mpr #[s,b,rfl])).succ (g.nod _) (H _)
  exact#[this.1,this.2.1,this.2.2.2.1]
 have I:d=bI l:=by
  have:=R.GV
  cases l with
  |nil=>exact absurd rfl (t [] (bB ..))
  |cons a s=>exact this.1
 have u:row v w.length=((l::j).map λs=>(bI s).1).reverse:=by rw[h.last,b9];rfl
 refine Mb g E rfl R A t B (λe i k=>?_) (λs b e i k=>?_) (λp C=>?_) (λs b=>?_) (λe=>?_) F
 .have r:=g.sym _ _ i
  have le:=aU r;unfold bW
  by_cases c:∃s∈l::j,(bI s).1=e.2
  .obtain⟨s,b,m⟩:=c
   have:=(n s b).2.1 e.1 (by rw[m];exact r)
   rw[m] at this;rw[this,ir];intro z;exact k s b (PP m.symm z)
  .rw[h.out e.2 le λx o z=>?_]
   obtain⟨s,b,rfl⟩:=aX.mp o;exact c #[s,b,z]
 .have r:=g.sym _ _ i
  have y:e.2=(bI s).1:=FS Prod.fst k;have J:aE (row w e.2) e.1=(bI s).2:=FS Prod.snd k
  have:=(n s b).2.1 e.1 (by rw[<-y];exact r)
  rw[<-y] at this;unfold bW;rw[this,ls J,y]
 .unfold bW
  show(w.length,aE (row v w.length) p.2)=_;rw[u];rw[I] at C;rw[EF B C]
 .exact PP rfl (n s b).1
 .constructor
  .intro i
   have le:=aU i;rw[h.len] at le
   by_cases c:e.1=w.length
   .right
    have i:e.2∈row v e.1:=i;rw[c,u,qs] at i;obtain⟨s,b,m⟩:=aX.mp i;exact#[s,b, .inr (PP c m.symm)]
   .by_cases q:∃s∈l::j,(bI s).1=e.1
    .obtain⟨s,b,m⟩:=q
     have i:e.2∈row v e.1:=i;rw[<-m] at i
     rcases((n s b).2.2 _).mp i with x|x
     .exact .inr #[s,b, .inl (PP m.symm x)]
     .left;rw[m] at x;exact x
    .left
     have i:e.2∈row v e.1:=i;rw[h.out e.1 (by lia) λx o z=>by obtain⟨s,b,rfl⟩:=aX.mp o;exact q #[s,b,z]] at i
     exact i
  .rintro(i| ⟨s,b,rfl|rfl⟩)
   .show e.2∈row v e.1
    by_cases q:∃s∈l::j,(bI s).1=e.1
    .obtain⟨s,b,m⟩:=q
     rw[<-m];exact((n s b).2.2 _).mpr (.inr (by rw[m];exact i))
    .rw[h.out e.1 (aU i) λx o z=>by obtain⟨s,b,rfl⟩:=aX.mp o;exact q #[s,b,z]]
     exact i
   .exact((n s b).2.2 _).mpr (.inl rfl)
   .show(bI s).1∈row v w.length
    rw[u,qs];exact aX.mpr #[s,b,rfl]
def kU(b a:List Dt):List Nat->List (List Dt)
 | []=> []
 | [k]=> [b.drop k++a]
 |k::c::l=>(b.drop k).take (c-k)::kU b a (c::l)
theorem xS(b a:List Dt):∀(k:Nat)(l:List Nat),(k::l).Pairwise (·<·)->(kU b a (k::l)).flatten=b.drop k++a
 |k,[],_=>by simp[kU]
 |k,c::l,h=>by
  have d:=Dh.mp h;have e:=d.1 c (bB ..);rw[kU,fZ,xS b a c l d.2,<-f6]
  congr 1
  rw[show b.drop c=(b.drop k).drop (c-k) by rw[acn];congr 1;lia,iU]
theorem LO{a:List Dt}(h:k<a.length)(t:List Dt):bI (a.drop k++t)=a.getD k (0,0)/\a.drop k++t≠ []:=by
 rw[nZ h,ck,b8 h];exact#[rfl,λz=>by rw[wx] at z;cases z]
theorem DQ(b a:List Dt):∀(c:List Nat),c.Pairwise (·<·)->(∀k∈c,k<b.length)->(kU b a c).map bI=(c.map λk=>b.getD k (0,0))/\∀s∈kU b a c,s≠ []
 | [],_,_=>#[rfl,λs h=>nomatch h]
 | [k],_,lt=>by
  have:=LO (lt k (by simp)) a
  exact#[by simp only[kU,bT,qo];rw[this.1],λs h=>by rw[kU,cC] at h;rw[h];exact this.2]
 |k::d::l,h,lt=>by
  have i:=Dh.mp h;have r:=i.1 d (bB ..);have j:=DQ b a (d::l) i.2 λx o=>lt x (bP _ o);have n:=lt k (by simp)
  obtain⟨m,p⟩:∃m,d-k=m+1:=#[d-k-1,by lia]
  have e:(b.drop k).take (d-k)=b[k]::(b.drop (k+1)).take m:=by rw[nZ n,p,List.take_succ_cons]
  refine#[?_,λs g=>?_]
  .have q:b.getD k (0,0)=b[k]:=by rw[ck,b8 n];rfl
   rw[kU,bT,j.1,e];show b[k]::_=b.getD k (0,0)::_;rw[q]
  .rw[kU,bo] at g
   rcases g with rfl|g
   .rw[e];simp
   .exact j.2 s g
def iX(w:W):Prop:=∃c,Fc w c/\2*(w.length+c)=gr w+4
theorem Bj{w v:W}(g:Good w)(m:Good v)(R:cG w d a)(j:aw w d){k:Nat}{ks:List Nat}(b:(k::ks).Pairwise (·<·))(lt:∀x∈k::ks,x<a.length)
  (n:((k::ks).map λx=>(a.getD x (0,0)).1).Nodup) (h:K1 w v ((k::ks).map λx=>a.getD x (0,0))) (P:iX w):iX v:=by
 obtain⟨c,F,e⟩:=P;have i:=lt k (bB ..);have R2:=R.N0 g j i;have ch:=DQ a (a.take k) (k::ks) b lt;have o:=xS a (a.take k) k ks b;have p:aw w (a.getD k (0,0)):=R.aM g j _ (by rw[ck,b8 i];exact uA i)
 have l:(kU a (a.take k) (k::ks)).length=ks.length+1:=by have:=FS bi ch.1;rwa [aG,aG] at this
 rw[<-o] at R2;rw[<-ch.1] at h
 have q:((kU a (a.take k) (k::ks)).map λs=>(bI s).1).Nodup:=by
  have:((kU a (a.take k) (k::ks)).map λs=>(bI s).1)=(k::ks).map λx=>(a.getD x (0,0)).1:=by
   have:=FS (List.map (·.1)) ch.1
   rw[b9,b9] at this;exact this
  rw[this];exact n
 generalize kU a (a.take k) (k::ks)=S at*;cases S with
 |nil=>cases l
 |cons t u=>
  obtain⟨r,dl⟩:=Mc g m R2 p ch.2 q h F;exists _,r;have y:=cQ w;have z:=cQ v;have A:=h.len;rw[bN] at l;lia
theorem rot_all(m:l.Nodup){u:Nat}(o:u∈l)(P:Nat->Prop)(t:P (aE l u))(h:∀x∈l,x≠u->P x->P (aE l x)):∀x∈l,P x:=by
 have v:0<l.length:=uw o
 have at_:∀i,i<l.length->l.getD i 0∈l/\l[i]? =some (l.getD i 0):=λi g=>by
  have e:l[i]? =some (l.getD i 0):=by rw[ck,b8 g];rfl
  exact#[dM e,e]
 have p:∀i,i<l.length->aE l (l.getD i 0)=l.getD ((i+1)%l.length) 0:=λi g=>by
  by_cases c:i+1<l.length
  .rw[vt m c,gP c]
  .rw[Hf m (by lia),show i+1=l.length by lia,qp]
 obtain⟨d,n,y⟩:=vy o;have r:l.getD d 0=u:=by rw[ck,b8 n];exact y
 have all:∀j,j<l.length->P (l.getD ((d+1+j)%l.length) 0):=by
  intro j
  induction j with
  |zero=>intro _;rw[<-p d n,r];exact t
  |succ j A=>
   intro E;have k:=jT (d+1+j) v
   have q:=h _ (at_ _ k).1 (λz=>by
    have a:=(at_ _ k).2;have b:=(at_ _ n).2;rw[r] at b;rw[z] at a
    have:=(zQ k m).mp (a.trans b.symm)
    by_cases c:d+1+j<l.length
    .rw[gP c] at this;lia
    .rw[Nat.mod_eq_sub_mod (by lia),gP (by lia)] at this;lia) (A (by lia))
   rw[p _ k] at q;rw[show(d+1+(j+1))%l.length=((d+1+j)%l.length+1)%l.length by rw[Nat.mod_add_mod];rfl]
   exact q
 intro x B;obtain⟨i,g,C⟩:=vy B;have s:l.getD i 0=x:=by rw[ck,b8 g];exact C
 by_cases c:d<i
 .have:=all (i-d-1) (by lia)
  rw[show d+1+(i-d-1)=i by lia,gP g,s] at this;exact this
 .have:=all (i+l.length-d-1) (by lia)
  rw[show d+1+(i+l.length-d-1)=i+l.length by lia,aa3,gP g,s] at this;exact this
def eB(d:Dt):Dt:=(d.2,d.1)
def sg(w:W)(d:Dt):Dt:=(d.1,aE (row w d.1) d.2)
def Rl(L:List Dt)(d:Dt):Prop:=d∈L\/eB d∈L
instance aaa (L:List Dt) (d:Dt):Decidable (Rl L d):=inferInstanceAs (Decidable (_\/_))
def ph(w:W)(L:List Dt)(d:Dt):Dt:=if Rl L d then sg w (eB d) else sg w d
def Fu(w:W)(L:List Dt)(f:Dt->Nat):Prop:=∀d,aw w d->f (ph w L d)=f d
def OI(w:W)(f:Dt->Nat)(n:Nat):Prop:=∃a:List Nat,a.Nodup/\a.length=n/\∀v∈a,∃d,aw w d/\f d=v
def Dj(w:W)(L:List Dt)(n:Nat):Prop:=∃f,Fu w L f/\OI w f n
theorem l9{w:W}(g:Good w)(h:aw w d):aw w (eB d):=g.sym _ _ h
theorem Pf{w:W}(g:Good w)(h:aw w d):eB d≠d:=λz=>by
 have:d.2=d.1:=FS Prod.fst z
 exact g.irr _ (by have h:d.2∈row w d.1:=h;rw[this] at h;exact h)
theorem D6(d:Dt):eB (eB d)=d:=rfl
theorem EY(a:d≠t)(b:d≠eB t):Rl (t::L) d↔Rl L d:=by
 unfold Rl;rw[bo,bo]
 constructor
 .rintro((z|z) | (z|z))
  .exact absurd z a
  .exact .inl z
  .exact absurd (by rw[<-z];rfl) b
  .exact .inr z
 .rintro(z|z)
  .exact .inl (.inr z)
  .exact .inr (.inr z)
theorem lj:Rl L (eB d)↔Rl L d:=#[λh=>h.symm,λh=>h.symm]
theorem yV{w:W}(a:d≠t)(b:d≠eB t):ph w (t::L) d=ph w L d:=by
 unfold ph
 by_cases c:Rl L d
 .rw[ls c,ls ((EY a b).mpr c)]
 .rw[ir c,ir (λz=>c ((EY a b).mp z))]
theorem Sf{w:W}{t:Dt}{L:List Dt}:ph w (t::L) t=sg w (eB t)/\ph w (t::L) (eB t)=sg w t:=by
 unfold ph;exact#[ls (.inl (bB ..)),ls (.inr (bB ..))]
theorem IA{w:W}{t:Dt}{L:List Dt}(h:¬Rl L t):ph w L t=sg w t/\ph w L (eB t)=sg w (eB t):=by
 unfold ph;exact#[ir h,ir λz=>h (lj.mp z)]
theorem Ji{w:W}(g:Good w){t:Dt}{L:List Dt}(l:aw w t)(h:¬Rl L t)(c:Dj w (t::L) (n+1)):Dj w L n:=by
 obtain⟨f,j,s,o,C,u⟩:=c;obtain⟨x,y⟩:=Sf (w:=w) (t:=t) (L:=L);obtain⟨A,B⟩:=IA (w:=w) h;have p:=j t l;have r:=j _ (l9 g l);rw[x] at p;rw[y] at r;refine#[λd=>if f d=f (eB t) then f t else f d,λd k=>?_,(s.erase (f (eB t))).take n,(List.take_sublist _ _).nodup (o.erase _),?_,λv i=>?_]
 .by_cases a:d=t
  .subst a
   show(if f (ph w L d)=f (eB d) then f d else f (ph w L d))=if f d=f (eB d) then f d else f d;rw[A,r,ls rfl];split<;>rfl
  .by_cases b:d=eB t
   .subst b
    show(if f (ph w L (eB t))=f (eB t) then f t else f (ph w L (eB t)))=if f (eB t)=f (eB t) then f t else f (eB t);rw[B,p,ls rfl];split<;>rfl
   .have q:=j d k
    rw[yV a b] at q;show(if f (ph w L d)=f (eB t) then f t else f (ph w L d))=_;rw[q]
 .rw[gO,List.length_erase]
  split<;>lia
 .have i:=Bw i
  have m:=List.mem_of_mem_erase i;obtain⟨d,k,e⟩:=u v m;have ne:v≠f (eB t):=λz=>by rw[z] at i;exact(List.Nodup.not_mem_erase o) i
  exact#[d,k,by show(if f d=f (eB t) then f t else f d)=v;rw[e,ir ne]]
theorem above(l:List Nat):∃n,∀x∈l,x<n:=by
 induction l with
 |nil=>exact#[0,λx h=>by cases h]
 |cons a l b=>
  obtain⟨n,c⟩:=b
  exact#[n+a+1,λx d=>by
   rcases bo.mp d with rfl|z
   .lia
   .have:=c x z;lia]
theorem Jk{w:W}(g:Good w)(i:aw w t)(h:∀d∈L,d.1≠t.1/\d.2≠t.1)(c:Dj w (t::L) n):Dj w L (n+1):=by
 obtain⟨f,k,o,y,A,B⟩:=c
 have l:∀d,d.1=t.1\/d.2=t.1->¬Rl L d:=λd j z=>by
  rcases z with z|z
  .have:=h _ z;rcases j with e|e
   .exact this.1 e
   .exact this.2 e
  .have:=h _ z;rcases j with e|e
   .exact this.2 e
   .exact this.1 e
 obtain⟨C,E⟩:=Sf (w:=w) (t:=t) (L:=L);obtain⟨O,F⟩:=IA (w:=w) (l t (.inl rfl));have p:=k t i;have r:=k _ (l9 g i);rw[C] at p;rw[E] at r;have s:t.2≠t.1:=λz=>by have i:t.2∈row w t.1:=i;rw[z] at i;exact g.irr _ i
 have all:∀x∈row w t.1,f (t.1,x)=f (eB t):=rot_all (g.nod _) (u:=t.2) i (λx=>f (t.1,x)=f (eB t)) r λx G ne e=>by
  have q:=k (t.1,x) G;have a:(t.1,x)≠t:=λz=>ne (FS Prod.snd z);have b:(t.1,x)≠eB t:=λz=>s (FS Prod.fst z).symm;rw[yV a b,(IA (w:=w) (l (t.1,x) (.inl rfl))).1] at q;exact q.trans e
 obtain⟨m,H⟩:=above (o++ [f (eB t)]);have I:f t=f (eB t):=all t.2 i;refine#[λd=>if d.1=t.1 then m else f d,λd j=>?_,m::o,bS.mpr #[λz=>by have:=H m (fj _ z);lia,y],by rw[bN,A],λv J=>?_]
 .by_cases a:d.1=t.1
  .show(if (ph w L d).1=t.1 then m else f (ph w L d))=if d.1=t.1 then m else f d
   rw[(IA (w:=w) (l d (.inl a))).1,ls a,ls (show(sg w d).1=t.1 from a)]
  .by_cases b:d=eB t
   .subst b
    show(if (ph w L (eB t)).1=t.1 then m else f (ph w L (eB t)))=if (eB t).1=t.1 then m else f (eB t);rw[F,ir a,ir (show ¬(sg w (eB t)).1=t.1 from a),p,I]
   .have M:d≠t:=λz=>a (by rw[z])
    have q:=k d j;rw[yV M b] at q
    have ne:(ph w L d).1≠t.1:=by
     unfold ph
     split
     .rename_i N
      intro z;have z:d.2=t.1:=z;exact l d (.inr z) N
     .exact a
    show(if (ph w L d).1=t.1 then m else f (ph w L d))=if d.1=t.1 then m else f d;rw[ir ne,ir a,q]
 .rcases bo.mp J with rfl|z
  .exact#[t,i,ls rfl]
  .obtain⟨d,j,e⟩:=B v z
   by_cases a:d.1=t.1
   .refine#[eB t,l9 g i,?_]
    have:f d=f (eB t):=by
     have:=all d.2 (by rw[<-a];exact j)
     rw[<-a] at this;exact this
    show(if t.2=t.1 then m else f (eB t))=v;rw[ir s,<-this,e]
   .exact#[d,j,by show(if d.1=t.1 then m else f d)=v;rw[ir a,e]]
structure oG (w:W) (L:List Dt):Prop where
 dart:∀d∈L,aw w d
 nd:L.Nodup
 nf:∀d∈L,eB d∉L
theorem oG.cons{w:W}(g:Good w){L:List Dt}(h:oG w L){t:Dt}(b:aw w t)(n:¬Rl L t):oG w (t::L):=by
 refine#[λd a=>?_,bS.mpr #[λz=>n (.inl z),h.nd],λd a z=>?_]
 .rcases bo.mp a with rfl|z
  .exact b
  .exact h.dart _ z
 .rcases bo.mp a with rfl|y
  .rcases bo.mp z with z|z
   .exact Pf g b z
   .exact n (.inr z)
  .rcases bo.mp z with z|z
   .exact n (.inr (by rw[<-z];exact y))
   .exact h.nf _ y z
def both(L:List Dt):List Dt:=L++L.map eB
theorem uH(L:List Dt):(both L).length=2*L.length:=by unfold both;rw[cE,aG];lia
theorem u0:d∈both L↔Rl L d:=by
 unfold both Rl;rw[bH,aX]
 constructor
 .rintro(z| ⟨e,z,rfl⟩)
  .exact .inl z
  .exact .inr z
 .rintro(z|z)
  .exact .inl z
  .exact .inr #[_,z,rfl]
theorem oG.both{w:W}(h:oG w L):(both L).Nodup:=by
 unfold Wb.both;refine c9.mpr #[h.nd,?_,λa c b d z=>?_]
 .refine(iV).mpr (h.nd.imp λ {a b} ne z=>ne ?_)
  exact FS eB z
 .subst z
  obtain⟨e,g,rfl⟩:=aX.mp d;exact h.nf _ g c
theorem oG.sub{w:W}(g:Good w)(h:oG w L):∀d∈Wb.both L,d∈aM w:=λd a=>by
 rcases u0.mp a with z|z
 .exact aD.mpr (h.dart _ z)
 .exact aD.mpr (l9 g (h.dart _ z))
theorem Jj{w:W}(g:Good w){f:Dt->Nat}(b:∀d,aw w d->f (bW w d)=f d)(c:OI w f n)(all:∀d,aw w d->Rl L d):Dj w L n:=
 #[f,λd a=>by unfold ph;rw[ls (all d a)];exact b d a,c]
theorem fill{w:W}(g:Good w){f:Dt->Nat}(c:∀d,aw w d->f (bW w d)=f d):∀(m:Nat)(L:List Dt)(n:Nat),oG w L->2*(L.length+m)=gr w->OI w f (n+m)->Dj w L n
 |0,L,n,h,e,a=>by
  refine Jj g c a λd k=>?_;apply Da;intro z;have l:(d::both L).Nodup:=bS.mpr #[λy=>z (u0.mp y),h.both]
  have:=aF l (m:=aM w) λx b=>by
   rcases bo.mp b with rfl|y
   .exact aD.mpr k
   .exact h.sub g _ y
  rw[bN,uH,cQ] at this;lia
 |m+1,L,n,h,e,a=>by
  have:∃t,aw w t/\¬Rl L t:=by
   apply Da;intro z
   have:=aF (bu g) (m:=both L) λx b=>u0.mpr (Da λy=>z #[x,aD.mp b,y])
   rw[uH,cQ] at this;lia
  obtain⟨t,i,j⟩:=this;refine Ji g i j (fill g c m (t::L) (n+1) (h.cons g i j) (by rw[bN];lia) ?_)
  rw[show n+1+m=n+(m+1) by lia];exact a
theorem Qo{w:W}(g:Good w){T:List Nat}(ne:∃p∈T,p<w.length)(h:∃q,q<w.length/\q∉T):∃v u,aw w (v,u)/\v∉T/\u∈T:=by
 obtain⟨p,i,lp⟩:=ne;obtain⟨q,d,e⟩:=h;have r:Reach w p q:=(Reach.symm g.sym (g.con p lp)).trans (g.con q d);clear d
 induction r with
 |refl=>exact absurd i e
 | @step a b r j k=>
  by_cases c:a∈T
  .exact#[b,a,g.sym _ _ j,e,c]
  .exact k c
theorem grow{w:W}(g:Good w):∀(k:Nat)(T:List Nat)(L:List Dt),T.Nodup->(∀p∈T,p<w.length)->T≠ []->T.length+k=w.length->oG w L->(∀d∈L,d.1∈T/\d.2∈T)->∃i,i.length=L.length+k/\oG w i/\∀n,Dj w i n->Dj w L (n+k)
 |0,T,L,_,_,_,_,h,_=>#[L,rfl,h,λn c=>c]
 |k+1,T,L,r,lt,ne,G,h,b=>by
  have:∃q,q<w.length/\q∉T:=by
   apply Da;intro z
   have:=aF sR (m:=T) λx s=>Da λy=>z #[x,dE.mp s,y]
   rw[n9] at this;lia
  rfl';obtain⟨a,A,rfl⟩:=List.exists_cons_of_ne_nil ne;obtain⟨v,u,o,j,B⟩:=Qo g #[a,bB ..,lt _ (bB ..)] this;ac_rfl
  have C:¬Rl L (v,u):=λz=>by
   rcases z with z|z
   .exact j (b _ z).1
   .exact j (b _ z).2
  obtain⟨i,e,E,c⟩:=grow g k (v::a::A) ((v,u)::L) (bS.mpr #[j,r]) (λp F=>by
   rcases bo.mp F with rfl|z
   .exact aU o
   .exact lt _ z) (by simp) (by rw[bN];lia) (h.cons g o C) (λd l=>by
   rcases bo.mp l with rfl|z
   .exact#[bB ..,bP _ B]
   .exact#[bP _ (b _ z).1,bP _ (b _ z).2])
  refine#[i,by rw[e,bN];lia,E,λn cn=>?_]
  rw[show n+(k+1)=n+k+1 by lia]
  exact Jk g o (λd l=>#[λz=>j (by have:=(b _ l).1;rw[z] at this;exact this),λz=>j (by have:=(b _ l).2;rw[z] at this;exact this)]) (c n cn)
theorem yT(p:b->Bool):∀R:List b,R.length=(R.filter p).length+(R.filter λd=>!p d).length
 | []=>rfl
 |a::R=>by
  have c:=yT p R;rw[vC,vC];cases e:p a<;>simp<;>lia
theorem Gy{w:W}(g:Good w){f:Dt->Nat}(a:Fu w L f)(b:aw w (p,q))(h:Rl L (p,q))(i:∃r,r≠p/\r∈row w q/\Rl L (q,r)):∃r,r≠p/\r∈row w q/\Rl L (q,r)/\f (q,r)=f (p,q):=by
 apply Da;intro z
 have all:∀x∈row w q,f (q,x)=f (p,q):=rot_all (g.nod _) (u:=p) (g.sym _ _ b) (λx=>f (q,x)=f (p,q)) (by
   have:=a _ b
   unfold ph at this;rw[ls h] at this;exact this) λx c ne e=>by
  have j:¬Rl L (q,x):=λy=>z #[x,ne,c,y,e]
  have:=a (q,x) c
  unfold ph at this;rw[ir j] at this;exact this.trans e
 obtain⟨r,k,d,l⟩:=i;exact z #[r,k,d,l,all r d]
theorem Pq{w:W}(g:Good w)(F:Fc w c):∃f:Dt->Nat,(∀d,aw w d->f (bW w d)=f d)/\OI w f c:=by
 obtain⟨h,t,u,rfl⟩:=F;have E:h.flatten.Nodup:=u.nodup_iff.mpr (bu g)
 have G:∀(i j:Nat)(d:Dt)(a b:List Dt),h[i]? =some a->h[j]? =some b->d∈a->d∈b->i=j:=by
  intro i j d a b e H k x;have y:=(abi.mp E).2;obtain⟨m,n⟩:=dQ.mp e;obtain⟨A,B⟩:=dQ.mp H
  rcases abR i j with z|z|z
  .have:=(zV.mp y) i j m A z
   rw[n,B] at this;exact absurd rfl (this d k d x)
  .exact z
  .have:=(zV.mp y) j i A m z
   rw[n,B] at this;exact absurd rfl (this d x d k)
 have I:∀d,aw w d->∃i a,h[i]? =some a/\d∈a:=λd l=>by
  rfl';obtain⟨a,e,l⟩:=i6.mp (u.mem_iff.mpr (aD.mpr l));obtain⟨i,L⟩:=rG e;ac_rfl;exact#[i,a,L,l]
 let f:Dt->Nat:=λd=>h.findIdx λr=>decide (d∈r)
 have o:∀i a d,h[i]? =some a->d∈a->f d=i:=λi a d e k=>by
  obtain⟨m,n⟩:=dQ.mp e;have lt:f d<h.length:=List.findIdx_lt_length_of_exists #[a,dM e,FM k]
  have:=List.findIdx_getElem (w:=lt)
  exact G _ _ d _ a (b8 lt) e (KF this) k
 refine#[f,λd l=>?_,ad h.length,sR,n9,λv M=>?_]
 .obtain⟨i,a,e,k⟩:=I d l
  obtain⟨p,q,_⟩:=t a (dM e);rw[o i a d e k,o i a _ e (q.next k)]
 .have C:=dE.mp M
  obtain⟨p,q,s⟩:=t h[v] (uA C);exact#[p,s,o v _ p (b8 C) q.first]
theorem zp(a:l.Nodup)(b:x∈l)(e:aE l x=x):∀y∈l,y=x:=
 rot_all a b (λy=>y=x) e λy _ ne h=>absurd h ne
theorem yZ{w:W}(g:Good w)(v:3<=w.length)(R:cG w d r)(i:aw w d):3<=r.length:=by
 obtain⟨k,x,l,y,rfl⟩:=R;rw[cM];refine Da λh=>?_;have m:=g.sym _ _ i;have u:=aU i;have A:=aU m
 by_cases c:k=1
 .subst c
  have:bW w d=d:=l
  have e:d.2=d.1:=FS Prod.fst this;exact g.irr d.1 (by have:=i;unfold aw at this;rwa [e] at this)
 .obtain rfl:k=2:=by lia
  have e:bW w (bW w d)=d:=l;have n:aE (row w d.2) d.1=d.1:=FS Prod.fst e;have o:aE (row w (aE (row w d.2) d.1)) d.2=d.2:=FS Prod.snd e;rw[n] at o;have s:=zp (g.nod _) m n;have t:=zp (g.nod _) i o
  by_cases z:0=d.1\/0=d.2
  .have a:=kT g (S:=λp=>p=d.1\/p=d.2) z (λp q j b=>by
    rcases j with rfl|rfl
    .exact .inr (t q b)
    .exact .inl (s q b))
   have B:=a 0 (by lia)
   have C:=a 1 (by lia)
   have E:=a 2 (by lia)
   lia
  .have a:=kT g (S:=λp=>p≠d.1/\p≠d.2) #[λh=>z (.inl h),λh=>z (.inr h)] (λp q j b=>#[λh=>?_,λh=>?_])
   .exact(a d.1 u).1 rfl
   .have:=g.sym _ _ b
    rw[h] at this;exact j.2 (t p this)
   .have:=g.sym _ _ b
    rw[h] at this;exact j.1 (s p this)
theorem vQ:∀a:List (List Dt),(∀r∈a,3<=r.length)->3*a.length<=a.flatten.length
 | [],_=>bb _
 |r::a,h=>by
  have:=vQ a λx b=>h x (bP _ b)
  have:=h r (bB ..)
  rw[fZ,cE,bN];lia
theorem pln_few{w:W}(g:Good w)(a:3<=w.length)(P:iX w):gr w+12<=6*w.length:=by
 rfl';obtain⟨c,⟨h,i,j,n⟩,e⟩:=P;ac_rfl
 have:=vQ h λr k=>by
  obtain⟨d,R,l⟩:=i r k;exact yZ g a R l
 rw[j.length_eq,cQ] at this;lia
theorem ES:iX [[1],[0]]:=by
 refine#[1,#[[[(0,1),(1,0)]],λr a=>?_,?_,rfl],rfl]
 .rw[cC] at a
  subst a;exact#[(0,1),qO #[rfl,rfl,rfl] (by simp) (by decide),(by decide:(1:Nat)∈([1]:List Nat))]
 .exact .refl _
theorem pN(h:x∈l):BA l (ins l (l.idxOf x+1) z) (aE l x) z:=by
 have a:=rF.mpr h;have sg:=hJ h
 by_cases c:l.idxOf x+1<l.length
 .rw[gP c] at sg
  exact EX sg
 .have e:l.idxOf x+1=l.length:=by lia
  rw[e,qp] at sg;rw[e];exact NR sg
theorem Ky{w:W}(h:cG w d r)(a:k<r.length):r.getD k (0,0)=bW w (r.getD ((k+(r.length-1))%r.length) (0,0)):=by
 have b:(k+(r.length-1))%r.length<r.length:=jT _ (by lia)
 have:=NZ h b
 rw[<-this]
 congr 1
 by_cases c:k=0
 .subst c
  rw[qu,gP (show r.length-1<r.length by lia),show r.length-1+1=r.length by lia,qp]
 .rw[show k+(r.length-1)=(k-1)+r.length by lia,aa3,gP (show k-1<r.length by lia),show k-1+1=k by lia,gP a]
def pt:List Nat->List Dt
 |a::b::l=>(a,b)::pt (b::l)
 |_=> []
theorem IC:∀(l:List Nat)(a:Nat),(pt (a::l)).length=l.length
 | [],_=>rfl
 |b::l,a=>FS (·+1) (IC l b)
theorem iO{x y:Nat}:∀{l:List Nat},(x,y)∈pt l↔∃A B,l=A++x::y::B:=by
 intro l
 induction l with
 |nil=>exact#[λh=>(by cases h),λ#[A,B,e]=>(by cases A<;>cases e)]
 |cons a l c=>
  cases l with
  |nil=>
   refine#[λh=>(by cases h),λ#[A,B,e]=>?_]
   have:=FS bi e
   simp at this;lia
  |cons b l=>
   rw[show pt (a::b::l)=(a,b)::pt (b::l) from rfl,bo,c]
   constructor
   .rintro(h| ⟨A,B,h⟩)
    .cases h;exact#[[],l,rfl]
    .exact#[a::A,B,by rw[h];rfl]
   .rintro⟨A,B,e⟩
    cases A with
    |nil=>cases e;exact .inl rfl
    |cons _ A=>exact .inr #[A,B,(W1 e).2]
theorem qd:∀{A A' B B':List Nat},x∉A->x∉A'->A++x::B=A'++x::B'->A=A'/\B=B'
 | [],[],_,_,_,_,e=>by cases e;exact#[rfl,rfl]
 | [],a::A',_,_,_,h,e=>by cases e;exact absurd (bB ..) h
 |a::A,[],_,_,h,_,e=>by cases e;exact absurd (bB ..) h
 |a::A,b::A',_,_,h,c,e=>by
  obtain⟨d,g⟩:=qd (λz=>h (bP _ z)) (λz=>c (bP _ z)) (W1 e).2;rw[(W1 e).1,d];exact#[rfl,g]
theorem AR:∀{P X B:List Nat},p∉P->X++p::B=P++ [p]->X=P/\B= []
 | [],[],_,_,e=>by cases e;exact#[rfl,rfl]
 | [],x::X,B,_,e=>by have:=FS bi e;simp at this
 |y::P,[],_,h,e=>by cases e;exact absurd (bB ..) h
 |y::P,x::X,_,h,e=>by
  obtain⟨a,b⟩:=AR (λz=>h (bP _ z)) (W1 e).2;rw[(W1 e).1,a];exact#[rfl,b]
theorem u4{A B C D:List Nat}(e:l=A++u::x::y::B)(c:l.count x=1):(l=C++x::r::D->r=y)/\(l=C++r::x::D->r=u):=by
 have d:x∉A++ [u]:=λz=>by
  have z:=vB.mpr z;rw[e,show A++u::x::y::B=(A++ [u])++x::(y::B) by simp,uy,rH] at c;lia
 refine#[λa=>?_,λa=>?_]
 .have b:x∉C:=λz=>by
   have z:=vB.mpr z;rw[a,uy,rH] at c;lia
  have:=(qd (A:=A++ [u]) (A':=C) (B:=y::B) (B':=r::D) d b (by rw[<-a,e];simp)).2
  exact(W1 this).1.symm
 .have b:x∉C++ [r]:=λz=>by
   have z:=vB.mpr z;rw[a,show C++r::x::D=(C++ [r])++x::D by simp,uy,rH] at c;lia
  have:=(qd (A:=A++ [u]) (A':=C++ [r]) (B:=y::B) (B':=D) d b (by rw[show(C++ [r])++x::D=C++r::x::D by simp,<-a,e];simp)).1
  have:=FS (λl=>l.getLast?) this
  simpa using this.symm
theorem Fg(b:l.Nodup)(Y:List Nat)(P:Nat->Prop):∀(M X:List Nat)(u:Nat),l=X++u::(M++v::Y)->P (aE l u)->(∀x∈M,P x->P (aE l x))->P v
 | [],X,u,e,a,_=>by
  subst e;rw[show X++u::([]++v::Y)=X++u::v::Y from rfl] at a b;rw[eU b] at a;exact a
 |m::M,X,u,e,a,h=>by
  have c:aE l u=m:=by subst e;exact eU b
  rw[c] at a;exact Fg b Y P M (X++ [u]) m (by rw[e];simp) (h m (bB ..) a) λx d=>h x (bP _ d)
theorem along{w:W}(g:Good w){L:List Dt}{f:Dt->Nat}(iv:Fu w L f):∀{Z:List Nat}{a b:Nat},(∀d∈pt (a::b::Z),aw w d/\Rl L d)->(∀A u x y B,a::b::Z=A++u::x::y::B->y≠u/\∀r,Rl L (x,r)->r=u\/r=y)->∀d∈pt (a::b::Z),f d=f (a,b):=by
 intro Z
 induction Z with
 |nil=>intro a b _ _ d hd;cases hd with|head=>rfl|tail _ h=>cases h
 |cons c Z ih=>
  intro a b hr hu d hd;cases hd with
  |head=>rfl
  |tail _ hd=>
   have e:f (b,c)=f (a,b):=by
    obtain⟨ne,only⟩:=hu [] a b c Z rfl;have h1:=hr (a,b) (bB ..);have h2:=hr (b,c) (bP _ (bB ..));obtain⟨r,r1,r2,r3,r4⟩:=Gy g iv h1.1 h1.2 #[c,ne,h2.1,h2.2]
    rcases only r r3 with z|z
    .exact absurd z r1
    .rw[<-z];exact r4
   rw[<-e];exact ih (λd hd=>hr d (bP _ hd)) (λA u x y B e=>hu (a::A) u x y B (by rw[e];rfl)) d hd
theorem ID{x y:Nat}{l:List Nat}:(x,y)∈pt l.reverse↔(y,x)∈pt l:=by
 rw[iO,iO]
 constructor
 .rintro⟨A,B,e⟩
  have:=FS List.reverse e
  rw[zL] at this;exact#[B.reverse,A.reverse,by rw[this];simp]
 .rintro⟨A,B,e⟩
  exact#[B.reverse,A.reverse,by rw[e];simp]
theorem yX(c p:Nat):∀l:List Nat,pt (l++ [c,p])=pt (l++ [c])++ [(c,p)]
 | []=>rfl
 | [a]=>rfl
 |a::b::l=>FS (List.cons (a,b)) (yX c p (b::l))
theorem CD:∀(l:List Nat),(pt l).map (·.1)=l.dropLast
 | []=>rfl
 | [a]=>rfl
 |a::b::l=>FS (List.cons a) (CD (b::l))
theorem g8{x y:Nat}(h:(x,y)∈pt l):x∈l/\y∈l:=by
 obtain⟨A,B,e⟩:=iO.mp h;rw[e];simp
structure Lp (w:W) (L:List Dt) (Z:List Nat):Prop where
 dart:∀d∈pt Z,aw w d/\Rl L d
 tri:∀A u x y B,Z=A++u::x::y::B->y≠u/\∀r,Rl L (x,r)->r=u\/r=y
theorem Lp.rev{w:W}(g:Good w)(h:Lp w L Z):Lp w L Z.reverse:=by
 refine#[λd a=>?_,λA u x y B e=>?_]
 .have:=h.dart (d.2,d.1) (ID.mp a)
  exact#[l9 g this.1,lj.mp this.2]
 .have e:=FS List.reverse e
  rw[zL] at e;obtain⟨b,c⟩:=h.tri B.reverse y x u A.reverse (by rw[e];simp)
  exact#[b.symm,λr i=>(c r i).symm]
structure Loop (w:W) (p a c:Nat) (M:List Nat):Prop where
 nd:(p::a::(M++ [c])).Nodup
 pa:a∈row w p
 pc:c∈row w p
 ti:∀d∈pt (a::(M++ [c])),aw w d
def lz(p a c:Nat)(M:List Nat):List Nat:=p::a::(M++ [c,p])
theorem si(p a c:Nat)(M:List Nat):pt (lz p a c M)=(p,a)::(pt (a::(M++ [c]))++ [(c,p)]):=FS (List.cons (p,a)) (yX c p (a::M))
theorem pC(p a c:Nat)(M:List Nat):lz p a c M=(p::a::(M++ [c]))++ [p]:=by simp[lz]
theorem Io(p a c:Nat)(M:List Nat):(pt (lz p a c M)).length=(a::(M++ [c])).length+1:=by rw[si,bN,cE,IC];simp
section
variable {w:W} {p a c:Nat} {M:List Nat}
theorem Loop.dart(g:Good w)(h:Loop w p a c M):∀d∈pt (lz p a c M),aw w d:=by
 rw[si];intro d b
 rcases bo.mp b with rfl|b
 .exact h.pa
 rcases bH.mp b with b|b
 .exact h.ti d b
 .rw[cC.mp b];exact g.sym _ _ h.pc
theorem Loop.cnt(h:Loop w p a c M)(b:x∈a::(M++ [c])):(lz p a c M).count x=1/\x≠p:=by
 have n:=bS.mp h.nd;have ne:x≠p:=λz=>n.1 (z▸b);refine#[?_,ne];rw[pC,uy,abj (Ne.symm ne),abj (Ne.symm ne),acp];rw[n.2.count,ls b]
theorem Loop.V2(h:Loop w p a c M):(lz p a c M).count p=2:=by
 have n:=bS.mp h.nd;rw[pC,uy,rH,rH,acp,List.count_eq_zero.mpr n.1]
theorem Loop.mem(h:Loop w p a c M){x y:Nat}(b:(x,y)∈pt (lz p a c M)):(x=p/\y=a)\/(x=c/\y=p)\/(x,y)∈pt (a::(M++ [c])):=by
 rw[si] at b
 rcases bo.mp b with e|b
 .cases e;exact .inl #[rfl,rfl]
 rcases bH.mp b with b|b
 .exact .inr (.inr b)
 .cases cC.mp b;exact .inr (.inl #[rfl,rfl])
theorem Loop.tri(h:Loop w p a c M){u x y:Nat}(e:lz p a c M=A++u::x::y::B):x∈a::(M++ [c])/\y≠u:=by
 have b:=h.V2
 have i:x∈a::(M++ [c]):=by
  rcases h.mem (iO.mpr #[A,y::B,e]) with ⟨_,rfl⟩ | ⟨_,rfl⟩ |z
  .exact bB ..
  .rcases h.mem (x:=x) (y:=y) (iO.mpr #[A++ [u],B,by rw[e];simp]) with ⟨_,rfl⟩ | ⟨z,_⟩ |z
   .exfalso
    have n:=bS.mp h.nd;rw[pC] at e
    have:=(AR (X:=(A++ [u]).tail) (B:=y::B) n.1 ?_).2
    .cases this
    .cases A with
     |nil=>simp at e ⊢;exact#[e.2.1.symm,e.2.2.symm]
     |cons _ A=>simp at e ⊢;exact e.2.symm
   .exact absurd (z▸(by simp:c∈a::(M++ [c]))) (bS.mp h.nd).1
   .exact absurd (g8 z).1 (bS.mp h.nd).1
  .exact(g8 z).2
 refine#[i,λz=>?_];subst z
 by_cases d:y=p
 .subst d
  have j:=FS bi e;rw[e,uy,rH] at b;have g:(x::y::B).count y=B.count y+1:=by rw[abj (λz=>(h.cnt i).2 z),rH]
  rw[g] at b
  have l:A= []:=by
   cases A with
   |nil=>rfl
   |cons z A=>exfalso;rw[<-(W1 e).1,rH] at b;lia
  have m:B= []:=by
   apply Da;intro o;obtain⟨k,z,rfl⟩:=gZ o;rw[pC] at e
   have:=FS List.getLast? e
   rw[wo,show A++y::x::y::(k++ [z])=(A++y::x::y::k)++ [z] by simp,wo] at this
   cases this;rw[uy,rH] at b;lia
  rw[l,m] at j;simp[lz] at j
 .have q:y∈a::(M++ [c]):=by
   have:y∈lz p a c M:=by rw[e];simp
   rw[pC] at this
   rcases bH.mp this with z|z
   .rcases bo.mp z with z|z
    .exact absurd z d
    .exact z
   .exact absurd (cC.mp z) d
  have g:=(h.cnt q).1;rw[e,uy,rH] at g
  have:0<(x::y::B).count y:=vB.mpr (by simp)
  lia
end
section
variable {w:W} {p a b c d:Nat} {M N:List Nat}
structure iY (w:W) (p a c:Nat) (M:List Nat) (b d:Nat) (N:List Nat):Prop where
 l1:Loop w p a c M
 l2:Loop w p b d N
 dj:∀x∈a::(M++ [c]),x∉b::(N++ [d])
theorem iY.swap(h:iY w p a c M b d N):iY w p b d N a c M:=#[h.l2,h.l1,λx e z=>h.dj x z e]
def EA(p a c:Nat)(M:List Nat)(b d:Nat)(N:List Nat):List Dt:=pt (lz p a c M)++pt (lz p b d N)
theorem Loop.CF(h:Loop w p a c M)(e:(x,y)∈pt (lz p a c M)):(x=p\/x∈a::(M++ [c]))/\(y=p\/y∈a::(M++ [c])):=by
 rcases h.mem e with ⟨rfl,rfl⟩ | ⟨rfl,rfl⟩ |z
 .exact#[.inl rfl, .inr (bB ..)]
 .exact#[.inr (by simp), .inl rfl]
 .exact#[.inr (g8 z).1, .inr (g8 z).2]
theorem Loop.Lb(h:Loop w p a c M)(g:Rl (pt (lz p a c M)) (p,r)):r=a\/r=c:=by
 have e:=(bS.mp h.nd).1
 rcases g with z|z
 .rcases h.mem z with ⟨_,rfl⟩ | ⟨rfl,_⟩ |z
  .exact .inl rfl
  .exact absurd (by simp) e
  .exact absurd (g8 z).1 e
 .rcases h.mem (x:=r) (y:=p) z with ⟨_,rfl⟩ | ⟨rfl,_⟩ |z
  .exact absurd (by simp) e
  .exact .inr rfl
  .exact absurd (g8 z).2 e
theorem iY.lp(g:Good w)(h:iY w p a c M b d N):Lp w (EA p a c M b d N) (lz p a c M):=by
 refine#[λd l=>#[h.l1.dart g d l, .inl (fj _ l)],λA u x y B e=>?_];obtain⟨j,ne⟩:=h.l1.tri e;have i:=h.l1.cnt j;refine#[ne,λr n=>?_]
 have m:∀{y:Nat},¬(x,y)∈pt (lz p b d N)/\¬(y,x)∈pt (lz p b d N):=λ {y}=>#[λz=>by
  rcases(h.l2.CF z).1 with z|z
  .exact i.2 z
  .exact h.dj x j z,λz=>by
  rcases(h.l2.CF z).2 with z|z
  .exact i.2 z
  .exact h.dj x j z]
 rcases n with z|z
 .rcases bH.mp z with z|z
  .obtain⟨C,D,k⟩:=iO.mp z
   exact .inr ((u4 (C:=C) (D:=D) e i.1).1 k)
  .exact absurd z m.1
 .rcases bH.mp z with z|z
  .obtain⟨C,D,k⟩:=iO.mp (show(r,x)∈_ from z)
   exact .inl ((u4 (C:=C) (D:=D) e i.1).2 k)
  .exact absurd z m.2
theorem J6:Rl (EA p a c M b d N) e↔Rl (EA p b d N a c M) e:=by
 unfold Rl EA;simp only[bH]
 constructor<;>(rintro((z|z) | (z|z))<;>simp[z])
theorem Lp.of{Z:List Nat}(h:Lp w L Z)(e:∀d,Rl L d↔Rl g d):Lp w g Z:=#[λd i=>#[(h.dart d i).1,(e d).mp (h.dart d i).2],λA u x y B q=>#[(h.tri A u x y B q).1,λr j=>(h.tri A u x y B q).2 r ((e _).mpr j)]]
theorem Ip(p a c:Nat)(M:List Nat):(lz p a c M).reverse=lz p c a M.reverse:=by simp[lz]
theorem iY.Y9(g:Good w)(h:iY w p a c M b d N):oG w (EA p a c M b d N):=by
 have i:=bS.mp h.l1.nd;have s:=bS.mp h.l2.nd;have L:a≠c:=λz=>(bS.mp i.2).1 (by rw[z];simp)
 have O:b≠d:=λz=>(bS.mp s.2).1 (by rw[z];simp)
 have E:∀{a c:Nat}{M:List Nat},(p::a::(M++ [c])).Nodup->(pt (lz p a c M)).Nodup:=λ {a c M} n=>by
  have:((pt (lz p a c M)).map (·.1)).Nodup:=by
   rw[CD,pC,List.dropLast_concat];exact n
  exact List.Pairwise.of_map _ (λa b z e=>z (by rw[e])) this
 refine#[λd j=>?_,?_,λd j z=>?_]
 .rcases bH.mp j with j|j
  .exact h.l1.dart g d j
  .exact h.l2.dart g d j
 .refine c9.mpr #[E h.l1.nd,E h.l2.nd,?_]
  rintro⟨x,y⟩ m _ k rfl
  rcases h.l1.mem m with ⟨rfl,rfl⟩ | ⟨rfl,rfl⟩ |z
  .rcases h.l2.Lb (.inl k) with z|z
   .exact h.dj y (bB ..) (by rw[z];simp)
   .exact h.dj y (bB ..) (by rw[z];simp)
  .rcases(h.l2.CF k).1 with z|z
   .exact i.1 (by rw[<-z];simp)
   .exact h.dj x (by simp) z
  .rcases(h.l2.CF k).1 with q|q
   .exact i.1 (by rw[<-q];exact(g8 z).1)
   .exact h.dj x (g8 z).1 q
 .obtain⟨x,y⟩:=d
  have F:∀{a c b d:Nat}{M N:List Nat},iY w p a c M b d N->(x,y)∈pt (lz p a c M)->(y,x)∈EA p a c M b d N->False:=λ {a c b d M N} h m k=>by
   have i:=bS.mp h.l1.nd;have s:=bS.mp h.l2.nd
   rcases bH.mp k with k|k
   .rcases h.l1.mem m with ⟨rfl,rfl⟩ | ⟨rfl,rfl⟩ |z
    .rcases h.l1.mem k with ⟨rfl,_⟩ | ⟨rfl,_⟩ |z
     .exact i.1 (bB ..)
     .exact(bS.mp i.2).1 (by simp)
     .exact i.1 (g8 z).2
    .rcases h.l1.mem k with ⟨_,rfl⟩ | ⟨rfl,_⟩ |z
     .exact(bS.mp i.2).1 (by simp)
     .exact i.1 (by simp)
     .exact i.1 (g8 z).1
    .obtain⟨A,B,e⟩:=iO.mp k
     obtain⟨C,D,r⟩:=iO.mp m;have G:=(g8 z).1;have P:=h.l1.cnt G
     have:∃u H,A=H++ [u]\/True:=#[0,[], .inr trivial]
     cases D with
     |nil=>
      have:=FS List.getLast? r
      rw[pC,wo,show C++x::y:: []=(C++ [x])++ [y] by simp,wo] at this
      cases this;exact i.1 (g8 z).2
     |cons v D=>
      have I:=(g8 z).2;have J:=h.l1.cnt I;have t:=h.l1.tri r;exact t.2 ((u4 (C:=A) (D:=B) r J.1).1 e).symm
   .rcases(h.l2.CF k) with ⟨l,o⟩
    rcases h.l1.mem m with ⟨rfl,rfl⟩ | ⟨rfl,rfl⟩ |z
    .rcases l with l|l
     .exact i.1 (by rw[<-l];simp)
     .exact h.dj _ (by simp) l
    .rcases o with o|o
     .exact i.1 (by rw[<-o];simp)
     .exact h.dj _ (by simp) o
    .rcases l with l|l
     .exact i.1 (by rw[<-l];exact(g8 z).2)
     .exact h.dj _ (g8 z).2 l
  rcases bH.mp j with j|j
  .exact F h j z
  .refine F h.swap j ?_
   rcases bH.mp (show(y,x)∈_ from z) with z|z
   .exact cN _ z
   .exact fj _ z
end
section
variable {w:W} {p a b c d:Nat} {M N:List Nat}
theorem Lp.all(g:Good w){f:Dt->Nat}(j:Fu w L f)(h:Lp w L (lz p a c M)):(∀e∈pt (lz p a c M),f e=f (p,a)/\f (eB e)=f (p,c)):=by
 have m:=along g j h.dart h.tri;have i:=h.rev g;rw[Ip] at i;have n:=along g j i.dart i.tri;intro e k;refine#[m e k,n (eB e) ?_]
 have:=ID (x:=e.2) (y:=e.1) (l:=lz p a c M)
 rw[Ip] at this;exact this.mpr k
theorem zd{f:Dt->Nat}(e:Fu w L f)(g:Good w)(h:Rl L (x,r))(i:r∈row w x):f (x,aE (row w x) r)=f (r,x):=by
 have:=e (r,x) (g.sym _ _ i)
 unfold ph at this;rw[ls (lj.mp h)] at this;exact this
theorem CI{f:Dt->Nat}(e:Fu w L f)(g:¬Rl L (x,r))(h:r∈row w x):f (x,aE (row w x) r)=f (x,r):=by
 have:=e (x,r) h
 unfold ph at this;rw[ir g] at this;exact this
theorem SF(g:Good w)(P:iX w)(q:row w p=X++a::(A++b::(B++c::(C++d::D))))(h:iY w p a c M b d N):False:=by
 obtain⟨k0,F,eu⟩:=P;have hL:=h.Y9 g;have nr:=g.nod p;have Ym:=bS.mp h.l1.nd;have Yn:=bS.mp h.l2.nd;generalize Q:EA p a c M b d N=L at hL;have Z1:Lp w L (lz p a c M):=Q▸h.lp g;have Z2:Lp w L (lz p b d N):=(h.swap.lp g).of λe=>by rw[<-Q];exact J6.symm
 have R:∀e∈pt (lz p a c M),Rl L e:=λe j=>(Z1.dart e j).2;have Vb:∀e∈pt (lz p b d N),Rl L e:=λe j=>(Z2.dart e j).2
 have Ut:∀{e:Dt},Rl L e->Rl (pt (lz p a c M)) e\/Rl (pt (lz p b d N)) e:=λ {e} j=>by
  rw[<-Q] at j
  rcases j with z|z
  .rcases bH.mp z with z|z
   .exact .inl (.inl z)
   .exact .inr (.inl z)
  .rcases bH.mp z with z|z
   .exact .inl (.inr z)
   .exact .inr (.inr z)
 have ZW:∀r,Rl L (p,r)->r=a\/r=b\/r=c\/r=d:=λr s=>by
  rcases Ut s with z|z
  .rcases h.l1.Lb z with z|z
   .exact .inl z
   .exact .inr (.inr (.inl z))
  .rcases h.l2.Lb z with z|z
   .exact .inr (.inl z)
   .exact .inr (.inr (.inr z))
 have UC:(p,a)∈pt (lz p a c M):=by rw[si];exact bB ..
 have XX:(c,p)∈pt (lz p a c M):=by rw[si];simp
 have XY:(p,b)∈pt (lz p b d N):=by rw[si];exact bB ..
 have XZ:(d,p)∈pt (lz p b d N):=by rw[si];simp
 have one:∀f:Dt->Nat,Fu w L f->∀e,Rl L e->f e=f (p,a):=λf o=>by
  have S:=Z1.all g o;have U:=Z2.all g o;have ra:=R _ UC;have rc:Rl L (p,c):=lj.mp (R _ XX);have rb:=Vb _ XY;have rd:Rl L (p,d):=lj.mp (Vb _ XZ)
  have step:∀{u v:Nat}(Y X' Y':List Nat),Rl L (p,u)->u∈row w p->(∃E n,E++n=row w p/\n++E=X'++u::(Y++v::Y'))->(∀x∈Y,x≠a/\x≠b/\x≠c/\x≠d)->f (p,v)=f (u,p):=λ {u v} Y X' Y' ru I #[E,n,J,e2] hn=>by
   have jz:(E++n).Nodup:=by rw[J];exact nr
   have i4:(n++E).Nodup:=mK.nodup_iff.mp jz
   have sr:∀x∈row w p,aE (n++E) x=aE (row w p) x:=λx i=>by
    rw[nk jz (by rw[J];exact i),J]
   refine Fg i4 Y' (λr=>f (p,r)=f (u,p)) Y X' u e2 ?_ λx i ih=>?_
   .rw[sr u I];exact zd o g ru I
   .have wK:x∈row w p:=by
     rw[<-J]
     have:x∈n++E:=by rw[e2];simp[i]
     exact mK.mem_iff.mp this
    rw[sr x wK];obtain⟨n1,n2,n3,n4⟩:=hn x i;exact(CI o (λz=>by rcases ZW x z with z|z|z|z<;>contradiction) wK).trans ih
  have Yo:=nr;rw[q] at Yo;simp only[c9,bS,bH,bo,not_or] at Yo;have hA:∀x∈A,x≠a/\x≠b/\x≠c/\x≠d:=λx i=>by grind
  have hB:∀x∈B,x≠a/\x≠b/\x≠c/\x≠d:=λx i=>by grind
  have hC:∀x∈C,x≠a/\x≠b/\x≠c/\x≠d:=λx i=>by grind
  have hD:∀x∈D++X,x≠a/\x≠b/\x≠c/\x≠d:=λx i=>by
   rcases bH.mp i with i|i<;>grind
  have ma:a∈row w p:=h.l1.pa;have mc:c∈row w p:=h.l1.pc;have mb:b∈row w p:=h.l2.pa;have md:d∈row w p:=h.l2.pc;have s1:f (p,b)=f (a,p):=step A X (B++c::(C++d::D)) ra ma #[[],row w p,rfl,by rw[q];simp] hA
  have s2:f (p,c)=f (b,p):=step B (X++a::A) (C++d::D) rb mb #[[],row w p,rfl,by rw[q];simp] hB
  have s3:f (p,d)=f (c,p):=step C (X++a::(A++b::B)) D rc mc #[[],row w p,rfl,by rw[q];simp] hC
  have s4:f (p,a)=f (d,p):=step (D++X) [] (A++b::(B++c::C)) rd md #[X++a::(A++b::(B++c::C)),d::D,by rw[q];simp,by simp] hD
  have t1:=(S _ XX).1;have t2:f (a,p)=f (p,c):=(S _ UC).2;have t3:=(U _ XZ).1;have t4:f (b,p)=f (p,d):=(U _ XY).2;have ec:f (p,c)=f (p,a):=by lia
  have eb:f (p,b)=f (p,a):=by lia
  have ed:f (p,d)=f (p,a):=by lia
  intro e j
  rcases Ut j with z|z
  .rcases z with z|z
   .exact(S e z).1
   .have:=(S _ z).2;rw[D6] at this;exact this.trans ec
  .rcases z with z|z
   .exact((U e z).1).trans eb
   .have:=(U _ z).2;rw[D6] at this;exact this.trans ed
 have Z:(p::((a::(M++ [c]))++(b::(N++ [d])))).Nodup:=by
  refine bS.mpr #[λz=>?_,c9.mpr #[Ym.2,Yn.2,λx i y G e=>h.dj x i (e▸G)]]
  rcases bH.mp z with z|z
  .exact Ym.1 z
  .exact Yn.1 z
 generalize O:p::((a::(M++ [c]))++(b::(N++ [d])))=T at Z
 have Uu:∀{x y:Nat},Rl L (x,y)->x∈T:=λ {x y} s=>by
  have i1:∀{x:Nat},x=p\/x∈a::(M++ [c])->x∈T:=λ {x} h=>by
   rw[<-O];exact bo.mpr (h.imp id λh=>fj _ h)
  have i2:∀{x:Nat},x=p\/x∈b::(N++ [d])->x∈T:=λ {x} h=>by
   rw[<-O];exact bo.mpr (h.imp id λh=>cN _ h)
  rcases Ut s with z|z<;>rcases z with z|z
  .exact i1 (h.l1.CF z).1
  .exact i1 (h.l1.CF (show(y,x)∈_ from z)).2
  .exact i2 (h.l2.CF z).1
  .exact i2 (h.l2.CF (show(y,x)∈_ from z)).2
 have H:∀x∈T,∃r∈row w x,Rl L (x,r):=λx i=>by
  have go:∀{a c:Nat}{M:List Nat},Loop w p a c M->(∀e∈pt (lz p a c M),Rl L e)->∀x∈a::(M++ [c]),∃r∈row w x,Rl L (x,r):=λ {a c M} l hl x i=>by
   have:x∈(pt (lz p a c M)).map (·.1):=by rw[CD,pC,List.dropLast_concat];exact bP _ i
   obtain⟨⟨x',r⟩,j,rfl⟩:=aX.mp this;exact#[r,l.dart g _ j,hl _ j]
  rw[<-O] at i
  rcases bo.mp i with rfl|i
  .exact#[a,h.l1.pa,R _ UC]
  rcases bH.mp i with i|i
  .exact go h.l1 R x i
  .exact go h.l2 Vb x i
 have lt:∀x∈T,x<w.length:=λx i=>by
  obtain⟨r,s,_⟩:=H x i;exact aU s
 have lT:T.length=L.length-1/\1<=L.length:=by
  have J:L.length=(a::(M++ [c])).length+1+((b::(N++ [d])).length+1):=by rw[<-Q,EA,cE,Io,Io]
  have e2:T.length=(a::(M++ [c])).length+(b::(N++ [d])).length+1:=by rw[<-O,bN,cE]
  lia
 have tw:=aF Z (m:=ad w.length) λx i=>dE.mpr (lt x i);rw[n9] at tw;obtain⟨k,hk⟩:∃k,T.length+k=w.length:=#[w.length-T.length,by lia]
 have XF:∀e∈L,e.1∈T/\e.2∈T:=λe j=>#[Uu (x:=e.1) (y:=e.2) (.inl j),Uu (x:=e.2) (y:=e.1) (lj.mpr (.inl j))];obtain⟨L',E,n,l3⟩:=grow g k T L Z lt (by rw[<-O];simp) hk hL XF
 obtain⟨f0,iv0,hf0⟩:=Pq g F;have lb:=aF n.both (n.sub g);rw[uH,cQ] at lb;obtain⟨m,hm⟩:∃m,2*(L'.length+m)=gr w:=#[gr w / 2-L'.length,by lia]
 have hn:3+m=k0:=by lia
 obtain⟨f,o,vs,vn,vl,hv⟩:=l3 3 (fill g iv0 m L' 3 n hm (by rw[hn];exact hf0))
 have RG:=one f o
 have fT:∀x∈T,∀y∈row w x,f (x,y)=f (p,a):=λx i=>by
  obtain⟨r,s,rr⟩:=H x i;refine rot_all (g.nod x) s (λy=>f (x,y)=f (p,a)) ((zd o g rr s).trans (RG _ (lj.mpr rr))) λy G _ e=>?_
  by_cases z:Rl L (x,y)
  .exact(zd o g z G).trans (RG _ (lj.mpr z))
  .exact(CI o z G).trans e
 have fN:∀x,x∉T->∀y∈row w x,f (x,y)=f (x,(row w x).headD 0):=λx i y G=>by
  have nz:∀z∈row w x,f (x,aE (row w x) z)=f (x,z):=λz hz=>CI o (λr=>i (Uu r)) hz;cases q:row w x with
  |nil=>rw[q] at G;cases G
  |cons u t=>
   have I:u∈row w x:=by rw[q];exact bB ..
   exact rot_all (g.nod x) I (λy=>f (x,y)=f (x,u)) (nz u I) (λz hz _ e=>(nz z hz).trans e) y G
 have:=aF vn (m:=f (p,a)::((ad w.length).filter λx=>!decide (x∈T)).map λx=>f (x,(row w x).headD 0)) λv kr=>by
  obtain⟨⟨x,y⟩,hd,rfl⟩:=hv v kr
  by_cases z:x∈T
  .rw[fT x z y hd];exact bB ..
  .rw[fN x z y hd]
   exact bP _ (aX.mpr #[x,qt.mpr #[dE.mpr (aU hd),by simp[z]],rfl])
 rw[bN,aG,vl] at this;have pl:=yT (λx=>decide (x∈T)) (ad w.length);rw[n9] at pl
 have:=aF Z (m:=(ad w.length).filter λx=>decide (x∈T)) λx i=>qt.mpr #[dE.mpr (lt x i),by simp[i]]
 lia
end
inductive Cr (w:W) (ok:Nat->Prop) (p:Nat):Nat->Prop
 |base:Cr w ok p p
 |step {a b:Nat}:Cr w ok p a->b∈row w a->ok b->Cr w ok p b
theorem Cr.way{w:W}(t:ok p)(h:Cr w ok p x):∃l,(p::l).Nodup/\(p::l).getLast? =some x/\(∀d∈pt (p::l),aw w d)/\∀y∈p::l,ok y:=by
 induction h with
 |base=>exact#[[],by simp,rfl,(λd i=>nomatch i),λy g=>by rw[cC.mp g];exact t]
 | @step a b _ u v E=>
  obtain⟨l,k,n,o,r⟩:=E
  by_cases z:b∈p::l
  .obtain⟨A,B,e⟩:=zN z
   obtain⟨j,s⟩:∃j,A++ [b]=p::j:=by
    cases A with
    |nil=>cases e;exact#[[],rfl]
    |cons y A=>rw[(W1 e).1];exact#[A++ [b],rfl]
   have m:p::l=p::j++B:=by rw[<-s,e];simp
   refine#[j,?_,by rw[<-s,wo],λd i=>o d ?_,λy g=>r y (by rw[m];exact fj _ g)]
   .rw[m] at k;exact(c9.mp k).1
   .obtain⟨C,D,F⟩:=iO.mp (show(d.1,d.2)∈_ from i)
    exact iO.mpr #[C,D++B,by rw[m,F];simp]
  .refine#[l++ [b],?_,by rw[<-wx,wo],λd i=>?_,λy g=>?_]
   .rw[<-wx]
    exact c9.mpr #[k,by simp,λx G y g e=>z (by rw[cC.mp g] at e;exact e▸G)]
   .obtain⟨q,c,e⟩:=gZ (l:=p::l) (by simp)
    have:c=a:=by rw[e,wo] at n;exact Do n
    subst this;rw[<-wx,e,f6] at i;rw[show[c]++ [b]= [c,b] from rfl,yX,<-e] at i
    rcases bH.mp i with i|i
    .exact o d i
    .rw[cC.mp i];exact u
   .rw[<-wx] at g
    rcases bH.mp g with g|g
    .exact r y g
    .rw[cC.mp g];exact v
theorem Cr.loop{w:W}(g:a∈row w p)(i:c∈row w p)(j:a≠c)(k:ok a)(m:¬ok p)(h:Cr w ok a c):∃M,Loop w p a c M/\∀y∈a::(M++ [c]),ok y:=by
 obtain⟨l,n,b,o,d⟩:=h.way k
 obtain⟨M,e⟩:∃M,l=M++ [c]:=by
  rcases abh l with rfl| ⟨M,y,rfl⟩
  .cases b;exact absurd rfl j
  .rw[Dc] at b ⊢
   rw[<-wx,wo] at b;cases b;exact#[M,rfl]
 subst e;exact#[M,#[bS.mpr #[λz=>m (d p z),n],g,i,o],d]
theorem Ux{w:W}(g:Good w)(P:iX w){p a b c d:Nat}{X A B C D:List Nat}(e:row w p=X++a::(A++b::(B++c::(C++d::D)))){o1 o2:Nat->Prop}(i:∀x,o1 x->¬o2 x)(j:o1 a)(k:o2 b)(l:¬o1 p)(m:¬o2 p)(n:Cr w o1 a c)(o:Cr w o2 b d):False:=by
 have h:=g.nod p;have q:a∈row w p:=by rw[e];simp
 have r:b∈row w p:=by rw[e];simp
 have s:c∈row w p:=by rw[e];simp
 have t:d∈row w p:=by rw[e];simp
 have u:a≠c:=λz=>by rw[e,z] at h;simp[c9] at h
 have v:b≠d:=λz=>by rw[e,z] at h;simp[c9] at h
 obtain⟨M,y,E⟩:=n.loop q s u j l;obtain⟨N,F,G⟩:=o.loop r t v k m;exact SF g P e #[y,F,λx H z=>i x (E x H) (G x z)]
theorem zq:∀{rs:List (List a)},(∀r∈rs,r.length=3)->rs.flatten.length=3*rs.length
 | [],_=>rfl
 |r::rs,h=>by
  rw[fZ,cE,h r (bB ..),zq λx b=>h x (bP _ b),bN];lia
theorem vS{w v:W}(g:Good w){ps:List Nat}(ne:0<ps.length)(lt:∀p∈ps,p<w.length)(len:v.length=w.length+1)(l:(row v w.length).Nodup)(last:∀x,x∈row v w.length↔x∈ps)(nod:∀p,p<w.length->(row v p).Nodup)(mem:∀p,p<w.length->∀q,q∈row v p↔q∈row w p\/(q=w.length/\p∈ps)):Good v:=by
 have m:w.length∉ps:=λh=>og _ (lt _ h)
 have d:∀{p q},q∈row v p->(p<w.length/\(q∈row w p\/(q=w.length/\p∈ps)))\/(p=w.length/\q∈ps):=λ {p q} h=>by
  have:=aU h
  by_cases z:p=w.length
  .subst z;exact .inr #[rfl,(last q).mp h]
  .have:p<w.length:=by lia
   exact .inl #[this,(mem p this q).mp h]
 have j:∀{a b},Reach w a b->Reach v a b:=λ {a b} h=>by
  induction h with
  |refl=>exact .refl _
  |step _ k n=>exact .step n ((mem _ (aU k) _).mpr (.inl k))
 refine#[λp q h=>?_,λp h=>?_,λp=>?_,λp q h=>?_,λp o=>?_]
 .rcases d h with ⟨_,h| ⟨h,_⟩⟩ | ⟨_,h⟩
  .have:=g.rng p q h;lia
  .lia
  .have:=lt q h;lia
 .rcases d h with ⟨_,h| ⟨_,h⟩⟩ | ⟨e,h⟩
  .exact g.irr p h
  .have:=lt p h;lia
  .subst e;exact m h
 .by_cases z:p<w.length
  .exact nod p z
  .by_cases e:p=w.length
   .subst e;exact l
   .have:row v p= []:=List.eq_nil_iff_forall_not_mem.mpr λq h=>by have:=aU h;lia
    rw[this];exact gQ
 .rcases d h with ⟨o,c| ⟨e,c⟩⟩ | ⟨e,c⟩
  .have s:=g.sym p q c
   exact(mem q (aU s) p).mpr (.inl s)
  .subst e;exact(last p).mpr c
  .subst e;exact(mem q (lt q c) _).mpr (.inr #[rfl,c])
 .by_cases z:p<w.length
  .exact j (g.con p z)
  .obtain rfl:p=w.length:=by lia
   obtain⟨x,i⟩:=abr ne;exact .step (j (g.con x (lt x i))) ((mem x (lt x i) _).mpr (.inr #[rfl,i]))
theorem Mo{w:W}(g:Good w)(ne:b≠ [])(m:∀h∈b,aw w h)(s:(b.map (·.1)).Nodup):∃v,Good v/\K1 w v b:=by
 let d:Nat->List Nat:=λp=>if p=w.length then(b.map (·.1)).reverse else match b.find? (λh=>h.1==p) with
  |some h=>ins (row w p) ((row w p).idxOf h.2) w.length
  |none=>row w p
 have k:∀p,p<w.length+1->row ((ad (w.length+1)).map d) p=d p:=λp c=>by
  unfold row;rw[ck,b7,n5 c];rfl
 have at_:∀h∈b,d h.1=ins (row w h.1) ((row w h.1).idxOf h.2) w.length:=λh a=>by
  have C:=aU (m h a)
  have n:b.find? (λx=>x.1==h.1)=some h:=by
   cases e:b.find? (λx=>x.1==h.1) with
   |none=>
    have:=zO.mp e h a
    simp at this
   |some x=>
    have o:=ab4 e;have E:=HA e;have o:x.1=h.1:=by simpa using o
    congr 1
    obtain⟨i,t,u⟩:=Bv.mp E;obtain⟨j,F,y⟩:=Bv.mp a
    have:i=j:=by
     have:=(zQ (i:=i) (j:=j) (l:=b.map (·.1)) (by rw[aG];exact t) s).mp (by rw[b7,b7,b8 t,b8 F,u,y];exact FS some o)
     exact this
    subst this;rw[<-u,<-y]
  show(if h.1=w.length then _ else _)=_;rw[ir (by lia),n]
 have out:∀p,p<w.length->(∀h∈b,h.1≠p)->d p=row w p:=λp c a=>by
  have n:b.find? (λx=>x.1==p)=none:=zO.mpr λx G=>by simpa using a x G
  show(if p=w.length then _ else _)=_;rw[ir (by lia),n]
 have put:∀h∈b,BA (row w h.1) (row ((ad (w.length+1)).map d) h.1) h.2 w.length:=λh a=>by
  have C:=aU (m h a);rw[k _ (by lia),at_ h a]
  have A:=rF.mpr (m h a);exact EX (by rw[b8 A,z4 A])
 have last:row ((ad (w.length+1)).map d) w.length=(b.map (·.1)).reverse:=by
  rw[k _ (by lia)]
  show(if w.length=w.length then _ else _)=_;rw[ls rfl]
 have len:((ad (w.length+1)).map d).length=w.length+1:=by rw[aG,n9]
 refine#[(ad (w.length+1)).map d,?_,#[len,λp c a=>by rw[k _ (by lia)];exact out p c a,put,last]]
 have B:∀p,p<w.length->(∃h∈b,h.1=p)\/∀h∈b,h.1≠p:=λp _=>by
  by_cases z:∃h∈b,h.1=p
  .exact .inl z
  .exact .inr λh a e=>z #[h,a,e]
 refine vS g (ps:=b.map (·.1)) (by rw[aG];exact Df.mpr ne) (λp c=>?_) len (by rw[last];exact(zP _).nodup_iff.mpr s) (λx=>by rw[last,qs]) (λp c=>?_) λp c q=>?_
 .obtain⟨h,a,rfl⟩:=aX.mp c
  exact aU (m h a)
 .rw[k _ (by lia)]
  rcases B p c with ⟨h,a,rfl⟩ |a
  .rw[at_ h a]
   exact kA (g.nod _) λz=>by have:=g.rng _ _ z;lia
  .rw[out p c a];exact g.nod p
 .rw[k _ (by lia)]
  rcases B p c with ⟨h,a,rfl⟩ |a
  .rw[at_ h a,dZ]
   have:h.1∈b.map (·.1):=aX.mpr #[h,a,rfl]
   constructor
   .rintro(rfl|z)
    .exact .inr #[rfl,this]
    .exact .inl z
   .rintro(z| ⟨rfl,_⟩)
    .exact .inr z
    .exact .inl rfl
  .rw[out p c a]
   exists .inl;rintro(z| ⟨rfl,z⟩)
   .exact z
   .obtain⟨h,r,e⟩:=aX.mp z
    exact absurd e (a h r)
theorem Bh(g:l.Nodup)(h:x∈l)(e:aE l x=x):∀y∈l,y=x:=by
 have b:=rF.mpr h;have d:=hJ h;rw[e] at d;have k:l[l.idxOf x]? =some x:=by rw[b8 b,z4 b]
 have:=(zQ (i:=(l.idxOf x+1)%l.length) (j:=l.idxOf x) (l:=l) (jT _ (by lia)) g).mp (d.trans k.symm)
 have m:l.length=1:=by
  rcases acD (l.idxOf x+1) l.length with c|c
  .rw[gP c] at this;lia
  .have n:l.idxOf x+1=l.length:=by lia
   rw[n,qp] at this;lia
 intro y o;obtain⟨a,rfl⟩:=List.length_eq_one_iff.mp m;rw[cC.mp o,cC.mp h]
theorem OQ{w:W}(g:Good w)(P:iX w)(n3:3<=w.length)(R:cG w d r)(n:aw w d)(l4:4<=r.length):∃i,(aC w i d).1≠(aC w (i+2) d).1/\(aC w (i+2) d).1∉row w (aC w i d).1:=by
 obtain⟨k,k0,k1,J,rfl⟩:=R;rw[cM] at l4;apply Da;intro no
 have o:∀i,(aC w i d).1=(aC w (i+2) d).1\/(aC w (i+2) d).1∈row w (aC w i d).1:=λi=>by
  apply Da;intro z;exact no #[i,λe=>z (.inl e),λe=>z (.inr e)]
 have nx:∀i,(aC w i d).2=(aC w (i+1) d).1:=λi=>rfl;have l:∀i,(aC w (i+1) d).1∈row w (aC w i d).1:=λi=>bQ g n i;have L:∀i,aE (row w (aC w (i+1) d).1) (aC w i d).1=(aC w (i+2) d).1:=λi=>rfl
 have F:∀i,(aC w i d).1≠(aC w (i+2) d).1:=λi e=>by
  have M:=Bh (g.nod _) (g.sym _ _ (l i)) (by rw[L i];exact e.symm)
  rcases o (i+1) with z|z
  .have h2:=Bh (g.nod _) (g.sym _ _ (l (i+1))) (by rw[L (i+1)];exact z.symm)
   have cl:∀p q,(p=(aC w (i+1) d).1\/p=(aC w (i+2) d).1)->q∈row w p->(q=(aC w (i+1) d).1\/q=(aC w (i+2) d).1):=λp q u N=>by
    rcases u with rfl|rfl
    .exact .inr ((M q N).trans e)
    .exact .inl (h2 q N)
   have all:∀p,p<w.length->(p=(aC w (i+1) d).1\/p=(aC w (i+2) d).1):=λp u=>by
    have r0:Reach w (aC w (i+1) d).1 p:=(Reach.symm g.sym (g.con _ (aU (l (i+1))))).trans (g.con p u);clear u
    induction r0 with
    |refl=>exact .inl rfl
    |step _ h ih=>exact cl _ _ ih h
   have a0:=all 0 (by lia)
   have a1:=all 1 (by lia)
   have a2:=all 2 (by lia)
   lia
  .have:=M _ z
   have t:=l (i+2);rw[show i+2+1=i+1+2 by lia,this,e] at t
   exact g.irr _ t
 have tie:∀i,(aC w (i+2) d).1∈row w (aC w i d).1:=λi=>(o i).resolve_left (F i)
 have O:∀i,(aC w (i+3) d).1=(aC w i d).1:=λi=>by
  apply Da;intro ne;have Q:∀x,aC w x (aC w i d)=aC w (x+i) d:=λx=>(cJ i x).symm;have R':cG w (aC w i d) (walk w (aC w i d) k):=#[k,k0,by rw[Q,rN,cJ,k1],λj j0 jk e=>J j j0 jk (pk g (bQ g n j) n i (by rw[<-cJ,rN,cJ];exact e)),rfl]
  have y:∀x,x<k->(walk w (aC w i d) k).getD x (0,0)=aC w (x+i) d:=λx s=>by
   unfold walk;rw[ck,b7,n5 s,<-Q];rfl
  have di:aw w (aC w i d):=bQ g n i
  have S:((0:: [1,2,3]).map λx=>(walk w (aC w i d) k).getD x (0,0))= [aC w i d,aC w (i+1) d,aC w (i+2) d,aC w (i+3) d]:=by
   simp only[bT,qo];rw[y 0 (by lia),y 1 (by lia),y 2 (by lia),y 3 (by lia),qu,rN 1 i,rN 2 i,rN 3 i]
  have T:(aC w i d).1≠(aC w (i+1) d).1:=λe=>g.irr _ (by have:=l i;rw[<-e] at this;exact this)
  have U:(aC w (i+1) d).1≠(aC w (i+2) d).1:=λe=>g.irr _ (by have:=l (i+1);rw[show i+1+1=i+2 by lia,<-e] at this;exact this)
  have Y:(aC w (i+2) d).1≠(aC w (i+3) d).1:=λe=>g.irr _ (by have:=l (i+2);rw[show i+2+1=i+3 by lia,<-e] at this;exact this)
  have G:=F i;have H:(aC w (i+1) d).1≠(aC w (i+3) d).1:=F (i+1);have Z:(aC w i d).1≠(aC w (i+3) d).1:=λe=>ne e.symm
  have f:(([aC w i d,aC w (i+1) d,aC w (i+2) d,aC w (i+3) d]:List Dt).map (·.1)).Nodup:=by
   simp[T,U,Y,G,H,Z]
  have Ak:∀h∈([aC w i d,aC w (i+1) d,aC w (i+2) d,aC w (i+3) d]:List Dt),aw w h:=λh E=>by
   simp only[bo,abd,or_false] at E
   rcases E with rfl|rfl|rfl|rfl<;>exact bQ g n _
  obtain⟨v,gv,I⟩:=Mo g (by simp) Ak f
  have Pv:iX v:=Bj g gv R' di (k:=0) (ks:= [1,2,3]) (by decide) (λx s=>by
   rw[cM];simp only[bo,abd,or_false] at s
   lia) (by
   have:=FS (List.map (·.1)) S
   rw[b9] at this;rw[show((0:: [1,2,3]).map λx=>((walk w (aC w i d) k).getD x (0,0)).1)=_ from this];exact f) (by rw[S];exact I) P
  have up:∀h∈([aC w i d,aC w (i+1) d,aC w (i+2) d,aC w (i+3) d]:List Dt),∀x∈row w h.1,x∈row v h.1:=λh E x s=>((I.put h E).succ (g.nod _) (λz=>by have:=g.rng _ _ z;lia)).2.2.2.1 x|>.mpr (.inr s)
  have lt:∀j,(aC w j d).1<w.length:=λj=>aU (l j);have t1:(aC w (i+1) d).1∈row v (aC w (i+3) d).1:=up _ (by simp) _ (g.sym _ _ (tie (i+1)))
  have t2:(aC w i d).1∈row v (aC w (i+2) d).1:=up _ (by simp) _ (g.sym _ _ (tie i))
  have l0:=lt i;have l1:=lt (i+1);have l2:=lt (i+2);have l3:=lt (i+3)
  refine Ux gv Pv (p:=w.length) (a:=(aC w (i+3) d).1) (b:=(aC w (i+2) d).1) (c:=(aC w (i+1) d).1) (d:=(aC w i d).1) (X:= []) (A:= []) (B:= []) (C:= []) (D:= []) (by rw[I.last];rfl)
   (o1:=λx=>x=(aC w (i+3) d).1\/x=(aC w (i+1) d).1) (o2:=λx=>x=(aC w (i+2) d).1\/x=(aC w i d).1) (λx h m=>?_) (.inl rfl) (.inl rfl) (λh=>?_) (λh=>?_) (.step .base t1 (.inr rfl)) (.step .base t2 (.inr rfl))
  .rcases h with rfl|rfl<;>rcases m with m|m
   .exact Y m.symm
   .exact Z m.symm
   .exact U m
   .exact T m.symm
  .rcases h with h|h<;>lia
  .rcases h with h|h<;>lia
 refine J 3 (by decide) (by lia) ?_
 exact PP (O 0) (O 1)
theorem NK{w x:W}(g:Good w)(t:Good x)(len:x.length=w.length){p r u v:Nat}(C:aw w (p,r))(E:aw w (u,v))(b:u≠p)(l:u∉row w p)(G:BA (row w p) (row x p) r u)(H:BA (row w u) (row x u) v p)(out:∀q,q≠p->q≠u->row x q=row w q)(I:∃y,cG w (p,r) y/\(u,v)∈y)(P:iX w):iX x:=by
 have A:p∉row w u:=λz=>l (g.sym _ _ z);obtain⟨J,L,_,M,_⟩:=G.succ (g.nod p) l;obtain⟨N,O,_,Q,_⟩:=H.succ (g.nod u) A
 have B:∀d,aw x d↔d=(p,u)\/d=(u,p)\/aw w d:=λd=>by
  obtain⟨m,q⟩:=d;show q∈row x m↔_\/_\/q∈row w m
  by_cases a:m=p
  .subst a
   rw[M]
   constructor
   .rintro(rfl|h)
    .exact .inl rfl
    .exact .inr (.inr h)
   .rintro(h|h|h)
    .exact .inl (IR h).2
    .exact absurd (IR h).1.symm b
    .exact .inr h
  .by_cases i:m=u
   .subst i
    rw[Q]
    constructor
    .rintro(rfl|h)
     .exact .inr (.inl rfl)
     .exact .inr (.inr h)
    .rintro(h|h|h)
     .exact absurd (IR h).1 a
     .exact .inl (IR h).2
     .exact .inr h
   .rw[out m a i]
    refine#[λh=> .inr (.inr h),?_];rintro(h|h|h)
    .exact absurd (IR h).1 a
    .exact absurd (IR h).1 i
    .exact h
 have o:∀e,aw w e->aE (row x e.2) e.1=if e.2=p/\aE (row w e.2) e.1=r then u else if e.2=u/\aE (row w e.2) e.1=v then p else aE (row w e.2) e.1:=λe j=>by
  have n:e.1∈row w e.2:=g.sym _ _ j
  by_cases a:e.2=p
  .rw[a] at n ⊢
   rw[L _ n]
   by_cases c:aE (row w p) e.1=r
   .rw[ls c,ls #[rfl,c]]
   .rw[ir c,ir (λz=>c z.2),ir (λz=>b z.1.symm)]
  .by_cases i:e.2=u
   .rw[i] at n ⊢
    rw[O _ n]
    by_cases c:aE (row w u) e.1=v
    .rw[ls c,ir (λz=>b z.1),ls #[rfl,c]]
    .rw[ir c,ir (λz=>b z.1),ir (λz=>c z.2)]
   .rw[out _ a i,ir (λz=>a z.1),ir (λz=>i z.1)]
 obtain⟨c,F,e⟩:=P
 have R:=(Pe g t C E (Ne.symm b) l
  (λe j S T=>by
   show(e.2,aE (row x e.2) e.1)=(e.2,aE (row w e.2) e.1);rw[o e j,ir (λz=>S (PP z.1 z.2)),ir (λz=>T (PP z.1 z.2))])
  (λe j h=>by
   have k:e.2=p:=(IR h).1;have s:aE (row w e.2) e.1=r:=(IR h).2;show(e.2,aE (row x e.2) e.1)=(p,u);rw[o e j,ls #[k,s],k])
  (λe j h=>by
   have k:e.2=u:=(IR h).1;have s:aE (row w e.2) e.1=v:=(IR h).2;show(e.2,aE (row x e.2) e.1)=(u,p);rw[o e j,ir (λz=>b (k.symm.trans z.1)),ls #[k,s],k])
  (by show(u,aE (row x u) p)=(u,v);rw[N]) (by show(p,aE (row x p) u)=(p,r);rw[J]) B F).2 I
 exists c+1,R
 have U:((p,u)::(u,p)::aM w).Nodup:=by
  refine bS.mpr #[λh=>?_,bS.mpr #[λh=>?_,bu g]]
  .rcases bo.mp h with h|h
   .exact b (IR h).2
   .exact l (aD.mp h)
  .exact A (aD.mp h)
 have X:(aM x).Perm ((p,u)::(u,p)::aM w):=(mH (bu t) U).mpr λd=>by
  rw[aD,B,bo,bo,aD]
 have:=X.length_eq
 rw[cQ,bN,bN,cQ] at this;rw[len];lia
theorem FC{w:W}(g:Good w)(P:iX w)(i:3<=w.length)(h:∀d r,cG w d r->aw w d->r.length<=3):gr w+12=6*w.length/\∀d r,cG w d r->aw w d->r.length=3:=by
 have b:∀d r,cG w d r->aw w d->r.length=3:=λd r R a=>by
  have:=h d r R a
  have:=yZ g i R a
  lia
 refine#[?_,b];obtain⟨c,⟨rs,j,k,l⟩,e⟩:=P
 have s:=zq (rs:=rs) λr m=>by
  obtain⟨d,R,a⟩:=j r m;exact b d r R a
 rw[k.length_eq,cQ,l] at s;lia
end Wb
set_option maxHeartbeats 4000000
namespace L2
open PySem PySem.Spec PyProof.Rows
theorem oP(f:b->c):∀(l:List b)(i:Nat),(l.map f).eraseIdx i=(l.eraseIdx i).map f
 | [],_=>rfl
 |_::_,0=>rfl
 |a::l,i+1=>by rw[bT,Fs,Fs,bT,oP f l i]
section
variable {prog:Program} {w:World} {KT:Type} [DecidableEq KT] {knd:HeapKind prog w KT} {A:Around} {E:Value->Shared->Prop} {s:Shared}
theorem Ay(n:knd.room A)(q:knd.is s.heap k a)(u:s.heap.DictOfH knd d b)(v:k∈b.map (·.1))
  (y:∀j p i,b[j]? =some (k,p)->i.DictOfH knd d (b.eraseIdx j)->Heap.SameBut d s.heap i->Q (some (entryOfKey knd (k,p))) {s with heap:=i,toks:=s.toks+knd.draws k})
  (G:b.length<=sizeLine):wpAny (model prog w) A (Builtin.Dict.takeOut d (.ref a)) Q E s:=by
 obtain⟨o,z,B,g,C,c,f,r,t⟩:=u;unfold Builtin.Dict.takeOut
 try with_reducible refine KM ?_
 refine be (knd.pyHash n q (be (wpAny_dictFind_heap (s:={s with toks:=s.toks+knd.draws k}) n q g c f r t (λF=>?_) λj p h=>?_)))
 .obtain⟨x,m,rfl⟩:=aX.mp v
  obtain⟨j,h,e⟩:=vy m;exact absurd (by rw[b8 h,e]) (F j x.2)
 .refine be (wpAny_dictEntries (s:={s with toks:=s.toks+knd.draws k}) g c ?_)
  rw[entry_at f j,h];have H:=size_of_entries f
  refine be (wpAny_updateDictKeys (hz:=by lia) (s:={s with toks:=s.toks+knd.draws k}) g c (mo (y j p _ h #[_,_,B+1,aap _ g (Obj.isFreed_of_dict (Obj.data_mapDictKeys c _)),
   C.mapDictKeys _,Obj.data_mapDictKeys c _,?_,λx m=>knd.keeps (r x (List.mem_of_mem_eraseIdx m)) g c (aas ..),?_] (aas ..))))
  .obtain⟨l⟩:=z
   have f:l=b.map (entryOfKey knd):=f;subst f;simp[oP]
  .rw[<-oP];exact t.eraseIdx _
theorem Km{k:KT}(n:knd.room A.in1)(q:knd.is s.heap k a)(c:s.heap.DictOfH knd d b)(f:k∈b.map (·.1))
  (r:∀j p e,b[j]? =some (k,p)->e.DictOfH knd d (b.eraseIdx j)->Heap.SameBut d s.heap e->Q p.2 {s with heap:=e,toks:=s.toks+knd.draws k})
  (t:b.length<=sizeLine):wpAny (model prog w) A (call (.builtin "dict.pop") [.ref d, .ref a]) Q E s:=by
 refine SB PySem.F.slot_dict_pop c.typeIs PySem.F.entry_dict_pop ?_ (PySem.F.args_dict_pop_2 _ _);have u:=c.typeIs;obtain⟨o,g,v,h,x,i,m,y,B⟩:=c;have c:s.heap.DictOfH knd d b:=#[o,g,v,h,x,i,m,y,B];unfold Builtin.«dict.pop»;refine be ?_;unfold Builtin.Dict.keyAndDefault;refine be (wpAny_notOrdered_dict u ?_);show wpAny _ _ (pure (d,Value.ref a,none)) _ _ s;refine mo ?_;have C:(keyPart (Value.ref a)).isSome=false:=rfl
 have ne:g.isEmpty=false:=by
  have:=size_of_entries m
  have l:0<b.length:=by
   have:=uw f
   rwa [aG] at this
  rw[Array.isEmpty_eq_false_iff];exact λz=>by rw[z] at this;exact absurd this (by show 0≠_;lia)
 simp only[C,fk,M2];refine be (wpAny_dictEntries h i (be (mo ?_)));rw[ne];simp only[fk,M2];refine be (Ay n q c f (λj p e G H I=>?_) t);simp only[Option.isNone_some,fk,M2];exact be (wpAny_letGo (mo #[p.2,rfl,r j p e G H I]))
end
theorem kM.erase{e:List (List Int×Addr×Value)}(d:kM H a b c e):∀j:Nat,kM H (a.eraseIdx j) (b.eraseIdx j) (c.eraseIdx j) (e.eraseIdx j):=by
 induction d with
 |nil=>exact λj=> .nil
 |cons f g t h=>
  intro j;cases j with
  |zero=>exact t
  |succ j=>exact .cons f g (h j)
theorem kM.at_{b:List (List Int×Addr×Value)}(d:kM H c a e b):∀{j:Nat}{k:List Int}{p:Addr×Value},b[j]? =some (k,p)->∃q v,a[j]? =some q/\k= [q.1,q.2]/\I0 v p.2:=by
 induction d with
 |nil=>intro j k p h;cases h
 |cons i f t g=>
  intro j k p h;cases j with
  |zero=>cases h;exact#[_,_,rfl,rfl,f]
  |succ j=>exact g h
theorem gd.erase:∀{a:List (Int×Addr)}{b:List (Int×Int)},gd H a b->∀j:Nat,gd H (a.eraseIdx j) (b.eraseIdx j)
 |_,_, .nil,_=> .nil
 |_,_, .cons _ t,0=>t
 |_,_, .cons h t,j+1=> .cons h (t.erase j)
theorem AS [BEq b] [LawfulBEq b]:∀{l:List b}{j:Nat},l.Nodup->l[j]? =some x->l.erase x=l.eraseIdx j
 | [],_,_,h=>by simp at h
 |a::l,0,_,h=>by
  cases Do h;rw[List.erase_cons_head,List.eraseIdx_cons_zero]
 |a::l,j+1,c,h=>by
  have h:l[j]? =some x:=by simpa using h
  have c:=bS.mp c;rw[List.erase_cons_tail (by simpa using λz=>c.1 (by rw[z];exact dM h)),Fs,AS c.2 h]
theorem TF(h:I0 f u):RelV (vF f) u:=by
 cases f with
 |int i=>exact h
 |bl b=>exact h
section
variable {X:Cx} {pins:List (Addr×Obj)} {σ:St} {H:Hp} {s:Shared}
theorem M8(hu:X.A.units+64<cLine):Ja X "dict.pop" (λx r H Q=>∃l c d a g p,x= .ref l/\r= [.ref c]/\H c=some (.tup [.int p.1, .int p.2])/\H l=some (.ext (eZ l d g))/\gd H d a/\a.Nodup/\p∈a/\a.length<=300/\
  ∀j v,a[j]? =some p->Q v (upd H l (.ext (eZ l (d.eraseIdx j) (g.eraseIdx j))))):=by
 intro t s σ H x r v ws Q I F G h;rfl';obtain⟨l,c,d,a,g,p,rfl,rfl,L,B,M,N,O,hz,q⟩:=h;subst F;obtain⟨u,rfl,P⟩:=G.one;subst P;obtain⟨z,xs,i,R⟩:=I.Tf B M N;ac_rfl;refine Km (knd:=tupleKind (intKind X.prog X.w)) (k:= [p.1,p.2]) (by show X.A.units+1<cLine;lia) (I.rk L) R (by rw[i.keys];exact qI.mpr O) (λj y h' S T U=>?_) (small (by rw[i.len];lia))
 rfl';obtain⟨n,Y,Z,f,e3⟩:=i.at_ S
 have ep:n=p:=by
  have f:=f;simp only[List.cons.injEq,and_true] at f;exact PP f.1.symm f.2.symm
 subst ep;obtain⟨C,Tu,uM,E,wK,iG,uO,_,_⟩:=T;have I':=I.write (h':=h') (t':=s.toks+(tupleKind (intKind X.prog X.w)).draws [n.1,n.2]) (x:=l) (e:=l) (o:= .ext (eZ l (d.eraseIdx j) (g.eraseIdx j))) (by rw[B];trivial) (.inl rfl) (λb u hb e=>U.extBut b u hb e) #[C,E] (eZ.ok #[z,C,Tu,uM,E,wK,iG,by rw[uO];exact L9 (i.erase j)])
 ac_rfl;exact#[vF Y,_,I',TF e3,q j _ Z]
def YW(r:V->List V->Hp->VK->Prop)(c:TE)(t:TA):TE:=λa H Q=>c a H λx b=>(∃p d e,x= .ref p/\b p=some (.ext (eZ p d e)))/\t a b λf g=>r x f g Q
variable {o e:Expr} {es:List Expr} {to:TE} {t:TA} {name:Str} {apos aK:Pos} {id:String} {r:V->List V->Hp->VK->Prop}
theorem Qq(m:PlainAttrs "dict")(slot:Slot "dict" name id)(n:typeOf (.builtin id)=pure (.type "method_descriptor"))(q:Ja X id r)(u:PE X o to)(w:PA X (e::c) t)
  (y:attributeBase o name X.env (eval o X.env)=eval o X.env:=by rfl)
  (z:((backTo d (starEach (e::c) X.env)).all (λx=>!x.1)&&(backToKw d (keywordEach [] X.env)).all (λx=>x.1.isSome)
   &&decide ((e::c).length+([]:List Keyword).length+(if ([]:List Keyword).isEmpty then 0 else 1)<30))=true:=by rfl)
  (A:(apos.endLine==d.line)=true:=by rfl) (B:starEach (e::c) X.env=(false,eval e X.env)::starEach c X.env:=by rfl) (C:(backTo d (starEach c X.env)).any (·.1)=false:=by rfl):
  PE X (.Call (.Attribute o name apos) (e::c) [] d) (YW r to t):=by
 intro b s f H Q I h;refine aa4 y z A rfl (thn (u b s f H _ I h) λv E F=>?_);rfl';obtain⟨x,J,i,L,M,N⟩:=F;ac_rfl;rfl';obtain⟨p,iZ,Q6,rfl,O⟩:=M;subst L;obtain⟨_,j,_,_,k,S,_⟩:=(i.hok p _ O).1;ac_rfl;refine#["dict",id,m,slot,n,#[j,k,S.1],λa P=>?_,?_]
 .cases P;exact#[j,k,S.2.1]
 have l:=w d b E f J _ i N;rw[B] at l ⊢;refine aaJ (by show(false|| (backTo d (starEach c X.env)).any (·.1))=false;rw[C]<;>rfl) (abn ?_)
 exact thn l λR T #[U,Y,Z,r2,q2]=>q b T f Y (.ref p) U (.ref p) R Q Z rfl r2 q2
end
section
variable {Z:DC} {X:Cx} {md:List Nat} {rn:Nat} {e:Expr} {te:bp} {pos apos aK:Pos}
def SY(c:List Nat)(i:Nat)(f:bp):cX:=λE b=>∃a g,b[i]? =some (some (.x (.mw a g)))/\f (dF c b) λd=>∃p,d=ET p/\p∈a/\a.length<=300/\∀h,E.nx (b.set i (some (.x (.mw (a.erase p) h))))
theorem LX(i:Nat)(I:X.A.units+64<cLine)(J:DE Z X e te)(f:md.getD i 0=98:=by rfl)(L:X.N[i]? =some x:=by rfl)(O:kN X.env.scope x:=by subst_eqs)(g:(x==("__debug__":Str))=false:=by decide)(P:(x==("__classdict__":Str))=false:=by decide)
  (Q:attributeBase (.Name x a) "pop" X.env (eval (.Name x a) X.env)=eval (.Name x a) X.env:=by rfl)
  (R:((backTo aK (starEach [e] X.env)).all (λx=>!x.1)&&(backToKw aK (keywordEach [] X.env)).all (λx=>x.1.isSome)&&decide (([e]:List Expr).length+([]:List Keyword).length+(if ([]:List Keyword).isEmpty then 0 else 1)<30))=true:=by rfl)
  (T:(apos.endLine==aK.line)=true:=by rfl) (q:starEach [e] X.env=(false,eval e X.env)::starEach [] X.env:=by rfl) (U:(backTo aK (starEach [] X.env)).any (·.1)=false:=by rfl)
  (Y:swapsWith (.Call (.Attribute (.Name x a) "pop" apos) [e] [] aK) none pos.line X.env=pure false:=by rfl):
  DSt Z X md rn (.Expr (.Call (.Attribute (.Name x a) "pop" apos) [e] [] aK) pos) (SY md i te):=by
 refine(fW (Qq PySem.F.plainAttrs_dict PySem.F.slot_dict_pop PySem.F.type_dict_pop (M8 I) (pv i L O g P) (cK J fQ q) Q R T q U) Y).imp ?_;intro D σ H aS;rfl';obtain⟨B,ρ,E,⟨G,fp,S⟩,⟨m,r,s,h⟩,M⟩:=aS;obtain⟨v0,n,t⟩:=S.at_ i _ s;rw[f] at t;obtain⟨l,φ,rfl,hl,_,nd,es,rfl,pe⟩:=t.xA;ac_rfl;refine#[_,n,#[l,_,_,rfl,hl],S.ev false h λd g=>#[trivial,λv G' H' u x dv=>?_]];rfl';obtain⟨p,rfl,hp,hz,hn⟩:=g;obtain⟨c,rfl,hc⟩:=dv.Bf;obtain⟨v1,w,y⟩:=u.at_ i _ s;rw[n] at w;cases Do w;rw[f] at y;obtain⟨l',Zq,e',MD,z,o,iZ,rfl,C⟩:=y.xA;cases e';ac_rfl;refine#[l,c,iZ,m,r,p,rfl,rfl,x.sub _ _ hc,MD,C.mono x.sub,o,hp,hz,λj v hj=>M.nx _ (hn (r.eraseIdx j)) _ _ #[G',fp,u.mut n (b:=l) (by rw[z];simp) ?_]]
 have ek:m.erase p=m.eraseIdx j:=by
  exact AS o hj
 rw[f,z,ek];exact .inr (.inr #[l,_,rfl,ax,rfl, .inr #[rfl,_,rfl,o.eraseIdx _,_,rfl,C.erase j]])
end
abbrev mM:=(Int×Int)×Addr
def uJ(a:List mM)(x:mM):List mM:=if x.1∈a.map (·.1) then a else a++ [x]
def qU(xs:List mM):List mM:=xs.foldl uJ []
def D1(xs:List mM):List (Int×Addr):=xs.map λx=>(cm x.1,x.2)
theorem LG(h:y∈uJ a x):y∈a\/y=x:=by
 unfold uJ at h
 split at h
 .exact .inl h
 .simpa using h
theorem HS:∀{xs a:List mM}{y:mM},y∈xs.foldl uJ a->y∈a\/y∈xs
 | [],a,y,h=> .inl h
 |x::xs,a,y,h=>by
  rcases HS (xs:=xs) h with h|h
  .exact(LG h).imp id λe=>by rw[e];exact bB ..
  .exact .inr (bP _ h)
theorem DV{xs:List mM}(h:y∈qU xs):y∈xs:=(HS h).elim (λz=>nomatch z) id
theorem HR:∀(b a:List mM),(b.foldl uJ a).length<=a.length+b.length
 | [],a=>bb _
 |x::b,a=>by
  have:=HR b (uJ a x)
  have c:(uJ a x).length<=a.length+1:=by
   unfold uJ
   split
   .lia
   .simp
  rw[rL,bN];lia
theorem LD(xs:List mM):(qU xs).map (·.1)=(xs.map (·.1)).foldl k5 []:=by
 have h:∀(xs a:List mM),(xs.foldl uJ a).map (·.1)=(xs.map (·.1)).foldl k5 (a.map (·.1)):=λxs=>by
  induction xs with
  |nil=>intro a;rfl
  |cons x xs b=>
   intro a;rw[rL,bT,rL,b]
   congr 1
   unfold uJ k5
   split
   .rfl
   .rw[c8];rfl
 exact h xs []
theorem yv:∀(d c:List (Int×Int)),c.Nodup->(d.foldl k5 c).Nodup
 | [],_,h=>h
 |p::d,c,h=>yv d _ (by
  unfold k5
  split
  .exact h
  .next e=>exact c9.mpr #[h,by simp,λa f b g z=>e (by rw[<-cC.mp g,<-z];exact f)])
section
variable {prog:Program} {w:World} {A:Around} {E:Value->Shared->Prop} {s:Shared}
theorem Ox(x:IsTupleKey (intKind prog w) h c a)(k:∀o,h.get? a=some o->b.get? a=some o):IsTupleKey (intKind prog w) b c a:=
 let #[o,i,n,d,r]:=x;#[o,i,n,k o d,r]
theorem Hb{xs:List mM}{h0:Heap}(hh:A.in1.handled=none)(hu:A.units+8<cLine)(L:S≠I)(M:S≠l)(N:l≠I)(hx:d.toList=xs.map λx=>Value.ref x.2)(hb:xs.length<=300)
  (O:∀x∈xs,x.2≠S/\x.2≠I/\IsTupleKey (intKind prog w) h0 [x.1.1,x.1.2] x.2):
  ∀(k i:Nat)(s:Shared),xs.length-i=k->i<=xs.length->(s.heap.IsListIter I l i/\s.heap.IsList l d)->(∀b o,b≠S->b≠I->h0.get? b=some o->s.heap.get? b=some o)->dW (dh w) S (D1 (qU (xs.take i))) s.heap->
   (∀g C,(∀b o,b≠S->b≠I->h0.get? b=some o->g.get? b=some o)->dW (dh w) S (D1 (qU xs)) g->R (.ok (.ret .none)) {s with heap:=g,toks:=C})->
   codeAny (model prog w) A (.builtin "set.update.loop" #[[.ref S, .ref I],[]]) R s:=by
 have sz:d.size=xs.length:=by rw[<-cD,hx,aG]
 have W:=Walks.list (prog:=prog) (w:=w) hh I l N d;intro k
 induction k with
 |zero=>
  intro i s wG hi st m G H;have e:i=xs.length:=by lia
  subst e;refine aao ab0 ?_;rw[Wp aaF _];show wpAny _ A.in1 (pyNext (.ref I)>>=_) _ _ s;refine be (W.done s _ _ (by rw[sz];exact st) λg C F=>?_)
  show wpAny _ A.in1 (ret Value.none) _ _ _;rw[zS] at G;obtain⟨o,h,P,t,q,r⟩:=G;exact mo (H g C (λb o u n e=>F b o (by simpa using n) (m b o u n e)) #[o,h,P,t,F S o (by simpa using L) q,r])
 |succ k ih=>
  intro i s wG hi st m G H;have J:i<xs.length:=by lia
  refine aao ab0 ?_;rw[Wp aaF _];show wpAny _ A.in1 (pyNext (.ref I)>>=_) _ _ s;refine be (W.item i s _ _ (by rw[sz];exact J) st λv g C hP Q F=>?_)
  obtain⟨x,T⟩:∃x,xs[i]? =some x:=#[_,b8 J]
  have ev:v= .ref x.2:=by
   have:d.toList[i]? =some v:=by rw[eW];exact hP
   rw[hx,b7,T] at this;exact(Do this).symm
  subst ev;have U:∀b o,b≠S->b≠I->h0.get? b=some o->g.get? b=some o:=λb o u n e=>F b o (by simpa using n) (m b o u n e)
  have key:∀y∈xs,IsTupleKey (intKind prog w) g [y.1.1,y.1.2] y.2:=λy f=>Ox (O y f).2.2 λo e=>U _ o (O y f).1 (O y f).2.1 e;have xm:=dM T;have CU:xs.take (i+1)=xs.take i++ [x]:=by rw[zU,T];rfl
  have Wq:qU (xs.take (i+1))=uJ (qU (xs.take i)) x:=by unfold qU;rw[CU,List.foldl_append];rfl
  have sub:∀y∈qU (xs.take i),y∈xs:=λy f=>Bw (DV f)
  have ld:(qU (xs.take i)).length<=300:=by
   have:=HR (xs.take i) []
   have X:(xs.take i).length<=xs.length:=by rw[gO];lia
   unfold qU;rw[mJ] at this;lia
  obtain⟨o,h,P,t,q,SO,B⟩:=G;have q:=F S o (by simpa using L) q
  have pe:Jb prog w g h:=λj e p=>by
   have p:e∈h.toList:=dM (by rw[eW];exact p)
   obtain⟨z,Y,rfl⟩:=aX.mp (B.mem_iff.mp p);obtain⟨y,f,rfl⟩:=aX.mp Y;exact#[[y.1.1,y.1.2],y.2,rfl,key y (sub y f)]
  have esz:h.size=(qU (xs.take i)).length:=by
   have:=B.length_eq
   rw[cD,aG] at this;unfold D1 at this;rw[aG] at this;exact this
  show wpAny _ A.in1 (holding [Value.ref x.2] (setAdd S (.ref x.2))>>=_) _ _ _;refine be (KM ?_);unfold setAdd;refine KM ?_;have Pr:=key x xm;refine be (abJ (by show A.units+1<cLine;lia) Pr ?_)
  refine uk (s:={s with heap:=g,toks:=C+([x.1.1,x.1.2].length+1)}) (by show A.units+1<cLine;lia) q SO pe Pr (by lia) (λf=>?_) λhn X o' iZ uM t' Z jx S' U0=>?_
  .have Ua:x.1∈(qU (xs.take i)).map (·.1):=by
    obtain⟨j,c,h1,X⟩:=f;have p:(tupleKeyHash (intKind prog w) [x.1.1,x.1.2],Value.ref c)∈h.toList:=dM (by rw[eW];exact h1)
    obtain⟨z,Y,e1⟩:=aX.mp (B.mem_iff.mp p);obtain⟨y,f,rfl⟩:=aX.mp Y;have E:y.2=c:=by injection e1 with _ E;injection E
    have e3:=(key y (sub y f)).inj (E▸X);simp only[List.cons.injEq,and_true] at e3;exact aX.mpr #[y,f,PP e3.1 e3.2]
   refine mo #[aaB aaF _,ih (i+1) _ (by lia) J Q U #[o,h,P,t,q,SO,?_] λh3 Vq a b=>H h3 Vq a b]
   rw[Wq,uJ,ls Ua];exact B
  .have Xk:x.1∉(qU (xs.take i)).map (·.1):=λz=>by
    obtain⟨y,f,e⟩:=aX.mp z;have p:(cm y.1,Value.ref y.2)∈h.toList:=B.mem_iff.mpr (aX.mpr #[(cm y.1,y.2),aX.mpr #[y,f,rfl],rfl]);obtain⟨j,hj,ej⟩:=vy p;refine hn j _ (by rw[<-eW,b8 hj,ej]) y.2 rfl ?_
    have:=key y (sub y f)
    rw[e] at this;exact this
   refine mo #[aaB aaF _,ih (i+1) _ (by lia) J #[Q.1.at λo e=>?_,Q.2.at λo e=>?_] (λb o u n e=>?_) #[o',iZ,uM,t',jx,S',?_] λh3 Vq a b=>H h3 Vq a b]
   .rw[Z.2 _ (Ne.symm L)];exact e
   .rw[Z.2 _ (Ne.symm M)];exact e
   .rw[Z.2 _ u];exact U b o u n e
   .rw[Wq,uJ,ir Xk]
    unfold D1;rw[c8,c8];exact U0.trans (B.append_right _)
theorem Ka(a:Value){Q₁:Value->Shared->Prop}
  (h:Q₁ (.ref s.heap.objs.size) {s with heap:=s.heap.push {cls:= .type "set",dict:=none,data:= .set #[] 0 (.fresh 0 0 (!dh w))}}):
  codeAny (model prog w) A (.call (.builtin "set.__new__") #[[.type "set",a],[]]) (wants Q₁ E) s:=by
 refine aaQ (be (aaO (PySem.F.newCall_set_1 a) (mo #[aaB PySem.F.plain_set_new _,aao PySem.F.entry_set_new ?_])));rw[Wp PySem.F.plain_set_new _];unfold Builtin.«set.__new__» Builtin.Frozenset.newClass;have b:=acB;obtain⟨c,g,d,e,os⟩:=s;dsimp only
 wp_walk
 refine aay (mo ?_);dsimp only;simp only[newObj];exact be (wpAny_alloc (mo (mo h)))
theorem FH{xs:List mM}(M:A.handled=none)(hu:A.units+64<cLine)(O:s.heap.IsList l a)(j:a.toList=xs.map λx=>Value.ref x.2)(P:xs.length<=300)
  (p:∀x∈xs,IsTupleKey (intKind prog w) s.heap [x.1.1,x.1.2] x.2)
  (h:∀d i,dW (dh w) s.heap.objs.size (D1 (qU xs)) d->(∀b o,s.heap.get? b=some o->d.get? b=some o)->Q (.ref s.heap.objs.size) {s with heap:=d,toks:=i}):
  wpAny (model prog w) A (call (.type "set") [.ref l]) Q E s:=by
 obtain⟨c,tl,Xf⟩:=PySem.F.called_set.mro;have Ue:=PySem.F.called_set.made;have MM:=PySem.F.called_set.sub;refine acq (aaQ ?_);show wpAny _ _ (callAny (.type "set") _) _ _ _;refine mo #[Code.quiet_builtin _ (by decide+kernel),aao PySem.F.entry_type_call ?_]
 rw[Around.under_plain (weight_type_call_type "set" [.ref l] []) rfl];have h1:=PySem.F.called_set.notType;have h2:=PySem.F.called_set.canCreate;have S:=PySem.F.typeCall_set_1 (.ref l)
 repeat (any_goals (first|assumption|wp_step))
 obtain⟨N,k⟩:∃N:Obj,N={cls:= .type "set",dict:=none,data:= .set #[] 0 (.fresh 0 0 (!dh w))}:=#[_,rfl];refine aaD (Ka (.ref l) (E:=E) (Q₁:=λobj f=>obj= .ref s.heap.objs.size/\f={s with heap:=s.heap.push N}) #[rfl,by rw[k]]) λr f q=>?_
 cases r with
 |error e=>exact q
 |ok T=>
  cases T with
  |ret obj=>
   obtain⟨rfl,rfl⟩:=q;have U:N.isFreed=false:=by rw[k];rfl
   have z:(s.heap.push N).get? s.heap.objs.size=some N:=GE _ U;have X:Shared.TypeIs {s with heap:=s.heap.push N} (.ref s.heap.objs.size) "set":=#[_,z,by rw[k]]
   have Y:=PySem.F.called_set.init.lookup;have Z:=PySem.F.called_set.init.bind (.ref s.heap.objs.size)
   repeat (any_goals (first|assumption|wp_step))
   refine aaD (codeAny_call_builtin (R:=wants (λr B=>r= .none/\∃d i,B={s with heap:=d,toks:=i}/\dW (dh w) s.heap.objs.size (D1 (qU xs)) d/\∀b o,s.heap.get? b=some o->d.get? b=some o) E) PySem.F.called_set.init.plain PySem.F.entry_set_init (check_set_init_1 X ?_)) λN3 B t=>?_
   .obtain⟨ol,C,G,H,I⟩:=O
    obtain⟨aam,UM,aab,Qn⟩:=ol;simp only at G I;subst G;subst I;have Xp:(s.heap.push N).get? l=some {cls:= .type "list",dict:=UM,data:= .seq a H,slots:=Qn}:=tz _ C;have aah:=PySem.F.sub_list_set;have aag:=PySem.F.sub_list_frozenset;have wI:(Value.type "list"==Value.type "dict")=false:=by decide
    have J:(s.heap.push N).IsList l a:=#[_,Xp,rfl,H,rfl];have L:l<s.heap.objs.size:=FB C;have m:(s.heap.push N).objs.size=s.heap.objs.size+1:=acm ..;have n:∀b o,s.heap.get? b=some o->b<s.heap.objs.size:=λb o e=>FB e;subst k;unfold Builtin.«set.__init__» noKeywords Builtin.Frozenset.updateFrom;generalize u:pyIter=PI
    wp_walk
    subst u;refine aa1 J (be (wpAny_runValue ?_));refine Hb (h0:=s.heap) (xs:=xs) (by simp[M]) (by show A.units+1+1+8<cLine;lia) (by rw[m];exact bV (zR _)) (abm L) (by rw[m];exact bV (rK L)) j P (λx j=>#[?_,?_,p x j]) (xs.length-0) 0 _ rfl (fm _) #[#[_,GE _ rfl,rfl,rfl],J.push _] (λb o _ _ e=>tz _ (tz _ e)) #[_,_,_,_,tz _ z,iC.new w, .refl _] λd i g v=>?_
    .obtain⟨o,_,_,y,_⟩:=p x j
     exact bV (n _ _ y)
    .obtain⟨o,_,_,y,_⟩:=p x j
     rw[m];exact bV (rK (n _ _ y))
    .refine mo ?_
     show wpAny _ _ (ret Value.none) _ _ _;exact mo #[rfl,d,i,rfl,v,λb o e=>g b o (bV (n b o e)) (by rw[m];exact bV (rK (n b o e))) e]
   .cases N3 with
    |error e=>exact t
    |ok FZ=>
     cases FZ with
     |ret r=>
      obtain⟨rfl,d,i,rfl,v,g⟩:=t
      repeat (any_goals (first|assumption|wp_step))
      exact h _ _ v g
     |_=>exact t.elim
  |_=>exact q.elim
end
theorem HJ:bootBuiltins "set"=some (.type "set"):=by decide+kernel
section
variable {Z:DC} {X:Cx}
theorem HY:∀{f:List (Int×Int)}{g:List V},DvAll Z G g (f.map ET)->∃d:List mM,d.map (·.1)=f/\g=d.map (λx=>V.ref x.2)/\∀x∈d,G x.2=some (.tup [.int x.1.1, .int x.1.2])
 | [],_,h=>#[[],rfl,h.yN,λx e=>nomatch e]
 |p::f,_,h=>by
  obtain⟨v,m,rfl,a,b⟩:=h.mX;obtain⟨c,rfl,i⟩:=a.Bf;obtain⟨d,j,k,l⟩:=HY b;refine#[(p,c)::d,by rw[bT,j],by rw[k,bT],λx e=>?_]
  rcases bo.mp e with rfl|e
  .exact i
  .exact l x e
theorem Iz:∀{xs:List mM},(∀x∈xs,G x.2=some (.tup [.int x.1.1, .int x.1.2]))->gd G (D1 xs) (xs.map (·.1))
 | [],_=> .nil
 |x::xs,h=> .cons (h x (bB ..)) (Iz λy a=>h y (bP _ a))
def SA(w:World):cv:=λb P=>∃a:List (Int×Int),b= [.lst (a.map ET)]/\a.length<=300/\P (.x (.mz (dh w) (a.foldl k5 [])))
theorem DL(n:X.calm=true)(p:X.A.units+64<cLine):cB X (.type "set") (gE Z (SA X.w)):=by
 intro i s J H xs us Q I t h;rfl';obtain⟨G,M,P,c,dv,⟨N,rfl,j,z⟩,q⟩:=h;obtain⟨v,rfl,a⟩:=dv.ofOne;obtain⟨l,O,rfl,B,e⟩:=a.iL;obtain⟨xs,rfl,rfl,k⟩:=HY e;obtain⟨u,rfl,C⟩:=t.one;subst C;obtain⟨b,r,pl,_⟩:=I.list (cY.of (c _ _ B))
 have E:b=xs.map λx=>Value.ref x.2:=by
  have:=nq (as:=xs.map (·.2)) (us:=b) (by rw[b9];exact r)
  rw[this,b9];rfl
 rw[aG] at j;ac_rfl;refine FH (xs:=xs) (I.ok.hd n) p pl.isList E j (λx d=>I.rk (c _ _ (k x d))) λR F f g=>?_;have m:=I.hok.fresh (bb s.heap.objs.size);refine#[.ref s.heap.objs.size,_,I.laid (t':=F) g (bb _) (o:= .ext (dW (dh X.w) s.heap.objs.size (D1 (qU xs)))) (dW.ok f),rfl,q _ z _ _ _ (.new c m) (.x ax #[yv _ _ gQ,_,rfl,?_])];rw[<-LD];exact Iz λx d=>aY (c.free m) _ _ _ (k x (DV d))
def OO(w:World):cv:=λb P=>∃a,b= [.x (.mz (dh w) a)]/\a.length<=1000/\P (.int a.length)
theorem Jg:cB X (.builtin "len") (gE Z (OO X.w)):=by
 intro c s y H z A Q I f h;rfl';obtain⟨G,B,P,d,dv,⟨e,rfl,C,i⟩,q⟩:=h;obtain⟨v,rfl,a⟩:=dv.ofOne;ac_rfl;cases a with
 |x j ok=>
  rfl';obtain⟨E,F,rfl,k⟩:=ok;obtain⟨u,rfl,l⟩:=f.one;subst l;obtain⟨o,m,J,t,n,S,p⟩:=I.nW (d _ _ j)
  have r:m.size=e.length:=by
   have:=p.length_eq
   rw[cD,aG,k.len] at this;exact this
  ac_rfl;refine call_len_set n S.ex S.dat S.fits (by lia) #[.int e.length,H,I.tok _,#[_,by rw[r]],q _ i _ G H (.refl d) (.int _)]
theorem Kn:gd G f (c.map λd=>((d.1:Int),(d.2:Int)))->∃L:List (Addr×(Nat×Nat)),L.map (·.2)=c/\f.map (λe=>Value.ref e.2)=L.map (λe=>Value.ref e.1)/\xB G L:=by
 induction c generalizing f with
 |nil=>intro h;cases h;exact#[[],rfl,rfl,λp b=>nomatch b]
 |cons n c g=>
  intro h;cases h with
  | @cons a _ m _ i t=>
   obtain⟨L,j,k,l⟩:=g t;refine#[(a,n)::L,by rw[bT,j],by rw[bT,bT,k],λp b=>?_]
   rcases bo.mp b with rfl|b
   .exact i
   .exact l p b
def Lg(w:World):cv:=λc P=>∃a:List (Nat×Nat),c= [.x (.mz (dh w) (a.map λd=>((d.1:Int),(d.2:Int))))]/\a.length<=1000/\∀b:List (Nat×Nat),b.Perm a->b.Pairwise Wb.lexLe->P (.lst (b.map pairD))
theorem FK(J:X.calm=true):cB X (.builtin "sorted") (gE Z (Lg X.w)):=by
 intro n s σ H xs us Q I N h;rfl';obtain⟨G,ds,P,d,dv,⟨r,rfl,hz,R⟩,q⟩:=h;obtain⟨v,rfl,a⟩:=dv.ofOne;ac_rfl;cases a with
 | @x c _ _ b ok=>
  rfl';obtain⟨nd,es,rfl,T⟩:=ok;obtain⟨u,rfl,U⟩:=N.one;subst U;obtain⟨o,g,y,t,Y,S,i⟩:=I.nW (d _ _ b);obtain⟨L,z,e2,hL⟩:=Kn T
  have A:((lg X.w c y g).toList.map (·.2)).Perm (L.map λe=>Value.ref e.1):=by
   refine((yS X.w c y g).map _).trans ?_
   have:=i.map (λe:Int×Value=>e.2)
   rw[b9] at this;rw[<-e2];exact this
  obtain⟨M,j,em⟩:=iN (λe:Addr×(Nat×Nat)=>Value.ref e.1) _ L A;have ll:L.length=r.length:=by rw[<-z,aG]
  have sz:g.size<=1000:=by
   have:=A.length_eq
   rw[aG,cD,kE,aG] at this;lia
  have B:1000<sizeLine:=by decide
  have C:xB G M:=λx b=>hL x (j.mem_iff.mp b);ac_rfl;refine we I (L:=M) (λx b=>d _ _ (C x b)) (by rw[j.length_eq];lia) (λQ' h=>sP (I.ok.hd J) Y S (λh' tk lt k=>by rw[em];exact h h' tk (sU lt) k) (by lia)) λp l E F m2=>?_
  have i:(l.map (·.2)).Perm r:=by rw[<-z];exact(F.trans j).map _
  have m:xB (upd G p (.lst (l.map λe=>V.ref e.1))) l:=λx b=>aY (d.free E) _ _ _ (C x (F.mem_iff.mp b));exact q _ (R _ i m2) _ _ _ (.new d E) (.lst ax m.dv)
end
section
variable {Z:DC} {X:Cx} {md:List Nat}
def Ly(i:Nat)(t:cX):cX:=λE a=>(∃d,a[i]? =some (some d))/\t {nx:=λ_=>False,rt:=E.rt} a
theorem vN(i:Nat)(h:uD Z X (md.set i 0) 0 f t):uD Z X md 0 f (Ly i t):=by
 refine oj.imp h ?_;rintro p q H ⟨B,k,E,⟨G,r,S⟩,⟨⟨d,g⟩,l⟩,M⟩;obtain⟨v,m,dv,a⟩:=S.IG g;refine#[B,k,_,#[_,_,#[a.ex,a.fl,S.len,λj c b=>?_,a.nd,a.ap,a.nw]],l,#[λ_ z=>z.elim,M.rt,λ_ z=>z.elim,λ_ z=>z.elim,λ_ _ z=>z.elim]]
 by_cases e:j=i
 .subst e
  rw[g] at b;cases b;exists v,m
  have:(md.set j 0).getD j 0=0:=by
   rw[ck,n6]
   split<;>first| (split<;>rfl) |exact absurd rfl ‹_›
  rw[this,ls rfl];exact#[dv,rfl]
 .obtain⟨u,n,o⟩:=a.at_ j c (by rw[lG (Ne.symm e)];exact b)
  exists u,n
  have:(md.set i 0).getD j 0=md.getD j 0:=by rw[ck,ck,lG (Ne.symm e)]
  rw[this];exact o
end
section
variable {Z:DC} {X:Cx} {a b:Expr} {rest:List Expr} {ta tb:bp} {te tf:TE} {pos:Pos}
theorem Qy(m:PE X a te)(n:PE X (.BoolOp .Or (b::rest) pos) tf):PE X (.BoolOp .Or (a::b::rest) pos) (λe H Q=>te e H λx f=>∃k,K8 X.K x f k/\if k=true then Q x f else tf e f Q):=by
 intro d s e H Q I h;refine BoolOp_or (thn (m d s e H _ I h) λv o #[x,g,p,i,r]=>?_);obtain⟨k,t,q⟩:=r
 exact thn (IT d o e g x v (λc f=>c=k/\f=g) p i #[k,t,rfl,rfl]) λc u #[j,l,w,y]=>by
  subst w y;cases c with
  |false=>exact n d u e j Q l q
  |true=>exact#[x,j,l,i,q]
def Wh(e f:bp):bp:=λc P=>e c λd=>∃l,d= .lst l/\(l≠ []->P (.lst l))/\(l= []->f c P)
theorem O0(k:DE Z X a ta)(d:DE Z X (.BoolOp .Or (b::rest) pos) tb):DE Z X (.BoolOp .Or (a::b::rest) pos) (Wh ta tb):=by
 refine(Qy k d).imp ?_;rintro B H Q ⟨G,i,P,s,e,h,q⟩;exists G,i,_,s,e,h;rintro _ ⟨l,rfl,m,n⟩ v j o c dv;obtain⟨p,f,rfl,r,t⟩:=dv.iL;exists !f.isEmpty, .inl #[_,cY.of (c.sub _ _ r),rfl];have g:=t.length;cases f with
 |nil=>
  obtain rfl:l= []:=zH.mp g.symm;exact bJ #[j,i,P,c.sub,e.mono c.gg,n rfl,λb d v u w x A=>q b d v u w (c.trans x) A]
 |cons y f=>exact dH (q _ (m λz=>by rw[z] at g;cases g) _ j o c dv)
end
end L2
namespace Wb
theorem fz(g:Good w)(R:cG w d a)(j:aw w d){k:Nat}(c:k<a.length):
  (a.getD ((k+(a.length-1))%a.length) (0,0)).1∈row w (a.getD k (0,0)).1/\aE (row w (a.getD k (0,0)).1) (a.getD ((k+(a.length-1))%a.length) (0,0)).1=(a.getD k (0,0)).2/\aw w (a.getD k (0,0)):=by
 have f:∀{i:Nat},i<a.length->aw w (a.getD i (0,0)):=λ {i} b=>R.aM g j _ (by
  rw[ck,b8 b];exact uA b)
 have b:(k+(a.length-1))%a.length<a.length:=jT _ (by lia)
 have e:=Ky R c;have h:(a.getD k (0,0)).1=(a.getD ((k+(a.length-1))%a.length) (0,0)).2:=by rw[e];rfl
 have l:(a.getD k (0,0)).2=aE (row w (a.getD ((k+(a.length-1))%a.length) (0,0)).2) (a.getD ((k+(a.length-1))%a.length) (0,0)).1:=by
  conv=>lhs;rw[e]
  rfl
 refine#[?_,?_,f c]
 .rw[h];exact g.sym _ _ (f b)
 .rw[h,<-l]
theorem Kx(g:Good w)(R:cG w d a)(h:aw w d)(k:i<a.length)(b:j<a.length):∃c,cG w (a.getD i (0,0)) c/\a.getD j (0,0)∈c:=by
 have f:a.getD j (0,0)∈a:=by rw[ck,b8 b];exact uA b
 exists _,R.N0 g h k;rw[bH];generalize a.getD j (0,0)=e at*;rw[<-iU i a,bH] at f;exact f.symm
theorem zu(g:Good w)(R:cG w d a)(e:aw w d){i j:Nat}(m:i<a.length)(n:j<a.length){p q x y:Nat}(f:p=(a.getD i (0,0)).1)(h:q=(a.getD j (0,0)).1)(B:x=(a.getD ((i+(a.length-1))%a.length) (0,0)).1)(C:y=(a.getD ((j+(a.length-1))%a.length) (0,0)).1)
  (ne:q≠p) (o:q∉row w p):Good (tie w p ((row w p).idxOf x+1) q ((row w q).idxOf y+1))/\(iX w->iX (tie w p ((row w p).idxOf x+1) q ((row w q).idxOf y+1))):=by
 obtain⟨k,s,E⟩:=fz g R e m;obtain⟨l,t,F⟩:=fz g R e n;rw[<-f,<-B] at k s;rw[<-h,<-C] at l t;have b:=aU k;have c:=aU l;have A:=JG (i:=(row w p).idxOf x+1) (j:=(row w q).idxOf y+1) g b c ne o;refine#[A,λP=>?_];refine NK (p:=p) (r:=(a.getD i (0,0)).2) (u:=q) (v:=(a.getD j (0,0)).2) g A (jA ..) (by rw[f];exact E) (by rw[h];exact F) ne o ?_ ?_ (λz G H=>?_) ?_ P
 .rw[pP b c,ir ne,ls rfl,<-s];exact pN k
 .rw[pP b c,ls rfl,<-t];exact pN l
 .rw[pP b c,ir (Ne.symm H),ir (Ne.symm G)]
 .have:=Kx g R e m n
  rw[f,h];exact this
def mS(w:W)(p x:Nat):W:=w.set p (ins (row w p) ((row w p).idxOf x+1) w.length)++ [[p]]
theorem g9(d:p<w.length)(q:Nat):row (mS w p x) q=if q=p then ins (row w p) ((row w p).idxOf x+1) w.length else if q=w.length then[p] else row w q:=by
 unfold mS;generalize ins (row w p) ((row w p).idxOf x+1) w.length=b;have a:(w.set p (b)).length=w.length:=f9 ..
 by_cases c:q<w.length
 .have:row (w.set p (b)++ [[p]]) q=row (w.set p (b)) q:=by
   unfold row;rw[ck,ck,mI (by rw[a];exact c)]
  rw[this,y4 d]
  by_cases z:p=q
  .subst z;rw[ls rfl,ls rfl]
  .rw[ir z,ir (Ne.symm z),ir (by lia)]
 .rw[ir (by lia)]
  by_cases z:q=w.length
  .subst z
   rw[ls rfl];unfold row;rw[ck,lE (by rw[a];exact bb _),a,rO];rfl
  .rw[ir z]
   unfold row;rw[ck,iu (by rw[cE,a];show w.length+1<=q;lia),ck,iu (by lia)]
theorem ku(w:W)(p x:Nat):(mS w p x).length=w.length+1:=by unfold mS;rw[cE,f9];rfl
theorem k7(g:Good w){p x:Nat}(a:p<w.length):Good (mS w p x):=by
 have d:w.length∉row w p:=λz=>by have:=g.rng _ _ z;lia
 refine vS (ps:= [p]) g (by simp) (λq b=>by rw[cC] at b;rw[b];exact a) (ku ..) ?_ (λq=>?_) (λq b=>?_) λq b z=>?_
 .rw[g9 a,ir (by lia),ls rfl];simp
 .rw[g9 a,ir (by lia),ls rfl]
 .rw[g9 a]
  split
  .exact kA (g.nod p) d
  .rw[ir (by lia)];exact g.nod q
 .rw[g9 a]
  by_cases c:q=p
  .subst c
   rw[ls rfl,dZ,cC];exact#[λh=>h.elim (λh=> .inr #[h,rfl]) .inl,λh=>h.elim .inr λh=> .inl h.1]
  .rw[ir c,ir (by lia),cC]
   exact#[.inl,λh=>h.elim id λh=>absurd h.2 c]
theorem yA(g:Good w)(R:cG w d a)(j:aw w d){i:Nat}(l:i<a.length){p x:Nat}(b:p=(a.getD i (0,0)).1)(n:x=(a.getD ((i+(a.length-1))%a.length) (0,0)).1)(P:iX w):iX (mS w p x):=by
 obtain⟨h,m,r⟩:=fz g R j l;rw[<-b,<-n] at h m;have c:=aU h;refine Bj (k:=i) (ks:= []) g (k7 g c) R j (C8 _ _) (λz f=>by rw[cC] at f;rw[f];exact l) (by simp) #[ku ..,λq s o=>?_,λz f=>?_,?_] P
 .rw[g9 c,ir (λe=>o _ (cC.mpr rfl) (by rw[e,b])),ir (by lia)]
 .rw[cC.mp f,<-b,<-m,g9 c,ls rfl]
  exact pN h
 .rw[g9 c,ir (by lia),ls rfl,b];rfl
def jO(a:List (Nat×Nat))(p:Nat):List Nat:=(a.filter λt=>decide (t.1=p\/t.2=p)).map λt=>t.1+t.2-p
theorem sj(ne:q≠p):jO (a++ [(min p q,max p q)]) x=jO a x++(if q=x then[p] else if p=x then[q] else[]):=by
 unfold jO;rw[abK,c8]
 congr 1
 by_cases c:q=x
 .subst c
  rw[ls rfl,ab1 (by simp;lia)]
  simp;lia
 .rw[ir c]
  by_cases e:p=x
  .subst e
   rw[ls rfl,ab1 (by simp;lia)]
   simp;lia
  .rw[ir e,ab2 (by simp;lia)];rfl
theorem Bc{ts:List (Nat×Nat)}{p q:Nat}(ne:q≠p)(h:(min p q,max p q)∈ts):q∈jO ts p:=by
 unfold jO;refine aX.mpr #[_,qt.mpr #[h,by simp;lia],?_]
 simp;lia
structure FR (w0 w:W) (ts:List (Nat×Nat)):Prop where
 g:Good w
 pl:iX w
 len:w.length=w0.length
 lt:∀t∈ts,t.1<t.2/\t.2<w0.length/\t.2∉row w0 t.1
 nd:ts.Nodup
 row_:∀p,(row w p).filter (λq=>decide (q∉jO ts p))=row w0 p
 mem:∀p,∀q∈jO ts p,q∈row w p
 cnt:∀p,(row w p).length=(row w0 p).length+(jO ts p).length
theorem FR.zero(g:Good w)(P:iX w):FR w w [] where
 g:=g
 pl:=P
 len:=rfl
 lt:=λt h=>nomatch h
 nd:=gQ
 row_:=λp=>List.filter_eq_self.mpr λ_ _=>FM (λh=>nomatch h)
 mem:=λp q h=>nomatch h
 cnt:=λp=>rfl
theorem AV{l L:List Nat}{k a:Nat}(h:a∉l):(ins l k a).filter (λq=>decide (q∉L++ [a]))=l.filter λq=>decide (q∉L):=by
 have e:∀m:List Nat,a∉m->m.filter (λq=>decide (q∉L++ [a]))=m.filter λq=>decide (q∉L):=λm b=>by
  refine List.filter_congr λx c=>aaE.mpr ?_;rw[bH,cC];exact#[λz y=>z (.inl y),λz y=>y.elim z λe=>b (e▸c)]
 unfold ins;rw[abK,ab2 (by simp),e _ (λz=>h (Bw z)),e _ (λz=>h (List.mem_of_mem_drop z)),<-abK,iU]
def Br(w:W)(a:List Dt)(i j:Nat):W:=tie w (a.getD i (0,0)).1 ((row w (a.getD i (0,0)).1).idxOf (a.getD ((i+(a.length-1))%a.length) (0,0)).1+1) (a.getD j (0,0)).1 ((row w (a.getD j (0,0)).1).idxOf (a.getD ((j+(a.length-1))%a.length) (0,0)).1+1)
theorem FR.step{r w:W}{v:List (Nat×Nat)}(h:FR r w v){d:Dt}{f:List Dt}(R:cG w d f)(s:aw w d){i j:Nat}(A:i<f.length)(B:j<f.length)(ne:(f.getD j (0,0)).1≠(f.getD i (0,0)).1)(n:(f.getD j (0,0)).1∉row w (f.getD i (0,0)).1):
  FR r (Br w f i j) (v++ [(min (f.getD i (0,0)).1 (f.getD j (0,0)).1,max (f.getD i (0,0)).1 (f.getD j (0,0)).1)])/\gr (Br w f i j)=gr w+2:=by
 have C:=zu h.g R s A B rfl rfl rfl rfl ne n;have E:=aU (fz h.g R s A).2.2;have F:=aU (fz h.g R s B).2.2;unfold Br;generalize (row w (f.getD i (0,0)).1).idxOf (f.getD ((i+(f.length-1))%f.length) (0,0)).1+1=k at*;generalize (row w (f.getD j (0,0)).1).idxOf (f.getD ((j+(f.length-1))%f.length) (0,0)).1+1=m at*;generalize (f.getD i (0,0)).1=p at*;generalize (f.getD j (0,0)).1=q at*;have G:p∉row w q:=λz=>n (h.g.sym _ _ z)
 have sub:∀{x y},y∈row r x->y∈row w x:=λ {x y} l=>by
  rw[<-h.row_ x] at l;exact(qt.mp l).1
 have u:=λx=>pP (i:=k) (j:=m) (x:=x) E F;refine#[#[C.1,C.2 h.pl,by rw[jA];exact h.len,λt o=>?_,?_,λx=>?_,λx y l=>?_,λx=>?_],LI E F ne]
 .rcases bH.mp o with o|o
  .exact h.lt t o
  .rw[cC.mp o]
   have:=h.len
   refine#[by show min p q<max p q;lia,by show max p q<_;lia,?_]
   show max p q∉row r (min p q)
   rcases acD p q with c|c
   .rw[abe (by lia),abq (by lia)]
    exact λz=>n (sub z)
   .rw[Nat.max_eq_left (by lia),Nat.min_eq_right (by lia)]
    exact λz=>G (sub z)
 .refine c9.mpr #[h.nd,by simp,λa H b I z=>?_]
  rw[cC] at I;rw[z,I] at H;exact n (h.mem p q (Bc ne H))
 .rw[u,sj ne]
  split
  .next c=>subst c;rw[AV G];exact h.row_ q
  .split
   .next c=>subst c;rw[AV n];exact h.row_ p
   .rw[f7];exact h.row_ x
 .rw[sj ne] at l
  rw[u]
  split
  .next c=>
   subst c;rw[ls rfl] at l;rw[dZ];exact(bH.mp l).elim (λz=> .inr (h.mem _ _ z)) λz=> .inl (cC.mp z)
  .next c=>
   rw[ir c] at l
   split
   .next e=>
    subst e;rw[ls rfl] at l;rw[dZ];exact(bH.mp l).elim (λz=> .inr (h.mem _ _ z)) λz=> .inl (cC.mp z)
   .next e=>
    rw[ir e,f7] at l;exact h.mem _ _ l
 .rw[u,sj ne]
  have c:=h.cnt x
  split
  .next e=>subst e;rw[pj,cE];simp;lia
  .split
   .next e=>subst e;rw[pj,cE];simp;lia
   .rw[f7];exact c
end Wb
namespace L2
open PySem PySem.Spec PyProof.Rows
open Classical in
noncomputable def pA(H:Hp)(a:Addr):Hp:=λb=>if b=a then none else H b
theorem mm(h:b≠a):pA H a b=H b:=ir h
theorem A8:pA H a a=none:=ls rfl
theorem Ew:aZ (pA H a) H:=λb o e=>by
 by_cases z:b=a
 .subst z;rw[A8] at e;cases e
 .rw[mm z] at e;exact e
section
variable {P:Program} {w:World} {K:ac} {mg:Str->Option Value} {base:Heap} {Z:DC}
end
section
variable {Z:DC} {X:Cx} {md:List Nat} {rn:Nat} {e e1 e2 e3 k:Expr} {pos p2:Pos} {te t1 t2:bp} {t3:jB}
end
structure iB (a:Addr) (G H G' H':Hp):Prop where
 gg:∀b o,b≠a->G b=some o->G' b=some o
 hh:∀b o,b≠a->H b=some o->H' b=some o
 off:∀b,b≠a->H b≠none->G b=none->G' b=none
theorem iB.of{a:Addr}(x:Ext G H c d):iB a G H c d:=#[λb o _ e=>x.gg b o e,λb o _ e=>x.hh b o e,λb _ f g=>x.off b f g]
theorem iB.trans{G H c d f g:Hp}(x:iB a G H c d)(y:iB a c d f g):iB a G H f g:=
 #[λb o n e=>y.gg b o n (x.gg b o n e),λb o n e=>y.hh b o n (x.hh b o n e),λb n h i=>y.off b n (by
  cases e:H b with
  |none=>exact absurd e h
  |some o=>rw[x.hh b o n e];exact λz=>nomatch z) (x.off b n h i)]
theorem iB.put(o:HO):iB a G H (upd G a o) (upd H a o):=#[λb o n e=>by rw[aB n];exact e,λb o n e=>by rw[aB n];exact e,λb n _ h=>by rw[aB n];exact h]
section
variable {Z:DC} {G H G' H':Hp} {a:Addr} {xs:List V} {w:List (List Nat)}
structure Rw (Z:DC) (a:Addr) (w:List (List Nat)) (G H:Hp) (xs:List V):Prop where
 sub:aZ G H
 at_:G a=some (.lst xs)
 dv:DvAll Z G xs (w.map au)
 ne:w≠ []
theorem Rw.ext(h:Rw Z a w G H xs)(x:Ext G H G' H'):Rw Z a w G' H' xs:=#[x.sub,x.gg _ _ h.at_,h.dv.mono x.gg,h.ne]
theorem E1(h:Rw Z a w G H xs)(d:Dv Z G v (au r))(s:∀b o,b≠a->G b=some o->G' b=some o):Dv Z G' v (au r):=by
 obtain⟨b,c,rfl,e,f⟩:=d.iL
 have ne:b≠a:=λz=>by
  subst z;rw[h.at_] at e;cases e;have dv:=h.dv
  match w,h.ne with
  |t::u,_=>
   obtain⟨y,g,rfl,i,_⟩:=dv.mX;obtain⟨A,_,rfl,_,_⟩:=i.iL
   match r with
   | []=>exact absurd f.yN (by simp)
   |x::B=>
    obtain⟨C,j,k,l,_⟩:=f.mX;cases k
    have:=l.ofInt
    cases this
 refine .lst (s _ _ ne e) ?_;clear e d
 have m:∀{r:List Nat}{c:List V},DvAll Z G c (r.map ae)->DvAll Z G' c (r.map ae):=λ {r}=>by
  induction r with
  |nil=>intro c h;rw[h.yN];exact .nil
  |cons x r n=>
   intro c h;obtain⟨v,g,rfl,p,q⟩:=h.mX;rw[p.ofInt];exact .cons (.int _) (n q)
 exact m f
theorem vm(h:Rw Z a w G H xs)(s:∀b o,b≠a->G b=some o->G' b=some o):∀{c:List (List Nat)}{e:List V},DvAll Z G e (c.map au)->DvAll Z G' e (c.map au)
 | [],_,d=>by rw[d.yN];exact .nil
 |r::c,_,d=>by
  obtain⟨v,i,rfl,f,g⟩:=d.mX;exact .cons (E1 h f s) (vm h s g)
theorem Rw.put(h:Rw Z a w G H xs){d:List (List Nat)}(dv:DvAll Z G c (d.map au))(ne:d≠ []):Rw Z a d (upd G a (.lst c)) (upd H a (.lst c)) c:=by
 have k:∀b o,b≠a->G b=some o->upd G a (.lst c) b=some o:=λb o n e=>by rw[aB n];exact e
 refine#[λb o e=>?_,ax,vm h k dv,ne]
 by_cases z:b=a
 .subst z;rw[ax] at e ⊢;exact e
 .rw[aB z] at e ⊢;exact h.sub b o e
end
def Ez(Z:DC)(e:List (List Nat)->Int->(List (List Nat)->Prop)->Prop):Sp:=λf H Q _=>∃(G:Hp)(a:Addr)(n:Int)(w:List (List Nat))(g:List V)(P:List (List Nat)->Prop),f= [.ref a, .int n]/\Rw Z a w G H g/\e w n P/\∀c,P c->∀d b h,Rw Z a c d b h->iB a G H d b->Q (.bl true) b
section
variable {Z:DC} {X:Cx} {md:List Nat} {rn:Nat} {e:Expr} {te:bp} {pos aK:Pos}
def SR(b:List Nat)(i:Nat)(c:List (List Nat)->Int->(List (List Nat)->Prop)->Prop)(f:bp):cX:=λE a=>∃w,a[i]? =some (some (.lst (w.map au)))/\w≠ []/\f (dF b a) λd=>∃n,d= .int n/\c w n λg=>E.nx (a.set i (some (.lst (g.map au))))
theorem O4(i:Nat){sd:List (List Nat)->Int->(List (List Nat)->Prop)->Prop}{k j:Nat}{x y:Str}{st:Stmt}{ps:List Str}{py p:Pos}(d:fo X.K X.mg x st ps)(F:FnOk X.prog X.w X.K X.mg X.base cF k d.f d.fd ps (Ez Z sd))(hr:cP j X.A)(he:DE Z X e te)(R:Gl X x:=by rfl)(hk:k<=j:=by first|decide|lia)
  (jf:(x==("__debug__":Str))=false:=by decide) (oq:starEach [e] X.env=(false,eval e X.env)::starEach [] X.env:=by rfl) (yq:starEach [.Name y py,e] X.env=(false,eval (.Name y py) X.env)::starEach [e] X.env:=by rfl) (eX:(backTo aK (starEach [e] X.env)).any (·.1)=false:=by rfl) (jG:swapsWith (.Call (.Name x p) [.Name y py,e] [] aK) none pos.line X.env=pure false:=by rfl)
  (J:md.getD i 0=1:=by rfl) (hi:X.N[i]? =some y:=by rfl) (r:kN X.env.scope y:=by subst_eqs) (hd:(y==("__debug__":Str))=false:=by decide) (eE:(y==("__classdict__":Str))=false:=by decide):
  DSt Z X md rn (.Expr (.Call (.Name x p) [.Name y py,e] [] aK) pos) (SR md i sd te):=by
 refine(fW (pL F (hr.mono hk) R d.m d.F.kp d.b .nil m7 (cK (pv i hi r hd eE) (cK he fQ oq) yq) jf yq eX) jG).imp ?_;intro D σ H aS;rfl';obtain⟨B,ρ,E,⟨G,fp,S⟩,⟨w,L,hw,h⟩,M⟩:=aS;obtain⟨a,_,_,_,O,_⟩:=S.one J L;ac_rfl;exists _,O;exists G,_,_,S.ex.sub,S.yc,h;rintro _ ⟨n,rfl,q⟩ v P T x1 dv;cases dv.ofInt;have g:=S.grow x1;obtain⟨a',xs,ds,e1,jE,e3,bC,put⟩:=g.one J L;rw[O] at jE;cases jE;cases e1
 have U:a∈fp i:=by
  obtain⟨v,r,o⟩:=g.at_ i _ L;rw[J] at o;obtain⟨b,_,_,_,rfl,_,_,Y,_⟩:=o.one;rw[O] at r;cases r;rw[Y];exact bB ..
 have ga:P a=none:=(g.nw i a U).2.2;have gn:∀b,T b=none->P b=none:=λb e=>g.ex.sub.free e;refine#[upd P a (.lst xs),a,n,w,xs,_,rfl,#[λb o c=>?_,ax,bC.mono (aY ga _),hw],q,λw' hq C H2 dq s I=>?_]
 .by_cases z:b=a
  .subst z;rw[ax] at c;cases c;exact e3
  .rw[aB z] at c;exact x1.sub b o c
 have k2:∀b o,b≠a->C b=some o->pA C a b=some o:=λb o n e=>by rw[mm n];exact e
 have yb:DvAll Z (pA C a) dq (w'.map au):=vm s k2 s.dv
 have TH:aZ P (pA C a):=λb o c=>by
  have n:b≠a:=λz=>by rw[z,ga] at c;cases c
  rw[mm n];exact I.gg b o n (by rw[aB n];exact c)
 have S2:=put dq (w'.map au);have nA:∀b,B.H₀ b≠none->b≠a:=λb l z=>l (by rw[z];exact(g.nw i a U).1)
 have exB:Ext B.G₀ B.H₀ (pA C a) H2:=#[g.ex.gg.trans TH,λb o c=>s.sub b o (Ew b o c),λb o c=>I.hh b o (nA b (by rw[c];exact λz=>nomatch z)) (g.ex.hh b o c),λb l R=>by
  have n:=nA b l;rw[mm n];exact I.off b n (fY g.ex.hh l) (by rw[aB n];exact g.ex.off b l R)]
 refine M.nx _ hq _ _ #[pA C a,fp,exB,g.fl.trans TH,by rw[f9];exact g.len,λt d' Q=>?_,g.nd,g.ap,λt b l=>?_]
 .by_cases z:t=i
  .subst z
   have bY:=(dQ.mp L).1;rw[lF bY] at Q;cases Q;exists .ref a,O;obtain⟨v,r,o⟩:=g.at_ t _ L;rw[J] at o;obtain⟨b,_,_,fh,rfl,_,_,Y,ol⟩:=o.one;rw[O] at r;cases r;rw[J,Y,ol.flat.2];exact .inl #[a,dq,_,[],rfl,rfl,s.sub _ _ s.at_,rfl,yb.own]
  .rw[lG (Ne.symm z)] at Q
   obtain⟨u,hu,ou⟩:=g.at_ t d' Q;refine#[u,hu,ou.keep TH λb l=>?_];have n:b≠a:=λy=>g.ap t i b z l (y▸U);cases c:T b with
   |none=>exact absurd c (g.nw t b l).2.1
   |some o=>exact I.hh b o n c
 .obtain⟨q1,q2,q3⟩:=g.nw t b l
  by_cases z:b=a
  .subst z
   exact#[q1,(by rw[s.sub _ _ s.at_];exact λz=>nomatch z),A8]
  .refine#[q1,?_,?_]
   .cases c:T b with
    |none=>exact absurd c q2
    |some o=>rw[I.hh b o z c];exact λz=>nomatch z
   .rw[mm z]
    exact I.off b z q2 (by rw[aB z];exact q3)
end
section
variable {Z:DC} {X:Cx} {md:List Nat} {rn:Nat} {e:Expr} {es:List Expr} {pos p2:Pos} {t:i7}
def OW(i j:Nat):cX:=λE a=>∃d l,a[i]? =some (some d)/\yw d=false/\a[j]? =some (some (.lst l))/\E.rt (.tup [d, .lst l])
theorem Jv(i j:Nat){x1}{px py}(w:md.getD i 0=0:=by rfl)(z:md.getD j 0=1:=by rfl)(A:X.N[i]? =some x:=by rfl)(g:kN X.env.scope x:=by subst_eqs)(C:(x==("__debug__":Str))=false:=by decide)(F:(x==("__classdict__":Str))=false:=by decide)
  (I:X.N[j]? =some y:=by rfl) (hw:kN X.env.scope y:=by subst_eqs) (J:(y==("__debug__":Str))=false:=by decide) (k:(y==("__classdict__":Str))=false:=by decide)
  (L:starEach [.Name x px, .Name y py] X.env=(false,eval (.Name x px) X.env)::starEach [.Name y py] X.env:=by rfl) (O:starEach [.Name y py] X.env=(false,eval (.Name y py) X.env)::starEach [] X.env:=by rfl):
  DSt Z X md 2 (.Return (some (.Tuple [.Name x px, .Name y py] x1 p2)) pos) (OW i j):=(m9 (Iy (cK (pv i A g C F) (cK (pv j I hw J k) fQ O) L))).imp λD σ H #[B,ρ,E,#[G,m,S],#[d,l,P,Q,T,h],M]=>by
 obtain⟨u,U,n⟩:=S.at_ i _ P;rw[w] at n;obtain⟨v,g,o⟩:=S.at_ j _ T;rw[z] at o;refine#[u,U,v,g,by show 2<=sizeLine;decide,λp Y=>?_]
 have a:Ext G H (upd G p (.tup [u,v])) (upd H p (.tup [u,v])):= .new S.ex.sub Y
 have q:∀c∈m j,upd H p (.tup [u,v]) c=H c:=λc b=>by
  cases e:H c with
  |none=>exact absurd e (S.nw j c b).2.1
  |some o=>exact a.hh _ _ e
 refine M.rt _ h _ (m j) _ _ (S.ex.trans a) (.inr (.inl #[by decide,p,[u,v],_,rfl,rfl,ax,?_])) (S.nd j) λc b=>?_
 .have:=cg.cons (R:=λr d f=>(yw d=true/\Own Z (upd G p (.tup [u,v])) (upd H p (.tup [u,v])) 1 r d f)\/(yw d=false/\Dv Z (upd G p (.tup [u,v])) r d/\f= [])) (f:= []) (.inr #[Q,n.1.mono a.gg,rfl]) (cg.cons (d:= .lst l) (f:=m j) (.inl #[rfl,o.keep a.gg q]) cg.nil)
  rw[f7] at this;exact this
 .obtain⟨t,s,q3⟩:=S.nw j c b
  exact#[t,by rw[q c b];exact s,a.off c s q3]
def S0(a:cv)(t:i7):cX:=λE b=>t b λc=>a c E.rt
theorem LY{c:cv}{k j:Nat}{y:Str}{st:Stmt}{r:List Str}{p:Pos}(d:fo X.K X.mg y st r)(F:FnOk X.prog X.w X.K X.mg X.base cF k d.f d.fd r (c4 Z rn c))(C:cP j X.A)(g:DA Z X (e::es) t)(l:Gl X y:=by rfl)(I:k<=j:=by first|decide|lia)
  (J:(y==("__debug__":Str))=false:=by decide) (L:starEach (e::es) X.env=(false,eval e X.env)::starEach es X.env:=by rfl) (N:(backTo p2 (starEach es X.env)).any (·.1)=false:=by rfl):
  DSt Z X md rn (.Return (some (.Call (.Name y p) (e::es) [] p2)) pos) (S0 c t):=(m9 (pL F (C.mono I) l d.m d.F.kp d.b .nil m7 g J L N)).imp λD O H #[B,x,E,#[G,P,S],h,M]=>by
 let n:Addr->Prop:=λb=>∃i,b∈P i
 have s:=S.ex.sub
 have Q:Ext B.G₀ B.H₀ (plus G H n) H:=#[S.ex.gg.trans (eF s),h8 s,S.ex.hh,λb a l=>by
  rw[h7 (λ#[i,R]=>a (S.nw i b R).1)];exact S.ex.off b a l]
 have T:dr Z (plus G H n) O x:=#[S.len,λi d h=>by
  obtain⟨v,U,o⟩:=S.at_ i d h;exact#[v,U,o.dv (eF s) λb a u e=>by rw[kF #[i,a]];exact e]]
 refine#[plus G H n,x,_,h8 s,T,h,λY g vs G1 H1 q bC=>?_];show c4 Z rn c (vs++ []) H1 _ E0;rw[f7];refine#[G1,Y,_,q.sub,bC,g,λd hd v f G2 H2 x2 o nd z=>?_];exact M.rt _ hd v f G2 H2 ((Q.trans q).trans x2) o nd λb a=>#[S.ex.hh.free (q.hh.free (z b a).1),(z b a).2]
end
section
variable {Z:DC} {X:Cx}
def Ls:gU:=λx y P=>match x,y with
 | .bl b, .bl c=>P (.bl (!(b==c)))
 |_,_=>False
theorem Nt:OpR X (compareOp .IsNot) (λx y H Q=>∃b c,x= .bl b/\y= .bl c/\Q (.bl (!(b==c))) H):=by
 intro a s f H x y v u Q I d e h;obtain⟨b,c,rfl,rfl,q⟩:=h;cases d;cases e;exact isnot_bool (BU I q rfl)
theorem Ng:OpR X (compareOp .IsNot) (cq Z Ls):=by
 refine Nt.imp ?_;rintro x y H Q ⟨G,a,b,P,s,d,e,c,q⟩;unfold Ls at c
 split at c
 .exact#[_,_,d.tW,e.tW,q _ c _ _ _ (.refl s) (.bl _)]
 .exact c.elim
end
end L2
namespace Fw
open PySem L2 Wb
variable {P:Program} {w:World} {mg:Str->Option Value} {base:Heap} {Z:DC} (T:Txt Z mg)
theorem yF(a b:Int)(h:0<b):0<=a%b/\a%b<b:=#[ab5 _ (by lia),abI _ h]
theorem L8{P:D->Prop}(h:P (.bl (decide (i=j)))):dC (.int j) a (λb=>BL (.int i) b P):=sY h
theorem mF(w:W)(i:Nat)(r:List Nat):(w.map au).set i (au r)=(w.set i r).map au:=by rw[vG]
theorem rR(l:List a)(k:Nat)(h:k<=l.length):cutD l (some (k:Int)) none=l.drop k:=by
 unfold cutD
 have b:HT.cA l.length 0 (some (k:Int))=k:=by
  simp only[HT.cA]
  split<;>lia
 have c:HT.cA l.length l.length none=l.length:=rfl;rw[b,c];exact wk (by simp)
theorem fF{w:W}{p:Nat}(h:p<w.length):gh (w.map au) (p:Int)=some (au (row w p)):=fI (uj h)
theorem jy{a:List Nat}(h:p<a.length):gh (a.map ae) (p:Int)=some (ae (a.getD p 0)):=fI (by rw[b7,ck,b8 h];rfl)
theorem AZ(I:Nat->DN->Prop)(c:I 0 a)(d:∀(j:Nat)(a:DN),j<n->I j a->∀A:DN->Prop,(∀a,I (j+1) a->A a)->g (ae j) a λe=>b {nx:=A,ct:=A,bk:=E.nx,rt:=E.rt,xc:=E.xc} e)
  (f:∀a,I n a->E.nx a):rg g b E (js 0 n) a:=Me I c (λj a i h A k=>by
 have:=d j a i h A k
 unfold ae at this;rw[Int.zero_add];exact this) f
theorem JW(r:List Nat)(i x:Nat):ins (r.map ae) i (ae x)=(ins r i x).map ae:=by
 unfold ins;simp[sT,vE]
def xw(n:Nat)(a:List Nat):Prop:=a.length=n/\a.Nodup/\∀x∈a,x<n
theorem yG(N:xw n a)(h:x<n):x∈a:=by
 apply Da;intro c
 have:(x::a).length<=(ad n).length:=aF (bS.mpr #[c,N.2.1]) λy b=>by
  rcases bo.mp b with rfl|b
  .exact dE.mpr h
  .exact dE.mpr (N.2.2 y b)
 rw[n9,bN,N.1] at this;lia
theorem Nd{f:DN->Prop}{a:DN}(b:DN)(e:a=b)(h:f b):f a:=by rw[e];exact h
theorem Cp:∀(b:List Nat)(m:Nat),m<b.idxOf x->b[m]? ≠some x
 | [],m,h=>by simp at h
 |a::b,m,h=>by
  rw[ab9] at h
  by_cases e:(a==x)=true
  .rw[e] at h;simp at h
  .rw[ux.mpr e] at h
   cases m with
   |zero=>intro z;simp at z;exact e (by simp[z])
   |succ m=>rw[uv];exact Cp b m (by simpa using h)
theorem Ge{a:List Nat}{x:Nat}{P:D->Prop}(h:x∈a)(q:P (ae (a.idxOf x))):fw (ae x)=true/\(a.map ae).all fw=true/\∃(j:Nat)(z:D),(a.map ae)[j]? =some z/\kZ z (ae x)=true/\(∀(m:Nat) z,m<j->(a.map ae)[m]? =some z->kZ z (ae x)=false)/\P (.int (j:Nat)):=by
 have b:=rF.mpr h;have e:a[a.idxOf x]? =some x:=by rw[b8 b];exact FS some (z4 b)
 refine#[rfl,dA _,a.idxOf x,ae x,by rw[b7,e];rfl,by simp[kZ,ae],λm z c d=>?_,q]
 obtain⟨y,f,rfl⟩:=c5 d
 have:y≠x:=by
  rintro rfl;exact Cp _ _ c f
 have:¬((y:Int)=(x:Int)):=by lia
 simpa [kZ,ae] using this
theorem cW{a:List Nat}{x:Nat}(h:x∈a):(a.map ae)[a.idxOf x]? =some (ae x)/\kZ (ae x) (ae x)=true/\∀(m:Nat) z,m<a.idxOf x->(a.map ae)[m]? =some z->kZ z (ae x)=false:=by
 have:=Ge (P:=λd=>d=ae (a.idxOf x)) h rfl
 obtain⟨_,_,j,z,i,k,l,n⟩:=this;have b:=rF.mpr h;have e:a[a.idxOf x]? =some x:=by rw[b8 b];exact FS some (z4 b)
 refine#[by rw[b7,e];rfl,by simp[kZ,ae],λm z c f=>?_]
 obtain⟨y,g,rfl⟩:=c5 f
 have:y≠x:=by
  rintro rfl;exact Cp _ _ c g
 have:¬((y:Int)=(x:Int)):=by lia
 simpa [kZ,ae] using this
theorem ng{g:b->PyData}(h:∀a,(f a).py=some (g a)):∀l:List b,iP (l.map f)=some (l.map g)
 | []=>rfl
 |a::l=>by
  have:=ng h l
  rw[bT,iP,h a,this];rfl
theorem qN(r:List Nat):(au r).py=some (nM r):=by
 unfold au nM;rw[D.py,ng (g:=nD) (λn=>rfl)];rfl
theorem xq(w:W):(aP w).py=some (qi w):=by
 unfold aP qi;rw[D.py,ng (g:=nM) qN];rfl
theorem Lq{v w:W}{P:D->Prop}(h:P (.bl (decide (v=w)))):BL (aP v) (aP w) P:=by
 refine#[_,_,xq v,xq w,by have:=vM v;lia,?_]
 have:PyData.eqv (qi v) (qi w)=decide (v=w):=by
  by_cases e:v=w
  .rw[FM e];exact(qz v w).mpr e
  .rw[GM e]
   apply ux.mpr;exact λz=>e ((qz v w).mp z)
 rw[ir dD,this];exact h
theorem D4(a b:List Nat):PyData.eqv (nM a) (nM b)=decide (a=b):=by
 by_cases e:a=b
 .rw[FM e];exact(uN a b).mpr e
 .rw[GM e]
  apply ux.mpr;exact λz=>e ((uN a b).mp z)
theorem Lo{v w:List Nat}{P:D->Prop}(h:P (.bl (decide (v=w)))):BL (au v) (au w) P:=by
 refine#[_,_,qN v,qN w,by have:=kY v;lia,?_]
 rw[ir dD,D4];exact h
theorem DR{v w:List Nat}{P:D->Prop}(h:P (.bl (!decide (v=w)))):rS (au v) (au w) P:=by
 refine#[_,_,qN v,qN w,by have:=kY v;lia,?_]
 rw[ls rfl,D4];exact h
theorem Gx{P:D->Prop}{ρ:DN}(h:P (.bl (!decide (i=j)))):dC (.int j) ρ (λb=>rS (.int i) b P):=ju h
variable {P:Program} {w:World} {mg:Str->Option Value} {base:Heap} {Z:DC} (T:Txt Z mg)
theorem J3{a b:List (Nat×Nat)}(c:a.Pairwise lexLe)(d:b.Pairwise lexLe)(e:a.Nodup)(f:b.Nodup)(h:∀p,p∈a↔p∈b):a=b:=
 aaX (λ_ _ _ _=>qE) c d ((mH e f).mpr h)
theorem KC{P:D->Prop}(g:L.length<64)(h:∀M:List Nat,M.Perm L->M.Pairwise (·<=·)->P (au M)):HG [au L] P:=by
 refine#[L.map λ(n:Nat)=>(n:Int),by unfold au;rw[b9];rfl,by rw[aG];exact g,λc f i=>?_]
 have e:∀m∈c,((m.toNat:Nat):Int)=m:=λm d=>by
  obtain⟨n,_,rfl⟩:=aX.mp (f.mem_iff.mp d);simp
 have j:(c.map Int.toNat).Perm L:=by
  have:=f.map Int.toNat
  rw[b9] at this;rw[show(Int.toNat∘λ(n:Nat)=>(n:Int))=id from by funext n;simp] at this
  simpa using this
 have:=h (c.map Int.toNat) j (by
  rw[iV];exact i.imp λ {a b} k=>Int.toNat_le_toNat k)
 unfold au at this;rw[b9] at this;rw[show c.map D.int=c.map (ae∘Int.toNat) from De λm d=>by show D.int m=ae m.toNat;unfold ae;rw[e m d]]
 exact this
def ji(k:Nat×Nat):PyData:= .tuple [nD k.1,nD k.2]
theorem GX(k:Nat×Nat):(pairD k).py=some (ji k):=by
 unfold pairD;rw[D.py,iP,iP,iP];rfl
theorem qy(a b:Nat×Nat):PyData.eqv (ji a) (ji b)=true↔a=b:=by
 unfold ji nD;simp[PyData.eqv,PyData.eqvAll]
 constructor
 .rintro⟨c,d⟩;exact PP (by lia) (by lia)
 .rintro rfl;exact#[rfl,rfl]
theorem tm(l:List (Nat×Nat)):(PyData.list (l.map ji)).depth<=64:=by
 rw[PyData.depth]
 have:=jq (f:=ji) (k:=10) (λn=>by unfold ji nD;simp[PyData.depth,PyData.depthAll]) l
 lia
theorem qM(l:List (Nat×Nat)):(D.lst (l.map pairD)).py=some (.list (l.map ji)):=by rw[D.py,ng GX];rfl
theorem ye(l m:List (Nat×Nat)):PyData.eqv (.list (l.map ji)) (.list (m.map ji))=decide (l=m):=by
 rw[PyData.eqv]
 by_cases e:l=m
 .rw[FM e];exact(jw qy l m).mpr e
 .rw[GM e]
  apply ux.mpr;exact λz=>e ((jw qy l m).mp z)
theorem FO{l m:List (Nat×Nat)}{P:D->Prop}(h:P (.bl (decide (l=m)))):BL (.lst (l.map pairD)) (.lst (m.map pairD)) P:=by
 exists _,_,qM l,qM m,tm l;rw[ir dD,ye];exact h
theorem FQ{l m:List (Nat×Nat)}{P:D->Prop}(h:P (.bl (!decide (l=m)))):rS (.lst (l.map pairD)) (.lst (m.map pairD)) P:=by
 exists _,_,qM l,qM m,tm l;rw[ls rfl,ye];exact h
variable {P:Program} {w:World} {mg:Str->Option Value} {base:Heap} {Z:DC} (T:Txt Z mg)
def zz(d:Nat×Nat):Int×Int:=(d.1,d.2)
theorem Di(h:zz a=zz b):a=b:=PP (by have:=(IR h).1;lia) (by have:=(IR h).2;lia)
theorem nG{d:Nat×Nat}{l:List (Nat×Nat)}:zz d∈l.map zz↔d∈l:=by
 rw[aX];exact#[λ#[a,b,e]=>by rw[<-Di e];exact b,λh=>#[d,h,rfl]]
def QX:cv:=λb P=>∃(w:W),b= [.dm w]/\Good w/\w.length<=14/\∀a:List (Nat×Nat),a.Perm (fA (row w) w.length)->a.Pairwise lexLe->P (.lst (a.map pairD))
theorem RN(I:DN->Prop)(J:o->DN->Prop)(m:o->D)(f:o->List u)(v:u->D)(p:o->u->Bool)(k:o->u->B)(i:B->D)(G:∀y H,J y H->I H):∀(l:List o)(j:DN)(a:List B)(P:List D->Prop),
  (∀y∈l,∀j,I j->∀(Y:DN->List D->Prop),(∀d,J y d->Y d ((f y).map v))->g (m y) j λd=>A d (Y d))->
  (∀y∈l,∀b∈f y,∀j,J y j->∀(Y:DN->D->Prop)(x:DN->Prop),(∀d,J y d->p y b=true->Y d (i (k y b)))->(∀d,J y d->p y b=false->x d)->r (v b) j λd=>s d λc=>if c=true then t d (Y d) else x d)->
  I j->a.length+(l.flatMap λy=>((f y).filter (p y)).map (k y)).length<=sizeLine->(∀y∈l,a.length+(l.flatMap λy=>((f y).filter (p y)).map (k y)).length+(f y).length<=sizeLine)->P ((a++l.flatMap λy=>((f y).filter (p y)).map (k y)).map i)->rj g xT A r s t (l.map m) j (a.map i) P
 | [],j,a,P,_,_,L,_,_,h=>by
  show P (a.map i);simpa using h
 |y::l,j,a,P,M,N,L,n,O,h=>by
  have C:=O y (bB ..);rw[z5,cE] at n C;refine M y (bB ..) j L (λd Q=>lcW r s t Q d (a.map i) λq R=>rj g xT A r s t (l.map m) q R P) λd E=>?_;refine tN (J y) v (p y) (λb=>i (k y b)) (f y) d (a.map i) _ (λb S q F Y x U X=>?_) E (by rw[aG];lia) λq F=>?_
  .exact N y (bB ..) b S q F Y x U X
  .have e:a.map i++((f y).filter (p y)).map (λb=>i (k y b))=(a++((f y).filter (p y)).map (k y)).map i:=by rw[c8,b9];rfl
   rw[e];refine RN I J m f v p k i G l q (a++((f y).filter (p y)).map (k y)) P (λz n=>M z (bP _ n)) (λz n=>N z (bP _ n)) (G y q F) (by rw[cE];lia) (λz n=>?_) ?_
   .have:=O z (bP _ n)
    rw[z5,cE] at this;rw[cE];lia
   .rw[z5] at h
    rw[f6];exact h
theorem jX:FnOk P w Z.K mg base cF 1 T.m_ties.f T.m_ties.fd ["self"] (br Z QX):=by
 have L:=uc.nd;refine bA T.m_ties.F uc [0] (by decide) (λu R h=>by obtain⟨_,rfl,_⟩:=h;rfl) (λM A outer s H E u R v h=>?_)
 have N:=v.units;refine#[_,(ao (aR (az AI rfl T.B.sorted kh (ab (OZ (NC:= ["p","row","q"]) (src:= [none,none,none]) rfl (qT (av lu)) trivial (dY rfl T.B.enumerate (ab (l7 T.W (aa 0)) af)) (λ_ _ _=>(BO 2 rfl (j3 (cw 0 (show(["p","row","q"]:List Str).Nodup from by decide+kernel)) (j3 (cw 1 (show(["p","row","q"]:List Str).Nodup from by decide+kernel)) xW)))) (λ_ _ _=>e8) (λ_ _ _=>(bL (aa 1))) (λ_ _ _=>(cw 2 (show(["p","row","q"]:List Str).Nodup from by decide+kernel))) (λ_ _ _=>(ya (aV pF (aa 0) (aa 2) (bf _)))) (λ_ _ _=>(eG (ab (aa 0) (ab (aa 2) af))))) af)))),?_]
 obtain⟨a,rfl,g,O,q⟩:=h
 have x:iE (a.map au)=(ad a.length).map λ(j:Nat)=>D.tup [.int (j:Int),au (row a j)]:=by
  refine rJ λj=>?_;rw[b7]
  by_cases lt:j<a.length
  .rw[n5 lt]
   cases e:(iE (a.map au))[j]? with
   |none=>
    have:=List.getElem?_eq_none_iff.mp e
    rw[fu,aG] at this;lia
   |some d=>rw[(rB e).2];rfl
  .rw[iu (by rw[fu,aG];lia),iu (by rw[n9];lia)];rfl
 have k:((ad a.length).flatMap λp=>((row a p).filter λq=>decide (p<q)).map λq=>(p,q))=fA (row a) a.length:=rfl
 have z:∀n,n<=a.length->(fA (row a) n).length<=n*14:=λn=>by
  induction n with
  |zero=>intro _;exact bb _
  |succ n C=>
   intro h
   have:=C (by lia)
   have Q:=c7 g n;have S:=List.length_filter_le (λq=>decide (n<q)) (row a n);unfold fA at this ⊢;rw[abo,abx,cE];simp only[z5,List.flatMap_nil,f7,aG];lia
 have G:=z a.length (bb _);exists _,rfl,a,rfl;refine(?_:rj _ _ _ _ _ _ (iE (a.map au)) _ _ _);rw[x];refine RN (λi=>∃o r c,i= [o,r,c]) (λp i=>∃c,i= [some (ae p),some (au (row a p)),c]) _ (λp=>row a p) ae (λp q=>decide (p<q)) (λp q=>(p,q)) pairD (λy i #[c,e]=>#[_,_,_,e]) (ad a.length) _ [] _ (λp t I l Y m=>?_) (λp t b U I l Y X m J=>?_) #[none,none,none,rfl] ?_ (λp t=>?_) ?_
 .obtain⟨o,r,c,rfl⟩:=l
  exact#[rfl,rfl,_,rfl,m _ #[_,rfl]]
 .obtain⟨c,rfl⟩:=l
  exists _,rfl,_,rfl,_,rfl;refine(?_:if decide ((p:Int)<(b:Int))=true then _ else _);rw[show decide ((p:Int)<(b:Int))=decide (p<b) from aaE.mpr (by lia)]
  exact cI (λe=>#[_,rfl,_,rfl,by show 2<=sizeLine;decide,m _ #[_,rfl] e]) (λe=>J _ #[_,rfl] e)
 .rw[k,mJ,qu];exact small (by lia)
 .have:=c7 g p
  rw[k,mJ,qu];exact small (by lia)
 .rw[k,wy]
  exact#[_,rfl,by lia,q]
def KD:cv:=λa P=>∃(w:W)(p q:Nat),a= [.dm w,ae p,ae q]/\Good w/\q∈row w p/\P (ae (aE (row w p) q))
theorem kD:FnOk P w Z.K mg base cF 1 T.m_behind.f T.m_behind.fd ["self","p","q"] (br Z KD):=by
 have k:=pW.nd;refine bA T.m_behind.F pW [0,0,0,0] (by decide) (λl R h=>by obtain⟨_,_,_,rfl,_⟩:=h;rfl) (λt A outer s H E l R m h=>?_)
 have u:=m.units
 refine#[_,(ah (bz false 3 k (aQ (l7 T.W (aa 0)) (aa 1)))
   (ao (aR (aQ (aa 3) (bg fP (bg cO (qw (aa 3) (aa 2)) ay) (az bq rfl T.B.len bh (ab (aa 3) af))))))),?_]
 obtain⟨a,p,b,rfl,g,c,q⟩:=h;have n:=aU c;have v:=c7 g p;have e:((row a p).map ae).length=(row a p).length:=aG _;have d:0<(row a p).length:=uw c;have o:(0:Int)<(((row a p).map ae).length:Int):=by rw[e];lia
 exists _,rfl,a,rfl,_,rfl,_,fF n,trivial;exists _,rfl,_,rfl,_,rfl,_,rfl,rfl,dA _,_,_,(cW c).1,(cW c).2.1,(cW c).2.2;exists _,rfl,o;have em:(((row a p).idxOf b:Nat):Int)+1=(((row a p).idxOf b+1:Nat):Int):=by lia
 have r:((((row a p).idxOf b:Nat):Int)+1)%(((row a p).map ae).length:Int)=((((row a p).idxOf b+1)%(row a p).length:Nat):Int):=by rw[e,em,abf]
 refine#[ae (aE (row a p) b),?_,q];show gh ((row a p).map ae) ((λi j=>i%j) _ _)=_;dsimp only;rw[r];exact jy (jT _ d)
theorem Jn{P:D->Prop}(h:P (.bl (!decide (a=b)))):rS (pairD a) (pairD b) P:=by
 refine#[_,_,GX a,GX b,by unfold ji nD;simp[PyData.depth,PyData.depthAll],?_]
 have:PyData.eqv (ji a) (ji b)=decide (a=b):=by
  by_cases e:a=b
  .rw[FM e];exact(qy a b).mpr e
  .rw[GM e]
   apply ux.mpr;exact λz=>e ((qy a b).mp z)
 rw[ls rfl,this];exact h
def Of:cv:=λa P=>∃(w:W)(d:Nat×Nat),a= [.dm w,pairD d]/\Good w/\w.length<=14/\aw w d/\∀r,cG w d r->P (.lst (r.map pairD))
theorem yQ:FnOk P w Z.K mg base cF 2 T.d_round_from.f T.d_round_from.fd ["web","side"] (br Z Of):=by
 have i:=qb.nd;refine bA T.d_round_from.F qb [0,0,1,0,0] (by decide) (λv R h=>by obtain⟨_,_,rfl,_⟩:=h;rfl) (λB A outer s H E v R n h=>?_)
 have x:=n.units
 refine#[_,(ah (gT 2 i (gS (ab (aa 1) af)))
   (ah (BP (aa 1) (eH 2 rfl (aN (aJ 3 i) (aN (aJ 4 i) cz))))
   (ah (BQ 3 4 rfl i (ab (aa 4) (ab (l6 T.W (aa 0) T.m_behind.m (kD T) (n.mono (by decide)) T.m_behind.b (ab (aa 4) (ab (aa 3) af))) af)))
   (ah (j4 Gc (aV (g7 x) (eG (ab (aa 3) (ab (aa 4) af))) (aa 1) (bf _)) (ah (mP false 2 (eG (ab (aa 3) (ab (aa 4) af))))
   (ao (BQ 3 4 rfl i (ab (aa 4) (ab (l6 T.W (aa 0) T.m_behind.m (kD T) (n.mono (by decide)) T.m_behind.b (ab (aa 4) (ab (aa 3) af))) af))))))
   (ao (aR (aa 2))))))),?_]
 obtain⟨a,d,rfl,g,t,o,q⟩:=h;have C:=gW g;have G:a.length*a.length<=14*14:=sS t t;refine#[_,rfl,by show 1<=sizeLine;decide,?_]
 exists _,rfl,rfl,rfl;exists _,rfl,_,rfl,a,rfl,_,rfl,_,rfl,a,d.2,d.1,rfl,g,g.sym _ _ o,_,_,rfl;refine jm (λm y=>∃k,0<k/\m+k=(aM a).length+1/\(∀j,0<j->j<k->aC a j d≠d)/\y= [some (.dm a),some (pairD d),some (.lst ((walk a d k).map pairD)),some (ae (aC a k d).1),some (ae (aC a k d).2)]) (aM a).length #[1,by lia,rfl,λj l u=>by lia,rfl] ?_
 rintro m _ ⟨k,z,I,p,rfl⟩;have r:=bQ g o k;refine#[_,rfl,_,rfl,by show 2<=sizeLine;decide,_,rfl,?_]
 refine(?_:rS (pairD (aC a k d)) (pairD d) _);refine Jn #[_,rfl,cI (λe=>?_) (λe=>?_)]
 .have ne:aC a k d≠d:=by simpa using e
  have lt:k<(aM a).length:=by
   have:=zx g o (k:=k+1) λj l u=>by
    by_cases c:j=k
    .subst c;exact ne
    .exact p j l (by lia)
   lia
  refine#[_,rfl,_,rfl,_,rfl,by show 2<=sizeLine;decide,trivial,dG (by rw[aG,cM];lia),?_]
  exists _,rfl,_,rfl,a,rfl,_,rfl,_,rfl,a,(aC a k d).2,(aC a k d).1,rfl,g,g.sym _ _ r,_,_,rfl;refine#[m-1,by lia,k+1,by lia,by lia,λj l u=>?_,?_]
  .by_cases c:j=k
   .subst c;exact ne
   .exact p j l (by lia)
  .rw[sN,c8];rfl
 .have e:aC a k d=d:=by simpa using e
  exact#[_,rfl,q _ #[k,z,e,p,rfl]]
def xk(a:List (List (Nat×Nat))):D:= .lst ((a.map λr=>r.map (·.1)).map au)
def N9:cv:=λb P=>∃(w:W),b= [.dm w]/\Good w/\1<=w.length/\w.length<=14/\(w.length=1->P (.lst [au [0]]))/\(2<=w.length->∀a,cU w a->fV w=fU a->P (.lst ((fV w).map au)))
theorem JV(h:d∉l):k5 (l.map zz) (zz d)=(l++ [d]).map zz:=by
 unfold k5;rw[ir (λz=>h (nG.mp z)),c8];rfl
theorem qH:FnOk P w Z.K mg base cF 3 T.d_lands.f T.d_lands.fd ["web"] (br Z N9):=by
 have I:=Bo.nd;refine bA T.d_lands.F Bo [0,98,1,0,0,0] (by decide) (λv R h=>by obtain⟨_,rfl,_⟩:=h;rfl) (λbG A outer s H E v R o h=>?_)
 have Q:=o.units
 refine#[_,(ah (bU (aV (kC Q) (e7 T.W (aa 0) T.m_many.m (jW T) (o.mono (by decide)) T.m_many.b) ay (bf _)) (ao (aR (gR (ab (gR (ab ay af)) af)))) ba)
   (ah (Jw 1 I rfl T.x_set)
   (ah (gT 2 I (gS af))
   (ah (cH rfl Gc (bL (az AI rfl T.B.sorted kh (ab (bg cO (e7 T.W (aa 0) T.m_ties.m (jX T) (o.mono (by decide)) T.m_ties.b) (lI (NC:= ["a","b"]) (src:= [none,none]) rfl (qT (av pV)) trivial (bL (e7 T.W (aa 0) T.m_ties.m (jX T) (o.mono (by decide)) T.m_ties.b)) (λ_ _ _=>(BO 2 rfl (j3 (cw 0 (show(["a","b"]:List Str).Nodup from by decide+kernel)) (j3 (cw 1 (show(["a","b"]:List Str).Nodup from by decide+kernel)) xW)))) (λ_ _ _=>e8) (λ_ _ _=>(eG (ab (aa 1) (ab (aa 0) af)))))) af))) (aJ 3 I) (ao (bU (aV (GB Q) (aa 3) (aa 1) (by with_unfolding_all rfl)) (ah (bz false 4 I (aI T.d_round_from (yQ T) o (ab (aa 0) (ab (aa 3) af))))
   (ah (cH rfl Gc (bL (aa 4)) (aJ 5 I) (ao (LQ false 1 Q (aa 5))))
   (ao (mP false 2 (lI (NC:= ["p","q"]) (src:= [none,none]) rfl (qT (av pV)) trivial (bL (aa 4)) (λ_ _ _=>(BO 2 rfl (j3 (cw 0 (show(["p","q"]:List Str).Nodup from by decide+kernel)) (j3 (cw 1 (show(["p","q"]:List Str).Nodup from by decide+kernel)) xW)))) (λ_ _ _=>e8) (λ_ _ _=>(aa 0))))))) ba)))
   (ao (aR (az (FJ Q) rfl T.B.sorted kh (ab (aa 2) af)))))))),?_]
 obtain⟨n,rfl,g,h1,J,q1,q2⟩:=h;have c1:=gW g;have c2:n.length*n.length<=14*14:=sS J J;have lw:(n.map au).length=n.length:=aG _;exists _,rfl,n,rfl,n,rfl;refine L8 #[_,rfl,cI (λe=>?_) (λe=>?_)]
 .have e:n.length=1:=by have:=KF e;lia
  exact#[by show 1<=sizeLine;decide,by show 1<=sizeLine;decide,q1 e]
 have n2:2<=n.length:=by have:=On e;lia
 refine#[by show 0<=sizeLine;decide,?_]
 refine#[_,rfl,n,rfl,n,rfl,g,J,λts G S=>?_];have tl:=Hm g;rw[<-cQ] at tl;have tl2:=G.length_eq;refine#[_,rfl,n,rfl,n,rfl,g,J,λy NL IQ=>?_];have e2:y=ts:=aaX (λ_ _ _ _=>qE) IQ S (NL.trans G.symm);subst e2;refine tN (λC=>∃L N,C= [L,N]) pairD (λ_=>true) (λt=>pairD (t.2,t.1)) y _ [] _ (λt ht aL O Y Nn hY hN=>?_) #[none,none,rfl] (by rw[mJ,qu];exact small (by lia)) λaL O=>?_
 .obtain⟨L,N,rfl⟩:=O
  exact#[rfl,rfl,Sm #[_,rfl,_,rfl,by show 2<=sizeLine;decide,hY _ #[_,_,rfl] rfl]]
 have pd:=xK g G;have pl:=pd.length_eq;rw[cE,aG] at pl;have ef:y.filter (λ_=>true)=y:=by simp
 rw[wy,ef];refine#[by rw[aG,aG];exact small (by lia),?_]
 have ej:(.lst (y.map pairD++y.map λt=>pairD (t.2,t.1)):D)= .lst ((y++y.map λt=>(t.2,t.1)).map pairD):=by rw[c8,b9];rfl
 dsimp only[fB];rw[ej];refine#[_,rfl,by rw[cE,aG];lia,λv U YQ=>?_]
 have U:=U.trans pd;have all:∀e,aw n e->e∈v:=λe h=>U.mem_iff.mpr (aD.mpr h);have dart:∀e∈v,aw n e:=λe h=>aD.mp (U.mem_iff.mp h);clear G NL S IQ ej pd ef;refine bM (λi C=>∃(j:List (List (Nat×Nat)))(o3 o4 q:Option D),C= [some (.dm n),some (.x (.mz (dh w) (j.flatten.map zz))),some (xk j),o3,o4,q]/\Wk n v i j) #[[],none,none,none,rfl,Wk.zero n v] ?_ ?_
 .rintro i d _ hd ⟨j,o3,o4,q,rfl,hw⟩ A X
  obtain⟨e,he,rfl⟩:=c5 hd;have de:=dart e (dM he);exists _,rfl,_,rfl,zz e,j.flatten.map zz,rfl,rfl,_,rfl;refine(?_:if (if true=true then !decide (zz e∈j.flatten.map zz) else _)=true then _ else _);rw[ls rfl,show decide (zz e∈j.flatten.map zz)=decide (e∈j.flatten) from aaE.mpr nG]
  have sub:∀x∈j.flatten,x∈aM n:=λx u=>by
   obtain⟨r,o,hxr⟩:=i6.mp u;obtain⟨d,R,dd,_⟩:=hw.rnd r o;exact aD.mpr (R.aM g dd x hxr)
  have fl:=aF hw.nod sub;refine cI (λc=>?_) (λc=>?_)
  .have c:e∉j.flatten:=by simpa using c
   refine#[_,rfl,_,rfl,n,e,rfl,g,J,de,λr R=>#[trivial,?_]];have Xw:=hw.take g all dart YQ he c R;have rd:∀x∈r,x∈aM n:=λx u=>aD.mpr (R.aM g de x u);have rl:=aF (R.nodup g de) rd;have UD:(j.flatten++r).Nodup:=by have:=Xw.nod;rw[wq] at this;simpa using this
   have fl2:(j.flatten++r).length<=(aM n).length:=aF UD λx u=>(bH.mp u).elim (sub x) (rd x);rw[cE] at fl2;exists _,rfl;refine bM (λk C=>∃q,C= [some (.dm n),some (.x (.mz (dh w) ((j.flatten++r.take k).map zz))),some (xk j),some (pairD e),some (.lst (r.map pairD)),q]) #[q,by rw[qm,f7];rfl] ?_ ?_
   .rintro k d _ hd ⟨q,rfl⟩ A X
    obtain⟨x,u,rfl⟩:=c5 hd;have hk:=(dQ.mp u).1;have tk:r.take (k+1)=r.take k++ [x]:=by rw[zU,u];rfl
    have nx:x∉j.flatten++r.take k:=λz=>by
     have sp:j.flatten++r=(j.flatten++r.take k)++(x::r.drop (k+1)):=by
      rw[f6,<-dQ.mp u|>.2,List.getElem_cons_drop,iU]
     rw[sp] at UD;exact(c9.mp UD).2.2 x z x (bB ..) rfl
    refine#[_,rfl,_,rfl,zz x,rfl,by rw[aG,cE,gO];lia,?_]
    rw[JV nx,f6,<-tk];exact X _ #[_,rfl]
   .rintro _ ⟨q,rfl⟩
    rw[aG,zS]
    have dl:j.length<=300:=by
     have h:∀p:List (List (Nat×Nat)),(∀r∈p,r≠ [])->p.length<=p.flatten.length:=λp=>by
      induction p with
      |nil=>intro _;exact bb _
      |cons a l ih=>
       intro h;have h1:=Df.mpr (h a (bB ..));have h2:=ih λr o=>h r (bP _ o);rw[fZ,cE,bN];lia
     have:=h j λr o z=>by
      obtain⟨d,R,_,_⟩:=hw.rnd r o
      have:=R.first
      rw[z] at this;cases this
     lia
    exists _,rfl,_,rfl;refine tN (λC=>∃L N,C= [L,N]) pairD (λ_=>true) (λt=>ae t.1) r _ [] _ (λt ht aL O Y Nn hY hN=>?_) #[none,none,rfl] (by rw[mJ,qu];exact small (by lia)) λaL O=>?_
    .obtain⟨L,N,rfl⟩:=O
     exact#[rfl,rfl,Sm #[_,rfl,hY _ #[_,_,rfl] rfl]]
    rw[wy,show r.filter (λ_=>true)=r by simp]
    refine#[trivial,dG (by rw[aG,aG];lia),?_]
    refine X _ #[j++ [r],some (pairD e),some (.lst (r.map pairD)),q,?_,Xw]
    have e1:xk (j++ [r])= .lst ((j.map λr=>r.map (·.1)).map au++ [.lst (r.map λt=>ae t.1)]):=by
     unfold xk au;rw[c8,c8];simp only[bT,qo,b9];rfl
    rw[e1,wq,show[r].flatten=r by simp];rfl
  .have c:e∈j.flatten:=by simpa using c
   exact X _ #[j,_,_,_,rfl,hw.skip he c]
 .rintro _ ⟨j,o3,o4,q,rfl,hw⟩
  have hw:Wk n v v.length j:=by rw[aG] at hw;exact hw
  have fin:=hw.fin g all;have R:cU n j:=#[hw.rnd,fin]
  have dl:j.length<=300:=by
   have h:∀p:List (List (Nat×Nat)),(∀r∈p,r≠ [])->p.length<=p.flatten.length:=λp=>by
    induction p with
    |nil=>intro _;exact bb _
    |cons a l ih=>
     intro h;have h1:=Df.mpr (h a (bB ..));have h2:=ih λr o=>h r (bP _ o);rw[fZ,cE,bN];lia
   have:=h j λr o z=>by
    obtain⟨d,R,_,_⟩:=hw.rnd r o
    have:=R.first
    rw[z] at this;cases this
   have:=fin.length_eq
   lia
  refine#[_,rfl,j.map (λr=>r.map (·.1)),rfl,by rw[aG];lia,λM G S=>?_]
  obtain⟨p,p',rfl⟩:=L2.iN (λr:List (Nat×Nat)=>r.map (·.1)) M j G;have R':=R.Nj p';have e:=JZ g R' S
  have:=q2 n2 p R' e
  rw[e] at this;exact this
variable {P:Program} {w:World} {mg:Str->Option Value} {base:Heap} {Z:DC} (T:Txt Z mg)
theorem QQ(I:DN->Prop)(h:∀b:iA,(∀a,I a->b.nx a)->Lr c t FT b a)(k:∀a,I a->u E a):HP (Lr c t FT) u E a:=h _ k
theorem ON(b:DN)(e:a=b)(h:HP t u E b):HP t u E a:=by rw[e];exact h
theorem Cd(h:p<n):lL n (p:Int)=some p:=by
 unfold lL;rw[ls (by lia),ls (by lia)]
 exact FS some (by lia)
theorem Gm{w:W}(h:fV w≠ []):(fV w).Pairwise mr:=by
 unfold fV at h ⊢
 split
 .next z=>exact z.choose_spec.2
 .next z=>rw[dif_neg z] at h;exact absurd rfl h
theorem Lv{v w:W}{P:D->Prop}(h:P (.bl (!decide (v=w)))):rS (aP v) (aP w) P:=by
 refine#[_,_,xq v,xq w,by have:=vM v;lia,?_]
 have:PyData.eqv (qi v) (qi w)=decide (v=w):=by
  by_cases e:v=w
  .rw[FM e];exact(qz v w).mpr e
  .rw[GM e]
   apply ux.mpr;exact λz=>e ((qz v w).mp z)
 rw[ls rfl,this];exact h
variable {P:Program} {w:World} {mg:Str->Option Value} {base:Heap} {Z:DC} (T:Txt Z mg)
def Rs(w:W)(a:List (List (Nat×Nat))):Prop:=(w.length=1/\a= [[(0,0)]])\/(2<=w.length/\cU w a)
theorem Gn{w:W}{P:D->Prop}(g:Good w)(h:∀b,Rs w b->(fU b).Pairwise mr->P (.lst ((fU b).map au))):(w.length=1->P (.lst [au [0]]))/\(2<=w.length->∀b,cU w b->fV w=fU b->P (.lst ((fV w).map au))):=by
 refine#[λf=>h [[(0,0)]] (.inl #[f,rfl]) (C8 _ _),λc b R e=>?_]
 have ne:fV w≠ []:=λz=>by
  rw[z] at e
  have d:b= []:=by
   cases b with
   |nil=>rfl
   |cons a l=>cases e
  have i:=R.perm.length_eq;rw[d] at i;have k:(aM w).length=0:=i.symm
  obtain⟨x,j⟩:∃x,x∈aM w:=by
   cases g.con 1 (by lia) with
   |step f c=>exact#[_,aD.mpr (show aw w (_,1) from c)]
  have:=uw j
  lia
 have s:=Gm ne;rw[e] at s ⊢;exact h b (.inr #[c,R]) s
def tc(w:W):Nat:=(fA (row w) w.length).length
theorem IS{w:W}(g:Good w):2*tc w=(aM w).length:=by
 have:=(xK g (.refl _)).length_eq
 rw[cE,aG] at this;unfold tc;lia
def N7:cv:=λb P=>∃(w:W),b= [.dm w]/\Good w/\1<=w.length/\w.length<=14/\∀a,Rs w a->(fU a).Pairwise mr->P (.tup [.int (w.length:Int), .int (tc w:Int), .int (a.length:Int)])
theorem Ke:FnOk P w Z.K mg base cF 4 T.d_count.f T.d_count.fd ["web"] (br Z N7):=by
 have v:=Bn.nd;refine bA T.d_count.F Bn [0] (by decide) (λk R h=>by obtain⟨_,rfl,_⟩:=h;rfl) (λy A outer s H E k R c h=>?_)
 have z:=c.units;refine#[_,(ao (aR (eG (ab (e7 T.W (aa 0) T.m_many.m (jW T) (c.mono (by decide)) T.m_many.b) (ab (az bq rfl T.B.len bh (ab (e7 T.W (aa 0) T.m_ties.m (jX T) (c.mono (by decide)) T.m_ties.b) af)) (ab (az bq rfl T.B.len bh (ab (aI T.d_lands (qH T) c (ab (aa 0) af)) af)) af)))))),?_]
 obtain⟨a,rfl,g,l,j,q⟩:=h;refine#[_,rfl,a,rfl,a,rfl,_,rfl,a,rfl,a,rfl,g,j,λe n C=>?_]
 obtain⟨o,p⟩:=Gn (P:=λd=>oJ [d] λx=>([.int (a.length:Int), .int ((e.map pairD).length:Int),x]:List D).length<=sizeLine/\R (.tup [.int (a.length:Int), .int ((e.map pairD).length:Int),x])) g λi r s=>by
  refine#[by show 3<=sizeLine;decide,?_]
  have:=q i r s
  have t:(e.map pairD).length=tc a:=by rw[aG,n.length_eq];rfl
  have u:((fU i).map au).length=i.length:=by rw[aG,aG]
  rw[t,u];exact this
 exact#[_,rfl,a,rfl,g,l,j,o,p]
def Ob:cv:=λb P=>∃(w:W),b= [.dm w]/\Good w/\1<=w.length/\w.length<=14/\∀a,Rs w a->(fU a).Pairwise mr->P (.bl (decide ((w.length:Int)+(a.length:Int)=(tc w:Int)+2)))
theorem Cz:FnOk P w Z.K mg base cF 5 T.d_is_plane.f T.d_is_plane.fd ["web"] (br Z Ob):=by
 have a:=uf.nd;refine bA T.d_is_plane.F uf [0,0,0,0] (by decide) (λc R h=>by obtain⟨_,rfl,_⟩:=h;rfl) (λm A outer s H E c R b h=>?_)
 have d:=b.units
 refine#[_,(ah (BP (aI T.d_count (Ke T) b (ab (aa 0) af)) (eH 3 rfl (aN (aJ 1 a) (aN (aJ 2 a) (aN (aJ 3 a) cz)))))
   (ao (aR (kX (kC d) (bg cO (aa 1) (aa 3)) (bg cO (aa 2) ay) (bf _))))),?_]
 obtain⟨e,rfl,g,i,j,q⟩:=h;refine#[_,rfl,e,rfl,g,i,j,λk l s=>?_];exists rfl,rfl;exists _,rfl,_,rfl,_,rfl;exact sY (q k l s)
variable {P:Program} {w:World} {mg:Str->Option Value} {base:Heap} {Z:DC} (T:Txt Z mg)
theorem Rs.len{w:W}(g:Good w)(h:Rs w b)(d:Rs w c):b.length=c.length:=by
 rcases h with ⟨e,rfl⟩ | ⟨e,R⟩
 .rcases d with ⟨_,rfl⟩ | ⟨f,_⟩
  .rfl
  .lia
 .rcases d with ⟨f,_⟩ | ⟨_,a⟩
  .lia
  .exact((mH (R.nodup g) (a.nodup g)).mpr λr=>#[R.sub a r,a.sub R r]).length_eq
theorem kc.rounds{w:W}(g:Good w)(h:kc w a)(b:a.flatten.Perm (aM w)):cU w (a.map AH):=by
 refine#[λm c=>?_,(rf xE a).trans b];obtain⟨r,f,rfl⟩:=aX.mp c;obtain⟨d,R,i⟩:=h r f;obtain⟨e,j,k,l⟩:=Jd g R i;exact#[e,j,k,l]
variable {P:Program} {w:World} {mg:Str->Option Value} {base:Heap} {Z:DC} (T:Txt Z mg)
def KG:cv:=λa P=>∃(b:List Int)(k:Nat),a= [.kQ b,ae k]/\∀v:Int,P (.int v)
theorem jh:FnOk P w Z.K mg base cF 1 T.d__law_cell_at.f T.d__law_cell_at.fd ["_law_script","_law_k"] (br Z KG):=by
 have g:=mD.nd;refine bA T.d__law_cell_at.F mD [0,0] (by decide) (λa R h=>by obtain⟨_,_,rfl,_⟩:=h;rfl) (λi A outer s H E a R b h=>?_)
 have j:=b.units;exists _,(ao (aR (Tc (aV pF (aa 1) (az bq rfl T.B.len bh (ab (aa 0) af)) (bf _)) (aQ (aa 0) (aa 1)) ay)));obtain⟨c,k,rfl,q⟩:=h;exists _,rfl,_,rfl;refine#[_,rfl,cI (λe=>?_) (λe=>?_)]
 .have d:k<c.length:=by
   have:=KF e
   lia
  exact#[_,rfl,_,rfl,_,Dx (b8 d),q _]
 .exact q 0
def iJ(l:List Int):List D:=l.map D.int
theorem Gg(l:List Int):(iJ l).length=l.length:=aG _
theorem El(l:List Int)(x:Int):iJ (l++ [x])=iJ l++ [.int x]:=c8 ..
theorem Ek{l:List Int}{p:Nat}(h:p<l.length):gh (iJ l) (p:Int)=some (.int (l.getD p 0)):=fI (by unfold iJ;rw[b7,ck,b8 h];rfl)
theorem xF(x:Int):0<=x%2147483647/\x%2147483647<2147483647:=#[ab5 _ (by decide),abI _ (by decide)]
def Ve:cv:=λc P=>∃(d:List Int)(k n b:Nat),c= [.kQ d,ae k,ae n,ae b]/\k<=10/\n<=40/\0<b/\b<10000000/\∀a:List Int,a.length=n->(∀x∈a,0<=x)->P (.lst (iJ a))
theorem tZ:FnOk P w Z.K mg base cF 2 T.d__law_row.f T.d__law_row.fd ["_law_script","_law_k","_law_many","_law_base"] (br Z Ve):=by
 have d:=ud.nd;refine bA T.d__law_row.F ud [0,0,0,0,0,0,0,1,0] (by decide) (λL R h=>by obtain⟨_,_,_,_,rfl,_⟩:=h;rfl) (λY A outer s H E L R l h=>?_)
 have M:=l.units
 refine#[_,(ah (bz false 4 d (aI T.d__law_cell_at (jh T) l (ab (aa 0) (ab (aa 1) af))))
   (ah (bz false 5 d (kX (kC M) (bg fP (aI T.d__law_cell_at (jh T) l (ab (aa 0) (ab ay af))) ay) ay (bf _)))
   (ah (bz false 6 d (bg fP (aa 4) ay))
   (ah (gT 7 d (gS af))
   (ah (DZ rfl Gc (xX rfl T.B.range (ab (aa 2) af)) (aJ 8 d) (ah (bz false 6 d (bg fP (bg cO (bg cO (bg xp (aa 6) ay) (aI T.d__law_cell_at (jh T) l (ab (aa 0) (ab (bg cO (aa 1) (aa 8)) af)))) (aa 8)) ay))
   (ah (bz false 6 d (bg fP (bg cO (bg xp (aa 6) ay) (bg xp ay (aa 8))) ay))
   (ah (bU (DW.dt (gX (dO (dz (aa 5))) (gu (aV pF (aa 4) ay (bf _))))) (ao (bz false 4 d (bg xo (aa 6) ay))) ba)
   (ah (mP false 7 (bg fP (aa 4) (aa 3)))
   (ao (bz false 4 d (bg xo (aa 4) (aa 3)))))))))
   (ao (aR (aa 7)))))))),?_]
 obtain⟨e,k,n,b,rfl,hk,hn,b0,b1,q⟩:=h;refine#[_,rfl,_,rfl,e,k,rfl,λc=>#[trivial,?_]];refine#[_,rfl,e,0,rfl,λN=>#[(by show(0:Int)<2;decide),L8 #[trivial,?_]]]
 refine#[_,rfl,(by show(0:Int)<2147483647;decide),trivial,?_]
 refine#[by show 0<=sizeLine;decide,?_]
 refine#[_,rfl,#[by show-(2^62)<=(n:Int);lia,by show(n:Int)<2^62;lia],?_]
 rw[show((n:Int)).toNat=n by lia]
 generalize decide (N%2=0)=m;refine AZ (λj p=>∃(x y:Int)(a:List Int)(r:Option D),p= [some (.kQ e),some (ae k),some (ae n),some (ae b),some (.int x),some (.bl m),some (.int y),some (.lst (iJ a)),r]/\a.length=j/\(∀x∈a,0<=x)/\0<=y/\y<2147483647) #[c,_,[],_,rfl,rfl,(λx h=>nomatch h),xF c] ?_ ?_
 .rintro j _ hj ⟨x,y,a,r,rfl,t,u,O⟩ A Q
  refine#[_,rfl, .inl #[by lia,by lia],_,rfl,_,rfl,_,rfl,e,k+j,rfl,λv=>#[_,rfl,(by show(0:Int)<2147483647;decide),trivial,?_]]
  have h1:=xF (y*48271+v+(j:Int));refine#[_,rfl, .inl #[by dsimp only;lia,by dsimp only;lia],_,rfl, .inl #[by decide,by decide],(by show(0:Int)<2147483647;decide),trivial,?_]
  have C:=xF ((y*48271+v+(j:Int))%2147483647*69621+7*(j:Int));obtain⟨g,G⟩:∃g,g=((y*48271+v+(j:Int))%2147483647*69621+7*(j:Int))%2147483647:=#[_,rfl];rw[<-G] at C;dsimp only;refine ON [some (.kQ e),some (ae k),some (ae n),some (ae b),some (.int x),some (.bl m),some (.int g),some (.lst (iJ a)),some (ae j)] (by rw[G];rfl) ?_
  refine QQ (λp=>∃o:Int,p= [some (.kQ e),some (ae k),some (ae n),some (ae b),some (.int o),some (.bl m),some (.int g),some (.lst (iJ a)),some (ae j)]) (λS I=>?_) ?_
  .have i:Lz [0,0,0,0,0,0,0,1,0] false 4 (FU Rn (LB 6) (dC (D.int 5))) S [some (.kQ e),some (ae k),some (ae n),some (ae b),some (.int x),some (.bl m),some (.int g),some (.lst (iJ a)),some (ae j)]:=#[_,rfl,#[by decide,by decide],trivial,I _ #[_,rfl]]
   exact#[_,rfl,rfl,cI (λ_=>dH i) (λ_=>#[_,rfl,_,rfl,cI (λ_=>i) (λ_=>I _ #[_,rfl])])]
  .rintro _ ⟨o,rfl⟩
   have J:(0:Int)<(b:Int):=by lia
   have U:=yF o (b:Int) J;refine#[_,rfl,_,rfl,_,rfl,J,trivial,dG (by rw[Gg];lia),?_]
   refine#[_,rfl,_,rfl,#[by lia,by lia],trivial,?_]
   refine Q _ #[_,g,a++ [o%(b:Int)],some (ae j),by rw[El];rfl,by rw[cE,t];rfl,λz X=>?_,C]
   rcases bH.mp X with h|h
   .exact u z h
   .rw[cC] at h;rw[h];exact U.1
 .rintro _ ⟨x,y,a,r,rfl,t,u,O⟩
  exact#[_,rfl,q a t u]
variable {P:Program} {w:World} {mg:Str->Option Value} {base:Heap} {Z:DC} (T:Txt Z mg)
structure xb (w:W) (r:List Nat):Prop where
 ne:0<r.length
 sz:r.length<=196
 lt:∀k,k<r.length->r.getD k 0<w.length
 tie:2<=w.length->∀k,k<r.length->r.getD ((k+(r.length-1))%r.length) 0∈row w (r.getD k 0)
structure Cl (w:W) (ds:List (Nat×Nat)):Prop where
 nd:ds.Nodup
 dart:∀e∈ds,aw w e
 step:∀e,aw w e->(e∈ds↔bW w e∈ds)
theorem Cl.aC{w:W}{a:List (Nat×Nat)}(c:Cl w a)(g:Good w){d:Nat×Nat}(b:aw w d):∀k,Wb.aC w k d∈a↔d∈a
 |0=>Iff.rfl
 |k+1=>(c.step _ (bQ g b k)).symm.trans (c.aC g b k)
theorem cL{w:W}:e∈walk w d k↔∃i,i<k/\aC w i d=e:=by
 unfold walk;rw[aX];exact#[λ#[i,a,e]=>#[i,dE.mp a,e],λ#[i,a,e]=>#[i,dE.mpr a,e]]
theorem Cl.len{w:W}(c:Cl w a)(g:Good w)(b:w.length<=14):a.length<=196:=by
 have f:=gW g;have h:w.length*w.length<=14*14:=sS b b
 have:=aF c.nd λe d=>aD.mpr (c.dart e d)
 lia
theorem Cl.nodup{w:W}(c:Cl w e)(g:Good w)(f:aw w d)(l:0<k->d∉e)(m:∀j,0<j->j<k->Wb.aC w j d≠d):(e++walk w d k).Nodup:=by
 rw[c9];refine#[c.nd,qh g f m,λa h b n z=>?_];obtain⟨i,o,rfl⟩:=cL.mp n;rw[z] at h;exact l (by lia) ((c.aC g f i).mp h)
theorem Cl.back{w:W}(c:Cl w a)(g:Good w)(b:aw w d)(o:0<k)(l:d∉a)(m:∀j,0<j->j<k->Wb.aC w j d≠d)(h:Wb.aC w k d∈a++walk w d k):Wb.aC w k d=d:=by
 rcases bH.mp h with h|h
 .exact absurd ((c.aC g b k).mp h) l
 .obtain⟨i,p,e⟩:=cL.mp h
  have n:Wb.aC w i d=Wb.aC w i (Wb.aC w (k-i) d):=by rw[<-cJ (k-i) i,show i+(k-i)=k by lia];exact e
  have f:=(pk g b (bQ g b _) i n).symm
  by_cases z:i=0
  .subst z;exact f
  .exact absurd f (m (k-i) (by lia) (by lia))
theorem Cl.grow{w:W}{f:List (Nat×Nat)}(c:Cl w f)(g:Good w)(b:aw w d)(l:0<k)(n:d∉f)(o:∀j,0<j->j<k->Wb.aC w j d≠d)(e:Wb.aC w k d=d):Cl w (f++walk w d k):=by
 refine#[c.nodup g b (λ_=>n) o,λx a=>?_,λx a=>?_]
 .rcases bH.mp a with h|h
  .exact c.dart x h
  .exact nE g b x h
 .rw[bH,bH,<-c.step x a]
  refine or_congr Iff.rfl #[λh=>?_,λh=>?_]
  .obtain⟨i,p,rfl⟩:=cL.mp h
   by_cases z:i+1=k
   .exact cL.mpr #[0,l,by show d=Wb.aC w (i+1) d;rw[z,e]]
   .exact cL.mpr #[i+1,by lia,rfl]
  .obtain⟨i,p,z⟩:=cL.mp h
   cases i with
   |zero=>
    obtain⟨m,rfl⟩:∃m,k=m+1:=#[k-1,by lia]
    refine cL.mpr #[m,by lia,kB g (bQ g b m) a ?_]
    exact e.trans z
   |succ i=>exact cL.mpr #[i,by lia,kB g (bQ g b i) a z]
theorem vv{w:W}(h:i<k):((walk w d k).map (·.1)).getD i 0=(aC w i d).1:=by
 unfold walk;rw[b9,ck,b7,n5 h];rfl
theorem MW{w:W}(g:Good w)(c:w.length<=14)(b:aw w d)(f:0<k)(h:∀j,0<j->j<k->Wb.aC w j d≠d)(e:Wb.aC w k d=d):xb w ((walk w d k).map (·.1)):=by
 have n:=gW g;have o:w.length*w.length<=14*14:=sS c c;have p:=zx g b h;have l:((walk w d k).map (·.1)).length=k:=by rw[aG,cM]
 have st:∀i,(aC w i d).1∈row w (aC w (i+1) d).1:=λi=>g.sym _ _ (bQ g b i);refine#[by lia,by lia,λi a=>?_,λ_ i a=>?_]
 .rw[l] at a
  rw[vv a];exact aU (bQ g b i)
 .rw[l] at a ⊢
  rw[vv a,vv (jT _ f)];cases i with
  |zero=>
   obtain⟨m,rfl⟩:∃m,k=m+1:=#[k-1,by lia]
   have:=st m
   rw[e] at this;rw[qu,gP (by lia)];exact this
  |succ i=>
   rw[show i+1+(k-1)=i+k by lia,aa3,gP (by lia)];exact st i
theorem pJ{w:W}(g:Good w)(h:w.length=1):w= [[]]:=by
 match w,h with
 | [r],_=>
  cases r with
  |nil=>rfl
  |cons a r=>
   have m:a∈row [a::r] 0:=bB
   have:=g.rng 0 a m
   have e:a=0:=by simpa using this
   subst e;exact absurd m (g.irr 0)
theorem yf{w:W}(g:Good w)(h:2<=w.length):0<(row w 0).length:=by
 apply Nat.pos_of_ne_zero;intro z;have z:row w 0= []:=zH.mp z
 have:=kT g (S:=λp=>p=0) rfl (λp q b a=>by subst b;rw[z] at a;cases a) 1 (by lia)
 lia
def Rl(w:W)(b:List (Nat×Nat))(e:List (List Nat))(c:Nat×Nat->Prop):Prop:=∃a:List (List (Nat×Nat)),b=a.flatten/\e=fU a/\kc w a/\(∀r∈e,xb w r)/\∀d,c d->d∈b
theorem Rl.imp{w:W}{b:List (List Nat)}(h:Rl w a b c)(k:∀d,e d->c d\/d∈a):Rl w a b e:=by
 obtain⟨f,g,i,j,l,m⟩:=h;exact#[f,g,i,j,l,λd n=>(k d n).elim (m d) id]
theorem Kz{w:W}(a:0<k)(e:aC w k d=d)(b:∀j,0<j->j<k->aC w j d≠d):cG w d (walk w d k):=#[k,a,e,b,rfl]
def Cn(w:W)(c:Nat):Prop:=∃a,Rs w a/\a.length=c
theorem Rl.cn{w:W}(g:Good w)(f:2<=w.length)(C:Cl w b)(h:Rl w b c (aw w)):Cn w c.length:=by
 obtain⟨e,rfl,rfl,i,_,all⟩:=h;have j:e.flatten.Perm (aM w):=(mH C.nd (bu g)).mpr λd=>#[λa=>aD.mpr (C.dart d a),λa=>all d (aD.mp a)];exact#[e.map AH, .inr #[f,kc.rounds g i j],by unfold fU;rw[aG,aG]]
def E8:cv:=λc P=>∃(w:W),c= [aP w]/\Good w/\1<=w.length/\w.length<=14/\∀a:List (List Nat),0<a.length->a.length<=196->(∀r∈a,xb w r)->Cn w a.length->(2<=w.length->∀r∈a,∃d b,cG w d b/\aw w d/\r=b.map (·.1))->P (.lst (a.map au))
structure Lf (w:W) (ks:List (Int×Int)) (met:List (Nat×Nat)):Prop where
 nd:ks.Nodup
 sub:∀x∈ks,∃d,aw w d/\x=zz d
 iff:∀d,aw w d->(zz d∈ks↔d∉met)
theorem Lf.len{w:W}(h:Lf w a met)(g:Good w)(b:w.length<=14):a.length<=196:=by
 have f:=gW g;have i:w.length*w.length<=14*14:=sS b b
 have:=aF (m:=(aM w).map zz) h.nd λx c=>by
  obtain⟨d,e,rfl⟩:=h.sub x c;exact nG.mpr (aD.mpr e)
 rw[aG] at this;lia
theorem Lf.pop{w:W}(h:Lf w c met):Lf w (c.erase (zz d)) (met++ [d]):=by
 refine#[h.nd.erase _,λx f=>h.sub x (List.mem_of_mem_erase f),λe g=>?_];rw[h.nd.mem_erase_iff,h.iff e g,bH,cC];refine#[λ#[a,b] z=>z.elim b λz=>a (by rw[z]),λz=>#[λy=>z (.inr (Di y)),λy=>z (.inl y)]]
def dU(w:W)(p:Nat):List (Nat×Nat):=(ad p).flatMap λp=>(row w p).map λq=>(p,q)
theorem xn{w:W}:d∈dU w p↔d.1<p/\aw w d:=by
 unfold dU;rw[vD]
 constructor
 .rintro⟨x,a,h⟩
  obtain⟨y,b,rfl⟩:=aX.mp h;exact#[dE.mp a,b]
 .exact λh=>#[d.1,dE.mpr h.1,aX.mpr #[d.2,h.2,rfl]]
theorem DS(w:W)(p:Nat):dU w (p+1)=dU w p++(row w p).map λq=>(p,q):=by
 unfold dU;rw[abo,abx];simp
theorem pH:FnOk P w Z.K mg base cF 1 T.d__law_lands.f T.d__law_lands.fd ["_law_turns_here"] (br Z E8):=by
 have v:=pX.nd;refine bA T.d__law_lands.F pX [0,98,1,0,0,0,1,0,0] (by decide) (λt R h=>by obtain⟨_,rfl,_⟩:=h;rfl) (λbG A outer s H E t R O h=>?_)
 have hu:=O.units
 refine#[_,(ah (LU 1 v)
   (ah (gT 2 v (gS af))
   (ah (cH rfl Gc (dY rfl T.B.enumerate (ab (aa 0) af)) (eH 2 rfl (aN (aJ 3 v) (aN (aJ 4 v) cz))) (ao (cH rfl Gc (bL (aa 4)) (aJ 5 v) (ao (L1 1 hu (eG (ab (aa 3) (ab (aa 5) af))) fq)))))
   (ah (cH rfl Gc (dY rfl T.B.enumerate (ab (aa 0) af)) (eH 2 rfl (aN (aJ 3 v) (aN (aJ 4 v) cz))) (ao (cH rfl Gc (bL (az Jh rfl T.B.sorted kh (ab (aa 4) af))) (aJ 5 v) (ah (gT 6 v (gS af))
   (ah (bz false 7 v (eG (ab (aa 3) (ab (aa 5) af))))
   (ah (j4 Gc (aV (Qd hu) (aa 7) (aa 1) (by with_unfolding_all rfl)) (ah (LX 1 hu (aa 7))
   (ah (mP false 6 (aQ (aa 7) ay))
   (ah (bz false 8 v (aQ (aa 0) (aQ (aa 7) ay)))
   (ao (bz false 7 v (eG (ab (aQ (aa 7) ay) (ab (aQ (aa 8) (bg fP (bg cO (qw (aa 8) (aQ (aa 7) ay)) ay) (az bq rfl T.B.len bh (ab (aa 8) af)))) af)))))))))
   (ao (bU (aV (g7 hu) (aa 6) (gR af) (bf _)) (ao (LS 2 6)) ba))))))))
   (vN 2
   (ao (aR (O0 (aa 2) (sZ (gR (ab (gR (ab ay af)) af))))))))))),?_]
 obtain⟨n,rfl,g,h1,bX,q⟩:=h;have lw:(n.map au).length=n.length:=aG _;have c1:=gW g;have c2:n.length*n.length<=14*14:=sS bX bX
 have YM:∀{l:List (Nat×Nat)},l.Nodup->(∀e∈l,aw n e)->l.length<=196:=λ {l} v h=>by
  have:=aF v λe he=>aD.mpr (h e he)
  lia
 refine#[by show 0<=sizeLine;decide,?_]
 exists _,rfl;refine bM (λj S=>∃(u:List FV)(o3 o4 N:Option D),S= [some (aP n),some (.x (.mw ((dU n j).map zz) u)),some (.lst []),o3,o4,N,none,none,none]/\(dU n j).Nodup) #[[],_,_,_,rfl,gQ] ?_ ?_
 .rintro p _ _ G ⟨u,o3,o4,N,rfl,v⟩ A hA
  obtain⟨hp,rfl⟩:=rB G;exists rfl,rfl;exists _,rfl;refine bM (λm S=>∃(u:List FV)(N:Option D),S= [some (aP n),some (.x (.mw ((dU n p++((row n p).take m).map λq=>(p,q)).map zz) u)),some (.lst []),some (ae p),some (au (row n p)),N,none,none,none]/\(dU n p++((row n p).take m).map λq=>(p,q)).Nodup) #[u,_,by rw[qm,qo,f7];rfl,by rw[qm,qo,f7];exact v] ?_ ?_
  .rintro m _ _ hd2 ⟨u,N,rfl,i4⟩ A2 JH
   obtain⟨o,hq,rfl⟩:=c5 hd2;have CU:(row n p).take (m+1)=(row n p).take m++ [o]:=by rw[zU,hq];rfl
   have nn:(p,o)∉dU n p++((row n p).take m).map λq=>(p,q):=λz=>by
    rcases bH.mp z with z|z
    .have:=(xn.mp z).1
     exact absurd this (og _)
    .obtain⟨y,hy,e⟩:=aX.mp z
     have e:y=o:=FS Prod.snd e;subst e;have nr:=g.nod p;rw[<-iU (m+1) (row n p),CU] at nr;exact(c9.mp (c9.mp nr).1).2.2 y hy y (by simp) rfl
   have e2:dU n p++((row n p).take (m+1)).map (λq=>(p,q))=(dU n p++((row n p).take m).map λq=>(p,q))++ [(p,o)]:=by rw[CU,c8,<-f6];rfl
   have l2:=YM i4 λe he=>by
    rcases bH.mp he with h|h
    .exact(xn.mp h).2
    .obtain⟨y,hy,rfl⟩:=aX.mp h
     exact Bw hy
   refine#[.bl true,_,_,rfl,rfl,_,rfl,_,rfl,by show 2<=sizeLine;decide,zz (p,o),rfl,λz=>nn (nG.mp z),by rw[aG];lia,?_]
   have e3:(dU n p++((row n p).take (m+1)).map λq=>(p,q)).map zz=(dU n p++((row n p).take m).map λq=>(p,q)).map zz++ [zz (p,o)]:=by rw[e2,c8 (f:=zz)];rfl
   refine JH _ #[u++ [.bl true],some (ae o),by rw[e3];rfl,?_]
   rw[e2];exact c9.mpr #[i4,by simp,λa ha b hb z=>nn (by rw[<-cC.mp hb,<-z];exact ha)]
  .rintro _ ⟨u,N,rfl,i4⟩
   rw[aG,zS] at i4 ⊢;refine hA _ #[u,_,_,_,by rw[DS],by rw[DS];exact i4]
 rintro _ ⟨u,o3,o4,N,rfl,v⟩;rw[fu,lw] at v ⊢
 have L0:Lf n ((dU n n.length).map zz) []:=#[by
   rw[nY,iV];exact(nY.mp v).imp λh z=>h (Di z),λx hx=>by
   obtain⟨d,G,rfl⟩:=aX.mp hx;exact#[d,(xn.mp G).2,rfl],λd G=>by
   rw[nG,xn];exact#[(λ_ h=>nomatch h),λ_=>#[aU G,G]]]
 clear v;exists _,rfl
 refine bM (λj S=>∃(J:List (Int×Int))(t:List (Nat×Nat))(u:List FV)(I:List (List Nat))(o3 o4 N o6 o7 Q:Option D),S= [some (aP n),some (.x (.mw J u)),some (.lst (I.map au)),o3,o4,N,o6,o7,Q]/\Lf n J t/\Cl n t/\(0<t.length->0<I.length)/\I.length<=t.length/\Rl n t I λd=>aw n d/\d.1<j)
  #[_,[],u,[],_,_,_,_,_,_,rfl,L0,#[gQ,(λe h=>nomatch h),λe _=>#[(λh=>nomatch h),λh=>nomatch h]],id,bb _,[],rfl,rfl,(λr h=>nomatch h),(λr h=>nomatch h),λd h=>absurd h.2 (by lia)] ?_ ?_
 .clear L0
  rintro p _ _ G ⟨J,t,u,I,o3,o4,N,o6,o7,Q,rfl,M,C,rq,U,ok⟩ A hA;obtain⟨hp,rfl⟩:=rB G;exists rfl,rfl;have rl0:=c7 g p;exists _,rfl;dsimp only[fB];refine KC (by lia) λms Yy wZ=>?_
  refine bM (λm S=>∃(J:List (Int×Int))(t:List (Nat×Nat))(u:List FV)(I:List (List Nat))(N o6 o7 Q:Option D),S= [some (aP n),some (.x (.mw J u)),some (.lst (I.map au)),some (ae p),some (au (row n p)),N,o6,o7,Q]/\Lf n J t/\Cl n t/\(0<t.length->0<I.length)/\I.length<=t.length/\Rl n t I λd=>aw n d/\(d.1<p\/(d.1=p/\d.2∈ms.take m)))
   #[J,t,u,I,_,_,_,_,rfl,M,C,rq,U,ok.imp λd h=> .inl #[h.1,h.2.elim id λz=>by simp at z]] ?_ ?_
  .clear rq U ok C M
   rintro m _ _ G ⟨J,t,u,I,N,o6,o7,Q,rfl,M,C,rq,U,ok⟩ A hA;obtain⟨o,hq,rfl⟩:=c5 G;have de:aw n (p,o):=Yy.mem_iff.mp (dM hq);have CU:ms.take (m+1)=ms.take m++ [o]:=by rw[zU,hq];rfl
   refine#[by show 0<=sizeLine;decide,?_]
   refine#[_,rfl,_,rfl,by show 2<=sizeLine;decide,trivial,?_]
   refine jm (λm S=>∃(k:Nat)(J:List (Int×Int))(u:List FV)(Q:Option D),S= [some (aP n),some (.x (.mw J u)),some (.lst (I.map au)),some (ae p),some (au (row n p)),some (ae o),some (au ((walk n (p,o) k).map (·.1))),some (pairD (aC n k (p,o))),Q]/\Lf n J (t++walk n (p,o) k)/\m+k=200/\(0<k->(p,o)∉t)/\(∀j,0<j->j<k->aC n j (p,o)≠(p,o))) 200 #[0,J,u,_,rfl,by rw[show walk n (p,o) 0= [] from rfl,f7];exact M,rfl,(λh=>by lia),λj h1 X=>by lia] ?_
   clear M;rintro m _ ⟨k,J,u,Q,rfl,M,mk,v,Y⟩;have kl:=zx g de Y;have nn:=C.nodup g de v Y;have nl:(t++walk n (p,o) k).length<=196:=YM nn λe he=>(bH.mp he).elim (C.dart e) (nE g de e);have dk:=bQ g de k;have hs:=g.sym _ _ dk;have kz:=M.len g bX;exists _,rfl,_,rfl,zz (aC n k (p,o)),_,_,rfl,rfl,_,rfl;refine(?_:if (if false=true then _ else decide (zz (aC n k (p,o))∈J))=true then _ else _);rw[ir dD,show decide (zz (aC n k (p,o))∈J)=decide (aC n k (p,o)∉t++walk n (p,o) k) from aaE.mpr (M.iff _ dk)];refine cI (λc=>?_) (λc=>?_)
   .have c:aC n k (p,o)∉t++walk n (p,o) k:=KF c
    have bY:=aU hs;have rln:=c7 g (aC n k (p,o)).2;have lr:((row n (aC n k (p,o)).2).map ae).length=(row n (aC n k (p,o)).2).length:=aG _;have pos:0<(row n (aC n k (p,o)).2).length:=uw hs;have e0:(0:Int)<(((row n (aC n k (p,o)).2).map ae).length:Int):=by rw[lr];lia
    refine#[_,_,rfl,_,rfl,zz (aC n k (p,o)),rfl,(M.iff _ dk).mpr c,by lia,λQ6=>?_]
    refine#[_,rfl,_,rfl,_,rfl,trivial,dG (by rw[aG,aG,cM];lia),?_]
    exists _,rfl,_,rfl,_,rfl,_,fF bY,trivial;have fx:=cW hs;exists _,rfl,_,rfl,_,rfl,_,rfl,_,rfl,_,rfl,_,rfl,rfl,dA _,_,_,fx.1,fx.2.1,fx.2.2;exists _,rfl,e0;have em:(((row n (aC n k (p,o)).2).idxOf (aC n k (p,o)).1:Nat):Int)+1=(((row n (aC n k (p,o)).2).idxOf (aC n k (p,o)).1+1:Nat):Int):=by lia
    have et:((((row n (aC n k (p,o)).2).idxOf (aC n k (p,o)).1:Nat):Int)+1)%(((row n (aC n k (p,o)).2).map ae).length:Int)=((((row n (aC n k (p,o)).2).idxOf (aC n k (p,o)).1+1)%(row n (aC n k (p,o)).2).length:Nat):Int):=by rw[lr,em,abf]
    refine#[ae (aE (row n (aC n k (p,o)).2) (aC n k (p,o)).1),?_,by show 2<=sizeLine;decide,trivial,m-1,by lia,k+1,J.erase (zz (aC n k (p,o))),Q6,some (au (row n (aC n k (p,o)).2)),?_,?_,by lia,λ_=>?_,λj h1 X=>?_]
    .show gh ((row n (aC n k (p,o)).2).map ae) ((λi j=>i%j) _ _)=_
     dsimp only;rw[et];exact jy (jT _ pos)
    .have e2:au ((walk n (p,o) (k+1)).map (·.1))= .lst (((walk n (p,o) k).map (·.1)).map ae++ [ae (aC n k (p,o)).1]):=by unfold au;rw[sN,c8,c8];rfl
     rw[e2];rfl
    .rw[sN,<-f6];exact M.pop
    .by_cases z:0<k
     .exact v z
     .obtain rfl:k=0:=by lia
      exact λh=>c (fj _ h)
    .by_cases z:j=k
     .subst z
      exact λh=>c (cN _ (cL.mpr #[0,h1,h.symm]))
     .exact Y j h1 (by lia)
   .have c:aC n k (p,o)∈t++walk n (p,o) k:=Da (On c)
    refine#[_,rfl,by show 0<=sizeLine;decide,?_]
    refine(?_:rS (au _) (au []) _);refine DR #[_,rfl,cI (λe=>?_) (λe=>?_)]
    .have k0:0<k:=Nat.pos_of_ne_zero λz=>by subst z;exact absurd e (by simp[walk])
     have bk:=C.back g de k0 (v k0) Y c;have C2:=C.grow g de k0 (v k0) Y bk;have L:=MW g bX de k0 Y bk;have cl:=C.len g bX;refine#[_,_,rfl,rfl,dG (by rw[aG];lia),?_]
     refine hA _ #[J,t++walk n (p,o) k,u,I++ [(walk n (p,o) k).map (·.1)],some (ae o),none,some (pairD (aC n k (p,o))),Q,?_,M,C2,λ_=>?_,?_,?_]
     .rw[c8 (f:=au)];rfl
     .rw[cE];exact Nat.succ_pos _
     .rw[cE,cE,cM];simp only[zJ];lia
     .obtain⟨wY,d1,d2,d3,d4,d5⟩:=ok
      refine#[wY++ [walk n (p,o) k],?_,?_,λr O=>?_,λr O=>?_,λd G=>?_]
      .rw[d1,wq];simp
      .rw[d2];unfold fU;rw[c8];rfl
      .rcases bH.mp O with h|h
       .exact d3 r h
       .rw[cC] at h;rw[h]
        exact#[(p,o),Kz k0 bk Y,de]
      .rcases bH.mp O with h|h
       .exact d4 r h
       .rw[cC] at h;rw[h];exact L
      .rw[CU] at G
       by_cases z:d=(p,o)
       .rw[z];exact cN _ (cL.mpr #[0,k0,rfl])
       .refine fj _ (d5 d #[G.1,G.2.imp id λh=>#[h.1,(bH.mp h.2).elim id λX=>absurd (PP h.1 (cC.mp X)) z]])
    .have k0:k=0:=by
      have e:(walk n (p,o) k).map (·.1)= []:=KF (by simpa only[Bool.not_eq_false'] using e)
      have:=FS bi e
      rwa [aG,cM] at this
     subst k0;have e0:t++walk n (p,o) 0=t:=f7 _;rw[e0] at c M;refine hA _ #[J,t,u,I,_,_,_,_,rfl,M,C,rq,U,ok.imp λd G=>?_];rw[CU] at G
     by_cases z:d=(p,o)
     .rw[z];exact .inr c
     .exact .inl #[G.1,G.2.imp id λh=>#[h.1,(bH.mp h.2).elim id λX=>absurd (PP h.1 (cC.mp X)) z]]
  .rintro _ ⟨J,t,u,I,N,o6,o7,Q,rfl,M,C,rq,U,ok⟩
   refine hA _ #[J,t,u,I,_,_,_,_,_,_,rfl,M,C,rq,U,ok.imp λd G=> .inl #[G.1,?_]];rw[aG,zS]
   have:=G.2
   by_cases z:d.1=p
   .exact .inr #[z,Yy.mem_iff.mpr (z▸G.1)]
   .left;lia
 rintro _ ⟨J,t,u,I,o3,o4,N,o6,o7,Q,rfl,M,C,rq,U,ok⟩;rw[fu,lw] at ok;exists #[_,rfl];have cl:=C.len g bX;obtain⟨wY,d1,d2,d3,d4,d5⟩:=ok
 by_cases n2:2<=n.length
 .have r0:=yf g n2
  obtain⟨x,hx⟩:=abr r0;have rp:0<I.length:=rq (uw (d5 (0,x) #[hx,by show 0<n.length;lia]))
  have ok:Rl n t I (aw n):=#[wY,d1,d2,d3,d4,λd G=>d5 d #[G,aU G]];refine#[_,rfl,_,rfl,λ_=>?_,λz=>?_]
  .refine q I rp (by lia) d4 (Rl.cn g n2 C ok) λ_ r O=>?_
   rw[d2] at O;obtain⟨rd,wJ,rfl⟩:=aX.mp O;obtain⟨d,e1,e2⟩:=d3 rd wJ;exact#[d,rd,e1,e2,rfl]
  .have:=FS bi z
   rw[aG,mJ] at this;lia
 .obtain rfl:=pJ g (by lia)
  have d0:t= []:=by
   cases t with
   |nil=>rfl
   |cons e t=>
    have:=C.dart e (bB ..)
    have h0:=aU this
    have:e.1=0:=by have:e.1<1:=h0;lia
    have X:=C.dart e (bB ..);unfold aw at X;rw[this] at X;cases X
  have r0:I= []:=by
   rw[d0] at U;exact zH.mp (Nat.le_zero.mp U)
  rw[r0];refine#[_,rfl,_,rfl,(λz=>absurd rfl z),λ_=>?_];refine#[by show 1<=sizeLine;decide,by show 1<=sizeLine;decide,?_]
  refine q [[0]] (by decide) (by decide) (λr O=>?_) #[[[(0,0)]], .inl #[rfl,rfl],rfl] (λz=>absurd z (by decide))
  rw[cC] at O;subst O;refine#[by decide,by decide,λk Y=>?_,λh=>absurd h (by decide)]
  have:k=0:=by simpa using Y
  subst this;decide
variable {P:Program} {w:World} {mg:Str->Option Value} {base:Heap} {Z:DC} (T:Txt Z mg)
def fR(l:List Nat)(x p:Nat):List Nat:=ins l (l.idxOf x+1) p
def Vd:cv:=λa P=>∃(l:List Nat)(x p:Nat),a= [au l,ae x,ae p]/\l.length<=100/\(l≠ []->x∈l)/\P (au (fR l x p))
theorem jI:FnOk P w Z.K mg base cF 1 T.d__law_behind.f T.d__law_behind.fd ["_law_row_here","_law_ahead","_law_point"] (br Z Vd):=by
 have g:=nN.nd;refine bA T.d__law_behind.F nN [0,0,0,0] (by decide) (λi R h=>by obtain⟨_,_,_,rfl,_⟩:=h;rfl) (λn A outer s H E i R j h=>?_)
 have k:=j.units
 refine#[_,(ah (bU (aV (kC k) (aa 0) (gR af) (bf _)) (ao (aR (gR (ab (aa 2) af)))) ba)
   (ah (bz false 3 g (bg cO (qw (aa 0) (aa 1)) ay))
   (ao (aR (bg cO (bg cO (jb (aa 0) kn (ko (aa 3))) (gR (ab (aa 2) af))) (jb (aa 0) (ko (aa 3)) kn)))))),?_]
 obtain⟨l,x,p,rfl,o,a,q⟩:=h;refine#[_,rfl,by show 0<=sizeLine;decide,?_]
 refine(?_:BL (au l) (au []) _);refine Lo #[_,rfl,cI (λe=>?_) (λe=>?_)]
 .obtain rfl:l= []:=KF e
  exact#[_,rfl,by show 1<=sizeLine;decide,q]
 have a:=a (On e);have c:(l.map ae).length=l.length:=aG _;have r:=rF.mpr a;exists _,rfl,_,rfl,_,rfl,rfl,dA _,_,_,(cW a).1,(cW a).2.1,(cW a).2.2,trivial
 have b:cutD (l.map ae) none (some (((l.idxOf x:Nat):Int)+1))=(l.take (l.idxOf x+1)).map ae:=by
  have:=mN (l.map ae) (l.idxOf x+1) (by rw[c];lia)
  rw[sT];exact this
 have d:cutD (l.map ae) (some (((l.idxOf x:Nat):Int)+1)) none=(l.drop (l.idxOf x+1)).map ae:=by
  have:=rR (l.map ae) (l.idxOf x+1) (by rw[c];lia)
  rw[vE];exact this
 have sz:(cutD (l.map ae) none (some (((l.idxOf x:Nat):Int)+1))).length+1<=sizeLine:=by rw[b,aG,gO];exact small (by lia)
 have m:(cutD (l.map ae) none (some (((l.idxOf x:Nat):Int)+1))++ [ae p]).length+(cutD (l.map ae) (some (((l.idxOf x:Nat):Int)+1)) none).length<=sizeLine:=by
  rw[b,d,cE,aG,aG,gO,qr];exact small (by simp;lia)
 have e:(.lst ((cutD (l.map ae) none (some (((l.idxOf x:Nat):Int)+1))++ [ae p])++cutD (l.map ae) (some (((l.idxOf x:Nat):Int)+1)) none):D)=au (fR l x p):=by
  rw[b,d];unfold au fR ins;rw[c8,bT,f6];rfl
 rw[<-e] at q;exact#[_,rfl,_,rfl,_,rfl,by show 1<=sizeLine;decide,sz,_,rfl,_,rfl,m,q]
def lsum(a:List (List Nat)):Nat:=(a.map bi).sum
def KH:cv:=λb P=>∃(a:List (List Nat))(x:Int),b= [.lst (a.map au), .int x]/\0<a.length/\a.length<=196/\(∀r∈a,0<r.length/\r.length<=196)/\∀r∈a,∀i,i<r.length->P (.tup [au r,ae i])
theorem wU:FnOk P w Z.K mg base cF 1 T.d__law_corner.f T.d__law_corner.fd ["_law_walks","_law_number"] (br Z KH):=by
 have d:=nO.nd;refine bA T.d__law_corner.F nO [0,0,0] (by decide) (λv R h=>by obtain⟨_,_,rfl,_⟩:=h;rfl) (λM A outer s H E v R l h=>?_)
 have N:=l.units
 refine#[_,(ah (bz false 2 d ay)
   (ah (bz false 1 d (bg fP (aa 1) (az (HM rfl) rfl T.B.sum HK (ab (lI (NC:= ["_law_walk"]) (src:= [none]) rfl (qT (av iS)) trivial (bL (aa 0)) (λ_ _ _=>(cw 0 (show(["_law_walk"]:List Str).Nodup from by decide+kernel))) (λ_ _ _=>e8) (λ_ _ _=>(az bq rfl T.B.len bh (ab (aa 0) af)))) af))))
   (ah (j4 Gc (aV Nf (aa 1) (az bq rfl T.B.len bh (ab (aQ (aa 0) (aa 2)) af)) (bf _)) (ah (bz false 1 d (bg k9 (aa 1) (az bq rfl T.B.len bh (ab (aQ (aa 0) (aa 2)) af))))
   (ao (bz false 2 d (bg cO (aa 2) ay)))))
   (ao (aR (eG (ab (aQ (aa 0) (aa 2)) (ab (aa 1) af)))))))),?_]
 obtain⟨a,x,rfl,o,y,p,q⟩:=h;have C:(a.map au).length=a.length:=aG _;exists trivial;exists _,rfl,_,rfl;refine jr (ρ:= [none]) au (λr=> .int (r.length:Int)) a _ (λr l Y t=>#[_,rfl,by rw[show(.int (r.length:Int):D)= .int ((r.map ae).length:Int) by rw[aG]] at t;exact t]) rfl (small (by lia)) λO=>?_
 have G:0<lsum a:=by
  cases a with
  |nil=>exact absurd o (og _)
  |cons r a=>
   have:=(p r (bB ..)).1
   unfold lsum;rw[bT,rM];lia
 have I:(a.map λr=>((r.length:Nat):Int)).sum=((lsum a:Nat):Int):=by
  unfold lsum;clear G o y p q C
  induction a with
  |nil=>rfl
  |cons r a J=>rw[bT,rM,J,bT,rM,Int.natCast_add]
 refine#[a.map λr=>((r.length:Nat):Int),by rw[b9];rfl,?_]
 rw[I];have m:=yF x ((lsum a:Nat):Int) (by lia)
 refine#[by show(0:Int)<((lsum a:Nat):Int);lia,trivial,?_]
 obtain⟨u,g⟩:∃n:Nat,x%((lsum a:Nat):Int)=(n:Int):=#[(x%((lsum a:Nat):Int)).toNat,by lia]
 refine jm (λm ρ=>∃(k n:Nat),ρ= [some (.lst (a.map au)),some (ae n),some (ae k)]/\m+k=a.length/\n<lsum (a.drop k)) a.length #[0,u,by rw[show ae u= .int (x%((lsum a:Nat):Int)) by unfold ae;rw[g]];rfl,rfl,by rw[List.drop_zero];lia] ?_
 rintro m _ ⟨k,n,rfl,mk,b⟩
 have c:k<a.length:=by
  apply Da;intro z;rw[zY (by lia)] at b
  exact absurd b (ab6 _)
 have i:gh (a.map au) (k:Int)=some (au (a.getD k [])):=fI (by rw[b7,b8 c,ck,b8 c];rfl)
 have em:a.getD k []∈a:=by rw[ck,b8 c];exact uA c
 have L:a.drop k=a.getD k []::a.drop (k+1):=by rw[ck,b8 c];exact nZ c
 generalize a.getD k []=r at*;have j:(r.map ae).length=r.length:=aG _;rw[L] at b;have b:n<r.length+lsum (a.drop (k+1)):=by unfold lsum at b ⊢;rw[bT,rM] at b;exact b
 exists _,rfl,_,rfl,_,rfl,_,i;refine#[_,rfl,cI (λe=>?_) (λe=>?_)]
 .have e:((r.map ae).length:Int)<=(n:Int):=by simpa using e
  exists _,rfl,_,rfl,_,rfl,_,i,trivial;refine#[_,rfl,trivial,m-1,by lia,k+1,n-r.length,?_,by lia,by lia]
  rw[show ae (n-r.length)= .int ((n:Int)-((r.map ae).length:Int)) by rw[j];unfold ae;rw[Int.ofNat_sub (by lia)]]
  rfl
 .have e:¬((r.map ae).length:Int)<=(n:Int):=by simpa using e
  exact#[_,rfl,_,rfl,_,i,_,rfl,by show 2<=sizeLine;decide,q r em n (by lia)]
theorem vd{r:List Nat}{k:Nat}(h:k<r.length):gh (r.map ae) ((k:Int)-1)=some (ae (r.getD ((k+(r.length-1))%r.length) 0)):=by
 cases k with
 |zero=>
  rw[qu,gP (by lia)]
  refine BC (j:=r.length-1) (n:=r.length) (aG _) ?_ ?_
  .unfold lL
   rw[ir (by lia),ls (by lia)]
   exact FS some (by lia)
  .rw[b7,ck,b8 (by lia:r.length-1<r.length)];rfl
 |succ k=>
  rw[show k+1+(r.length-1)=k+r.length by lia,aa3,gP (by lia),show((k+1:Nat):Int)-1=(k:Int) by lia]
  exact jy (by lia)
theorem jv:dr Z G [] []:=#[rfl,λi d h=>by cases i<;>cases h]
theorem bw(d:Dv Z G v x)(h:dr Z G a b):dr Z G (some v::a) (some x::b):=#[FS (·+1) h.1,λi y e=>by
 cases i with
 |zero=>cases e;exact#[v,rfl,d]
 |succ i=>exact h.2 i y e]
theorem cS(h:dr Z G a b):dr Z G (o::a) (none::b):=#[FS (·+1) h.1,λi y e=>by
 cases i with
 |zero=>cases e
 |succ i=>exact h.2 i y e]
def lH(w:W):Prop:=Good w/\1<=w.length/\w.length<=14/\(2<=w.length->iX w)
def QT(w:W)(n:Int)(P:W->Prop):Prop:=lH w/\∀a,lH a->P a
theorem iR(h:Rw Z a v G H b):Dv Z G (.ref a) (aP v):= .lst h.at_ h.dv
theorem Nk:FnOk P w Z.K mg base cF 2 T.d__law_deed.f T.d__law_deed.fd ["_law_turns_here","_law_number"] (Ez Z QT):=by
 have nd:=rA.nd;refine T.d__law_deed.F.ok rA (λvs H Q E h=>?_) (λbG A outer s H vs Q E C h=>?_)
 .obtain⟨G,a,n,w,u,P,rfl,_⟩:=h;rfl
 have hu:=C.units;obtain⟨G,a,n,c,u,P',rfl,R0,⟨⟨g,l1,pq,pl⟩,q0⟩,q⟩:=h
 refine#[_,dB (lh (aI (Z:=Z) T.d__law_corner (wU T) C (ab (aI T.d__law_lands (pH T) C (ab (aa 0) af)) (ab (bg xo (aa 1) ay) af))) (CB rfl (qK (t6 (i:=2) nd rfl (by subst_eqs)) (qK (t6 (i:=3) nd rfl (by subst_eqs)) yU))))
  (dB (jY (i:=4) nd rfl (by subst_eqs) (aQ (Z:=Z) (aa 2) (aa 3)))
  (dB (GR (DW.dt (Z:=Z) (gX (DW.dt (xf (aV (kC hu) (bg fP (aa 1) ay) ay (bf _)) (tD (aV pF (az bq rfl T.B.len bh (ab (aa 0) af)) ay (bf _))))) (gu (aV (kC hu) (az bq rfl T.B.len bh (ab (aa 0) af)) ay (bf _)))))
   (dB (lh (aI (Z:=Z) T.d__law_behind (jI T) C (ab (aQ (aa 0) (aa 4)) (ab (aQ (aa 2) (bg k9 (aa 3) ay)) (ab (az bq rfl T.B.len bh (ab (aa 0) af)) af)))) (qJ (pv 0) (aa (Z:=Z) 4) set_list))
   (dB (fW (sA Os aat aau g6 (pv 0) (cK (gR (Z:=Z) (ab (aa 4) af)) fQ)))
   (pM (m9 (fq (Z:=Z)))))) yW)
  (dB (jY (i:=5) nd rfl (by subst_eqs) (bg (Z:=Z) fP (bg xo (aa 1) ay) (az bq rfl T.B.len bh (ab (aa 2) af))))
  (dB (jY (i:=6) nd rfl (by subst_eqs) (aQ (Z:=Z) (aa 2) (aa 5)))
  (dB (GR (DW.dt (Z:=Z) (xf (aV (g7 hu) (aa 6) (aa 4) (bf _)) (tD (aV u7 (aa 6) (aQ (aa 0) (aa 4)) (by with_unfolding_all rfl)))))
   (dB (lh (aI (Z:=Z) T.d__law_behind (jI T) C (ab (aQ (aa 0) (aa 4)) (ab (aQ (aa 2) (bg k9 (aa 3) ay)) (ab (aa 6) af)))) (qJ (pv 0) (aa (Z:=Z) 4) set_list))
   (pM (lh (aI (Z:=Z) T.d__law_behind (jI T) C (ab (aQ (aa 0) (aa 6)) (ab (aQ (aa 2) (bg k9 (aa 5) ay)) (ab (aa 4) af)))) (qJ (pv 0) (aa (Z:=Z) 6) set_list)))) yW)
  (pM (m9 (fq (Z:=Z))))))))),?_]
 have lw:(c.map au).length=c.length:=aG _;refine#[G,[some (aP c),some (.int n),none,none,none,none,none],λd=>∃r i,d= .tup [au r,ae i]/\xb c r/\i<r.length/\(2<=c.length->∃d rd,cG c d rd/\aw c d/\r=rd.map (·.1)),R0.sub,bw (iR R0) (bw (.int n) (cS (cS (cS (cS (cS jv)))))),?_,?_]
 .exact#[_,rfl,c,rfl,g,l1,pq,λrs r0 rl ok _ rd=>#[_,rfl,#[by decide,by decide],rs,n / 4,rfl,r0,rl,λr C=>#[(ok r C).ne,(ok r C).sz],λr C i U=>#[r,i,rfl,ok r C,U,λI=>rd I r C]]]
 rintro _ ⟨r,i,rfl,L,U,wJ⟩ v G1 H1 x1 qV;obtain⟨t,vs,rfl,ht,ds⟩:=qV.sq;obtain⟨vw,vi,rfl,dw,di⟩:=ds.GC;cases di.ofInt;exists t,[vw, .int (i:Int)],rfl,fg.of (x1.sub _ _ ht),rfl,_,_,rfl,_,_,rfl,rfl;have R1:=R0.ext x1;have X1:=iB.of (a:=a) x1;have O:=L.lt i U;obtain⟨p,ep⟩:∃p,p=r.getD i 0:=#[_,rfl];rw[<-ep] at O;have BB:gh (r.map ae) (i:Int)=some (ae p):=by rw[ep];exact jy U
 refine#[G1,[some (aP c),some (.int n),some (au r),some (ae i),none,none,none],λd=>d=ae p,R1.sub,bw (iR R1) (bw (.int n) (bw dw (bw (.int _) (cS (cS (cS jv)))))),#[_,rfl,_,rfl,_,BB,rfl],?_];rintro _ rfl v2 G2 H2 x2 yb;cases yb.ofInt;have R2:=R1.ext x2;have X2:=X1.trans (iB.of x2);have To:=dw.mono x2.gg;clear R1 X1 dw qV ds di ht;refine#[G2,[some (aP c),some (.int n),some (au r),some (ae i),some (ae p),none,none],λb=>(b=true->c.length<=13)/\(b=false->2<=c.length),R2.sub,bw (iR R2) (bw (.int n) (bw To (bw (.int _) (bw (.int _) (cS (cS jv)))))),?_,?_]
 .have last:∀Q:Bool->Prop,(∀b,(b=true->c.length<=13)/\(b=false->2<=c.length)->Q b)->BM (FU BL (uI oJ (Ln (LB 0) fB)) (dC (D.int 1))) [some (aP c),some (.int n),some (au r),some (ae i),some (ae p),none,none] Q:=λQ hQ=>by
   exists _,rfl;dsimp only[fB,oJ,aP];refine L8 #[_,rfl,hQ _ #[λe=>?_,λe=>?_]]
   .have:=KF e;lia
   .have:=On e;lia
  refine#[_,rfl,(by show(0:Int)<4;decide),L8 #[_,rfl,cI (λ_=>?_) (λ_=>bJ (last _ λb h=>h))]]
  refine#[_,rfl,#[_,rfl,cI (λe=>#[λ_=>?_,λz=>nomatch z]) (λe=>last _ λb h=>h)]]
  have:((c.map au).length:Int)<14:=KF e
  lia
 rintro b ⟨Pk,hb2⟩ G3 H3 x3;have X:=R2.ext x3;have X3:=X2.trans (iB.of x3);have Jz:=To.mono x3.gg;clear R2 X2 To;have r0:0<r.length:=by lia
 have Y8:∀{k:Nat},k<r.length->row c (r.getD k 0)≠ []->r.getD ((k+(r.length-1))%r.length) 0∈row c (r.getD k 0):=λ {k} hk ne=>by
  by_cases I:2<=c.length
  .exact L.tie I k hk
  .obtain rfl:=pJ g (by lia)
   have:=L.lt k hk
   have e0:r.getD k 0=0:=by have:r.getD k 0<1:=this;lia
   rw[e0] at ne;exact absurd rfl ne
 obtain⟨x,ex⟩:∃x,x=r.getD ((i+(r.length-1))%r.length) 0:=#[_,rfl];have VW:gh (r.map ae) ((i:Int)-1)=some (ae x):=by rw[ex];exact vd U
 have tx:row c p≠ []->x∈row c p:=λne=>by rw[ex,ep];rw[ep] at ne;exact Y8 U ne
 have rlp:=c7 g p;cases b with
 |true=>
  have h13:=Pk rfl;refine dH ?_;refine#[G3,[some (aP c),some (.int n),some (au r),some (ae i),some (ae p),none,none],λd=>d=au (fR (row c p) x c.length),X.sub,bw (iR X) (bw (.int n) (bw Jz (bw (.int _) (bw (.int _) (cS (cS jv)))))),?_,?_]
  .refine#[_,rfl,_,rfl,_,fF O,_,rfl,_,rfl,_,VW,_,rfl,row c p,x,c.length,by rw[<-lw];rfl,by lia,tx,rfl]
  rintro _ rfl v4 G4 H4 x4 L5;exists .ref a,rfl;have Y:=X.ext x4;have X4:=X3.trans (iB.of x4);have L7:=Jz.mono x4.gg;clear X X3 Jz;refine#[G4,[some (aP c),some (.int n),some (au r),some (ae i),some (ae p),none,none],λd=>d=ae p,Y.sub,bw (iR Y) (bw (.int n) (bw L7 (bw (.int _) (bw (.int _) (cS (cS jv)))))),#[_,rfl,rfl],?_];rintro _ rfl v5 G5 H5 x5 Th;have J:=Y.ext x5;have X5:=X4.trans (iB.of x5);have L5:=L5.mono x5.gg;have xl:u.length=c.length:=by rw[J.dv.length,aG]
  refine#[a,u,(p:Int),p,rfl,Th.ofInt,J.sub _ _ J.at_,Cd (by rw[xl];exact O),?_]
  have d6:DvAll Z G5 (u.set p v4) ((c.set p (fR (row c p) x c.length)).map au):=by
   rw[<-mF];exact J.dv.set L5 p
  have M:=J.put d6 (λz=>by have:=FS bi z;rw[f9,mJ] at this;lia)
  have X6:=X5.trans (iB.put (.lst (u.set p v4)));exists .ref a,rfl,ty_list (M.sub _ _ M.at_);refine#[_,[none,none,none,none,some (ae p),none,none],λd=>d=au [p],M.sub,cS (cS (cS (cS (bw (.int _) (cS (cS jv)))))),#[_,rfl,by show 1<=sizeLine;decide,rfl],?_]
  rintro _ rfl N G7 H7 x7 L6;have R:=M.ext x7;have X7:=X6.trans (iB.of x7);refine#[a,u.set p v4,N,rfl,rfl,R.sub _ _ R.at_,by rw[f9,xl];exact abH pq (by decide),?_]
  have d8:DvAll Z G7 (u.set p v4++ [N]) ((mS c p x).map au):=by
   unfold mS;rw[c8];exact R.dv.append (.cons L6 .nil)
  have S:=R.put d8 (λz=>by have:=FS bi z;rw[ku,mJ] at this;lia)
  have X8:=X7.trans (iB.put (.lst (u.set p v4++ [N])));refine#[_,[none,none,none,none,none,none,none],λd=>d= .bl true,S.sub,cS (cS (cS (cS (cS (cS (cS jv)))))),rfl,?_];rintro _ rfl v9 G9 H9 x9 Tj;cases Tj.tW;refine q _ (q0 (mS c p x) #[k7 g O,by rw[ku];lia,by rw[ku];lia,λ_=>?_]) G9 H9 _ (S.ext x9) (X8.trans (iB.of x9))
  by_cases I:2<=c.length
  .obtain⟨d,rd,Rd,dd,rfl⟩:=wJ I
   rw[aG] at U;exact yA g Rd dd U (by rw[ep];exact hZ ..) (by rw[ex,aG];exact hZ ..) (pl I)
  .obtain rfl:=pJ g (by lia)
   obtain rfl:p=0:=by have:p<1:=O;lia
   exact ES
 |false=>
  have I:=hb2 rfl;refine bJ ?_;obtain⟨d,rd,Rd,dd,FX⟩:=wJ I;have lr:(r.map ae).length=r.length:=aG _;have lrd:r.length=rd.length:=by rw[FX,aG]
  have m:=yF (n / 288) ((r.map ae).length:Int) (by rw[lr];lia)
  obtain⟨j,hj⟩:∃j:Nat,n / 288%((r.map ae).length:Int)=(j:Int):=#[(n / 288%((r.map ae).length:Int)).toNat,by lia]
  have jl:j<r.length:=by lia
  refine#[G3,[some (aP c),some (.int n),some (au r),some (ae i),some (ae p),none,none],λd=>d=ae j,X.sub,bw (iR X) (bw (.int n) (bw Jz (bw (.int _) (bw (.int _) (cS (cS jv)))))),#[_,rfl,#[by decide,by decide],_,rfl,(by rw[lr];show(0:Int)<_;lia),FS D.int hj],?_]
  rintro _ rfl v4 G4 H4 x4 L5;cases L5.ofInt;have Y:=X.ext x4;have X4:=X3.trans (iB.of x4);have L7:=Jz.mono x4.gg;clear X X3 Jz;obtain⟨l,eq⟩:∃l,l=r.getD j 0:=#[_,rfl];have at2:gh (r.map ae) (j:Int)=some (ae l):=by rw[eq];exact jy jl
  have hq:l<c.length:=by rw[eq];exact L.lt j jl
  refine#[G4,[some (aP c),some (.int n),some (au r),some (ae i),some (ae p),some (ae j),none],λd=>d=ae l,Y.sub,bw (iR Y) (bw (.int n) (bw L7 (bw (.int _) (bw (.int _) (bw (.int _) (cS jv)))))),#[_,rfl,_,rfl,_,at2,rfl],?_];rintro _ rfl v5 G5 H5 x5 Th;cases Th.ofInt;have J:=Y.ext x5;have X5:=X4.trans (iB.of x5);have Tp:=L7.mono x5.gg;clear Y X4 L7
  have fin:∀(w2:W)(G' H':Hp)(ys:List V)(σ:St),σ.length=7->Rw Z a w2 G' H' ys->iB a G H G' H'->lH w2->eO Z (dC (D.bl true)) σ H' Q:=λw2 G' H' ys σ sl Rx Xx ok=>by
   refine#[G',ak 7 none,λd=>d= .bl true,Rx.sub,#[by rw[zZ,sl],λi d h=>by rw[zX] at h;split at h<;>cases h],rfl,?_]
   rintro _ rfl v9 G9 H9 x9 Tj;cases Tj.tW;exact q _ (q0 w2 ok) G9 H9 _ (Rx.ext x9) (Xx.trans (iB.of x9))
  refine#[G5,[some (aP c),some (.int n),some (au r),some (ae i),some (ae p),some (ae j),some (ae l)],λb=>b=true->l≠p/\l∉row c p,J.sub,bw (iR J) (bw (.int n) (bw Tp (bw (.int _) (bw (.int _) (bw (.int _) (bw (.int _) jv)))))),?_,?_]
  .refine#[_,rfl,_,rfl,?_]
   refine(?_:rS (.int (l:Int)) (.int (p:Int)) _);refine ju #[_,rfl,cI (λe=>?_) (λe z=>nomatch z)];exists _,rfl,_,rfl,_,rfl,_,fF O,rfl,dA _,_,rfl;rw[ls rfl,iH];exact λz=>#[λy=>by rw[y] at e;simp at e,by simpa using z]
  rintro b hb G6 H6 x6;have M:=J.ext x6;have X6:=X5.trans (iB.of x6);have Tq:=Tp.mono x6.gg;clear J X5 Tp;cases b with
  |false=>
   refine bJ ?_;exact fin c G6 H6 u _ rfl M X6 #[g,l1,pq,pl]
  |true=>
   obtain⟨ne,nt⟩:=hb rfl;refine dH ?_;obtain⟨y,ey⟩:∃y,y=r.getD ((j+(r.length-1))%r.length) 0:=#[_,rfl];have ZX:gh (r.map ae) ((j:Int)-1)=some (ae y):=by rw[ey];exact vd jl
   have rlq:=c7 g l;have ty:y∈row c l:=by rw[ey,eq];exact L.tie I j jl
   refine#[G6,[some (aP c),some (.int n),some (au r),some (ae i),some (ae p),some (ae j),some (ae l)],λd=>d=au (fR (row c p) x l),M.sub,bw (iR M) (bw (.int n) (bw Tq (bw (.int _) (bw (.int _) (bw (.int _) (bw (.int _) jv)))))),#[_,rfl,_,rfl,_,fF O,_,rfl,_,rfl,_,VW,_,rfl,row c p,x,l,rfl,by lia,tx,rfl],?_]
   rintro _ rfl N G7 H7 x7 L6;exists .ref a,rfl;have R:=M.ext x7;have X7:=X6.trans (iB.of x7);have Tr:=Tq.mono x7.gg;clear M X6 Tq;refine#[G7,[some (aP c),some (.int n),some (au r),some (ae i),some (ae p),some (ae j),some (ae l)],λd=>d=ae p,R.sub,bw (iR R) (bw (.int n) (bw Tr (bw (.int _) (bw (.int _) (bw (.int _) (bw (.int _) jv)))))),#[_,rfl,rfl],?_];rintro _ rfl v8 G8 H8 x8 Ti;have S:=R.ext x8;have X8:=X7.trans (iB.of x8);have L6:=L6.mono x8.gg;have dw8:=Tr.mono x8.gg;clear R X7 Tr;have xl:u.length=c.length:=by rw[S.dv.length,aG]
   refine#[a,u,(p:Int),p,rfl,Ti.ofInt,S.sub _ _ S.at_,Cd (by rw[xl];exact O),?_]
   have d9:DvAll Z G8 (u.set p N) ((c.set p (fR (row c p) x l)).map au):=by
    rw[<-mF];exact S.dv.set L6 p
   have sl:(c.set p (fR (row c p) x l)).length=c.length:=f9 ..;have R9:=S.put d9 (λz=>by have:=FS bi z;rw[sl,mJ] at this;lia)
   have X9:=X8.trans (iB.put (.lst (u.set p N)));have Ws:Dv Z (upd G8 a (.lst (u.set p N))) vw (au r):=E1 S dw8 λb o n e=>by rw[aB n];exact e
   have rq:row (c.set p (fR (row c p) x l)) l=row c l:=by rw[pO O,ir (Ne.symm ne)]
   have VV:=fF (w:=c.set p (fR (row c p) x l)) (p:=l) (by rw[sl];exact hq)
   rw[rq] at VV;refine#[_,[some (aP (c.set p (fR (row c p) x l))),some (.int n),some (au r),some (ae i),some (ae p),some (ae j),some (ae l)],λd=>d=au (fR (row c l) y p),R9.sub,bw (iR R9) (bw (.int n) (bw Ws (bw (.int _) (bw (.int _) (bw (.int _) (bw (.int _) jv)))))),#[_,rfl,_,rfl,_,VV,_,rfl,_,rfl,_,ZX,_,rfl,row c l,y,p,rfl,by lia,λ_=>ty,rfl],?_]
   rintro _ rfl v10 OG K0 C1 L3;exists .ref a,rfl;have VN:=R9.ext C1;have Zv:=X9.trans (iB.of C1);have aad:=Ws.mono C1.gg;refine#[OG,[none,none,none,none,none,none,some (ae l)],λd=>d=ae l,VN.sub,cS (cS (cS (cS (cS (cS (bw (.int _) jv)))))),#[_,rfl,rfl],?_];rintro _ rfl v11 Sn OH KW L4;have OM:=VN.ext KW;have Zw:=Zv.trans (iB.of KW);have L3:=L3.mono KW.gg;refine#[a,u.set p N,(l:Int),l,rfl,L4.ofInt,OM.sub _ _ OM.at_,Cd (by rw[f9,xl];exact hq),?_]
   have et:tie c p ((row c p).idxOf x+1) l ((row c l).idxOf y+1)=(c.set p (fR (row c p) x l)).set l (fR (row c l) y p):=rfl
   have Z3:DvAll Z Sn ((u.set p N).set l v10) ((tie c p ((row c p).idxOf x+1) l ((row c l).idxOf y+1)).map au):=by
    rw[et,<-mF (c.set p _)];exact OM.dv.set L3 l
   have Zu:=OM.put Z3 (λz=>by have:=FS bi z;rw[jA,mJ] at this;lia)
   have Zx:=Zw.trans (iB.put (.lst ((u.set p N).set l v10)));have tp:=zu g Rd dd (i:=i) (j:=j) (by lia) (by lia) (p:=p) (q:=l) (x:=x) (y:=y) (by rw[ep,FX];exact hZ ..) (by rw[eq,FX];exact hZ ..) (by rw[ex,FX,aG];exact hZ ..) (by rw[ey,FX,aG];exact hZ ..) ne nt
   exact fin _ _ _ _ _ rfl Zu Zx #[tp.1,by rw[jA];lia,by rw[jA];lia,λ_=>tp.2 (pl I)]
variable {P:Program} {w:World} {mg:Str->Option Value} {base:Heap} {Z:DC} (T:Txt Z mg)
theorem KO{l m:List Nat}(h:l.Perm m):l.sum=m.sum:=by
 induction h with
 |nil=>rfl
 |cons x _ c=>rw[rM,rM,c]
 |swap x y l=>simp only[rM];lia
 |trans _ _ a b=>exact a.trans b
theorem xU(w:W):gr w=((ad w.length).map λp=>(row w p).length).sum:=by
 unfold gr
 congr 1
 refine rJ λi=>?_;rw[b7,b7]
 by_cases h:i<w.length
 .rw[n5 h,b8 h]
  unfold row;rw[Option.map_some,Option.map_some,ck,b8 h];rfl
 .rw[iu (by lia),iu (by rw[n9];lia)];rfl
theorem NJ{w v:W}(g:Good w)(b:Good v)(d:2<=w.length)(P:iX w)(N:By w v a)(f:gr v=gr w):iX v:=by
 obtain⟨c,F,e⟩:=P;have E:Eu true w:=λ_=>#[c,F,by lia,λ_=>e]
 obtain⟨h,i,_,j⟩:=E.UH g b N f (by rw[N.len];exact d)
 exact#[h,i,j rfl]
structure Dq (w F:W) (ns:List Nat) (k:Nat):Prop where
 l:F.length=w.length
 r:∀i,i<k->∃a,row F (ns.getD i 0)=((row w i).drop a++(row w i).take a).map λx=>ns.getD x 0
theorem Dq.step{w F:W}{b:List Nat}{k:Nat}(a:Nat)(h:Dq w F b k)(N:xw w.length b)(d:k<w.length):Dq w (F.set (b.getD k 0) (((row w k).drop a++(row w k).take a).map λx=>b.getD x 0)) b (k+1):=by
 have lt:b.getD k 0<F.length:=by rw[h.l];exact N.2.2 _ (rU (by rw[N.1];exact d))
 refine#[by rw[f9];exact h.l,λi f=>?_]
 by_cases c:i=k
 .subst c
  exact#[a,by rw[y4 lt,ls rfl]]
 .obtain⟨x,e⟩:=h.r i (by lia)
  exact#[x,by rw[y4 lt,ir (λz=>c (getD_inj N.2.1 (by rw[N.1];lia) (by rw[N.1];lia) z.symm)),e]]
theorem Dq.UH{w F:W}(h:Dq w F c w.length)(N:xw w.length c):By w F λx=>c.getD x 0:=by
 refine#[h.l,λx b=>N.2.2 _ (rU (by rw[N.1];exact b)),λx y b d e=>getD_inj N.2.1 (by rw[N.1];exact b) (by rw[N.1];exact d) e,λy d=>?_,λx b=>?_]
 .obtain⟨i,f,e⟩:=Bv.mp (yG N d)
  exact#[i,by rw[N.1] at f;exact f,by rw[ck,b8 f];exact e]
 .obtain⟨a,e⟩:=h.r x b
  exact#[a,by rw[e,c8,vE,sT]]
theorem Dq.good{w F:W}(h:Dq w F b w.length)(N:xw w.length b)(g:Good w):Good F/\(2<=w.length->iX w->iX F):=by
 have M:=h.UH N
 have f:Good F:=JF g M.len M.lt M.inj M.sur λp d=>by
  obtain⟨a,e⟩:=M.row p d;rw[e]
  have:=mK (l₁:=((row w p).map λx=>b.getD x 0).drop a) (l₂:=((row w p).map λx=>b.getD x 0).take a)
  rwa [iU] at this
 refine#[f,λj P=>NJ g f j P M ?_]
 have k:(ad w.length).map (λp=>b.getD p 0)=b:=by
  refine rJ λi=>?_;rw[b7]
  by_cases c:i<w.length
  .rw[n5 c,b8 (by rw[N.1];exact c),Option.map_some,ck,b8 (by rw[N.1];exact c)];rfl
  .rw[iu (by rw[n9];lia),iu (by rw[N.1];lia)];rfl
 have l:b.Perm (ad w.length):=(mH N.2.1 sR).mpr λx=>#[λh=>dE.mpr (N.2.2 x h),λh=>yG N (dE.mp h)];rw[xU,M.len,xU w,<-KO (l.map λx=>(row F x).length),<-k,b9]
 congr 1
 refine De λp d=>?_;obtain⟨a,e⟩:=h.r p (dE.mp d);show(row F (b.getD p 0)).length=_;rw[e,aG,cE,qr,gO];lia
theorem Et:∀(a:List D)(c:DN)(b:List D)(N:List D->Prop),b.length+a.length<=sizeLine->N (b++ak a.length (.lst []))->MX (tu i) (RF fB) a c b N
 | [],c,b,N,_,h=>by
  show N b;simpa using h
 |x::d,c,b,N,e,h=>by
  rw[bN] at e;refine#[by show 0<=sizeLine;decide,by lia,?_]
  refine Et d _ (b++ [.lst []]) N (by simp;lia) ?_
  rw[f6];exact h
def KJ:cv:=λb P=>∃(w:W)(a:List Int),b= [aP w, .lst (iJ a)]/\lH w/\a.length=28/\∀v,lH v->v.length=w.length->P (aP v)
theorem wO:FnOk P w Z.K mg base cF 1 T.d__law_named.f T.d__law_named.fd ["_law_turns_here","_law_row_here"] (c4 Z 2 KJ):=by
 have n:=pY.nd;refine je 2 T.d__law_named.F pY [0,0,1,0,2,0,0,0] (by decide) (λds R h=>by obtain⟨_,_,rfl,_⟩:=h;rfl) (λbG A outer s H E ds R hr h=>?_)
 have hu:=hr.units
 refine#[_,(ah (gT 2 n (gS af))
   (ah (DZ rfl Gc (xX rfl T.B.range (ab (az bq rfl T.B.len bh (ab (aa 0) af)) af)) (aJ 3 n) (ao (O5 false 2 (bg fP (aQ (aa 1) (aa 3)) (bg cO (aa 3) ay)) (aa 3))))
   (ah (FW 4 (NC:= ["_law_p"]) (src:= [none]) rfl n (qT (av gM)) trivial (bL (aa 0)) (λ_ _ _=>(cw 0 (show(["_law_p"]:List Str).Nodup from by decide+kernel))) (λ_ _ _=>(gS af)))
   (ah (cH rfl Gc (dY rfl T.B.enumerate (ab (aa 0) af)) (eH 2 rfl (aN (aJ 5 n) (aN (aJ 6 n) cz))) (ah (bz false 7 n (bg fP (aQ (aa 1) (bg cO ay (aa 5))) (az (xO rfl) rfl T.B.max BF (ab ay (ab (az bq rfl T.B.len bh (ab (aa 6) af)) af)))))
   (ao (D0 4 (aQ (aa 2) (aa 5)) (LK (NC:= ["_law_q","_law_order"]) (src:= [none,some 2]) rfl (qT (av gM)) #[rfl,rfl,trivial] (bL (bg cO (jb (aa 6) (ko (aa 7)) kn) (jb (aa 6) kn (ko (aa 7))))) (λ_ _ _=>(cw 0 (show(["_law_q","_law_order"]:List Str).Nodup from by decide+kernel))) (λ_ _ _=>e8) (λ_ _ _=>(aQ (aa 1) (aa 0))))))))
   (ao (LZ 4)))))),?_]
 obtain⟨c,e,rfl,⟨g,h1,bX,pl⟩,xl,q⟩:=h;have C:(c.map au).length=c.length:=aG _;refine#[by show 0<=sizeLine;decide,?_]
 refine#[_,rfl,#[by lia,by show((c.map au).length:Int)<2^62;lia],?_]
 rw[show(((c.map au).length:Int)).toNat=c.length by lia]
 refine AZ (λj ρ=>∃(b:List Nat)(t:Option D),ρ= [some (aP c),some (.lst (iJ e)),some (au b),t,none,none,none,none]/\xw j b) #[[],_,rfl,rfl,gQ,λx h=>by cases h] ?_ ?_
 .rintro j _ hj ⟨b,t,rfl,M,n,lt⟩ A I
  have y:=yF (e.getD j 0) ((j:Int)+1) (by lia)
  have u:(b.map ae).length=j:=by rw[aG,M]
  refine#[_,rfl,_,rfl,_,rfl,_,Ek (by lia),_,rfl,by show(0:Int)<(j:Int)+1;lia,_,rfl,_,rfl,trivial,#[y.1,by rw[u];show e.getD j 0%((j:Int)+1)<=_;lia,dG (by rw[u];lia)],?_]
  refine I _ #[ins b (e.getD j 0%((j:Int)+1)).toNat j,some (ae j),?_,by rw[pj,M],kA n (λz=>by have:=lt j z;lia),λx J=>?_]
  .unfold au;rw[<-JW];rfl
  .rcases dZ.mp J with rfl|J
   .lia
   .have:=lt x J;lia
 .rintro _ ⟨b,t,rfl,N⟩
  refine#[_,rfl,Et _ _ [] _ (by rw[C];exact small (by simp;lia)) ?_]
  have e0:D.lst ([]++ak (c.map au).length (.lst []))=aP (ak c.length []):=by
   unfold aP;rw[C,List.map_replicate];rfl
  rw[e0];refine#[_,rfl,bM (λk ρ=>∃(F:W)(o5 o6 o7:Option D),ρ= [some (aP c),some (.lst (iJ e)),some (au b),t,some (aP F),o5,o6,o7]/\Dq c F b k) #[_,_,_,_,rfl,by simp,λi h=>by lia] ?_ ?_]
  .rintro k d _ hd ⟨F,p5,p6,p7,rfl,m⟩ A I
   obtain⟨O,rfl⟩:=rB hd;have rl:=c7 g k;generalize Q:row c k=r at rl;have u:(r.map ae).length=r.length:=aG _;exists rfl,rfl;have v:(0:Int)<(if ((r.map ae).length:Int)>1 then((r.map ae).length:Int) else 1):=by split<;>lia
   have y:=yF (e.getD (14+k) 0) (if ((r.map ae).length:Int)>1 then((r.map ae).length:Int) else 1) v;refine#[_,rfl,_,rfl,_,Ek (l:=e) (p:=14+k) (by lia),_,rfl,_,_,rfl,v,trivial,?_]
   obtain⟨a,S⟩:∃a:Nat,e.getD (14+k) 0%(if ((r.map ae).length:Int)>1 then((r.map ae).length:Int) else 1)=(a:Int):=#[(e.getD (14+k) 0%(if ((r.map ae).length:Int)>1 then((r.map ae).length:Int) else 1)).toNat,by lia]
   have al:a<=r.length:=by
    rw[S] at y;have h2:=y.2
    split at h2<;>lia
   refine Nd [some (aP c),some (.lst (iJ e)),some (au b),t,some (aP F),some (ae k),some (au r),some (ae a)] (by rw[show ae a= .int (e.getD (14+k) 0%(if ((r.map ae).length:Int)>1 then((r.map ae).length:Int) else 1)) by unfold ae;exact FS D.int S.symm];rfl) ?_
   have U:cutD (r.map ae) (some (a:Int)) none=(r.drop a).map ae:=by rw[rR _ _ (by rw[u];lia),vE]
   have X:cutD (r.map ae) none (some (a:Int))=(r.take a).map ae:=by rw[mN _ _ (by rw[u];lia),sT]
   have l2:(r.drop a++r.take a).length=r.length:=by rw[cE,qr,gO];lia
   have Hi:(cutD (r.map ae) (some (a:Int)) none).length+(cutD (r.map ae) none (some (a:Int))).length<=sizeLine:=by
    rw[U,X,aG,aG];exact small (by rw[cE] at l2;lia)
   exists _,rfl,_,rfl,_,rfl,_,rfl,Hi;refine(?_:lcW _ _ _ (cutD (r.map ae) (some (a:Int)) none++cutD (r.map ae) none (some (a:Int))) _ _ _);rw[U,X,<-c8];refine jr (ρ:= [none,some (au b)]) ae (λo=>ae (b.getD o 0)) (r.drop a++r.take a) _ (λo ho Y hY=>?_) rfl (small (by lia)) λaL=>?_
   .have:o∈r:=by
     have:o∈r.take a++r.drop a:=mK.mem_iff.mp ho
     rw[iU] at this;exact this
    have bY:o<b.length:=by rw[N.1];exact g.rng k o (by rw[Q];exact this)
    exact#[_,rfl,_,rfl,_,jy bY,hY]
   .have Uc:k<b.length:=by rw[N.1];exact O
    have L:b.getD k 0<F.length:=by rw[m.l];exact N.2.2 _ (rU Uc)
    refine#[?_,_,rfl,_,rfl,_,rfl,_,jy Uc,_,b.getD k 0,rfl,j7 (by rw[aG];exact L),?_]
    .rw[List.all_map,zT];intro x _;rfl
    .have Kc:=m.step a N O
     rw[Q] at Kc;refine I _ #[_,some (ae k),some (au r),some (ae a),?_,Kc]
     have es:(.lst ((F.map au).set (b.getD k 0) (.lst ((r.drop a++r.take a).map λo=>ae (b.getD o 0)))):D)=aP (F.set (b.getD k 0) ((r.drop a++r.take a).map λx=>b.getD x 0)):=by
      unfold aP;rw[<-mF];unfold au;rw[b9];rfl
     rw[<-es];rfl
  .rintro _ ⟨F,p5,p6,p7,rfl,m⟩
   rw[fu,C] at m;have G:=m.good N g;exact#[_,rfl,q F #[G.1,by rw[m.l];lia,by rw[m.l];lia,λn2=>G.2 (by rw[<-m.l];exact n2) (pl (by rw[<-m.l];exact n2))] m.l]
theorem JE:Good [[]]:=#[λp q h=>by have:=aU h;cases p<;>simp[row] at h,λp h=>by have:=aU h;cases p<;>simp[row] at h,λp=>by cases p<;>simp[row],λp q h=>by have:=aU h;cases p<;>simp[row] at h,λp a=>by
 obtain rfl:p=0:=by simpa using a
 exact .refl _]
def KL:cv:=λa P=>∃(b:List Int),a= [.kQ b]/\∀v,lH v->P (aP v)
theorem wQ:FnOk P w Z.K mg base cF 3 T.d__law_turns.f T.d__law_turns.fd ["_law_script"] (c4 Z 2 KL):=by
 have i:=p0.nd;refine je 2 T.d__law_turns.F p0 [0,1,0] (by decide) (λk R h=>by obtain⟨_,rfl,_⟩:=h;rfl) (λt A outer s H E k R a h=>?_)
 have u:=a.units
 refine#[_,(ah (gT 1 i (gS (ab (gR af) af)))
   (ah (cH rfl Gc (bL (aI T.d__law_row (tZ T) a (ab (aa 0) (ab ay (ab ay (ab ay af)))))) (aJ 2 i) (ao (O4 1 T.d__law_deed (Nk T) a (aa 2))))
   (ao (xY (qx T.d__law_named (wO T) a (ab (aa 1) (ab (aI T.d__law_row (tZ T) a (ab (aa 0) (ab ay (ab ay (ab ay af))))) af))))))),?_]
 obtain⟨b,rfl,q⟩:=h;refine#[by show 0<=sizeLine;decide,by show 1<=sizeLine;decide,?_]
 refine#[_,rfl,b,1,36,20736,rfl,by decide,by decide,by decide,by decide,λy B C=>?_]
 refine bM (λj l=>∃(w:W)(c:Option D),l= [some (.kQ b),some (aP w),c]/\lH w) #[[[]],_,rfl,JE,by decide,by decide,λz=>absurd z (by decide)] ?_ ?_
 .rintro j _ _ m ⟨d,c,rfl,ok⟩ A n
  obtain⟨x,G,rfl⟩:=c5 m;exact#[d,rfl,λz=>by have:=ok.2.1;rw[z] at this;exact absurd this (by decide),_,rfl,x,rfl,ok,λo e=>n _ #[o,_,rfl,e]]
 .rintro _ ⟨d,c,rfl,ok⟩
  exact#[_,rfl,_,rfl,b,2,28,5040,rfl,by decide,by decide,by decide,by decide,λp r I=>#[d,p,rfl,ok,r,λv g _=>#[_,rfl,q v g]]]
variable {P:Program} {w:World} {mg:Str->Option Value} {base:Heap} {Z:DC} (T:Txt Z mg)
def Og:cv:=λc P=>∃(w:W)(a b:Nat),c= [.dm w,ae a,ae b]/\Good w/\a<w.length/\b<w.length/\P (.bl (decide (b∈row w a)))
theorem mY:FnOk P w Z.K mg base cF 2 T.m_tied.f T.m_tied.fd ["self","a","b"] (br Z Og):=by
 have i:=ub.nd;refine bA T.m_tied.F ub [0,0,0,0] (by decide) (λj R h=>by obtain⟨_,_,_,rfl,_⟩:=h;rfl) (λn A outer s H E j R d h=>?_)
 have o:=d.units
 refine#[_,(ah (bz false 3 i (az bq rfl T.B.len bh (ab (l7 T.W (aa 0)) af)))
   (ao (aR (kW (aI T.d_is_among (gw T) d (ab (aa 1) (ab (aa 3) af))) (kW (aI T.d_is_among (gw T) d (ab (aa 2) (ab (aa 3) af))) (sZ (kX u6 (aa 2) (aQ (l7 T.W (aa 0)) (aa 1)) (by with_unfolding_all rfl)))))))),?_]
 obtain⟨c,a,b,rfl,g,k,p,q⟩:=h;have e:(c.map au).length=c.length:=aG _;exists _,rfl,c,rfl,trivial;have l:decide ((0:Int)<=(a:Int)/\(a:Int)<((c.map au).length:Int))=true:=by rw[e];exact FM (by lia)
 have m:decide ((0:Int)<=(b:Int)/\(b:Int)<((c.map au).length:Int))=true:=by rw[e];exact FM (by lia)
 refine#[_,rfl,_,rfl,_,_,rfl,_,FS D.bl l,dH ?_];refine#[_,rfl,_,rfl,_,_,rfl,_,FS D.bl m,dH ?_];exists _,rfl,_,rfl,c,rfl,_,rfl,_,fF k,rfl,dA _;rw[ir dD];rw[iH];exact q
theorem iM:FnOk P w Z.K mg base cF 1 T.m_turns.f T.m_turns.fd ["self"] (c4 Z 1 Oh):=by
 have d:=rm.nd;refine je 1 T.m_turns.F rm [0] (by decide) (λb R h=>by obtain⟨_,rfl,_⟩:=h;rfl) (λe A outer s H E b R c h=>?_)
 have g:=c.units;refine#[_,(ao (xY (LK (NC:= ["row"]) (src:= [none]) rfl (qT (av jZ)) trivial (bL (l7 T.W (aa 0))) (λ_ _ _=>(cw 0 (show(["row"]:List Str).Nodup from by decide+kernel))) (λ_ _ _=>e8) (λ_ _ _=>(km xN rfl T.B.list sW (ab (aa 0) af)))))),?_]
 obtain⟨a,rfl,i,q⟩:=h;exact#[_,rfl,a,rfl,jr (ρ:= [none]) au au a _ (λy j Y h=>#[_,rfl,h]) rfl (small (by lia)) λk=>q]
def QW:cv:=λa P=>∃(l:List Nat)(x p:Nat),a= [au l,ae x,ae p]/\l.length<=100/\x∈l/\P (au (fR l x p))
theorem nI:FnOk P w Z.K mg base cF 1 T.d_put_behind.f T.d_put_behind.fd ["row","ahead","p"] (c4 Z 1 QW):=by
 have g:=qa.nd;refine je 1 T.d_put_behind.F qa [0,0,0,0] (by decide) (λi R h=>by obtain⟨_,_,_,rfl,_⟩:=h;rfl) (λm A outer s H E i R j h=>?_)
 have n:=j.units
 refine#[_,(ah (bz false 3 g (bg cO (qw (aa 0) (aa 1)) ay))
   (ao (xY (O1 (bg cO (jb (aa 0) kn (ko (aa 3))) (gR (ab (aa 2) af))) (jb (aa 0) (ko (aa 3)) kn))))),?_]
 obtain⟨l,x,p,rfl,o,a,q⟩:=h;have c:(l.map ae).length=l.length:=aG _;have r:=rF.mpr a;exists _,rfl,_,rfl,_,rfl,rfl,dA _,_,_,(cW a).1,(cW a).2.1,(cW a).2.2,trivial
 have b:cutD (l.map ae) none (some (((l.idxOf x:Nat):Int)+1))=(l.take (l.idxOf x+1)).map ae:=by
  have:=mN (l.map ae) (l.idxOf x+1) (by rw[c];lia)
  rw[sT];exact this
 have d:cutD (l.map ae) (some (((l.idxOf x:Nat):Int)+1)) none=(l.drop (l.idxOf x+1)).map ae:=by
  have:=rR (l.map ae) (l.idxOf x+1) (by rw[c];lia)
  rw[vE];exact this
 have sz:(cutD (l.map ae) none (some (((l.idxOf x:Nat):Int)+1))).length+1<=sizeLine:=by rw[b,aG,gO];exact small (by lia)
 have k:(cutD (l.map ae) none (some (((l.idxOf x:Nat):Int)+1))++ [ae p]).length+(cutD (l.map ae) (some (((l.idxOf x:Nat):Int)+1)) none).length<=sizeLine:=by
  rw[b,d,cE,aG,aG,gO,qr];exact small (by simp;lia)
 have e:(.lst ((cutD (l.map ae) none (some (((l.idxOf x:Nat):Int)+1))++ [ae p])++cutD (l.map ae) (some (((l.idxOf x:Nat):Int)+1)) none):D)=au (fR l x p):=by
  rw[b,d];unfold au fR ins;rw[c8,bT,f6];rfl
 rw[<-e] at q;exact#[_,rfl,_,rfl,_,rfl,by show 1<=sizeLine;decide,sz,_,rfl,_,rfl,_,rfl,_,rfl,k,q]
theorem Kl{w:W}(g:Good w)(i:1<=w.length)(P:2<=w.length->iX w)(R:Rs w a):(w.length:Int)+(a.length:Int)=(tc w:Int)+2:=by
 have j:=IS g;have k:=cQ w
 by_cases h:2<=w.length
 .obtain⟨c,⟨l,b,d,rfl⟩,e⟩:=P h
  have:=Rs.len g R (.inr #[h,kc.rounds g b d])
  rw[aG] at this;lia
 .have f:w.length=1:=by lia
  rcases R with ⟨_,rfl⟩ | ⟨m,_⟩
  .obtain rfl:=pJ g f
   have:(aM ([[]]:W)).length=0:=rfl
   show((1:Nat):Int)+((1:Nat):Int)=_;lia
  .lia
def Oa:cv:=λa P=>∃(w:W),a= [.dm w]/\Good w/\1<=w.length/\w.length<=14/\(2<=w.length->iX w)/\P .non
theorem yP:FnOk P w Z.K mg base cF 6 T.d_need_plane.f T.d_need_plane.fd ["web"] (br Z Oa):=by
 have k:=p9.nd;refine bA T.d_need_plane.F p9 [0] (by decide) (λc R h=>by obtain⟨_,rfl,_⟩:=h;rfl) (λl A outer s H E c R a h=>?_)
 have m:=a.units;exists _,(ao (bU (dO (dz (aI T.d_is_plane (Cz T) a (ab (aa 0) af)))) (ao jc) ba));obtain⟨d,rfl,g,b,i,pl,q⟩:=h;refine#[_,rfl,d,rfl,g,b,i,λn j s=>?_]
 have:=Kl g b pl j
 refine#[rfl,cI (λe=>absurd this (by simpa [zv] using e)) (λe=>#[rfl,q])]
structure KZ (w:W) (land i j:Nat) (d:Dt) (rd:List Dt):Prop where
 ll:land<(fV w).length
 at_:(fV w).getD land []=rd.map (·.1)
 R:cG w d rd
 dd:aw w d
 hi:i<rd.length
 hj:j<rd.length
 ne:(rd.getD j (0,0)).1≠(rd.getD i (0,0)).1
 nt:(rd.getD j (0,0)).1∉row w (rd.getD i (0,0)).1
def Od:cv:=λc P=>∃(w:W)(a i j:Nat)(d:Dt)(b:List Dt),c= [.dm w,ae a,ae i,ae j]/\Good w/\2<=w.length/\w.length<=14/\KZ w a i j d b/\P (.dm (Br w b i j))
theorem t9{a:List Dt}(h:i<a.length):gh ((a.map (·.1)).map ae) (i:Int)=some (ae (a.getD i (0,0)).1):=by
 rw[<-hZ];exact jy (by rw[aG];exact h)
theorem Bl{a:List Dt}(h:i<a.length):gh ((a.map (·.1)).map ae) ((i:Int)-1)=some (ae (a.getD ((i+(a.length-1))%a.length) (0,0)).1):=by
 have:=vd (r:=a.map (·.1)) (k:=i) (by rw[aG];exact h)
 rwa [aG,hZ] at this
theorem GF:FnOk P w Z.K mg base cF 6 T.d_put_in.f T.d_put_in.fd ["web","land","i","j"] (br Z Od):=by
 have o:=zc.nd;refine bA T.d_put_in.F zc [0,0,0,0,0,0,0,0,1] (by decide) (λX R h=>by obtain⟨_,_,_,_,_,_,rfl,_⟩:=h;rfl) (λbG A outer s H E X R l h=>?_)
 have Y:=l.units
 refine#[_,(ah (bz false 4 o (aI T.d_lands (qH T) l (ab (aa 0) af)))
   (ah (bU (dO (dz (aI T.d_is_among (gw T) l (ab (aa 1) (ab (az bq rfl T.B.len bh (ab (aa 4) af)) af))))) (ao jc) ba)
   (ah (bz false 5 o (aQ (aa 4) (aa 1)))
   (ah (bU (DW.dt (gX (dO (dz (aI T.d_is_among (gw T) l (ab (aa 2) (ab (az bq rfl T.B.len bh (ab (aa 5) af)) af))))) (gu (dO (dz (aI T.d_is_among (gw T) l (ab (aa 3) (ab (az bq rfl T.B.len bh (ab (aa 5) af)) af)))))))) (ao jc) ba)
   (ah (BQ 6 7 rfl o (ab (aQ (aa 5) (aa 2)) (ab (aQ (aa 5) (aa 3)) af)))
   (ah (bU (DW.dt (gX (aV (kC Y) (aa 6) (aa 7) (bf _)) (gu (dz (l6 T.W (aa 0) T.m_tied.m (mY T) (l.mono (by decide)) T.m_tied.b (ab (aa 6) (ab (aa 7) af))))))) (ao jc) ba)
   (ah (gT 8 o (Js T.W (aa 0) T.m_turns.m (iM T) (l.mono (by decide)) T.m_turns.b))
   (ah (xZ 8 (aa 6) (qx T.d_put_behind (nI T) l (ab (aQ (aa 8) (aa 6)) (ab (aQ (aa 5) (bg k9 (aa 2) ay)) (ab (aa 7) af)))))
   (ah (xZ 8 (aa 7) (qx T.d_put_behind (nI T) l (ab (aQ (aa 8) (aa 7)) (ab (aQ (aa 5) (bg k9 (aa 3) ay)) (ab (aa 6) af)))))
   (ao (aR (DX T.mkW (mv T) (l.mono (by decide)) rfl T.mC T.m___init__b (ab (aa 8) af))))))))))))),?_]
 obtain⟨c,e,i,j,d,k,rfl,g,h2,J,C,q⟩:=h;refine#[_,rfl,c,rfl,g,by lia,J,λz=>by lia,λ_ rs R eL=>#[trivial,?_]]
 have G:=C.ll;have L:((fV c).map au).length=(fV c).length:=aG _
 have BB:gh ((fV c).map au) (e:Int)=some (au (k.map (·.1))):=by
  rw[<-C.at_];exact fI (by rw[b7,b8 G,ck,b8 G];rfl)
 have t:=C.hi;have u:=C.hj;have ne:=C.ne;have M:=C.nt;have N:=(fz g C.R C.dd t).1;have O:=(fz g C.R C.dd u).1;have ai:=t9 t;have aj:=t9 u;have pa:=Bl t;have pb:=Bl u;have lp:((k.map (·.1)).map ae).length=k.length:=by rw[aG,aG]
 have tq:=(zu g C.R C.dd t u rfl rfl rfl rfl ne M).1;generalize fV c=Q at G L BB;have d1:decide ((0:Int)<=(e:Int)/\(e:Int)<((Q.map au).length:Int))=true:=by rw[L];exact FM (by lia)
 exists _,rfl,_,rfl,_,_,rfl,rfl;refine(?_:if (!decide ((0:Int)<=(e:Int)/\(e:Int)<((Q.map au).length:Int)))=true then _ else _);rw[d1];refine bJ ?_;exists _,rfl,_,rfl,_,BB,trivial;have d2:decide ((0:Int)<=(i:Int)/\(i:Int)<(((k.map (·.1)).map ae).length:Int))=true:=by rw[lp];exact FM (by lia)
 have d3:decide ((0:Int)<=(j:Int)/\(j:Int)<(((k.map (·.1)).map ae).length:Int))=true:=by rw[lp];exact FM (by lia)
 exists _,rfl,_,rfl,_,_,rfl,rfl;refine(?_:if (!decide ((0:Int)<=(i:Int)/\(i:Int)<(((k.map (·.1)).map ae).length:Int)))=true then _ else _);rw[d2];refine bJ ?_;exists _,rfl,_,rfl,_,_,rfl,rfl;refine(?_:if (!decide ((0:Int)<=(j:Int)/\(j:Int)<(((k.map (·.1)).map ae).length:Int)))=true then _ else _);rw[d3];refine bJ ?_;exists _,rfl,_,rfl,_,ai,_,rfl,_,rfl,_,aj,_,_,rfl;unfold Br at q;generalize (k.getD i (0,0)).1=a at*;generalize (k.getD j (0,0)).1=b at*;generalize (k.getD ((i+(k.length-1))%k.length) (0,0)).1=x at*;generalize (k.getD ((j+(k.length-1))%k.length) (0,0)).1=y at*;have v:=aU N;have I:=aU O;exists _,rfl,_,rfl;refine(?_:BL (.int (a:Int)) (.int (b:Int)) _);refine sY #[_,rfl,Ig (GM (by lia)) ?_]
 refine#[_,rfl,c,rfl,_,rfl,_,rfl,c,a,b,rfl,g,v,I,rfl,Ig (GM M) ?_];exists _,rfl,c,rfl,c,rfl,J,_,rfl;have rla:=c7 g a;have rlb:=c7 g b;have lw:(c.map au).length=c.length:=aG _;have S:∀r:List Nat,(r.map ae).all fw=true:=dA;refine#[_,rfl,_,rfl,_,fF v,_,rfl,_,rfl,_,pa,_,rfl,row c a,x,b,rfl,by lia,N,_,rfl,S _,_,rfl,_,rfl,(a:Int),a,rfl,j7 (by rw[lw];exact v),?_]
 have e1:(c.map au).set a (.lst ((fR (row c a) x b).map ae))=(c.set a (fR (row c a) x b)).map au:=by rw[vG];rfl
 have rb:row (c.set a (fR (row c a) x b)) b=row c b:=by rw[pO v,ir (Ne.symm ne)]
 have U:(c.set a (fR (row c a) x b)).length=c.length:=f9 ..;rw[e1];have n:=fF (w:=c.set a (fR (row c a) x b)) (p:=b) (by rw[U];exact I)
 rw[rb] at n;refine#[_,rfl,_,rfl,_,n,_,rfl,_,rfl,_,pb,_,rfl,row c b,y,a,rfl,by lia,O,_,rfl,S _,_,rfl,_,rfl,(b:Int),b,rfl,j7 (by rw[aG,U];exact I),?_]
 have e2:((c.set a (fR (row c a) x b)).map au).set b (.lst ((fR (row c b) y a).map ae))=(tie c a ((row c a).idxOf x+1) b ((row c b).idxOf y+1)).map au:=by
  unfold tie;rw[vG,vG,vG];rfl
 rw[e2];have tl:=jA c a ((row c a).idxOf x+1) b ((row c b).idxOf y+1);exact#[_,rfl,_,rfl,tq,by lia,by lia,q]
theorem A3{w:W}(h:aC w k d=d)(i:Nat):aC w i d=aC w (i%k) d:=by
 have e:∀m,aC w (m*k) d=d:=λm=>by
  induction m with
  |zero=>rw[Nat.zero_mul];rfl
  |succ m a=>rw[acu,rN,cJ,a,h]
 conv=>lhs;rw[<-Nat.mod_add_div i k,Nat.mul_comm,cJ,e]
theorem FN{w:W}(g:Good w)(P:iX w)(h:3<=w.length)(R:cG w d a)(j:aw w d)(b:4<=a.length):∃i,i<a.length/\(a.getD ((i+2)%a.length) (0,0)).1≠(a.getD i (0,0)).1/\(a.getD ((i+2)%a.length) (0,0)).1∉row w (a.getD i (0,0)).1:=by
 obtain⟨i,l,n⟩:=OQ g P h R j b;obtain⟨k,c,e,_,rfl⟩:=R;rw[cM] at b ⊢
 have f:∀{m:Nat},m<k->(walk w d k).getD m (0,0)=aC w m d:=λ {m} o=>by
  unfold walk;rw[ck,b7,n5 o];rfl
 have lt:=jT i c;exists i%k,lt;rw[f lt,f (jT _ c),<-A3 e i,show(i%k+2)%k=(i+2)%k by rw[Nat.add_mod,Nat.mod_mod,<-Nat.add_mod],<-A3 e (i+2)]
 exact#[Ne.symm l,n]
theorem Lu{P:D->Prop}(h:P (.bl true)):rS (au l) .non P:=by
 refine#[_,_,qN l,rfl,by have:=kY l;lia,?_]
 rw[ls rfl];exact h
def IL:cv:=λc P=>∃(w:W),c= [.dm w, .non]/\Good w/\3<=w.length/\w.length<=14/\iX w/\(∀a i j d b,4<=b.length->KZ w a i j d b->P (.tup [ae a,ae i,ae j]))/\((∀d r,cG w d r->aw w d->r.length<=3)->P .non)
theorem nK:FnOk P w Z.K mg base cF 4 T.d_next_corner.f T.d_next_corner.fd ["web","kept"] (br Z IL):=by
 have C:=nU.nd;refine bA T.d_next_corner.F nU [0,0,0,0,0,0,0] (by decide) (λds R h=>by obtain⟨_,rfl,_⟩:=h;rfl) (λbG A outer s H E ds R L h=>?_)
 have hu:=L.units
 refine#[_,(ah (cH rfl Gc (dY rfl T.B.enumerate (ab (aI T.d_lands (qH T) L (ab (aa 0) af)) af)) (eH 2 rfl (aN (aJ 2 C) (aN (aJ 3 C) cz))) (ao (bU (DW.dt (xf (aV UL (az bq rfl T.B.len bh (ab (aa 3) af)) ay (bf _)) (tD (aV (g7 hu) (aa 3) (aa 1) (bf _))))) (ao (cH rfl Gc (dY rfl T.B.enumerate (ab (aa 3) af)) (eH 2 rfl (aN (aJ 4 C) (aN (aJ 5 C) cz))) (ah (bz false 6 C (bg fP (bg cO (aa 4) ay) (az bq rfl T.B.len bh (ab (aa 3) af))))
   (ao (bU (DW.dt (xf (aV (g7 hu) (aa 5) (aQ (aa 3) (aa 6)) (bf _)) (tD (dO (dz (l6 T.W (aa 0) T.m_tied.m (mY T) (L.mono (by decide)) T.m_tied.b (ab (aa 5) (ab (aQ (aa 3) (aa 6)) af)))))))) (ao (aR (eG (ab (aa 2) (ab (aa 4) (ab (aa 6) af)))))) ba))))) ba)))
   (ao (aR gq))),?_]
 obtain⟨n,rfl,g,h3,M,pl,q1,q2⟩:=h;refine#[_,rfl,n,rfl,g,by lia,M,λz=>by lia,λ_ J R N=>?_]
 refine bM (λk O=>∃Q S p q t,O= [some (.dm n),some .non,Q,S,p,q,t]/\∀m,m<k->(J.getD m []).length<=3) #[_,_,_,_,_,rfl,λm h=>by lia] ?_ ?_
 .rintro k d _ U ⟨Q,S,p,q,t,rfl,u⟩ A hA
  obtain⟨x,X,rfl⟩:=jd U;obtain⟨l,G,rfl⟩:=c5 X;have kl:=(dQ.mp G).1;rw[N] at G;unfold fU at G;rw[b7] at G;obtain⟨j,v,rfl⟩:=acj.mp G;obtain⟨d,Rd,o,_⟩:=R.rnd j (dM v);have FX:J.getD k []=j:=by rw[ck,v];rfl
  have Y:((j.map (·.1)).map ae).length=j.length:=by rw[aG,aG]
  have rl:j.length<=196:=by
   have c1:=gW g;have c2:n.length*n.length<=14*14:=sS M M
   have:=aF (Rd.nodup g o) λx X=>aD.mpr (Rd.aM g o x X)
   lia
  exists rfl,rfl;refine#[_,rfl,_,rfl,cI (λe=>?_) (λe=>bJ (hA _ #[_,_,_,_,_,rfl,λm h=>?_]))]
  .have l4:4<=j.length:=by
    have:(3:Int)<(((j.map (·.1)).map ae).length:Int):=KF e
    lia
   exists _,rfl,_,rfl;refine(?_:rS (au (j.map (·.1))) .non _);refine Lu #[_,rfl,dH ?_];exists _,rfl;refine bM (λi O=>∃p q t,O= [some (.dm n),some .non,some (ae k),some (au (j.map (·.1))),p,q,t]/\∀m,m<i->¬((j.getD ((m+2)%j.length) (0,0)).1≠(j.getD m (0,0)).1/\(j.getD ((m+2)%j.length) (0,0)).1∉row n (j.getD m (0,0)).1)) #[_,_,_,rfl,λm h=>by lia] ?_ ?_
   .rintro i _ _ hd2 ⟨p,q,t,rfl,I⟩ A2 JH
    obtain⟨y,hy,rfl⟩:=jd hd2;obtain⟨a,ha,rfl⟩:=c5 hy;rw[b7] at ha;obtain⟨e1,W3,rfl⟩:=acj.mp ha;have il:=(dQ.mp W3).1;have ea:e1=j.getD i (0,0):=by rw[ck,W3];rfl
    subst ea;have jl:=jT (i+2) (show 0<j.length by lia)
    exists rfl,rfl;refine#[_,rfl,_,rfl,(by rw[Y];show(0:Int)<_;lia),trivial,?_]
    have ej:((i:Int)+2)%(((j.map (·.1)).map ae).length:Int)=(((i+2)%j.length:Nat):Int):=by rw[Y,show(i:Int)+2=((i+2:Nat):Int) by lia,abf]
    refine Nd [some (.dm n),some .non,some (ae k),some (au (j.map (·.1))),some (ae i),some (ae (j.getD i (0,0)).1),some (ae ((i+2)%j.length))] (by rw[show ae ((i+2)%j.length)= .int (((i:Int)+2)%(((j.map (·.1)).map ae).length:Int)) by rw[ej];rfl];rfl) ?_
    have aj:=t9 jl;have p1:=(fz g Rd o il).2.2;have p2:=(fz g Rd o jl).2.2
    have no:∀b:Prop,(∀m,m<i->¬((j.getD ((m+2)%j.length) (0,0)).1≠(j.getD m (0,0)).1/\(j.getD ((m+2)%j.length) (0,0)).1∉row n (j.getD m (0,0)).1))->¬((j.getD ((i+2)%j.length) (0,0)).1≠(j.getD i (0,0)).1/\(j.getD ((i+2)%j.length) (0,0)).1∉row n (j.getD i (0,0)).1)->∀m,m<i+1->¬((j.getD ((m+2)%j.length) (0,0)).1≠(j.getD m (0,0)).1/\(j.getD ((m+2)%j.length) (0,0)).1∉row n (j.getD m (0,0)).1):=λ_ h1 h2 m u=>by
     by_cases c:m=i
     .rw[c];exact h2
     .exact h1 m (by lia)
    exists _,rfl,_,rfl,_,rfl,_,aj;refine(?_:rS (.int ((j.getD i (0,0)).1:Int)) (.int ((j.getD ((i+2)%j.length) (0,0)).1:Int)) _);refine ju #[_,rfl,cI (λe=>?_) (λe=>bJ (JH _ #[_,_,_,rfl,no True I λz=>z.1 ?_]))]
    .have ne:(j.getD ((i+2)%j.length) (0,0)).1≠(j.getD i (0,0)).1:=λz=>by rw[z] at e;simp at e
     exists _,rfl,n,rfl,_,rfl,_,rfl,_,rfl,_,aj,n,_,_,rfl,g,aU p1,aU p2,rfl;refine cI (λe2=>?_) (λe2=>JH _ #[_,_,_,rfl,no True I λz=>z.2 ?_])
     .have nt:(j.getD ((i+2)%j.length) (0,0)).1∉row n (j.getD i (0,0)).1:=by simpa [zv] using e2
      refine#[_,rfl,_,rfl,_,rfl,by show 3<=sizeLine;decide,q1 k i _ d j l4 #[kl,?_,Rd,o,il,jl,ne,nt]]
      rw[N,ck];unfold fU;rw[b7,v];rfl
     .simpa [zv] using e2
    .have e:((j.getD i (0,0)).1:Int)=((j.getD ((i+2)%j.length) (0,0)).1:Int):=by simpa using e
     lia
   .rintro _ ⟨p,q,t,rfl,I⟩
    rw[fu,Y] at I;obtain⟨i,h1,h2⟩:=FN g pl h3 Rd o l4;exact absurd h2 (I i h1)
  .by_cases c:m=k
   .subst c
    rw[FX]
    have:¬(3:Int)<(((j.map (·.1)).map ae).length:Int):=On e
    lia
   .exact u m (by lia)
 .rintro _ ⟨Q,S,p,q,t,rfl,u⟩
  refine q2 λd r Rr o=>?_;rw[fu,aG,N] at u;have ll:(fU J).length=J.length:=by unfold fU;rw[aG]
  rw[ll] at u;obtain⟨j,v,U⟩:=i6.mp (R.perm.mem_iff.mpr (aD.mpr o));obtain⟨e,Re,de,_⟩:=R.rnd j v;obtain⟨m,Pu,em⟩:=vy U;have e1:j.getD m (0,0)=d:=by rw[ck,b8 Pu,em];rfl
  have Rm:=Re.N0 g de Pu;rw[e1] at Rm;rw[Rr.uniq Rm,cE,qr,gO];obtain⟨k,hk,ek⟩:=vy v
  have:=u k hk
  rw[ck,b8 hk,ek] at this
  have:j.length<=3:=this
  lia
variable {P:Program} {w:World} {mg:Str->Option Value} {base:Heap} {Z:DC} (T:Txt Z mg)
def KY(w:W):Prop:=∀d r,cG w d r->aw w d->r.length<=3
def VD(v:W)(c:D):Prop:=(c= .non/\KY v)\/∃a i j d b,4<=b.length/\KZ v a i j d b/\c= .tup [ae a,ae i,ae j]
structure FD (w v:W) (ts:List (Nat×Nat)):Prop where
 fr:FR w v ts
 dg:gr v+12=6*w.length
 all:∀d r,cG v d r->aw v d->r.length=3
 non:KY w->ts= []
def N8:cv:=λb P=>∃(w:W),b= [.dm w, .non]/\Good w/\3<=w.length/\w.length<=14/\iX w/\∀v a,FD w v a->P (.tup [.dm v, .lst (a.map pairD)])
theorem wR:FnOk P w Z.K mg base cF 7 T.d_filled_but.f T.d_filled_but.fd ["web","kept"] (c4 Z 2 N8):=by
 have o:=p4.nd;refine je 2 T.d_filled_but.F p4 [0,0,1,0,0,0,0,0] (by decide) (λx R h=>by obtain⟨_,rfl,_⟩:=h;rfl) (λbG A outer s H E x R p h=>?_)
 have hu:=p.units
 refine#[_,(ah (gT 2 o (gS af))
   (ah (bz false 3 o (aI T.d_next_corner (nK T) p (ab (aa 0) (ab (aa 1) af))))
   (ah (j4 Gc (aV Be (aa 3) gq (bf _)) (ah (BP (aa 3) (eH 3 rfl (aN (aJ 4 o) (aN (aJ 5 o) (aN (aJ 6 o) cz)))))
   (ah (bz false 7 o (aQ (aI T.d_lands (qH T) p (ab (aa 0) af)) (aa 4)))
   (ah (mP false 2 (eG (ab (az (DK rfl) rfl T.B.min HI (ab (aQ (aa 7) (aa 5)) (ab (aQ (aa 7) (aa 6)) af))) (ab (az (xO rfl) rfl T.B.max BF (ab (aQ (aa 7) (aa 5)) (ab (aQ (aa 7) (aa 6)) af))) af))))
   (ah (bz false 0 o (aI T.d_put_in (GF T) p (ab (aa 0) (ab (aa 4) (ab (aa 5) (ab (aa 6) af))))))
   (ao (bz false 3 o (aI T.d_next_corner (nK T) p (ab (aa 0) (ab (aa 1) af))))))))))
   (ao (Jv 0 2))))),?_]
 obtain⟨n,rfl,g,r,bX,pl,q⟩:=h;refine#[by show 0<=sizeLine;decide,?_]
 have few:=λ {v:W}(F:∃l,FR n v l)=>let #[l,F]:=F;pln_few F.g (by rw[F.len];exact r) F.pl
 have y:∀{v:W}{l:List (Nat×Nat)}{Q:D->Prop},FR n v l->(∀c,VD v c->Q c)->IL [.dm v, .non] Q:=λ {v l Q} F h=>#[v,rfl,F.g,by rw[F.len];exact r,by rw[F.len];exact bX,F.pl,λk i j d e G C=>h _ (.inr #[k,i,j,d,e,G,C,rfl]),λz=>h _ (.inl #[rfl,z])]
 exists _,rfl,_,rfl;dsimp only[fB];refine y (FR.zero g pl) λc0 t=>#[trivial,?_];refine jm (λm ρ=>∃(v:W)(l:List (Nat×Nat))(c:D)(I J L M:Option D),ρ= [some (.dm v),some .non,some (.lst (l.map pairD)),some c,I,J,L,M]/\FR n v l/\m+gr v=6*n.length/\VD v c/\(KY n->l= []/\v=n)/\2*l.length+gr n=gr v) (6*n.length-gr n) #[n,[],c0,_,_,_,_,rfl,FR.zero g pl,by have:=pln_few g r pl;lia,t,λ_=>#[rfl,rfl],by simp] ?_
 rintro m _ ⟨v,l,c,I,J,L,M,rfl,F,hm,u,N,ht⟩;have fv:=few #[l,F];have fl:=F.len
 rcases u with ⟨rfl,a3⟩ | ⟨k,i,j,d,e,G,C,rfl⟩
 .refine#[_,rfl,_,rfl,bJ ?_]
  have ZV:=FC F.g F.pl (by rw[F.len];exact r) a3
  exact#[_,_,rfl,rfl,rfl,q v l #[F,by lia,ZV.2,λz=>(N z).1]]
 .refine#[_,rfl,_,rfl,dH ?_]
  have O:=C.ll;have U:=C.hi;have X:=C.hj
  have BB:gh ((fV v).map au) (k:Int)=some (au (e.map (·.1))):=by
   rw[<-C.at_];exact fI (by rw[b7,b8 O,ck,b8 O];rfl)
  have Y:=t9 U;have aj:=t9 X;have tl:l.length<=84:=by lia
  exists _,rfl,rfl,rfl;refine#[_,rfl,v,rfl,F.g,by lia,by lia,λz=>by lia,λ_ rs R eL=>#[_,rfl,_,BB,trivial,?_]]
  refine#[_,rfl,_,rfl,_,rfl,_,Y,_,rfl,_,rfl,_,aj,_,_,rfl,_,rfl,_,rfl,_,Y,_,rfl,_,rfl,_,aj,_,_,rfl,by show 2<=sizeLine;decide,trivial,dG (by rw[aG];lia),?_]
  have ep:(D.tup [.int (if ((e.getD j (0,0)).1:Int)<((e.getD i (0,0)).1:Int) then((e.getD j (0,0)).1:Int) else((e.getD i (0,0)).1:Int)), .int (if ((e.getD j (0,0)).1:Int)>((e.getD i (0,0)).1:Int) then((e.getD j (0,0)).1:Int) else((e.getD i (0,0)).1:Int))])=pairD (min (e.getD i (0,0)).1 (e.getD j (0,0)).1,max (e.getD i (0,0)).1 (e.getD j (0,0)).1):=by
   generalize (e.getD i (0,0)).1=a;generalize (e.getD j (0,0)).1=b;unfold pairD;dsimp only
   congr 2
   .congr 1
    split<;>lia
   .congr 2
    split<;>lia
  obtain⟨S,x⟩:=F.step C.R C.dd U X C.ne C.nt;refine#[_,rfl,_,rfl,_,rfl,_,rfl,v,k,i,j,d,e,rfl,F.g,by lia,by lia,C,trivial,?_]
  exists _,rfl,_,rfl;dsimp only[fB];refine y S λc u=>#[trivial,m-2,by lia,Br v e i j,_,c,some (ae k),some (ae i),some (ae j),some (au (e.map (·.1))),?_,S,by lia,u,λz=>?_,by rw[cE];simp only[zJ];lia]
  .rw[c8 (f:=pairD),List.map_singleton,<-ep];rfl
  .obtain⟨_,rfl⟩:=N z
   have:=z _ _ C.R C.dd
   lia
def QU:cv:=λb P=>∃(w:W),b= [.dm w]/\Good w/\3<=w.length/\w.length<=14/\iX w/\∀v a,FD w v a->P (.tup [.dm v, .lst (a.map pairD)])
theorem pG:FnOk P w Z.K mg base cF 8 T.d_filled.f T.d_filled.fd ["web"] (c4 Z 2 QU):=by
 have j:=y9.nd;refine je 2 T.d_filled.F y9 [0] (by decide) (λe R h=>by obtain⟨_,rfl,_⟩:=h;rfl) (λk A outer s H E e R a h=>?_)
 have l:=a.units
 refine#[_,(ah (bU (aV pF (e7 T.W (aa 0) T.m_many.m (jW T) (a.mono (by decide)) T.m_many.b) ay (bf _)) (ao jc) ba)
   (ah (LV (aI T.d_need_plane (yP T) a (ab (aa 0) af)))
   (ao (LY T.d_filled_but (wR T) a (ab (aa 0) (ab gq af)))))),?_]
 obtain⟨c,rfl,g,i,d,pl,q⟩:=h;refine#[_,rfl,c,rfl,c,rfl,_,rfl,Ig (GM (by lia)) ?_]
 refine#[_,rfl,c,rfl,g,by lia,d,λ_=>pl,?_]
 exact#[_,rfl,c,rfl,g,i,d,pl,q]
variable {P:Program} {w:World} {mg:Str->Option Value} {base:Heap} {Z:DC} (T:Txt Z mg)
def tM(p q:Nat):Nat×Nat:=(min p q,max p q)
def tU(w:W)(p:Nat):List (Nat×Nat):=(ad p).flatMap λp=>(row w p).map λq=>tM p q
theorem Fb(w:W)(p:Nat):tU w (p+1)=tU w p++(row w p).map λq=>tM p q:=by
 unfold tU;rw[abo,abx];simp
theorem CT{w:W}(g:Good w)(a:w.length<=14):∀p,p<=w.length->(tU w p).length<=14*p
 |0,_=>bb _
 |p+1,h=>by
  have:=CT g a p (by lia)
  have:=c7 g p
  rw[Fb,cE,aG];lia
theorem P5{w:W}:t∈tU w p↔∃a b,a<p/\b∈row w a/\t=tM a b:=by
 unfold tU;rw[vD]
 constructor
 .rintro⟨x,c,h⟩
  obtain⟨y,d,rfl⟩:=aX.mp h;exact#[x,y,dE.mp c,d,rfl]
 .rintro⟨a,b,e,f,rfl⟩
  exact#[a,dE.mpr e,aX.mpr #[b,f,rfl]]
def rh(a:List (Nat×Nat))(x:Nat×Nat):List (Nat×Nat):=if x∈a then a else a++ [x]
theorem yu:∀(l a:List (Nat×Nat)),(l.map zz).foldl k5 (a.map zz)=(l.foldl rh a).map zz
 | [],a=>rfl
 |x::l,a=>by
  rw[bT,rL,rL,<-yu l]
  congr 1
  unfold k5 rh
  by_cases h:x∈a
  .rw[ls h,ls (nG.mpr h)]
  .rw[ir h,ir (λz=>h (nG.mp z)),c8];rfl
theorem uQ:∀(l a:List (Nat×Nat))(x:Nat×Nat),x∈l.foldl rh a↔x∈a\/x∈l
 | [],a,x=>by simp
 |y::l,a,x=>by
  rw[rL,uQ l,bo];unfold rh
  split
  .next h=>exact#[λz=>z.elim .inl λz=> .inr (.inr z),λz=>z.elim .inl λz=>z.elim (λe=> .inl (e▸h)) .inr]
  .rw[bH,cC,or_assoc]
theorem o9:∀(l c:List (Nat×Nat)),c.Nodup->(l.foldl rh c).Nodup
 | [],_,h=>h
 |p::d,c,h=>o9 d _ (by
  unfold rh
  split
  .exact h
  .next e=>exact c9.mpr #[h,by simp,λa f b g z=>e (by rw[<-cC.mp g,<-z];exact f)])
theorem JU(l:List (Nat×Nat)):(l.foldl rh []).length<=l.length:=aF (o9 l [] gQ) λx a=>((uQ l [] x).mp a).elim (λz=>nomatch z) id
theorem vV{w:W}:t∈fA (row w) w.length↔t.1<t.2/\t.2∈row w t.1:=by
 unfold fA;rw[vD]
 constructor
 .rintro⟨x,d,h⟩
  obtain⟨y,c,rfl⟩:=aX.mp h;obtain⟨b,a⟩:=qt.mp c;exact#[KF a,b]
 .exact λ#[b,a]=>#[t.1,dE.mpr (aU a),aX.mpr #[t.2,qt.mpr #[a,FM b],rfl]]
theorem Hn{w:W}(g:Good w):t∈tU w w.length↔t∈fA (row w) w.length:=by
 rw[P5,vV]
 constructor
 .rintro⟨a,b,_,d,rfl⟩
  have ne:a≠b:=λz=>by subst z;exact g.irr _ d
  unfold tM
  rcases acD a b with c|c
  .rw[abq (by lia),abe (by lia)];exact#[c,d]
  .rw[Nat.min_eq_right (by lia),Nat.max_eq_left (by lia)];exact#[by show b<a;lia,g.sym _ _ d]
 .rintro⟨e,d⟩
  exists t.1,t.2,aU d,d;unfold tM;rw[abq (by lia),abe (by lia)]
theorem i9{w:W}(h:Q (.int (w.length:Int))):oJ [aP w] Q:=by
 have e:(w.map au).length=w.length:=aG _;show Q (.int ((w.map au).length:Int));rw[e];exact h
theorem Fd{w:W}(g:Good w):(fA (row w) w.length).Nodup:=by
 unfold fA;refine vW sR (λa _=>Cv ((g.nod a).filter _) λx _ y _ e=>(IR e).2) λa _ b _ x c d=>?_;obtain⟨_,_,rfl⟩:=aX.mp c;obtain⟨_,_,e⟩:=aX.mp d;exact(IR e).1.symm
def YO:cv:=λa P=>∃(w:W),a= [.dm w,aP w]/\Good w/\1<=w.length/\w.length<=14/\P (.bl true)
theorem EH:FnOk P w Z.K mg base cF 3 T.d__law_is.f T.d__law_is.fd ["_law_web","_law_turns_here"] (br Z YO):=by
 have o:=wa.nd;refine bA T.d__law_is.F wa [0,0,1,0,0,0,0] (by decide) (λO R h=>by obtain⟨_,rfl,_⟩:=h;rfl) (λbG A outer s H E O R n h=>?_)
 have r:=n.units
 refine#[_,(ah (gT 2 o (gS af))
   (ah (cH rfl Gc (dY rfl T.B.enumerate (ab (aa 1) af)) (eH 2 rfl (aN (aJ 3 o) (aN (aJ 4 o) cz))) (ao (cH rfl Gc (dY rfl T.B.enumerate (ab (aa 4) af)) (eH 2 rfl (aN (aJ 5 o) (aN (aJ 6 o) cz))) (ah (mP false 2 (eG (ab (az (DK rfl) rfl T.B.min HI (ab (aa 3) (ab (aa 6) af))) (ab (az (xO rfl) rfl T.B.max BF (ab (aa 3) (ab (aa 6) af))) af))))
   (ao (bU (DW.dt (gX (aV Ng (l6 T.W (aa 0) T.m_tied.m (mY T) (n.mono (by decide)) T.m_tied.b (ab (aa 3) (ab (aa 6) af))) fq (bf _)) (gu (aV (g7 r) (l6 T.W (aa 0) T.m_behind.m (kD T) (n.mono (by decide)) T.m_behind.b (ab (aa 3) (ab (aa 6) af))) (aQ (aa 4) (bg fP (bg cO (aa 5) ay) (az bq rfl T.B.len bh (ab (aa 4) af)))) (bf _))))) (ao (aR fq)) ba))))))
   (ao (aR (kW (kX (kC r) (e7 T.W (aa 0) T.m_many.m (jW T) (n.mono (by decide)) T.m_many.b) (az bq rfl T.B.len bh (ab (aa 1) af)) (bf _)) (kW (kX (kC r) (e7 T.W (aa 0) T.m_turns.m ((iM T).imp KI) (n.mono (by decide)) T.m_turns.b) (aa 1) (bf _)) (sZ (kX (kC r) (e7 T.W (aa 0) T.m_ties.m (jX T) (n.mono (by decide)) T.m_ties.b) (az (FK rfl) rfl T.B.sorted kh (ab (km (DL rfl r) rfl T.x_set HJ (ab (aa 2) af)) af)) (bf _))))))))),?_]
 obtain⟨a,rfl,g,h1,u,q⟩:=h;have Q:(a.map au).length=a.length:=aG _;refine#[by show 0<=sizeLine;decide,?_]
 exists _,rfl;refine bM (λj k=>∃(G I d i:Option D),k= [some (.dm a),some (aP a),some (.lst ((tU a j).map pairD)),G,I,d,i]) #[_,_,_,_,rfl] ?_ ?_
 .rintro p _ _ S ⟨G,I,d,i,rfl⟩ A U
  obtain⟨X,rfl⟩:=rB S;have Y:=CT g u p (by lia)
  have rl:=c7 g p;exists rfl,rfl;exists _,rfl;refine bM (λm k=>∃(d i:Option D),k= [some (.dm a),some (aP a),some (.lst ((tU a p++((row a p).take m).map λq=>tM p q).map pairD)),some (ae p),some (au (row a p)),d,i]) #[_,_,by rw[qm,qo,f7];rfl] ?_ ?_
  .rintro m _ _ J ⟨d,i,rfl⟩ A2 JH
   obtain⟨y,hy,rfl⟩:=jd J;obtain⟨c,v,rfl⟩:=c5 hy;have ml:=(dQ.mp v).1;have C:=dM v;have CU:(row a p).take (m+1)=(row a p).take m++ [c]:=by rw[zU,v];rfl
   exists rfl,rfl;refine#[_,rfl,_,rfl,_,rfl,_,_,rfl,_,rfl,_,rfl,_,_,rfl,by show 2<=sizeLine;decide,trivial,dG (by rw[aG,cE,aG,gO];lia),?_]
   have ep:(D.tup [.int (if (c:Int)<(p:Int) then(c:Int) else(p:Int)), .int (if (c:Int)>(p:Int) then(c:Int) else(p:Int))])=pairD (tM p c):=by
    unfold pairD tM;dsimp only
    congr 2
    .congr 1
     split<;>lia
    .congr 2
     split<;>lia
   have e2:(tU a p++((row a p).take (m+1)).map λq=>tM p q).map pairD=(tU a p++((row a p).take m).map λq=>tM p q).map pairD++ [pairD (tM p c)]:=by rw[CU,c8 (f:=λq=>tM p q),<-f6,c8 (f:=pairD) (l₁:=tU a p++_)];rfl
   have bW:∀k,k= [some (.dm a),some (aP a),some (.lst ((tU a p++((row a p).take m).map λq=>tM p q).map pairD++ [.tup [.int (if (c:Int)<(p:Int) then(c:Int) else(p:Int)), .int (if (c:Int)>(p:Int) then(c:Int) else(p:Int))]])),some (ae p),some (au (row a p)),some (ae m),some (ae c)]->A2 k:=λk PC=>JH _ #[some (ae m),some (ae c),by rw[PC,ep,e2]]
   have L:((row a p).map ae).length=(row a p).length:=aG _;have r0:0<(row a p).length:=by lia
   have ix:(row a p).idxOf c=m:=by
    have nr:=g.nod p;obtain⟨_,e⟩:=dQ.mp v;rw[<-e];exact nr.idxOf_getElem m ml
   have sg:=hJ C;rw[ix] at sg
   have ea:gh ((row a p).map ae) (((m:Int)+1)%(((row a p).map ae).length:Int))=some (ae (aE (row a p) c)):=by
    rw[L,show(m:Int)+1=((m+1:Nat):Int) by lia,<-abf]
    exact fI (by rw[b7,sg];rfl)
   exists _,rfl,a,rfl,_,rfl,_,rfl,a,p,c,rfl,g,X,g.rng _ _ C;rw[FM C];refine#[_,rfl,bJ ?_];exists _,rfl,a,rfl,_,rfl,_,rfl,a,p,c,rfl,g,C;refine#[_,rfl,_,rfl,_,rfl,(by rw[L];show(0:Int)<_;lia),_,ea,?_]
   refine(?_:rS (.int (aE (row a p) c:Int)) (.int (aE (row a p) c:Int)) _);refine ju #[_,rfl,?_];rw[FM rfl];exact bJ (bW _ rfl)
  .rintro _ ⟨d,i,rfl⟩
   exact U _ #[some (ae p),some (au (row a p)),d,i,by rw[fu,aG,zS,Fb]]
 .rintro _ ⟨G,I,d,i,rfl⟩
  rw[fu,Q];exists _,rfl,a,rfl,a,rfl,_,rfl;dsimp only[fB];refine i9 (sY #[_,rfl,?_]);rw[FM rfl];refine dH ?_;refine#[_,rfl,a,rfl,a,rfl,u,_,rfl,Lq #[_,rfl,?_]];rw[FM rfl];refine dH ?_;refine#[_,rfl,a,rfl,a,rfl,g,u,λts M wZ=>?_];have Y:=CT g u a.length (bb _);have il:=JU (tU a a.length);refine#[_,rfl,(tU a a.length).map zz,by rw[b9];rfl,by rw[aG];lia,?_]
  refine#[(tU a a.length).foldl rh [],FS (λl=> [D.x (.mz (dh w) l)]) (yu (tU a a.length) []),by lia,λms N IQ=>?_]
  refine FO ?_;have i4:=o9 (tU a a.length) [] gQ;have nt:=Fd g
  rw[FM (J3 wZ IQ (M.nodup_iff.mpr nt) (N.nodup_iff.mpr i4) λt=>by
   rw[M.mem_iff,N.mem_iff,uQ,<-Hn g];exact#[.inr,λz=>z.elim (λz=>nomatch z) id])]
  exact q
def Oc:cv:=λa P=>∃(i n:Nat),a= [ae i, .int (n:Int)]/\i<n/\P (.bl true)
theorem tY:FnOk P w Z.K mg base cF 1 T.d__law_is_point.f T.d__law_is_point.fd ["_law_thing","_law_many"] (br Z Oc):=by
 have d:=lB.nd;refine bA T.d__law_is_point.F lB [0,0] (by decide) (λb R h=>by obtain⟨_,_,rfl,_⟩:=h;rfl) (λe A outer s H E b R c h=>?_)
 have g:=c.units;exists _,(ao (aR (kW (mO "int" (aa 0) rfl T.B.isinstance rfl T.B.int HH) (kW (HU (mO "bool" (aa 0) rfl T.B.isinstance rfl T.B.bool Dz)) (sZ (AM Cy pF ay (aa 0) (aa 1)))))));obtain⟨i,n,rfl,h,q⟩:=h;refine#[_,rfl,rfl,true,rfl,dH #[_,rfl,rfl,false,rfl,true,rfl,dH #[_,rfl,?_]]];refine#[_,rfl,cI (λa=>#[_,rfl,?_]) (λa=>?_)]
 .show R (.bl (decide ((i:Int)<(n:Int))))
  rw[FM (by lia)]
  exact q
 .have a:¬(0:Int)<=(i:Int):=On a
  lia
variable {P:Program} {w:World} {mg:Str->Option Value} {base:Heap} {Z:DC} (T:Txt Z mg)
theorem yt:∀(l a:List (Nat×Nat)),(a++l).Nodup->l.foldl rh a=a++l
 | [],a,_=>by simp
 |x::l,a,h=>by
  have b:x∉a:=λz=>(c9.mp h).2.2 x z x (bB ..) rfl;rw[rL];rw[show rh a x=a++ [x] from ir b]
  have:=yt l (a++ [x]) (by rw[f6];exact h)
  rw[this,f6];rfl
def QS:cv:=λb P=>∃(w:W)(a:List (Nat×Nat)),b= [.lst (a.map pairD),aP w]/\a.Nodup/\a.length<=300/\w.length<=14/\Good w/\(∀t∈a,t.1<t.2/\t.2<w.length/\t.2∉row w t.1)/\P (.bl true)
theorem tX:FnOk P w Z.K mg base cF 2 T.d__law_are_ties.f T.d__law_are_ties.fd ["_law_some","_law_turns_here"] (br Z QS):=by
 have c:=lA.nd;refine bA T.d__law_are_ties.F lA [0,0,0] (by decide) (λn R h=>by obtain⟨_,_,rfl,_⟩:=h;rfl) (λG A outer s H E n R m h=>?_)
 have d:=m.units
 refine#[_,(ah (bU (DW.dt (gX (dO (dz (mO "list" (aa 0) rfl T.B.isinstance rfl T.B.list sW))) (gu (aV (g7 d) (az Jg rfl T.B.len bh (ab (km (DL rfl d) rfl T.x_set HJ (ab (aa 0) af)) af)) (az bq rfl T.B.len bh (ab (aa 0) af)) (bf _))))) (ao (aR fq)) ba)
   (ah (cH rfl Gc (bL (aa 0)) (aJ 2 c) (ah (bU (DW.dt (gX (dO (dz (mO "tuple" (aa 2) rfl T.B.isinstance rfl T.B.tuple AG))) (gX (aV (g7 d) (az bq rfl T.B.len bh (ab (aa 2) af)) ay (bf _)) (gu (dO (dz (az (BI rfl) rfl T.B.all BE (ab (lI (NC:= ["_law_p","_law_turns_here"]) (src:= [none,some 1]) rfl (qT (av gz)) #[rfl,rfl,trivial] (O3 (aa 2)) (λ_ _ _=>(cw 0 (show(["_law_p","_law_turns_here"]:List Str).Nodup from by decide+kernel))) (λ_ _ _=>e8) (λ_ _ _=>(aI T.d__law_is_point (tY T) m (ab (aa 0) (ab (az bq rfl T.B.len bh (ab (aa 1) af)) af))))) af)))))))) (ao (aR fq)) ba)
   (ao (bU (DW.dt (gX (aV Nf (aQ (aa 2) ay) (aQ (aa 2) ay) (bf _)) (gu (aV u6 (aQ (aa 2) ay) (aQ (aa 1) (aQ (aa 2) ay)) (by with_unfolding_all rfl))))) (ao (aR fq)) ba))))
   (ao (aR fq)))),?_]
 obtain⟨b,a,rfl,c,o,I,g,p,q⟩:=h;refine#[_,rfl,rfl,rfl,bJ ?_];refine#[_,rfl,a.map zz,by rw[b9];rfl,by rw[aG];exact o,?_]
 have e:(a.map zz).foldl k5 []=a.map zz:=by
  have:=yu a []
  rw[yt a [] (by simpa using c)] at this
  exact this
 rw[e];refine#[a.map zz,rfl,by rw[aG];lia,_,rfl,?_]
 dsimp only[fB,oJ];refine ju #[_,rfl,?_];rw[aG,aG,FM rfl];refine bJ ?_;refine#[_,rfl,bM (λ_ ρ=>∃i,ρ= [some (.lst (a.map pairD)),some (aP b),i]) #[_,rfl] ?_ ?_]
 .rintro j _ _ r ⟨i,rfl⟩ A u
  obtain⟨t,v,rfl⟩:=c5 r;obtain⟨J,x,z⟩:=p t (dM v);refine#[_,rfl,rfl,rfl,bJ #[_,rfl,?_]];dsimp only[fB,oJ,pairD];refine Gx #[_,rfl,bJ ?_];exists _,rfl;refine jr (ρ:= [none,some (aP b)]) ae (λ_=> .bl true) [t.1,t.2] _ (λy k Y C=>?_) rfl (by show 2<=sizeLine;decide) λL=>?_
  .refine#[_,rfl,_,rfl,?_]
   dsimp only[fB];refine i9 #[y,b.length,rfl,?_,C]
   rcases bo.mp k with rfl|k
   .lia
   .rw[cC.mp k];exact x
  refine#[[true,true],rfl,rfl,bJ ?_];have l:t.1<b.length:=by lia
  have M:=c7 g t.1;exists _,rfl,ae t.1,rfl,_,rfl,ae t.2,rfl,_,rfl;refine Ig (GM (by show ¬(t.2:Int)<=(t.1:Int);lia)) ?_
  exists _,rfl,ae t.2,rfl,_,rfl,_,rfl,ae t.1,rfl,_,fF l,rfl,dA _,_,rfl;rw[ir dD,iH,GM z];exact bJ (u _ #[_,rfl])
 .rintro _ ⟨i,rfl⟩
  exact q
theorem uG(h:Q (.int (r.length:Int))):oJ [au r] Q:=by
 have e:(r.map ae).length=r.length:=aG _;show Q (.int ((r.map ae).length:Int));rw[e];exact h
def Oe:cv:=λb P=>∃(w v:W)(a:List (Nat×Nat)),b= [.tup [.dm v, .lst (a.map pairD)],aP w]/\Good w/\3<=w.length/\w.length<=14/\FD w v a/\P (.bl true)
theorem Om(w:W):(w.map λr=>((r.length:Nat):Int)).sum=((gr w:Nat):Int):=by
 unfold gr
 induction w with
 |nil=>rfl
 |cons r b a=>rw[bT,rM,a,bT,rM,Int.natCast_add]
theorem pI:FnOk P w Z.K mg base cF 9 T.d__law_right.f T.d__law_right.fd ["_law_found","_law_turns_here"] (br Z Oe):=by
 have z:=pZ.nd;refine bA T.d__law_right.F pZ [0,0,0,0,0,0] (by decide) (λds R h=>by obtain⟨_,_,_,rfl,_⟩:=h;rfl) (λbG A outer s H E ds R c h=>?_)
 have i:=c.units
 refine#[_,(ah (bU (DW.dt (gX (dO (dz (mO "tuple" (aa 0) rfl T.B.isinstance rfl T.B.tuple AG))) (gX (aV (g7 i) (az bq rfl T.B.len bh (ab (aa 0) af)) ay (bf _)) (gu (dO (dz (Jq T.W T.iW (aQ (aa 0) ay) rfl T.B.isinstance rfl T.mC))))))) (ao (aR fq)) ba)
   (ah (bU (dO (dz (aI T.d__law_are_ties (tX T) c (ab (aQ (aa 0) ay) (ab (aa 1) af))))) (ao (aR fq)) ba)
   (ah (bz false 2 z (e7 T.W (aQ (aa 0) ay) T.m_turns.m ((iM T).imp KI) (c.mono (by decide)) T.m_turns.b))
   (ah (bU (DW.dt (gX (aV (g7 i) (az bq rfl T.B.len bh (ab (aa 2) af)) (az bq rfl T.B.len bh (ab (aa 1) af)) (bf _)) (gu (aV (g7 i) (az (HM rfl) rfl T.B.sum HK (ab (lI (NC:= ["_law_row_here"]) (src:= [none]) rfl (qT (av dR)) trivial (bL (aa 2)) (λ_ _ _=>(cw 0 (show(["_law_row_here"]:List Str).Nodup from by decide+kernel))) (λ_ _ _=>e8) (λ_ _ _=>(az bq rfl T.B.len bh (ab (aa 0) af)))) af)) (bg k9 (bg xp ay (az bq rfl T.B.len bh (ab (aa 1) af))) ay) (bf _))))) (ao (aR fq)) ba)
   (ah (cH rfl Gc (dY rfl T.B.enumerate (ab (aa 2) af)) (eH 2 rfl (aN (aJ 3 z) (aN (aJ 4 z) cz))) (ah (bz false 5 z (lI (NC:= ["_law_tie","_law_p"]) (src:= [none,some 3]) rfl (qT (av dR)) #[rfl,rfl,trivial] (bL (aQ (aa 0) ay)) (λ_ _ _=>(cw 0 (show(["_law_tie","_law_p"]:List Str).Nodup from by decide+kernel))) (λ_ _ _=>(ya (aV u6 (aa 1) (aa 0) (by with_unfolding_all rfl)))) (λ_ _ _=>(bg k9 (bg cO (aQ (aa 0) ay) (aQ (aa 0) ay)) (aa 1)))))
   (ah (bU (DW.dt (gX (aV (g7 i) (az bq rfl T.B.len bh (ab (aa 4) af)) (bg cO (az bq rfl T.B.len bh (ab (aQ (aa 1) (aa 3)) af)) (az bq rfl T.B.len bh (ab (aa 5) af))) (bf _)) (gu (dO (dz (az (BI rfl) rfl T.B.all BE (ab (lI (NC:= ["_law_q","_law_row_here"]) (src:= [none,some 4]) rfl (qT (av dR)) #[rfl,rfl,trivial] (bL (aa 5)) (λ_ _ _=>(cw 0 (show(["_law_q","_law_row_here"]:List Str).Nodup from by decide+kernel))) (λ_ _ _=>e8) (λ_ _ _=>(kX u6 (aa 0) (aa 1) (by with_unfolding_all rfl)))) af))))))) (ao (aR fq)) ba)
   (ao (bU (aV (g7 i) (lI (NC:= ["_law_q","_law_new"]) (src:= [none,some 5]) rfl (qT (av dR)) #[rfl,rfl,trivial] (bL (aa 4)) (λ_ _ _=>(cw 0 (show(["_law_q","_law_new"]:List Str).Nodup from by decide+kernel))) (λ_ _ _=>(ya (aV u7 (aa 0) (aa 1) (by with_unfolding_all rfl)))) (λ_ _ _=>(aa 0))) (aQ (aa 1) (aa 3)) (bf _)) (ao (aR fq)) ba)))))
   (ah (bU (DW.dt (gX (dO (dz (aI T.d__law_is (EH T) c (ab (aQ (aa 0) ay) (ab (aa 2) af))))) (gu (aV (g7 i) (aQ (aI T.d_filled ((pG T).imp KI) c (ab (aQ (aa 0) ay) af)) ay) (gR af) (bf _))))) (ao (aR fq)) ba)
   (ao (aR (az (BI rfl) rfl T.B.all BE (ab (lI (NC:= ["_law_walk"]) (src:= [none]) rfl (qT (av dR)) trivial (bL (aI T.d__law_lands (pH T) c (ab (aa 2) af))) (λ_ _ _=>(cw 0 (show(["_law_walk"]:List Str).Nodup from by decide+kernel))) (λ_ _ _=>e8) (λ_ _ _=>(kX (kC i) (az bq rfl T.B.len bh (ab (aa 0) af)) ay (bf _)))) af)))))))))),?_]
 obtain⟨k,v,ts,rfl,g,h3,bX,F,q⟩:=h;have a:=F.fr;have vl:=a.len;have n:=a.g;have few:=pln_few n (by lia) a.pl
 have tl:ts.length<=300:=by
  have:=aF a.nd (m:=fA (row v) v.length) λt I=>by
   obtain⟨u,C,t3⟩:=a.lt t I;refine vV.mpr #[u,a.mem _ _ ?_]
   have:=Bc (ts:=ts) (p:=t.1) (q:=t.2) (by lia) (by rw[abq (by lia),abe (by lia)];exact I)
   exact this
  have S:=IS n;unfold tc at S;rw[cQ] at S;lia
 refine#[_,rfl,rfl,rfl,bJ #[_,rfl,?_]];dsimp only[fB,oJ];refine Gx #[_,rfl,bJ ?_];exists _,rfl, .dm v,rfl,v,rfl;refine#[rfl,bJ ?_];refine#[_,rfl, .lst (ts.map pairD),rfl,_,rfl,k,ts,rfl,a.nd,tl,bX,g,a.lt,rfl,bJ ?_];refine#[_,rfl, .dm v,rfl,v,rfl,v,rfl,by lia,trivial,?_]
 exists _,rfl;dsimp only[fB];refine i9 #[_,rfl,?_];dsimp only[fB];refine i9 (ju #[_,rfl,?_]);rw[vl,FM rfl];refine bJ ?_;exists _,rfl;refine jr (ρ:= [none]) au (λr=> .int (r.length:Int)) v _ (λr c Y o=>#[_,rfl,by rw[show(.int (r.length:Int):D)= .int ((r.map ae).length:Int) by rw[aG]] at o;exact o]) rfl (small (by lia)) λG=>?_
 dsimp only[fB];refine#[v.map λr=>((r.length:Nat):Int),by rw[b9];rfl,?_]
 rw[Om];exists _,rfl;dsimp only[fB];refine i9 #[.inl #[by decide,by decide],?_]
 dsimp only[dC,Rv,OS];refine ju ?_;exists _,rfl;have dg:=F.dg;rw[FM (show((gr v:Nat):Int)=6*(k.length:Int)-12 by lia)]
 refine bJ ?_;exists _,rfl;refine bM (λj ρ=>∃J L M,ρ= [some (.tup [.dm v, .lst (ts.map pairD)]),some (aP k),some (aP v),J,L,M]) #[_,_,_,rfl] ?_ ?_
 .rintro p _ _ hd ⟨J,L,M,rfl⟩ A hA
  obtain⟨hp,rfl⟩:=rB hd;have U:p<k.length:=by lia
  have rl:=c7 n p;have rlw:=c7 g p;exists rfl,rfl;exists _,rfl, .lst (ts.map pairD),rfl;refine pz (ρ:= [none,some (ae p)]) pairD (λt=>decide (t.1=p\/t.2=p)) (λt=>ae (t.1+t.2-p)) ts _ [] _ (λt I Y Nn u C=>?_) #[none,rfl] (small (by rw[mJ];lia)) λG=>?_
  .have ei:inD (ae p) [ae t.1,ae t.2]=decide (t.1=p\/t.2=p):=by
    have:=iH (p:=p) (r:= [t.1,t.2])
    rw[show([ae t.1,ae t.2]:List D)= [t.1,t.2].map ae from rfl,this];exact aaE.mpr (by simp[eq_comm])
   exists _,rfl,_,rfl,rfl,rfl,_,rfl;rw[ir dD];refine(?_:if inD (ae p) [ae t.1,ae t.2]=true then _ else _);rw[ei];refine cI (λe=>?_) (λe=>C e);have e':t.1=p\/t.2=p:=KF e;exists _,rfl,ae t.1,rfl,_,rfl,ae t.2,rfl,_,rfl
   have:=u e
   rw[show ae (t.1+t.2-p)= .int ((t.1:Int)+(t.2:Int)-(p:Int)) by unfold ae;congr 1;lia] at this
   exact this
  rw[wy,show(.lst ((ts.filter λt=>decide (t.1=p\/t.2=p)).map λt=>ae (t.1+t.2-p)):D)=au (jO ts p) by unfold jO au;rw[b9];rfl]
  exists trivial;have cn:=a.cnt p;exists _,rfl;dsimp only[fB];refine uG #[_,rfl,_,rfl,_,fF U,?_];dsimp only[fB];refine uG #[_,rfl,?_];dsimp only[fB];refine uG ?_;dsimp only[Lm];refine ju #[_,rfl,?_];rw[FM (show((row v p).length:Int)=((row k p).length:Int)+((jO ts p).length:Int) by lia)]
  refine bJ ?_;exists _,rfl;refine jr (ρ:= [none,some (au (row v p))]) ae (λ_=> .bl true) (jO ts p) _ (λy X Y o=>?_) rfl (small (by lia)) λG=>?_
  .refine#[_,rfl,_,rfl,rfl,dA _,?_]
   rw[ir dD,iH,FM (a.mem p y X)];exact o
  dsimp only[fB];refine#[(jO ts p).map λ_=>true,by rw[b9];rfl,?_]
  rw[show((jO ts p).map λ_=>true).all id=true by simp]
  refine#[rfl,bJ ?_];exists _,rfl;refine pz (ρ:= [none,some (au (jO ts p))]) ae (λq=>decide (q∉jO ts p)) ae (row v p) _ [] _ (λy X Y Nn u C=>?_) #[none,rfl] (small (by rw[mJ];lia)) λG=>?_
  .refine#[_,rfl,_,rfl,rfl,dA _,_,rfl,?_]
   rw[ls rfl,iH];exact cI (λe=>#[_,rfl,u (by simpa using e)]) (λe=>C (by simpa using e))
  rw[wy,a.row_ p];exists _,rfl,_,rfl,_,fF U;refine(?_:rS (au (row k p)) (au (row k p)) _);refine DR #[_,rfl,?_];rw[FM rfl];exact bJ (hA _ #[_,_,_,rfl])
 .rintro _ ⟨J,L,M,rfl⟩
  refine#[_,rfl, .dm v,rfl,_,rfl,v,rfl,n,by lia,by lia,rfl,bJ ?_]
  refine#[_,rfl, .dm v,rfl,v,rfl,n,by lia,by lia,a.pl,λx xs F2=>?_]
  obtain rfl:=F2.non λd r R N=>acs (F.all d r R N);refine#[.lst [],rfl,by show 0<=sizeLine;decide,?_]
  refine FQ (l:= []) (m:= []) #[_,rfl,?_];rw[FM rfl];refine bJ ?_;refine#[_,rfl,v,rfl,n,by lia,by lia,λO r0 rl ok cn Q=>?_]
  refine jr (ρ:= [none]) au (λ_=> .bl true) O _ (λr c Y o=>?_) rfl (small (by lia)) λG=>?_
  .obtain⟨d,Q,R,N,rfl⟩:=Q (by lia) r c
   have l3:=F.all d Q R N;exists _,rfl;dsimp only[fB,oJ,au];refine L8 ?_;rw[FM (by rw[aG,aG,l3];rfl)]
   exact o
  .refine#[O.map λ_=>true,by rw[b9];rfl,?_]
   rw[show(O.map λ_=>true).all id=true by simp]
   exact q
end Fw
namespace L2
open PySem PySem.Spec PyProof.Rows
def gG(K:ac)(x:Str)(st:Stmt):Prop:=∃(d:Addr)(b c:Option Addr)(e:Array (Option Value))(f kV g h a i:Value),OL K x d/\Dm K x x st d b c e f kV g h a i/\bd K a x=true/\ar K (.ref d)=true
def Fy(K:ac)(C:Addr)(m a:Str)(st:Stmt):Prop:=∃(d:Addr)(c e:Option Addr)(f:Array (Option Value))(g kV h i b j:Value),am K (.ref C) m=some (some (.ref d))/\bD K (.ref d)=true/\Dm K m a st d c e f g kV h i b j/\bd K b a=true/\ar K (.ref d)=true
abbrev qS(K:ac)(x:Str):Prop:=b6 K mainGlobals x=some none
section
variable {K:ac} {h:Heap} {mg:Str->Option Value}
theorem dfH{x:Str}{st:Stmt}{d:Addr}{e f:Option Addr}{g:Array (Option Value)}{i kV j m b n:Value}(a:OL K x d)(l:Dm K x x st d e f g i kV j m b n)(c:bd K b x=true)(k:ar K (.ref d)=true):gG K x st:=#[_,_,_,_,_,_,_,_,_,_,a,l,c,k]
theorem mfH{C:Addr}{m b:Str}{st:Stmt}{d:Addr}{g i:Option Addr}{j:Array (Option Value)}{n kV o p e q:Value}(a:am K (.ref C) m=some (some (.ref d)))(f:bD K (.ref d)=true)(l:Dm K m b st d g i j n kV o p e q)(c:bd K e b=true)(k:ar K (.ref d)=true):Fy K C m b st:=#[_,_,_,_,_,_,_,_,_,_,a,f,l,c,k]
noncomputable def fo.ch{x:Str}{st:Stmt}{d:List Str}(X:K.In h)(G:h.Ns mainGlobals mg)(e:gG K x st)
  (b:∀(kV f i:Value)(j:Option Addr)(m n:Value)(g:List Value),g.length=d.length->bindArgs (bj x x (iD st) (fC st) (av st) .none kV f i j m n) #[g,[]]=pure (d.zip g)):fo K mg x st d:=
 Classical.choice (by
  obtain⟨_,_,_,_,_,_,_,_,_,_,a,l,c,k⟩:=e;exact#[.of X G a l c k b])
noncomputable def Bx.ch{Z:DC}{m d:Str}{st:Stmt}{g:List Str}(e:Fy Z.K Z.C m d st)
  (b:∀(kV i n:Value)(o:Option Addr)(p q:Value)(j:List Value),j.length=g.length->bindArgs (bj m d (iD st) (fC st) (av st) .none kV i n o p q) #[j,[]]=pure (g.zip j)):Bx Z m d st g:=
 Classical.choice (by
  obtain⟨_,_,_,_,_,_,_,_,_,_,a,f,l,c,k⟩:=e;exact#[.of a f l c k b])
end
end L2
namespace Fw
open PySem L2 Wb
variable {P:Program} {w:World} {mg:Str->Option Value} {base:Heap} {Z:DC} (T:Txt Z mg)
theorem Oz{w:W}(g:Good w)(h:w.length=2):w= [[1],[0]]:=by
 match w,h with
 | [a,b],_=>
  have e:∀x∈a,x=1:=λx c=>by
   have d:=g.rng 0 x c
   have:x≠0:=λz=>by subst z;exact g.irr 0 c
   have d:x<2:=d;lia
  have j:∀x∈b,x=0:=λx c=>by
   have d:x<2:=g.rng 1 x c
   have:x≠1:=λz=>by subst z;exact g.irr 1 c
   lia
  have one:∀{l:List Nat}{y:Nat},l.Nodup->(∀x∈l,x=y)->l≠ []->l= [y]:=λ {l y} f h ne=>by
   match l,ne with
   | [x],_=>rw[h x (bB ..)]
   |x::z::l,_=>
    have k:=h x (bB ..);have m:=h z (by simp)
    rw[k,m] at f;simp at f
  have i:a≠ []:=by
   have:=yf g (by show 2<=2;decide)
   exact λz=>by subst z;exact absurd this (og 0)
  have n:b≠ []:=λz=>by
   obtain⟨x,c⟩:=List.exists_mem_of_ne_nil a i
   have:=g.sym 0 x c
   rw[e x c] at this;subst z;cases this
  have o:a= [1]:=one (g.nod 0) e i;have p:b= [0]:=one (g.nod 1) j n;rw[o,p]
theorem KQ{w:W}(ok:lH w)(h:w.length<3):lH (w.set 0 (row w 0++ [w.length])++ [[0]]):=by
 obtain⟨g,b,_,pl⟩:=ok
 by_cases c:w.length=1
 .obtain rfl:=pJ g c
  exact#[k7 (p:=0) (x:=0) g (by decide),by decide,by decide,λ_=>ES]
 .obtain rfl:=Oz g (by lia)
  have R:cG [[1],[0]] (0,1) [(0,1),(1,0)]:=#[2,by decide,rfl,λj d e=>by
   obtain rfl:j=1:=by lia
   decide,rfl]
  have a:aw [[1],[0]] (0,1):=bB ..;exact#[k7 (p:=0) (x:=1) g (by decide),by decide,by decide,λ_=>yA g R a (i:=0) (by decide) rfl rfl (pl (by decide))]
theorem Qe:FnOk P w Z.K mg base cF 10 T.d_law.f T.d_law.fd ["_law_script"] (br Z IK):=by
 have j:=II.nd;refine bA T.d_law.F II [0,2,0,2] (by decide) (λr R h=>by obtain⟨_,rfl,_⟩:=h;rfl) (λL A outer s H E r R c h=>?_)
 have t:=c.units
 refine#[_,(ah (gT 1 j (qx T.d__law_turns (wQ T) c (ab (aa 0) af)))
   (ah (j4 Gc (aV pF (az bq rfl T.B.len bh (ab (aa 1) af)) ay (bf _)) (ah (LR true 1 ay (az bq rfl T.B.len bh (ab (aa 1) af)))
   (ao (Jt 1 (gS (ab ay af))))))
   (vN 1
   (ah (bz false 2 j (DX T.mkW (mv T) (c.mono (by decide)) rfl T.mC T.m___init__b (ab (lI (NC:= ["_law_row_here"]) (src:= [none]) rfl (qT (av CH)) trivial (bL (aa 1)) (λ_ _ _=>(cw 0 (show(["_law_row_here"]:List Str).Nodup from by decide+kernel))) (λ_ _ _=>e8) (λ_ _ _=>(km xN rfl T.B.list sW (ab (aa 0) af)))) af)))
   (ah (LW 3 j (pG T) (c.mono (by decide)) rfl T.d_filled.m T.d_filled.F.kp T.d_filled.b (ab (aa 2) af))
   (ah (bU (DW.dt (gX (dO (dz (aI T.d__law_right (pI T) c (ab (aa 3) (ab (aa 1) af))))) (gu (aV (g7 t) (e7 T.W (aa 2) T.m_turns.m ((iM T).imp KI) (c.mono (by decide)) T.m_turns.b) (aa 1) (bf _))))) (ao (aR fq)) ba)
   (ah (DY 3 ay)
   (ao (aR (aI T.d__law_right (pI T) c (ab (aI T.d_filled ((pG T).imp KI) c (ab (aa 2) af)) (ab (aa 1) af)))))))))))),?_]
 obtain⟨l,rfl,M,q⟩:=h;refine#[_,rfl,l,rfl,λn o=>#[_,rfl,?_]];refine jm (λm ρ=>∃w,ρ= [some (.kQ l),some (aP w),none,none]/\lH w/\m+w.length=20) (20-n.length) #[n,rfl,o,by have:=o.2.2.1;lia] ?_
 rintro m _ ⟨a,rfl,ok,N⟩;exists _,rfl;dsimp only[fB];refine i9 #[_,rfl,cI (λe=>?_) (λe=>?_)]
 .have e:a.length<3:=by have:(a.length:Int)<3:=KF e;lia
  have p:=ok.2.1;have u:(a.map au).length=a.length:=aG _;have O:=c7 ok.1 0;have x:(a.map au)[0]? =some (.lst ((row a 0).map ae)):=uj (by lia)
  refine#[_,rfl,0,0,_,rfl,j7 (k:=0) (by rw[u];lia),x,?_]
  exists _,rfl;dsimp only[fB];refine i9 #[rfl,dG (by rw[aG];lia),?_]
  have z:(.lst ((a.map au).set 0 (.lst ((row a 0).map ae++ [.int (a.length:Int)]))):D)=aP (a.set 0 (row a 0++ [a.length])):=by
   unfold aP;rw[<-mF];unfold au;rw[c8];rfl
  rw[z];refine#[_,rfl,by show 1<=sizeLine;decide,dG (by rw[aG,f9];lia),m-1,by lia,a.set 0 (row a 0++ [a.length])++ [[0]],?_,KQ ok e,by rw[cE,f9];simp only[zJ];lia]
  unfold aP;rw[c8];rfl
 have i:3<=a.length:=by have:¬(a.length:Int)<3:=On e;lia
 obtain⟨g,p,d,pl⟩:=ok;have P:=pl (by lia)
 exists #[_,rfl];refine#[_,rfl,jr (ρ:= [none]) au au a _ (λy Q Y h=>#[_,rfl,h]) rfl (small (by lia)) λS=>?_]
 exists a,rfl,g,p,d,trivial;refine#[_,rfl,a,rfl,g,i,d,P,λv C F=>?_];refine#[_,rfl,_,rfl,a,v,C,rfl,g,i,d,F,rfl,bJ ?_];refine#[_,rfl,a,rfl,a,rfl,d,_,rfl,Lv #[_,rfl,?_]];rw[FM rfl];refine bJ ?_;exists _,rfl,1,1,_,rfl,rfl,rfl;exact#[_,rfl,a,rfl,g,i,d,P,λG I J=>#[_,rfl,a,G,I,rfl,g,i,d,J,q]]
set_option hygiene false in
local macro_rules| `(tactic|and_intros)=> `(tactic| (intro _ _ _ _ _ _ _ hl;first| (obtain⟨_,rfl⟩:=L2.RO hl;rfl) | (obtain⟨_,_,rfl⟩:=L2.RP hl;rfl) | (obtain⟨_,_,_,rfl⟩:=L2.RQ hl;rfl) | (obtain⟨_,_,_,_,rfl⟩:=L2.XT hl;rfl) | (obtain⟨_,_,_,_,_,rfl⟩:=L2.aal hl;rfl)))
theorem all_mk{l:ca}{w:World}(X:K.In h)(G:h.Ns mainGlobals a)(c:a "law"=some (.ref E)) 
  
  
  (gC:b6 K mainGlobals "Web"=some (some (.ref C)))
  (a0:gG K "round_from" lW)
  (a1:gG K "lands" pV)
  (a2:gG K "count" y8)
  (a3:gG K "is_plane" pU)
  (a4:gG K "need_plane" lU)
  (a5:gG K "is_among" pT)
  (a6:gG K "alien_fault" kH)
  (a7:gG K "self_fault" lX)
  (a8:gG K "twice_fault" kL)
  (a9:gG K "lone_fault" lS)
  (Zz:gG K "reached_from_first" eo)
  (ZA:gG K "apart_fault" kI)
  (ZC:gG K "first_fault" kJ)
  (ZD:gG K "put_behind" lV)
  (ZE:gG K "put_in" vq)
  (ZF:gG K "next_corner" kK)
  (ZG:gG K "filled_but" lR)
  (ZH:gG K "filled" vp)
  (ZI:gG K "_law_cell_at" jK)
  (ZJ:gG K "_law_row" pS)
  (ZK:gG K "_law_lands" lP)
  (ZL:gG K "_law_behind" kG)
  (ZM:gG K "_law_corner" iS)
  (ZN:gG K "_law_deed" nh)
  (ZO:gG K "_law_named" gM)
  (ZP:gG K "_law_turns" lQ)
  (ZQ:gG K "_law_is" sF)
  (ZR:gG K "_law_is_point" jj)
  (ZS:gG K "_law_are_ties" gz)
  (ZT:gG K "_law_right" dR)
  (L:OL K "law" d)
  (p:Dm K "law" "law" CH d N O Q R S U Y I V4)
  (ZY:bd K I "law"=true)
  (q:ar K (.ref d)=true)
  (m0:am K (.ref C) "__init__"=some (some (.ref b)))
  (f0:bD K (.ref b)=true)
  (r:Dm K "__init__" "Web.__init__" fG b f g i j k m n J o)
  (t:bd K J "Web.__init__"=true)
  (u:ar K (.ref b)=true)
  (m1:Fy K C "many" "Web.many" pQ)
  (m2:Fy K C "turns" "Web.turns" jZ)
  (m3:Fy K C "ties" "Web.ties" lu)
  (m4:Fy K C "tied" "Web.tied" pR)
  (m5:Fy K C "behind" "Web.behind" lO)
  (x:b4 K C Str.empty=true)
  (Pl:b5 K C=true)
  (y:cf K C=true)
  (z:am K (.ref C) "__setattr__"=some (some (.builtin "object.__setattr__")))
  (A:cy K C=true)
  (B:ar K (.ref C)=true)
  (nR:am K (.ref C) "rows"=some none)
  (w0:am K (.ref C) "__class__"=some (some (.builtin "object.__class__")))
  (w1:ce K (.builtin "object.__class__") "__get__"=some (some (.builtin "getset_descriptor.__get__")))
  (w2:cs K (.builtin "object.__class__")=some true)
  (w3:dn K C (.type "object")=some true)
  (V3:b6 K mainGlobals "__name__"=some (some (.str "law_mapdye_k22_whole_filled" H)))
  (ZZ:b6 K mainGlobals "MOST_POINTS"=some (some (.int 14 F)))
  (Zk:qS K "len")
  (Q8:qS K "range")
  (Zl:qS K "max")
  (Zm:qS K "min")
  (Fo:qS K "enumerate")
  (Zp:qS K "zip")
  (OC:qS K "sorted")
  (Zi:qS K "all")
  (C5:qS K "isinstance")
  (Zj:qS K "int")
  (Vy:qS K "bool")
  (Vz:qS K "list")
  (Q9:qS K "tuple")
  (Zo:qS K "sum")
  (HB:qS K "reversed")
  (Zn:qS K "set")
  :∃M:FuncData,(∀(s:Shared)(v:Value),BindsTo s M #[[v],[]] [("_law_script",v)])/\∀base:Heap,K.In base->base.Ns mainGlobals a->FnOk l.prog w K a base cF 40 E M ["_law_script"] (L2.ui K):=by
 have e:=c.symm.trans (aba X G L);cases e;have E0:=tG (st:=fG) r t u;have e0:=E0.binds (ps:= ["self","turns"]) (by and_intros)
 let Z:DC:=#[K,C]
 let T:Txt Z a:=#[#[KB X G Zk,KB X G Q8,KB X G Zl,KB X G Zm,KB X G Fo,KB X G Zp,KB X G OC,KB X G Zi,KB X G C5,KB X G Zj,KB X G Vy,KB X G Vz,KB X G Q9,KB X G Zo,KB X G HB],KB X G Zn, .ch X G a0 (by and_intros), .ch X G a1 (by and_intros), .ch X G a2 (by and_intros), .ch X G a3 (by and_intros), .ch X G a4 (by and_intros), .ch X G a5 (by and_intros), .ch X G a6 (by and_intros), .ch X G a7 (by and_intros), .ch X G a8 (by and_intros), .ch X G a9 (by and_intros), .ch X G Zz (by and_intros), .ch X G ZA (by and_intros), .ch X G ZC (by and_intros), .ch X G ZD (by and_intros), .ch X G ZE (by and_intros), .ch X G ZF (by and_intros), .ch X G ZG (by and_intros), .ch X G ZH (by and_intros), .ch X G ZI (by and_intros), .ch X G ZJ (by and_intros), .ch X G ZK (by and_intros), .ch X G ZL (by and_intros), .ch X G ZM (by and_intros), .ch X G ZN (by and_intros), .ch X G ZO (by and_intros), .ch X G ZP (by and_intros), .ch X G ZQ (by and_intros), .ch X G ZR (by and_intros), .ch X G ZS (by and_intros), .ch X G ZT (by and_intros), .of X G L p ZY q (by and_intros),#[#[x,Pl,y,z],nR],aba X G gC,b,_,E0,#[A,m0,f0,B],e0, .ch m1 (by and_intros), .ch m2 (by and_intros), .ch m3 (by and_intros), .ch m4 (by and_intros), .ch m5 (by and_intros),#[w0,w1,w2,w3,by unfold bx;exact ls (beq_self_eq_true _)],#[H,aba X G V3],#[F,aba X G ZZ]]
 exact#[_,λs v=> .of_eq rfl,λbase _ _=>(((Qe (P:=l.prog) (w:=w) (base:=base) T).mono (by decide)).imp (L2.PV (Z:=Z)))]
theorem walk{l:ca}{q:Program}{a:List Str}{i:(Str->Option Value)->Heap->Prop}{c:World->Heap->Prop}{d:DefRec}{K:Params->ac}(j:l.most=some 63)(k:d.params.defaults= [])
  (m:∀(w:World)(h:Heap),c w h->(K w.params).In h)
  (F:∀(w:World)(b:Str->Option Value)(e:Addr)(h:Heap),(K w.params).In h->h.Ns mainGlobals b->b d.name=some (.ref e)->
   ∃g:FuncData,(∀(s:Shared)(u:Value),BindsTo s g #[[u],[]] [("_law_script",u)])/\∀base:Heap,(K w.params).In base->base.Ns mainGlobals b->FnOk l.prog w (K w.params) b base cF 40 e g ["_law_script"] (ui (K w.params))):
  dy q a i c l.row.toRowW d [] (λf n=>db f n):=L2.Vs 40 (by decide) j k m F
end Fw
namespace PySem.W.Fast
def tw510437625076898079:=0
def tw6658215855094614241:=0
def tw716515999920231719:=0
def tw16157260746029609451:=0
def tw5874029011448959854:=0
def tw1062851250917859614:=0
def tw17844546015210430728:=0
def tw12067618401686017529:=0
def tw8351146705565220146:=0
def tw15439562079507470552:=0
def tw17854600323684544113:=0
def tw3529036038230783340:=0
def tw13330026124237571312:=0
def tw17943317415735691167:=0
def tw17945324842669580449:=0
def tw2870815131025253089:=0
def tw16795753934091657992:=0
def tw11713398312804995432:=0
def tw7658923180924717289:=0
def tw8106188218723961002:=0
def tw15439426751493494160:=0
def tw11169393711659250798:=0
def tw11016351551041162288:=0
def tw9100788371144307778:=0
def tw16264319779928597883:=0
def tw1231148036802965853:=0
def tw1820427549402436407:=0
def tw10418606741333067046:=0
def tw11175008283345818370:=0
def tw7127743143790961024:=0
def tw12839399363353804667:=0
def tw17068205174856245002:=0
def tw2103244926426215453:=0
def tw4751209183972453210:=0
def tw964977475772513960:=0
def tw5839478959067133477:=0
def tw2928910153985562855:=0
def tw7607547136174768572:=0
def tw8751737390632001866:=0
def tw14512558863784962511:=0
def tw50136106215276835:=0
def tw17233437565182386916:=0
def tw14094526311182918117:=0
def tw2407382961678280689:=0
def tw10337721486846799337:=0
def tw529580046472921412:=0
def tw2450108575671974589:=0
def tw5520102631123135857:=0
def tw2711593108710822902:=0
def tw5096628114799154458:=0
def tw3875742595318928013:=0
def tw12266144968435697723:=0
def tw8992774507424396252:=0
def tw1395311866485935567:=0
def tw13135104033177660713:=0
def tw16056086819795394072:=0
def tw6844069934314683830:=0
def tw13087528524704318321:=0
def tw12742309583793442600:=0
def tw3874038451611152429:=0
def tw12946761606141748987:=0
def tw5705812902325576393:=0
def tw12705649075885833532:=0
def tw16458610165451882264:=0
def tw2693133143862747481:=0
def tw3265642175569456446:=0
def tw5650474468525385562:=0
def tw5667247757867881853:=0
def tw1419556276632728996:=0
def tw9055555823738362210:=0
def tw16991665829199862216:=0
def tw2082587990157441583:=0
def tw2683530696455242288:=0
def tw12112629239187520354:=0
def tw10816307431218901358:=0
def tw16774454643797524181:=0
def tw17689424527290208224:=0
def tw14377268022168125724:=0
def tw11954517286689801618:=0
def tw2358077628243080334:=0
def tw13205287579577358360:=0
def tw11364257337369015037:=0
def tw11584448449693834199:=0
def tw14698492805297139797:=0
def tw4594572764320854711:=0
def tw11296362923639730870:=0
def tw13441186705407488773:=0
def tw98402776998819298:=0
def tw7356312215273336160:=0
def tw5247919498920808720:=0
def tw2293798651801295224:=0
def tw14062015144798440737:=0
def tw9418938137792331618:=0
def tw18241207504286317011:=0
def tw7765303780055580474:=0
def tw18054793253678535583:=0
def tw5465550653155914797:=0
def tw18274493511410218152:=0
def tw7216816736239991832:=0
def tw1890615639565345753:=0
def tw17452761449246274943:=0
def tw14040676727597808811:=0
def tw16027939168661414614:=0
def tw16556919479202388763:=0
def tw13091925744529896506:=0
def tw15809177425896492348:=0
def tw11723511358691089090:=0
def tw6454021884364601571:=0
def tw16163528825038471641:=0
def tw11536559943784909051:=0
def tw14599415020924981295:=0
def tw609075636919478540:=0
def tw13188056236139526920:=0
def tw7440198242101607612:=0
def tw8491482014689192654:=0
def tw359853965166594764:=0
def tw7828011049753413756:=0
def tw3846640329253980435:=0
def tw9543597101612145015:=0
def tw814873058781669188:=0
def tw8730448693458378355:=0
def tw185663468475929519:=0
def tw6582289429444181389:=0
def tw516899293534974812:=0
def tw593759801816274512:=0
def tw18080798949450993969:=0
def tw13251593139574209069:=0
def tw16489600544664337464:=0
def tw6991922940273150692:=0
def tw10315993517790165671:=0
def tw11087037886847756609:=0
def tw15502845950824242258:=0
def tw3837692150596314344:=0
def tw5378150208218648490:=0
def tw4243885222922934233:=0
def tw1417201582355313026:=0
def tw7613808599649382632:=0
def tw4164702653791387918:=0
def tw2745868594710126406:=0
def tw17581752613718888680:=0
def tw16280056389415581961:=0
def tw4844668022820695677:=0
def tw865670937400209710:=0
def tw2878030804495829271:=0
def tw3853186638702422607:=0
def tw17464650516907395840:=0
def tw1498697755553738308:=0
def tw17250498850741724230:=0
def tw11226154588418224647:=0
def tw14628846131659553744:=0
def tw18275645138391671350:=0
def tw6608731977192328593:=0
def tw894117889999423286:=0
def tw8233786798747805745:=0
def tw8775743223039666800:=0
def tw7240002161323415508:=0
def tw6309505472567339955:=0
def tw7805463588138719931:=0
def tw2697789514898562851:=0
def tw17118948802358649337:=0
def tw7544644019709116744:=0
def tw15635054513619250093:=0
def tw4814802139220299770:=0
def tw3514599014803703233:=0
def tw7194343777252517195:=0
def tw6802743116598058318:=0
def tw14151231517453065689:=0
def tw8098649085771169831:=0
def tw12138823445207590739:=0
def tw13602366068792996646:=0
def tw11319857900194443162:=0
def tw6485575789738702397:=0
def tw10819822701080354459:=0
def tw359574018291884895:=0
def tw16042355362535182372:=0
def tw13649952171910637922:=0
def tw7795078424517930641:=0
def tw16172174949978698513:=0
def tw1588729568885984448:=0
def tw7933549189064692300:=0
def tw4718111752828896751:=0
def tw4201868694419940044:=0
def tw10640188100562816678:=0
def tw13771874606764966358:=0
def tw746739653023376316:=0
def tw5523344766852511211:=0
def tw16460453468379898399:=0
def tw8300764804069113271:=0
def tw16343142783463459772:=0
def tw4204426837630845385:=0
def tw10377260734984720526:=0
def tw11767493140810178393:=0
def tw18421110580674803264:=0
def tw13195720344166044529:=0
def tw16291047573303736795:=0
def tw9395749480849010810:=0
def tw12171298036337175357:=0
def tw317615997676470970:=0
def tw25222036067776422:=0
def tw13191803890764057280:=0
def tw13711327563674194570:=0
def tw1953171818941863693:=0
def tw13825644121433499429:=0
def tw947817221337382620:=0
def tw2180891670220648166:=0
def tw10030564039711476803:=0
def tw2189759897349377621:=0
def tw7916052763752102058:=0
def tw5393419872892616390:=0
def tw16593893684487589750:=0
end PySem.W.Fast
open PySem PySem.W PyProof.Rows
set_option maxRecDepth 100000 in
set_option maxHeartbeats 0 in
theorem PySem.Challenge.cw_mapdye_k22_whole_filled_holds : PySem.Challenge.rw_mapdye_k22_whole_filled.Holds := by
 w_on;o_law;k_head;(case hw=>w_witness2)
 k_fill
 refine Fw.walk (l:=PySem.Challenge.rw_mapdye_k22_whole_filled) rfl rfl (λw h Y=>PySem.W.kIn_of Y) ?F
 case F=>
  intro w mg fa h KX G B5
  refine' Fw.all_mk KX G B5 ?_ ?_ ?_ ?_ ?_ ?_ ?_ ?_ ?_ ?_ ?_ ?_ ?_ ?_ ?_ ?_ ?_ ?_ ?_ ?_ ?_ ?_ ?_ ?_ ?_ ?_ ?_ ?_ ?_ ?_ ?_ ?_ ?_ ?_ ?_ ?_ ?_ ?_ ?_ ?_ ?_ ?_ ?_ ?_ ?_ ?_ ?_ ?_ ?_ ?_ ?_ ?_ ?_ ?_ ?_ ?_ ?_ ?_ ?_ ?_ ?_ ?_ ?_ ?_ ?_ ?_ ?_ ?_ ?_ ?_ ?_ ?_ ?_ ?_
  all_goals (try (first| (show _=_;k_is) | (refine' L2.dfH ?_ ?_ ?_ ?_<;>(try (show _=_;k_is))) | (refine' L2.mfH ?_ ?_ ?_ ?_ ?_<;>(try (show _=_;k_is)))))


