import PyProof.Rows.All
import Wide.All
import OpenK.AllK
import Wide.FinOn
import Lean
import PyProof.EqAt
import PyProof.EqKinds
import PyProof.TupleCall
import PyProof.RaisesMany
import KE.KSortTup
import PyProof.NeKinds
import PyProof.SetKind
import PyProof.SetRoads
import PyProof.SetNew
import PyProof.WalksS
import PyProof.CollectWalk
import PyProof.TupleKey
import PyProof.IsRules
import PyProof.InstEq
import KE.KRevIter
import PyProof.FitsBits
import PyProof.P3Eq
import PyProof.ListRange
import PyProof.MeetsSeq
import PySem.Challenge.RW_mapdye_k32_chords_and_points_within
open PySem.W renaming Frag→ac,keepIn→ai,codeIn→am,findIn→bd,nsIn→bj,emptyDict→bm,instObj→b0,isFn→b4,fnOf→b5,plainGet→b6,hasDictIn→ce,OpenLaw→cp,lookIn→cv,plainOver→cA,methodObj→cZ,takerIn→db,makesIn→dc,kitOne→du,WalkO→dL
open List renaming range→bb,replicate→bi,lookup→bz,Nodup→cr,length→dh
open PySem renaming Spec→bv,Within→da,SetTable→dy,call→dz
open Array renaming replicate→dm
abbrev ir:=@if_neg
abbrev tz:=@if_pos
abbrev FM:=@decide_eq_false
abbrev FS:=@decide_eq_true
abbrev Gc:=@congrArg
abbrev KM:=@of_decide_eq_true
abbrev M2:=@if_false
abbrev aak:=@of_decide_eq_false
abbrev aao:=@beq_eq_false_iff_ne
abbrev aaq:=@if_true
abbrev aar:=@decide_eq_decide
abbrev aav:=@beq_iff_eq
abbrev aaE:=@decide_eq_true_eq
abbrev aaF:=@getElem?_pos
abbrev abQ:=@bne_self_eq_false
abbrev ab2:=@or_false
abbrev acf:=@not_congr
abbrev acg:=@and_congr
open PySem renaming wpAny_bind→be,wpAny_pure→mo,wpAny_holding→KF,wpAny_truthy_bool→Pv,wpAny_newObj_type→PP,wpAny_setState_of→P3,wpAny_call_entry→Re,wpAny_Call_Name_kw→UV,wpAny_standAt→aam,mem_of_lookup→aap,wpAny_passesOwn→aat,wpAny_rule→aau,wpAny_comprehension_free→aax,wpAny_askSetting→aay,call_meets→aaA,codeAny_builtin→aaB,builtinLookup_eq_fast→aaG,plainId_quiet→aaI,wpAny_specialOf→aaM,codeAny_mono→aaN,wpAny_callSpecial?_slot→aaU,wpAny_storeSet_of→aaX,fits_of_scanBound→aaY,wpAny_Call_method_late→aaZ,wpAny_of_eq→aa0,wpAny_newList→aa4,wpAny_execs_nil→abf,wpAny_typeOf→abh,typeLookup_type→abo,wpAny_ite_false→abp,wpAny_setEntries_of→abt,wpAny_ite_true→abw,sizeLine_eq→abA,wpAny_attempt→abI,wpAny_assign_Name→abO,wpAny_isInstance→abY,wpAny_forIn_list→abZ,codeAny_of_tree→acb,wpAny_updateSeq→acd,codeAny_compStart_list→ack,isSubtype_type→acu,wpAny_setField→acv,wpAny_seqItems→acw,codeAny_loop→acA
open PySem.Heap renaming get?_push_of_some→AC,lt_size→Fk,get?_push_size→GM,get?_update_self→UF,get?_update_other→aas,size_update→aaH,get?_update_ne→aaK,get?_push_ne→aaW
open PyProof.Rows renaming wpS_bind→Da,wpS_pure→Do,wpS_mono→Os,wpS_forRange→Pi,callWith_type1→SL,wpS_get→aaJ,wpS_modify→aaT,sortedAll_old→aa3,wpS_lift→aa8,slot_tuple_getitem→abe,sortedAll_at→abj,get?_update_seq→abk,assignInOrder_cons→abB,listUpdate_at→abH,callWith_type→abL,evalArgs_nil3→abM,size_push'→abS,subscriptTail_builtinR→acj,seqEpoch_at→acm,args_list_sort→acq,plain_sorted→acB,entry_sorted→acC,args_sorted1→acD
open Option.some renaming inj→FB
open Classical renaming byContradiction→GE
open PySem.PassesOwn renaming never→GT
open PyProof.Rows.KeyOrd renaming kle_trans→IR,kle_of_klt→On,kle_refl→SZ,klt_of_kle_of_klt→aaP
open PySem.W renaming mg_none_of→KB,kia_one→SB,mg_of→aa6,plainGet_of→abr,callWith_K→abD,cellsFrom_some→ach
open List.Pairwise renaming imp_of_mem→Wp
open PySem.F renaming plainAttrs_list→W1,args_tuple_add_2→abV,entry_tuple_add→ab4,slot_list_index→ab7,type_list_index→ab8,slot_tuple_add→aci,plainAttrs_set→acp
open PySem.Heap.SameBut renaming update→aaj
open Prod.mk renaming inj→aal,injEq→aan
open PySem.Around renaming under_plainId→aaw,in1_units→abX
open List.Perm renaming eq_of_pairwise→aaz,append_left→abb
open Prod renaming ext→aaC
open PySem.Calls renaming callWith_builtin→aaD,call_function_entry→aaL,evalArgs_plain→abi,Name_function_global→abG
open PySem.SeqAt.EqAt renaming int_int→aaO
open Array renaming size_setIfInBounds→aaQ,getElem?_setIfInBounds→abv,toList_inj→abW,toList_filterMap→acn
open PySem.SetTable renaming toList_insertAt→aaR,insertAt_perm→aa1
open PySem.Obj renaming data_mapFields→aaS
open List renaming reverse_perm→aaV,all_cons→aa2,isEmpty_nil→aa9,ext_getElem→aba,pairwise_reverse→abc,dropLast_eq_take→abd,reverse_reverse→abl,mem_of_mem_take→abm,getElem?_append→abn,filterMap_cons→abq,drop_drop→abu,countP_eq_length_filter→abx,count_set→aby,take_succ→abz,mem_filterMap→abC,find?_eq_none→abE,exists_cons_of_ne_nil→abK,take_sublist→abP,reverse_cons→abR,mem_of_find?_eq_some→abT,count_replicate_self→abU,any_eq_true→ab0,eraseIdx_cons_succ→ab5,pairwise_singleton→ab6,of_mem_zip→ab9,foldl_cons→aca,getElem_replicate→aco,drop_take→acr,map_nil→acy
open Bool renaming not_true→aa5,or_eq_true→ace,not_false→acs,or_false→acx
open Nat renaming lt_succ_self→aa7,ne_of_gt→abg,add_sub_cancel→abF,sub_zero→ab1,succ_mul→acz
open PySem.MeetsSeq3 renaming plain_eq_loop→abJ
open PySem.Value renaming isInt_shape→abN
open Int renaming natCast_emod→ab3
open Nat.succ renaming inj→acE
theorem ah{g:Prop}(h:∀G:Prop,(g->G)->G):g:=h g id
set_option hygiene false in
local macro_rules|`(tactic|rfl')=>`(tactic|refine ah fun G0 k0=>?_)
set_option hygiene false in
local macro_rules|`(tactic|ac_rfl)=>`(tactic|refine k0 ?_)
set_option Elab.async false
set_option linter.all false
set_option maxRecDepth 100000
abbrev aU:= @List.getD_eq_getElem?_getD
abbrev aD:= @List.length_map
abbrev bB:= @List.getElem?_eq_getElem
abbrev b7:= @List.length_append
abbrev cG:= @List.mem_cons_of_mem
abbrev dQ:= @List.getElem?_eq_some_iff
abbrev cg:= @List.mem_cons_self
abbrev bJ:= @Nat.le_refl
abbrev eN:= @Array.length_toList
abbrev gm:= @List.mem_append_right
abbrev cm:= @List.length_take
abbrev bV:= @List.mem_range
abbrev fF:= @List.getElem?_append_left
abbrev cT:= @List.size_toArray
abbrev di:= @Bool.false_ne_true
abbrev cJ:= @List.map_append
abbrev bY:= @List.mem_map
abbrev dF:= @List.getElem?_map
abbrev fi:= @Array.getElem?_toList
abbrev cV:= @List.mem_append
abbrev cC:= @List.mem_cons
abbrev hU:= @List.getElem?_append_right
abbrev cn:= @Nat.ne_of_lt
abbrev dM:= @List.length_cons
abbrev fG:= @List.mem_append_left
abbrev fH:= @List.mem_of_getElem?
abbrev e7:= @List.mem_singleton
abbrev fj:= @Bool.false_eq_true
abbrev gh:= @List.mem_iff_getElem
abbrev h8:= @List.idxOf_lt_length_iff
abbrev cF:= @Nat.zero_le
abbrev fI:= @List.nodup_append
abbrev hV:= @List.take_append_drop
abbrev fR:= @List.length_drop
abbrev dN:= @List.map_map
abbrev mH:= @List.drop_eq_getElem_cons
abbrev ic:= @Nat.lt_of_lt_of_le
abbrev hZ:= @List.pairwise_map
abbrev jh:= @Array.toList_append
abbrev iR:= @List.length_range
abbrev qi:= @Array.getElem?_eq_getElem
abbrev ie:= @List.nodup_cons
abbrev ji:= @Nat.mod_eq_of_lt
abbrev kN:= @List.getElem_idxOf
abbrev nX:= @List.getElem?_eq_none
abbrev h7:= @List.map_cons
abbrev nY:= @List.getD_cons_succ
abbrev j7:= @List.append_nil
abbrev jj:= @List.nodup_nil
abbrev iS:= @Nat.lt_irrefl
abbrev mI:= @List.flatMap_cons
abbrev qZ:= @List.getElem?_set_self
abbrev t4:= @List.getElem?_take_of_lt
abbrev q0:= @List.length_singleton
abbrev jk:= @List.map_take
abbrev nZ:= @List.append_assoc
abbrev j8:= @List.map_drop
abbrev mJ:= @List.length_set
abbrev mK:= @List.length_nil
abbrev mL:= @List.mem_filter
abbrev n0:= @List.getElem_mem
abbrev qj:= @List.getElem?_set
abbrev vz:= @List.getElem?_cons_succ
abbrev yV:= @List.nodup_iff_pairwise_ne
abbrev n5:= @List.nil_append
abbrev rf:= @List.getElem?_drop
abbrev t5:= @List.getElem?_of_mem
abbrev t6:= @List.length_pos_iff
abbrev kO:= @Nat.sub_self
abbrev j9:= @Nat.le_succ
abbrev rg:= @Nat.le_of_not_lt
abbrev rh:= @List.mem_reverse
abbrev mM:= @Nat.le_trans
abbrev Al:= @Array.getElem?_eq_some_iff
abbrev Am:= @List.perm_ext_iff_of_nodup
abbrev yW:= @List.take_of_length_le
abbrev yX:= @List.drop_eq_nil_of_le
abbrev t7:= @List.flatten_cons
abbrev n6:= @Nat.zero_add
abbrev t8:= @List.lookup_cons
abbrev yY:= @List.getElem?_set_ne
abbrev An:= @List.getElem?_replicate
abbrev vA:= @Array.toList_push
abbrev vB:= @Int.toNat_natCast
abbrev D7:= @Array.getD_eq_getD_getElem?
abbrev yZ:= @List.replicate_succ
abbrev y1:= @List.reverse_append
abbrev vC:= @List.filter_cons
abbrev Ao:= @List.length_replicate
abbrev D8:= @List.pairwise_iff_getElem
abbrev rj:= @Nat.mod_self
abbrev y2:= @Bool.eq_false_iff
abbrev D9:= @List.length_eq_zero_iff
abbrev Ap:= @List.getElem?_range
abbrev Aq:= @List.length_reverse
abbrev y3:= @Bool.and_eq_true
abbrev y4:= @List.mem_flatMap
abbrev Ea:= @List.length_pos_of_mem
abbrev Eb:= @List.drop_of_length_le
abbrev Ar:= @Array.size_extract
abbrev sA:= @List.range_succ
abbrev yK:= @List.concat_eq_append
abbrev yL:= @List.length_filter_le
abbrev fQ:= @List.perm_append_comm
abbrev B2:= @Array.perm_iff_toList_perm
abbrev uO:= @List.ext_getElem?
abbrev uP:= @Nat.lt_succ_of_lt
abbrev uQ:= @List.getElem_take
abbrev lN:= @Nat.mod_lt
abbrev yM:= @Array.toList_reverse
abbrev sC:= @List.nodup_range
abbrev uR:= @List.not_mem_nil
abbrev B3:= @List.set_eq_of_length_le
abbrev uS:= @List.mem_flatten
abbrev yN:= @List.flatMap_append
abbrev uT:= @List.idxOf_cons
abbrev B4:= @Array.getElem?_eq_none
abbrev yO:= @List.pairwise_lt_range
abbrev sD:= @Nat.le_of_lt
abbrev uU:= @List.take_zero
abbrev uV:= @Nat.mul_le_mul
abbrev B5:= @List.eq_nil_or_concat
abbrev yP:= @List.getElem_map
abbrev yQ:= @List.flatMap_nil
abbrev yR:= @List.all_eq_true
abbrev B6:= @List.pairwise_append
abbrev uW:= @List.any_cons
abbrev B7:= @List.map_congr_left
abbrev B8:= @List.flatten_append
abbrev uX:= @List.map_set
abbrev B9:= @List.getElem_range
abbrev yS:= @Bool.false_and
abbrev yT:= @Bool.and_false
abbrev yU:= @Bool.xor_false
namespace L2
open PySem PySem.Spec PyProof.Rows
abbrev Key:=Sum Int Str
def KG:Key->Value->Bool
 | .inl k,v=>Value.isInt k v
 | .inr x,v=>Value.isStrOf x v
def W2(w:World):Key->Int
 | .inl k=>hashInt k
 | .inr x=>hashStr w x
theorem dr:∀{k:Key}{v:Value},KG k v=true->(∃i t,k=Sum.inl i/\v=Value.int i t)\/(∃x t,k=Sum.inr x/\v=Value.str x t)
 | .inl i,v,h=>by
  obtain⟨t,e⟩:=abN (k:=i) (v:=v) h;exact .inl ⟨i,t,rfl,e⟩
 | .inr x,v,h=>by
  obtain⟨t,e⟩:=Value.isStrOf_shape (x:=x) (v:=v) h;exact .inr ⟨x,t,rfl,e⟩
theorem M6(a b:Int):decide ((Sum.inl a:Key)=Sum.inl b)=(a==b):=by
 by_cases e:a=b
 ·subst e;simp
 ·have h:¬(Sum.inl a:Key)=Sum.inl b:=λq=>e (Sum.inl.inj q)
  rw[FM h];exact(aao.mpr e).symm
theorem Na(a b:Str):decide ((Sum.inr a:Key)=Sum.inr b)=decide (a=b):=by
 by_cases e:a=b
 ·subst e;simp
 ·have h:¬(Sum.inr a:Key)=Sum.inr b:=λq=>e (Sum.inr.inj q)
  rw[FM h,FM e]
theorem M7(a:Int)(b:Str):decide ((Sum.inl a:Key)=Sum.inr b)=false:=FM (λq=>nomatch q)
theorem M9(a:Str)(b:Int):decide ((Sum.inr a:Key)=Sum.inl b)=false:=FM (λq=>nomatch q)
def xH(prog:Program)(w:World):PySem.KeyKind prog w Key where
 is:=KG
 hash:=W2 w
 inj:=λv a b g f=>by
  rcases dr g with ⟨i,t,rfl,rfl⟩ | ⟨x,t,rfl,rfl⟩
  ·rcases dr f with ⟨j,u,rfl,e⟩ | ⟨y,u,rfl,e⟩
   ·injection e with c _;rw[c]
   ·exact nomatch e
  ·rcases dr f with ⟨j,u,rfl,e⟩ | ⟨y,u,rfl,e⟩
   ·exact nomatch e
   ·injection e with c _;rw[c]
 byValue:=λk v h=>by
  rcases dr h with ⟨i,t,rfl,rfl⟩ | ⟨x,t,rfl,rfl⟩<;>rfl
 pyHash:=λd h=>by
  rcases dr d with ⟨i,t,rfl,rfl⟩ | ⟨x,t,rfl,rfl⟩
  ·exact wpAny_pyHash_int h
  ·exact wpAny_pyHash_str h
 eqBool:=λl d h=>by
  rcases dr l with ⟨i,t,rfl,rfl⟩ | ⟨x,t,rfl,rfl⟩
  ·rcases dr d with ⟨j,u,rfl,rfl⟩ | ⟨y,u,rfl,rfl⟩
   ·rw[M6] at h;exact wpAny_eqBool_int h
   ·rw[M7] at h;exact SeqAt.EqAt.int_str i t y u _ _ _ _ h
  ·rcases dr d with ⟨j,u,rfl,rfl⟩ | ⟨y,u,rfl,rfl⟩
   ·rw[M9] at h;exact SeqAt.EqAt.str_int x t j u _ _ _ _ h
   ·rw[Na] at h;exact wpAny_eqBool_str h
 «strs»:=λk x t v h=>by
  rcases dr h with ⟨i,u,rfl,e⟩ | ⟨y,u,rfl,e⟩
  ·exact nomatch e
  ·injection e with c _
   subst c;cases v<;>rfl
inductive V where
 |bA|bl (b:Bool) |int (i:Int) |str (x:Str) |Hu (b:Array UInt8) |Ez (b:UInt64) |ref (a:Addr) |ty (n:String)
 deriving DecidableEq
def RelV:V->Value->Prop
 | .bA,u=>u=Value.none
 | .bl b,u=>u=Value.bool b
 | .int i,u=>∃t,u=Value.int i t
 | .str x,u=>∃t,u=Value.str x t
 | .Hu b,u=>∃t,u=Value.bytes b t
 | .Ez b,u=>∃t,u=Value.float b t
 | .ref a,u=>u=Value.ref a
 | .ty n,u=>u=Value.type n
abbrev Vals:List V->List Value->Prop:=Paired RelV
theorem Vals.length{a:List V}{b:List Value}(r:Vals a b):a.length=b.length:=Paired.length r
theorem Vals.get:∀{a:List V}{b:List Value}{i:Nat}{x:V},Vals a b->a[i]? =some x->∃u,b[i]? =some u/\RelV x u
 |_,_,_,_, .nil,e=>by simp at e
 |_,_,0,_, .cons r _,e=>by simp at e;subst e;exact⟨_,rfl,r⟩
 |_,_,i+1,x, .cons _ t,e=>by
  obtain⟨u,c,d⟩:=Vals.get (i:=i) (x:=x) t (by simpa using e)
  exact⟨u,by simpa using c,d⟩
theorem Vals.set{x:V}(r:RelV x u):∀{a:List V}{b:List Value}(i:Nat),Vals a b->Vals (a.set i x) (b.set i u)
 |_,_,_, .nil=> .nil
 |_,_,0, .cons _ t=> .cons r t
 |_,_,i+1, .cons q t=> .cons q (Vals.set r i t)
theorem Vals.append:∀{a b:List V}{c d:List Value},Vals a c->Vals b d->Vals (a++b) (c++d)
 |_,_,_,_, .nil,s=>s
 |_,_,_,_, .cons r t,s=> .cons r (Vals.append t s)
theorem Vals.take:∀{a:List V}{b:List Value}(n:Nat),Vals a b->Vals (a.take n) (b.take n)
 |_,_,0,_=> .nil
 |_,_,_+1, .nil=> .nil
 |_,_,n+1, .cons r t=> .cons r (Vals.take n t)
theorem Vals.drop:∀{xs:List V}{a:List Value}(n:Nat),Vals xs a->Vals (xs.drop n) (a.drop n)
 |_,_,0,r=>r
 |_,_,_+1, .nil=> .nil
 |_,_,n+1, .cons _ t=>Vals.drop n t
def oE:Option V->Option Value->Prop
 |some v,some u=>RelV v u
 |none,none=>True
 |_,_=>False
def KV{a:Type}:List (a×V)->List (a×Value)->Prop:=Paired λ(p:a×V)(q:a×Value)=>p.1=q.1/\RelV p.2 q.2
def kV:Key->V
 | .inl i=> .int i
 | .inr x=> .str x
inductive HO where
  |lst (xs:List V)
  |tup (xs:List V)
  |dK (fe:List (Key×V)) |dT (fe:List (List Key×V))
  |set (S:Int->Bool) (n:Nat)
  |ins (C dx:Addr) (fs:List (Str×V))
  |own (x:Addr)
  |xd (fs:List (Str×V))
  |met (f x:Addr)
  |rng (lo hi:Int)
  |sS (o:Obj) (u:HO)
  |FZ (ps:Array Value)
  |ext (φ:Heap->Prop)
abbrev Hp:=Addr->Option HO
def upd(H:Hp)(a:Addr)(o:HO):Hp:=λb=>if b=a then some o else H b
theorem aB{a:Addr}{o:HO}:upd H a o a=some o:=by unfold upd;rw[tz rfl]
theorem aN{a b:Addr}{o:HO}(h:b≠a):upd H a o b=H b:=by unfold upd;rw[ir h]
theorem bu{H:Hp}{a b:Addr}{o:HO}(h:H a=some o)(c:H b=none):a≠b:=by
 intro e;subst e;rw[h] at c;cases c
section
variable (P:Program) (w:World)
def dO(H:Hp)(h:Heap)(a:Addr):HO->Prop
 | .lst c=>c.length<=sizeLine/\∃(b:List Value)(n:Nat),Vals c b/\h.get? a=some {cls:= .type "list",data:= .seq b.toArray n}
 | .tup c=>c.length<=sizeLine/\∃b:List Value,Vals c b/\IsTup h a b.toArray
 | .dK e=>e.length<=sizeLine/\(a==sysModules)=false/\∃j,KV e j/\h.DictOf (xH P w) a j
 | .dT e=>e.length<=sizeLine/\(a==sysModules)=false/\∃c:List (List Key×Addr×Value),
   Paired (λ(p:List Key×V)(q:List Key×Addr×Value)=>p.1=q.1/\H q.2.1=some (.tup (p.1.map kV))/\RelV p.2 q.2.2) e c/\
   ∃o k r,h.get? a=some o/\o.ExactDict/\o.data= .dict k r/\k.toList=c.map (entryOfKey (tupleKind (xH P w)))/\(c.map (·.1)).Nodup
 | .set S n=>h.SetOf (intKind P w) a S n
 | .ins C g fs=>H g=some (.own a)/\fs.length<=1000/\g≠a/\h.get? a=some (b0 C g)/\
   ∃d,h.Ns1 g d/\(∀f,oE (fs.lookup f) (d f))/\da d (fs.map (·.1))
 | .own _=>∃o,h.get? a=some o
 | .xd fs=>∃d,h.Ns1 a d/\∀f,oE (fs.lookup f) (d f)
 | .rng lo s=>∃t u v,h.get? a=some {cls:= .type "range",data:= .fields #[.int lo t, .int s u, .int 1 v]}
 | .sS o u=>h.get? a=some o/\dO H h a u
 | .FZ y=>h.get? a=some {cls:= .none,data:= .fields y}
 | .met f x=>h.get? a=some (cZ (.ref f) (.ref x))
 | .ext i=>i h/\(∃o,h.get? a=some o)/\∀l m:Heap,i l->(∀o,l.get? a=some o->m.get? a=some o)->i m
def jl(H:Hp)(h:Heap):Prop:=∀a o,H a=some o->dO P w H h a o
end
section
variable {P:Program} {w:World} {H H':Hp} {h h':Heap} {a:Addr} {o:HO}
theorem dO.lt(x:dO P w H h a o):a<h.objs.size:=by
 cases o with
 |lst b=>obtain⟨_,_,_,_,e⟩:=x;exact Fk e
 |tup b=>obtain⟨_,_,_,p⟩:=x;exact p.lt
 |dK c=>obtain⟨_,_,_,_,o,_,_,e,_⟩:=x;exact Fk e
 |dT c=>obtain⟨_,_,_,_,o,_,_,e,_⟩:=x;exact Fk e
 |set S n=>obtain⟨o,_,_,_,e,_⟩:=x;exact Fk e
 |ins C d fs=>obtain⟨_,_,_,e,_⟩:=x;exact Fk e
 |own y=>obtain⟨_,e⟩:=x;exact Fk e
 |xd fs=>obtain⟨_,⟨_,_,_,e,_⟩,_⟩:=x;exact Fk e
 |rng lo g=>obtain⟨_,_,_,e⟩:=x;exact Fk e
 |sS i u=>obtain⟨e,_⟩:=x;exact Fk e
 |FZ j=>exact Fk (show h.get? a=some _ from x)
 |met f y=>exact Fk (show h.get? a=some _ from x)
 |ext k=>obtain⟨_,⟨_,e⟩,_⟩:=x;exact Fk e
theorem Paired.Pp:∀{c:List e}{d:List g},Paired F c d->(∀a b,F a b->G a b)->Paired G c d
 |_,_, .nil,_=> .nil
 |_,_, .cons r t,f=> .cons (f _ _ r) (Paired.Pp t f)
theorem dO.vt(x:dO P w H h a o)(k:∀b u,(b=a\/H b=some (.own a))->h.get? b=some u->h'.get? b=some u)
  (E:∀b,H b=some (.own a)->H' b=some (.own a)) (F:∀b m,H b=some (.tup m)->H' b=some (.tup m)):dO P w H' h' a o:=by
 induction o with
 |lst m=>obtain⟨z,l,n,r,e⟩:=x;exact⟨z,l,n,r,k _ _ (.inl rfl) e⟩
 |tup m=>obtain⟨z,l,r,g,e,c⟩:=x;exact⟨z,l,r,g,k _ _ (.inl rfl) e,c⟩
 |dK G=>obtain⟨z,y,I,r,g,i,j,e,c⟩:=x;exact⟨z,y,I,r,g,i,j,k _ _ (.inl rfl) e,c⟩
 |dT G=>
  obtain⟨z,y,m,r,g,i,j,e,c⟩:=x;exact⟨z,y,m,Paired.Pp r λp q z=>⟨z.1,F _ _ z.2.1,z.2.2⟩,g,i,j,k _ _ (.inl rfl) e,c⟩
 |set S n=>obtain⟨g,i,j,t,e,c⟩:=x;exact⟨g,i,j,t,k _ _ (.inl rfl) e,c⟩
 |ins C N fs=>
  rfl';obtain⟨d,z,ne,e,s,⟨A,i,j,L,c⟩,r⟩:=x;ac_rfl;exact⟨E _ d,z,ne,k _ _ (.inl rfl) e,s,⟨A,i,j,k _ _ (.inr d) L,c⟩,r⟩
 |own y=>obtain⟨g,e⟩:=x;exact⟨g,k _ _ (.inl rfl) e⟩
 |xd fs=>obtain⟨s,⟨A,i,j,e,c⟩,r⟩:=x;exact⟨s,⟨A,i,j,k _ _ (.inl rfl) e,c⟩,r⟩
 |rng lo Q=>obtain⟨t,u,v,e⟩:=x;exact⟨t,u,v,k _ _ (.inl rfl) e⟩
 |sS g u M=>obtain⟨e,q⟩:=x;exact⟨k _ _ (.inl rfl) e,M q⟩
 |FZ B=>
  have e:h.get? a=some {cls:= .none,data:= .fields B}:=x;show h'.get? a=some {cls:= .none,data:= .fields B};exact k a _ (.inl rfl) e
 |met f y=>
  have e:h.get? a=some (cZ (.ref f) (.ref y)):=x;show h'.get? a=some (cZ (.ref f) (.ref y));exact k a _ (.inl rfl) e
 |ext R=>obtain⟨p,⟨o,e⟩,st⟩:=x;exact⟨st _ _ p λo q=>k _ _ (.inl rfl) q,⟨o,k _ _ (.inl rfl) e⟩,st⟩
theorem jl.lt(x:jl P w H h)(e:H a=some o):a<h.objs.size:=(x a o e).lt
theorem jl.fresh(x:jl P w H h)(e:h.objs.size<=a):H a=none:=by
 cases q:H a with
 |none=>rfl
 |some u=>exact absurd (ic (x.lt q) e) (iS _)
theorem jl.kept(x:jl P w H h)(k:∀b u,h.get? b=some u->h'.get? b=some u):jl P w H h':=λa o e=>
 (x a o e).vt (λb u _ q=>k b u q) (λ_ q=>q) λ_ _ q=>q
theorem jl.laid(x:jl P w H h)(k:∀b u,h.get? b=some u->h'.get? b=some u)(g:h.objs.size<=a)(new:dO P w (upd H a o) h' a o):jl P w (upd H a o) h':=λb u e=>by
 have d:=x.fresh g
 by_cases f:b=a
 ·subst f;rw[aB] at e;cases e;exact new
 ·rw[aN f] at e
  exact(x b u e).vt (λc v _ q=>k c v q) (λc q=>by rw[aN (bu q d)];exact q) λc i q=>by rw[aN (bu q d)];exact q
end
def Rd(H:Hp)(a:Addr)(u:HO):Prop:=H a=some u\/∃o,H a=some (.sS o u)
theorem Rd.ok{P:Program}{w:World}{H:Hp}(r:Rd H a u)(x:jl P w H h):dO P w H h a u:=by
 rcases r with r| ⟨o,r⟩
 ·exact x a u r
 ·obtain⟨_,q⟩:=x a _ r
  exact q
def Mr:Option HO->Prop
 |some (.lst _)=>True
 |some (.dK _)=>True
 |some (.dT _)=>True
 |some (.set _ _)=>True
 |some (.ins _ _ _)=>True
 |some (.ext _)=>True
 |_=>False
section
variable {P:Program} {w:World} {H:Hp} {h h':Heap} {x e:Addr} {o':HO}
theorem jl.write(ok:jl P w H h)(a:Mr (H x))(j:e=x\/H e=some (.own x))(k:∀b u,b≠e->h.get? b=some u->h'.get? b=some u)(n:∃u,h'.get? e=some u)
  (new:dO P w (upd H x o') h' x o'):jl P w (upd H x o') h':=λb u q=>by
 have l:∀c y,H c=some (.own y)->c≠x:=λc y r z=>by subst z;rw[r] at a;exact a
 have o:∀c d,H c=some (.tup d)->c≠x:=λc d r z=>by subst z;rw[r] at a;exact a
 by_cases f:b=x
 ·subst f;rw[aB] at q;cases q;exact new
 ·rw[aN f] at q
  by_cases g:b=e
  ·have m:H b=some (.own x):=by
    rcases j with z|z
    ·exact absurd (g.trans z) f
    ·rw[g];exact z
   obtain⟨v,p⟩:=n;rw[q] at m;cases m;exact⟨v,by rw[g];exact p⟩
  ·refine(ok b u q).vt (λc v i r=>k c v ?_ r) (λc r=>by rw[aN (l c b r)];exact r) λc d r=>by rw[aN (o c d r)];exact r
   rcases i with rfl|i
   ·exact g
   ·rintro rfl
    rcases j with z|z
    ·exact l c b i z
    ·rw[i] at z;cases z;exact f rfl
end
structure Un (fs ex:List Addr) (H H':Hp) (h h':Heap):Prop where
 keep:∀b o,h.get? b=some o->H b=none->b∉fs->b∉ex->h'.get? b=some o
 slot:∀b o,h.get? b=some o->H b=none->b∈fs->b∉ex->∃sl,h'.get? b=some {o with slots:=sl}
 free:∀b o,h.get? b=some o->H b=none->b∉ex->H' b=none
 there:∀b o,h.get? b=some o->b∉ex->∃o',h'.get? b=some o'
 tups:∀b xs,H b=some (.tup xs)->H' b=some (.tup xs)
 frzs:∀b o u,H b=some (.sS o u)->H' b=some (.sS o u)
 tbls:∀b ps,H b=some (.FZ ps)->∃more,H' b=some (.FZ (ps++more))
section
variable {fs fs' ex qH:List Addr} {H H1 H2:Hp} {h h1 h2 h':Heap} {a x e:Addr} {o:HO}
theorem Un.any(u:Un fs ex H H1 h h1)(q:h.get? b=some c)(n:H b=none)(d:b∉ex):∃g,h1.get? b=some {c with slots:=g}:=by
 by_cases f:b∈fs
 ·exact u.slot b c q n f d
 ·exact⟨c.slots,u.keep b c q n f d⟩
theorem Un.kept(k:∀b u,h.get? b=some u->h'.get? b=some u):Un fs ex H H h h':=
 ⟨λb c q _ _ _=>k b c q,λb c q _ _ _=>⟨c.slots,k b c q⟩,λ_ _ _ n _=>n,λb c q _=>⟨c,k b c q⟩,λ_ _ q=>q,λ_ _ _ q=>q,λ_ d q=>⟨#[],by rw[q];simp⟩⟩
theorem Un.refl:Un fs ex H H h h:=Un.kept λ_ _ q=>q
theorem Un.laid(k:∀b u,h.get? b=some u->h'.get? b=some u)(d:h.objs.size<=a)(c:H a=none):Un fs ex H (upd H a o) h h' where
 keep:=λb u q _ _ _=>k b u q
 slot:=λb u q _ _ _=>⟨u.slots,k b u q⟩
 free:=λb u q n _=>by rw[aN (cn (ic (Fk q) d))];exact n
 there:=λb u q _=>⟨u,k b u q⟩
 tups:=λb f q=>by rw[aN (bu q c)];exact q
 frzs:=λb u f q=>by rw[aN (bu q c)];exact q
 tbls:=λb g q=>⟨#[],by rw[aN (bu q c),q];simp⟩
theorem Un.write(c:Mr (H x))(j:e=x\/H e=some (.own x))(k:∀b u,b≠e->h.get? b=some u->h'.get? b=some u)(l:∃u,h'.get? e=some u):Un fs ex H (upd H x o) h h':=by
 have f:∀b,H b=none->b≠x:=λb n z=>by subst z;rw[n] at c;exact c
 have g:∀b,H b=none->b≠e:=λb n z=>by
  subst z
  rcases j with r|r
  ·exact f b n r
  ·rw[n] at r;cases r
 have d:∀b u,H b=some u->¬Mr (some u)->b≠x:=λb u q m z=>by subst z;rw[q] at c;exact m c
 refine⟨λb u q n _ _=>k b u (g b n) q,λb u q n _ _=>⟨u.slots,k b u (g b n) q⟩,λb u q n _=>by rw[aN (f b n)];exact n,λb u q _=>?_,
  λb p q=>by rw[aN (d b _ q λz=>z)];exact q,λb u p q=>by rw[aN (d b _ q λz=>z)];exact q,λb s q=>⟨#[],by rw[aN (d b _ q λz=>z),q];simp⟩⟩
 by_cases i:b=e
 ·subst i;exact l
 ·exact⟨u,k b u i q⟩
end
def Ou(h:Heap)(H:Hp):List Addr:=(bb h.objs.size).filter λa=>(H a).isSome
def sW(h:Heap)(H:Hp):Heap:=PySem.W.hideAll h (Ou h H)
theorem EL(h:Heap)(H:Hp):(sW h H).objs.size=h.objs.size:=PySem.W.hideAll_size _ _
theorem HX(e:h.get? b=some o)(n:H b=none):(sW h H).get? b=some o:=
 PySem.W.hideAll_get _ e λa=>by
  have q:(H b).isSome=true:=(mL.mp a).2;rw[n] at q;simp at q
theorem K7(e:(sW h H).get? b=some o):h.get? b=some o/\H b=none:=by
 have a:h.get? b=some o:=PySem.W.of_hideAll (Ou h H) e;refine⟨a,?_⟩;cases q:H b with
 |none=>rfl
 |some x=>
  have c:b∈Ou h H:=mL.mpr ⟨bV.mpr (Fk a),by simp[q]⟩
  have z:(sW h H).get? b=none:=PySem.W.hideAll_none (Ou h H) c;rw[z] at e;cases e
structure Mod (K:ac) (mg:Str->Option Value) (base:Heap):Prop where
 kin:K.In base
 glob:base.Ns mainGlobals mg
 blt:∃mb,base.Ns builtinsNs mb/\∀x:Str,x≠"__name__"->mb x=bootBuiltins x
 nolimit:base.NoLimit
structure Cx where
 prog:Program
 w:World
 K:ac
 mg:Str->Option Value
 base:Heap
 A:Around
 N:List Str
 s₀:Shared
 H₀:Hp
 env:Env
 outer:List Env
 stack:List Env
 ex:List Addr
 fn:Str->Bool
 calm:Bool
 pn:List (Addr×Obj)
 xe:Value->Shared->Prop
def w6(l:List Env):List Addr:=l.filterMap (·.frame)
abbrev Cx.fs(X:Cx):List Addr:=w6 X.outer
def ub(a:Scope)(x:Str):Prop:=a.names.lookup x=some .local\/a.names.lookup x=some .cell\/a.names.lookup x=some .free
def Loc(a:Scope)(x:Str):Prop:=a.names.lookup x=some .local\/a.names.lookup x=some .cell
def Look(env:Env)(h:Heap)(m:Str->Option Value)(x:Str)(u:Value):Prop:=
 (env.kindOf x=some .local/\m x=some u)\/((env.kindOf x=some .cell\/env.kindOf x=some .free)/\∃c,env.cells.lookup x=some c/\h.IsCell c (some u))
structure Cx.Ok (X:Cx):Prop where
 mod:Mod X.K X.mg X.base
 kind:X.env.scope.kind= .function
 glob:X.env.globals=mainGlobals
 blt:X.env.builtins=builtinsNs
 above:X.s₀.heap.objs.size<=X.env.locals
 inj:∀x y c,X.env.cells.lookup x=some c->X.env.cells.lookup y=some c->x=y
 has:∀x,(X.env.kindOf x=some .cell\/X.env.kindOf x=some .free)->∃c,X.env.cells.lookup x=some c
 cab:∀x c,X.fn x=true->X.env.cells.lookup x=some c->X.s₀.heap.objs.size<=c
 hd:X.calm=true->X.A.handled=none
 frames:X.A.frames=some X.stack
 stk:X.stack=X.outer\/(X.stack=X.env::X.outer/\X.env.frame=some X.env.locals)
 exf:∀b∈X.ex,b≠X.env.locals/\∀x c,X.env.cells.lookup x=some c->c≠b
 bs:∀b o,X.base.get? b=some o->X.s₀.heap.get? b=some o/\X.H₀ b=none
 bsz:X.base.objs.size<=X.s₀.heap.objs.size
 noex:∀b o,X.base.get? b=some o->b∉X.ex
 exfs:∀b∈X.ex,b∉X.fs
 funs:X.s₀.heap.FunFrames X.base X.outer
 frf:∀b∈X.fs,X.H₀ b=none
structure Inv (X:Cx) (pins:List (Addr×Obj)) (σ:List (Option V)) (H:Hp) (s:Shared):Prop where
 ok:X.Ok
 os:s.os=X.s₀.os
 bare:AllBare s.gens
 base:Un X.fs X.ex X.H₀ H X.s₀.heap s.heap
 loc:∃m,s.heap.Ns X.env.locals m/\∀(i:Nat)(x:Str)(v:V),X.N[i]? =some x->σ[i]? =some (some v)->ub X.env.scope x->∃u,RelV v u/\Look X.env s.heap m x u
 cell:∀x c,X.env.cells.lookup x=some c->∃v,s.heap.IsCell c v
 free:H X.env.locals=none
 freeC:∀x c,X.env.cells.lookup x=some c->H c=none
 pin:∀p∈X.pn++pins,s.heap.get? p.1=some p.2/\H p.1=none/\p.1≠X.env.locals/\p.1∉X.fs/\∀v,p.2.data≠ .cell v
 hok:jl X.prog X.w H s.heap
 len:σ.length=X.N.length
section
variable {X:Cx} {pins:List (Addr×Obj)} {σ:List (Option V)} {H H':Hp} {s:Shared} {h':Heap}
theorem Cx.Ok.Xd(ok:X.Ok)(e:X.base.get? b=some o):b∉X.fs:=λa=>by
 have:=(ok.funs.mem a).1
 rw[e] at this;cases this
theorem Inv.bs(I:Inv X pins σ H s):∀b o,X.base.get? b=some o->s.heap.get? b=some o/\H b=none:=λb o e=>
 ⟨I.base.keep b o (I.ok.bs b o e).1 (I.ok.bs b o e).2 (I.ok.Xd e) (I.ok.noex b o e),I.base.free b o (I.ok.bs b o e).1 (I.ok.bs b o e).2 (I.ok.noex b o e)⟩
theorem Inv.bk(I:Inv X pins σ H s):∀b o,X.base.get? b=some o->s.heap.get? b=some o:=λb o e=>(I.bs b o e).1
theorem Inv.mod(I:Inv X pins σ H s):Mod X.K X.mg X.base:=I.ok.mod
theorem Inv.iV(I:Inv X pins σ H s):X.K.In s.heap:=I.ok.mod.kin.keeps I.bk
theorem Inv.lt(I:Inv X pins σ H s):X.env.locals<s.heap.objs.size:=let ⟨_,a,_⟩:=I.loc;a.lt
theorem Inv.sz(I:Inv X pins σ H s):X.s₀.heap.objs.size<=s.heap.objs.size:=mM I.ok.above (sD I.lt)
theorem Inv.K3(I:Inv X pins σ H s)(h:s.heap.objs.size<=a):a∉X.fs:=λb=>by
 obtain⟨_,o,c,_⟩:=I.ok.funs.mem b;exact absurd (ic (Fk c) (mM I.sz h)) (iS _)
theorem Inv.El(I:Inv X pins σ H s):∀x c,X.env.cells.lookup x=some c->c≠X.env.locals:=λx c e z=>by
 obtain⟨v,o,a,b⟩:=I.cell x c e;obtain⟨m,⟨g,h,i,d,f,_⟩,_⟩:=I.loc;rw[z,d] at a;cases a;rw[f] at b;cases b
theorem Inv.funs(I:Inv X pins σ H s):s.heap.FunFrames X.base X.outer:=by
 have all:∀(l:List Env),(∀b∈w6 l,b∈X.fs)->X.s₀.heap.FunFrames X.base l->s.heap.FunFrames X.base l:=by
  intro l
  induction l with
  |nil=>intro _ _;trivial
  |cons env r g=>
   intro f h;rfl';obtain⟨j,⟨L,o,a,k,m,n⟩,p⟩:=h;have c:L∈X.fs:=f L (by unfold w6;rw[abq,a];exact cg)
   obtain⟨t,e⟩:=I.base.slot L o m (I.ok.frf L c) c λz=>I.ok.exfs L z c;ac_rfl;exact⟨j,⟨L,_,a,k,e,n⟩,g (λb d=>f b (by unfold w6;rw[abq,a];exact cG _ d)) p⟩
 exact all X.outer (λ_ d=>d) I.ok.funs
theorem Inv.stack(I:Inv X pins σ H s):s.heap.FunFrames X.base X.stack:=by
 rcases I.ok.stk with e| ⟨e,a⟩
 ·rw[e];exact I.funs
 ·rw[e]
  obtain⟨m,b,_⟩:=I.loc;refine .cons (by rw[I.ok.kind];decide) a b ?_ I.funs
  exact Heap.get?_none_of_le (mM I.ok.bsz I.ok.above)
theorem Inv.BO(I:Inv X pins σ H s):∀b∈w6 X.stack,b∈X.env.locals::X.fs:=λb a=>by
 rcases I.ok.stk with e| ⟨e,c⟩
 ·rw[e] at a;exact cG _ a
 ·rw[e] at a
  unfold w6 at a;rw[abq,c] at a;exact a
theorem Inv.DR(I:Inv X pins σ H s):∀b∈w6 X.stack,H b=none:=λb a=>by
 rcases cC.mp (I.BO b a) with e|a
 ·rw[e];exact I.free
 ·obtain⟨_,o,c,_⟩:=I.ok.funs.mem a
  exact I.base.free b o c (I.ok.frf b a) λz=>I.ok.exfs b z a
theorem Inv.step{g':Array GenState}{d':Drawn}{ch:List Addr}(I:Inv X pins σ H s)
  (y:∀b∈ch,(b∈X.ex\/X.s₀.heap.objs.size<=b)/\b≠X.env.locals/\(∀x c,X.env.cells.lookup x=some c->c≠b)/\∀p∈X.pn++pins,p.1≠b)
  (keep:∀b o,b≠X.env.locals->b∉X.fs->b∉ch->s.heap.get? b=some o->H b=none->h'.get? b=some o)
  (slot:∀b o,b≠X.env.locals->b∈X.fs->b∉ch->s.heap.get? b=some o->H b=none->∃G,h'.get? b=some {o with slots:=G}) (free:∀b o,b∉ch->s.heap.get? b=some o->H b=none->H' b=none)
  (there:∀b o,b∉ch->s.heap.get? b=some o->∃A,h'.get? b=some A)
  (tups:∀b h,H b=some (.tup h)->H' b=some (.tup h)) (frzs:∀b o u,H b=some (.sS o u)->H' b=some (.sS o u)) (tbls:∀b E,H b=some (.FZ E)->∃more,H' b=some (.FZ (E++more)))
  (Q:∀m,s.heap.Ns X.env.locals m->h'.Ns X.env.locals m) (hok:jl X.prog X.w H' h') (R:AllBare g'):
  Inv X pins σ H' {s with heap:=h',gens:=g',drawn:=d',toks:=t'}:=by
 have M:∀b o,X.s₀.heap.get? b=some o->b≠X.env.locals:=λb o e=>cn (ic (Fk e) I.ok.above)
 have F:∀b o,X.s₀.heap.get? b=some o->b∉X.ex->b∉ch:=λb o e a j=>by
  rcases(y b j).1 with z|z
  ·exact a z
  ·exact absurd (ic (Fk e) z) (iS _)
 have f:∀x c,X.env.cells.lookup x=some c->∀v,s.heap.IsCell c v->h'.IsCell c v:=λx c e v ⟨o,t,J⟩=>by
  have B:c∉ch:=λz=>(y c z).2.2.1 x c e rfl
  by_cases N:c∈X.fs
  ·obtain⟨G,q⟩:=slot c o (I.El x c e) N B t (I.freeC x c e)
   exact⟨_,q,J⟩
  ·exact⟨o,keep c o (I.El x c e) N B t (I.freeC x c e),J⟩
 refine⟨I.ok,I.os,R,⟨λb o e n j a=>?_,λb o e n j a=>?_,λb o e n a=>?_,λb o e a=>?_,λb h e=>tups b h (I.base.tups b h e),λb o h e=>frzs b o h (I.base.frzs b o h e),λb E e=>?_⟩,?_,λx c e=>?_,?_,λx c e=>?_,λp O=>?_,hok,I.len⟩
 ·exact keep b o (M b o e) j (F b o e a) (I.base.keep b o e n j a) (I.base.free b o e n a)
 ·obtain⟨G,g⟩:=I.base.slot b o e n j a
  obtain⟨L,C⟩:=slot b _ (M b o e) j (F b o e a) g (I.base.free b o e n a);exact⟨L,C⟩
 ·obtain⟨A,g⟩:=I.base.there b o e a
  exact free b A (F b o e a) g (I.base.free b o e n a)
 ·obtain⟨A,g⟩:=I.base.there b o e a
  exact there b A (F b o e a) g
 ·obtain⟨S,g⟩:=I.base.tbls b E e
  obtain⟨T,C⟩:=tbls b _ g;exact⟨S++T,by rw[C,Array.append_assoc]⟩
 ·obtain⟨m,U,Y⟩:=I.loc
  refine⟨m,Q m U,λi x v g C Z=>?_⟩;obtain⟨u,r,l⟩:=Y i x v g C Z;refine⟨u,r,?_⟩
  rcases l with l| ⟨k,c,e,z⟩
  ·exact .inl l
  ·exact .inr ⟨k,c,e,f x c e _ z⟩
 ·obtain⟨v,z⟩:=I.cell x c e
  exact⟨v,f x c e v z⟩
 ·obtain⟨m,⟨o,_,_,t,_⟩,_⟩:=I.loc
  exact free _ o (λz=>(y _ z).2.1 rfl) t I.free
 ·obtain⟨v,o,t,J⟩:=I.cell x c e
  exact free c o (λz=>(y c z).2.2.1 x c e rfl) t (I.freeC x c e)
 ·obtain⟨e,n,ne,P,d⟩:=I.pin p O
  have B:p.1∉ch:=λz=>(y p.1 z).2.2.2 p O rfl;exact⟨keep p.1 p.2 ne P B e n,free p.1 p.2 B e n,ne,P,d⟩
theorem Inv.un{t':Nat}(I:Inv X pins σ H s)(u:Un X.fs [] H H' s.heap h')(hok:jl X.prog X.w H' h'):Inv X pins σ H' {s with heap:=h',toks:=t'}:=by
 rfl';obtain⟨m,⟨o,p,q,d,r⟩,_⟩:=id I.loc;obtain⟨t,h⟩:=u.any d I.free (by simp)
 ac_rfl
 exact I.step (g':=s.gens) (d':=s.drawn) (ch:= []) (λ_ z=>nomatch z) (λb o _ c _ e n=>u.keep b o e n c (by simp)) (λb o _ c _ e n=>u.slot b o e n c (by simp)) (λb o _ e n=>u.free b o e n (by simp)) (λb o _ e=>u.there b o e (by simp)) u.tups u.frzs u.tbls (λv i=>by
  rfl';obtain⟨x,j,k,f,l⟩:=i;ac_rfl;rw[d] at f;cases f;exact⟨_,j,k,h,l⟩) hok I.bare
theorem Inv.call{g':Array GenState}{t':Nat}{d':Drawn}{ch:List Addr}(I:Inv X pins σ H s)(u:Un (w6 X.stack) ch H H' s.heap h')(hok:jl X.prog X.w H' h')(j:AllBare g')
  (g:∀b∈ch,(b∈X.ex\/X.s₀.heap.objs.size<=b)/\b≠X.env.locals/\(∀x c,X.env.cells.lookup x=some c->c≠b)/\∀p∈X.pn++pins,p.1≠b):
  Inv X pins σ H' {s with heap:=h',gens:=g',drawn:=d',toks:=t'}:=by
 rfl';obtain⟨m,⟨o,A,B,h,r⟩,_⟩:=id I.loc;obtain⟨C,f⟩:=u.any h I.free λz=>(g _ z).2.1 rfl;ac_rfl
 exact I.step (ch:=ch) g (λb o f l a e n=>u.keep b o e n (λz=>(cC.mp (I.BO b z)).elim f l) a) (λb o _ _ a e n=>u.any e n a) (λb o a e n=>u.free b o e n a) (λb o a e=>u.there b o e a) u.tups u.frzs u.tbls (λE q=>by
  rfl';obtain⟨F,t,v,i,y⟩:=q;ac_rfl;rw[h] at i;cases i;exact⟨_,t,v,f,y⟩) hok j
theorem Inv.turned{t':Nat}{it:Addr}(I:Inv X pins σ H s)(k:∀b o,b≠it->s.heap.get? b=some o->h'.get? b=some o)(g:H it=none)(d:it≠X.env.locals)
  (h:it∈X.ex\/X.s₀.heap.objs.size<=it) (i:∀x c,X.env.cells.lookup x=some c->c≠it) (j:∀p∈X.pn++pins,p.1≠it):Inv X pins σ H {s with heap:=h',toks:=t'}:=by
 have f:∀b u,H b=some u->b≠it:=λb u e z=>by rw[z,g] at e;cases e
 refine I.step (g':=s.gens) (d':=s.drawn) (ch:= [it]) (λb l=>?_) (λb o _ _ a e _=>k b o (λz=>a (by simp[z])) e) (λb o _ _ a e _=>⟨o.slots,k b o (λz=>a (by simp[z])) e⟩) (λ_ _ _ _ n=>n)
  (λb o a e=>⟨o,k b o (λz=>a (by simp[z])) e⟩) (λ_ _ e=>e) (λ_ _ _ e=>e) (λb B e=>⟨#[],by rw[e];simp⟩) (λm t=>?_) (λb u e=>?_) I.bare
 ·have e:b=it:=by simpa using l
  subst e;exact⟨h,d,i,j⟩
 ·obtain⟨o,w,y,A,r⟩:=t
  exact⟨o,w,y,k _ o (Ne.symm d) A,r⟩
 ·refine(I.hok b u e).vt (λc v a q=>k c v ?_ q) (λ_ q=>q) λ_ _ q=>q
  rcases a with z|z
  ·rw[z];exact f b u e
  ·exact f c _ z
theorem Inv.tok(I:Inv X pins σ H s)(t:Nat):Inv X pins σ H {s with toks:=t}:=I.un (h':=s.heap) (t':=t) Un.refl I.hok
theorem Inv.kept{t':Nat}(I:Inv X pins σ H s)(k:∀b u,s.heap.get? b=some u->h'.get? b=some u):Inv X pins σ H {s with heap:=h',toks:=t'}:=I.un (Un.kept k) (I.hok.kept k)
theorem Inv.laid{a:Addr}{o:HO}{t':Nat}(I:Inv X pins σ H s)(k:∀b u,s.heap.get? b=some u->h'.get? b=some u)(c:s.heap.objs.size<=a)(new:dO X.prog X.w (upd H a o) h' a o):
  Inv X pins σ (upd H a o) {s with heap:=h',toks:=t'}:=I.un (Un.laid k c (I.hok.fresh c)) (I.hok.laid k c new)
theorem Inv.write{x e:Addr}{o:HO}{t':Nat}(I:Inv X pins σ H s)(a:Mr (H x))(c:e=x\/H e=some (.own x))(k:∀b u,b≠e->s.heap.get? b=some u->h'.get? b=some u)(d:∃u,h'.get? e=some u)
  (new:dO X.prog X.w (upd H x o) h' x o):Inv X pins σ (upd H x o) {s with heap:=h',toks:=t'}:=I.un (Un.write a c k d) (I.hok.write a c k d new)
theorem Inv.mr(I:Inv X pins σ H s)(h:∀p∈a,s.heap.get? p.1=some p.2/\H p.1=none/\p.1≠X.env.locals/\p.1∉X.fs/\∀v,p.2.data≠ .cell v):Inv X a σ H s:=
 ⟨I.ok,I.os,I.bare,I.base,I.loc,I.cell,I.free,I.freeC,λp b=>(cV.mp b).elim (λz=>I.pin p (fG _ z)) (h p),I.hok,I.len⟩
theorem z6{N:List Str}(c:N.Nodup){i j:Nat}{x:Str}(a:N[i]? =some x)(b:N[j]? =some x):i=j:=by
 obtain⟨f,d⟩:=dQ.mp a;obtain⟨g,e⟩:=dQ.mp b;exact(List.getElem_inj c).mp (d.trans e.symm)
theorem store_ok2(I:Inv X pins σ H s)(hN:X.N.Nodup)(O:X.N[i]? =some x)(B:Loc X.env.scope x)(r:RelV v u)
  (h:∀S,Inv X pins (σ.set i (some v)) H S->(∃a,Heap.SameBut a s.heap S.heap/\(a=X.env.locals\/X.env.cells.lookup x=some a))->Q () S) (hf:X.fn x=true\/X.env.scope.names.lookup x=some .local:=by first|exact .inl rfl|exact .inr rfl|assumption):wpAny M A (storeName X.env x u) Q E s:=by
 obtain⟨m,T,hl⟩:=id I.loc;have VM:(X.env.scope.kind== .class|| (X.env.scope.kind== .module&&X.env.locals !=X.env.globals))=false:=by rw[I.ok.kind];rfl
 have Pm:i<σ.length:=by rw[I.len];exact(dQ.mp O).1
 have El:=I.El
 have g:∀{a:Addr}{L:Heap},(∃o,s.heap.get? a=some o/\H a=none)->Heap.SameBut a s.heap L->jl X.prog X.w H L:=λ {a L} ha f b ob e=>by
  obtain⟨_,_,AW⟩:=ha;refine(I.hok b ob e).vt (λc P t q=>(f.2 c ?_).trans q) (λ_ q=>q) λ_ _ q=>q;rintro rfl
  rcases t with rfl|t
  ·rw[AW] at e;cases e
  ·rw[AW] at t;cases t
 rcases B with F|F
 ·refine wpAny_storeName_local F T (λL U f=>?_) VM
  obtain⟨oL,_,_,CN,_⟩:=id T;refine h _ ⟨I.ok,I.os,I.bare,⟨λb o e n G B=>?_,λb o e n G B=>?_,I.base.free,λb o e B=>?_,I.base.tups,I.base.frzs,I.base.tbls⟩,⟨_,U,λj y Y l C Z=>?_⟩,λy c e=>?_,I.free,I.freeC,λp hp=>?_,g ⟨oL,CN,I.free⟩ f,by simpa using I.len⟩ ⟨_,f, .inl rfl⟩
  ·exact(f.2 b (cn (ic (Fk e) I.ok.above))).trans (I.base.keep b o e n G B)
  ·obtain⟨sl,l⟩:=I.base.slot b o e n G B
   exact⟨sl,(f.2 b (cn (ic (Fk e) I.ok.above))).trans l⟩
  ·obtain⟨o',l⟩:=I.base.there b o e B
   exact⟨o',(f.2 b (cn (ic (Fk e) I.ok.above))).trans l⟩
  ·by_cases J:j=i
   ·subst J
    rw[O] at l;cases l;rw[qZ Pm] at C;cases C;exact⟨u,r, .inl ⟨F,by simp⟩⟩
   ·rw[yY (Ne.symm J)] at C
    obtain⟨u',r',q⟩:=hl j y Y l C Z;refine⟨u',r',?_⟩
    rcases q with ⟨k,e⟩ | ⟨k,c,e,z⟩
    ·refine .inl ⟨k,?_⟩
     have:y≠x:=λe=>J (z6 hN l (e▸O))
     simp[this,e]
    ·exact .inr ⟨k,c,e,z.sameBut f (El y c e)⟩
  ·obtain⟨P,z⟩:=I.cell y c e
   exact⟨P,z.sameBut f (El y c e)⟩
  ·obtain⟨e,n,ne,nf,d⟩:=I.pin p hp
   exact⟨(f.2 p.1 ne).trans e,n,ne,nf,d⟩
 ·have Rj:X.fn x=true:=by
   rcases hf with z|z
   ·exact z
   ·rw[z] at F;cases F
  obtain⟨c,t⟩:=I.ok.has x (.inl F);obtain⟨P,z⟩:=I.cell x c t;refine wpAny_storeName_cell I.ok.kind F t z (λL qI f=>?_);obtain⟨oc,V7,V8⟩:=id z;refine h {s with heap:=L} ⟨I.ok,I.os,I.bare,⟨λb o e n G B=>?_,λb o e n G B=>?_,I.base.free,λb o e B=>?_,I.base.tups,I.base.frzs,I.base.tbls⟩,⟨m,T.sameBut f (Ne.symm (El x c t)),λj y Y l C Z=>?_⟩,λy R e=>?_,I.free,I.freeC,λp hp=>?_,g ⟨oc,V7,I.freeC x c t⟩ f,by simpa using I.len⟩ ⟨c,f, .inr t⟩
  ·exact(f.2 b (cn (ic (Fk e) (I.ok.cab x c Rj t)))).trans (I.base.keep b o e n G B)
  ·obtain⟨sl,l⟩:=I.base.slot b o e n G B
   exact⟨sl,(f.2 b (cn (ic (Fk e) (I.ok.cab x c Rj t)))).trans l⟩
  ·obtain⟨o',l⟩:=I.base.there b o e B
   exact⟨o',(f.2 b (cn (ic (Fk e) (I.ok.cab x c Rj t)))).trans l⟩
  ·by_cases J:j=i
   ·subst J
    rw[O] at l;cases l;rw[qZ Pm] at C;cases C;exact⟨u,r, .inr ⟨.inl F,c,t,qI⟩⟩
   ·rw[yY (Ne.symm J)] at C
    obtain⟨u',r',q⟩:=hl j y Y l C Z;refine⟨u',r',?_⟩
    rcases q with q| ⟨k,R,e,z'⟩
    ·exact .inl q
    ·refine .inr ⟨k,R,e,z'.sameBut f ?_⟩
     rintro rfl;exact J (z6 hN l (I.ok.inj _ _ _ e t▸O))
  ·by_cases VL:R=c
   ·subst VL;exact⟨_,qI⟩
   ·obtain⟨w2,z2⟩:=I.cell y R e
    exact⟨w2,z2.sameBut f VL⟩
  ·obtain⟨e,n,ne,nf,d⟩:=I.pin p hp
   refine⟨(f.2 p.1 ?_).trans e,n,ne,nf,d⟩;intro q;rw[q,V7] at e;have q':oc=p.2:=FB e;exact d P (by rw[<-q'];exact V8)
theorem jA{x:Str}{v:V}(I:Inv X pins σ H s)(b:X.N.Nodup)(c:X.N[i]? =some x)(d:Loc X.env.scope x)(r:RelV v u)
  (h:∀a,Inv X pins (σ.set i (some v)) H a->Q () a) (e:X.fn x=true\/X.env.scope.names.lookup x=some .local:=by first|exact .inl rfl|exact .inr rfl|assumption):wpAny M A (storeName X.env x u) Q E s:=
 store_ok2 I b c d r (λa f _=>h a f) e
theorem Inv.P5{ch:List Addr}(I:Inv X pins σ H s)(d:a.os=s.os)(u:Un (w6 X.stack) ch H H' s.heap a.heap)(hok:jl X.prog X.w H' a.heap)(f:AllBare a.gens)
  (g:∀b∈ch,(b∈X.ex\/X.s₀.heap.objs.size<=b)/\b≠X.env.locals/\(∀x c,X.env.cells.lookup x=some c->c≠b)/\∀p∈X.pn++pins,p.1≠b):Inv X pins σ H' a:=by
 obtain⟨i,g',d',t',h⟩:=a;have e:h=s.os:=d;subst e;exact I.call (g':=g') (t':=t') (d':=d') u hok f g
end
abbrev XK:=Value->Option Addr->Hp->Prop
abbrev St:=List (Option V)
abbrev VK:=V->Hp->Prop
abbrev TE:=St->Hp->VK->Prop
abbrev TT:=St->Hp->(Bool->Hp->Prop)->Prop
abbrev TA:=St->Hp->(List V->Hp->Prop)->Prop
structure Ends where
 nx:St->Hp->Prop
 rt:VK
 bk:St->Hp->Prop:=λ_ _=>False
 ct:St->Hp->Prop:=λ_ _=>False
abbrev TS:=Ends->St->Hp->Prop
def EP(X:Cx)(a:List (Addr×Obj))(c:St)(Q:VK)(u:Value)(d:Shared):Prop:=∃v b,Inv X a c b d/\RelV v u/\Q v b
def TP(X:Cx)(a:List (Addr×Obj))(d:St)(Q:Bool->Hp->Prop)(b:Bool)(e:Shared):Prop:=∃c,Inv X a d c e/\Q b c
def AP(X:Cx)(a:List (Addr×Obj))(d:St)(Q:List V->Hp->Prop)(e:List Value)(f:Shared):Prop:=∃b c,Inv X a d c f/\Vals b e/\Q b c
def SP(X:Cx)(a:List (Addr×Obj))(D:Ends)(f:Flow)(d:Shared):Prop:=
 match f with
 | .next=>∃c b,Inv X a c b d/\D.nx c b
 | .brk=>∃c b,Inv X a c b d/\D.bk c b
 | .cont=>∃c b,Inv X a c b d/\D.ct c b
 | .ret u=>∃v c b,Inv X a c b d/\RelV v u/\D.rt v b
def PE(X:Cx)(e:Expr)(t:TE):Prop:=
 ∀(a:List (Addr×Obj))(s:Shared)(b:St)(H:Hp)(Q:VK),Inv X a b H s->t b H Q->wpAny (model X.prog X.w) X.A (eval e X.env) (EP X a b Q) X.xe s
def PT(X:Cx)(e:Expr)(t:TT):Prop:=
 ∀(a:List (Addr×Obj))(s:Shared)(b:St)(H:Hp)(Q:Bool->Hp->Prop),Inv X a b H s->t b H Q->wpAny (model X.prog X.w) X.A (isTrue e X.env (eval e X.env)) (TP X a b Q) X.xe s
def PW(X:Cx)(e:Expr)(t:TT):Prop:=
 ∀(b:Sem Value)(a:List (Addr×Obj))(s:Shared)(c:St)(H:Hp)(Q:Bool->Hp->Prop),Inv X a c H s->t c H Q->wpAny (model X.prog X.w) X.A (isTrue e X.env b) (TP X a c Q) X.xe s
theorem PW.pt(h:PW X e t):PT X e t:=h _
def PA(X:Cx)(c:List Expr)(t:TA):Prop:=
 ∀(pos:Pos)(a:List (Addr×Obj))(s:Shared)(b:St)(H:Hp)(Q:List V->Hp->Prop),Inv X a b H s->t b H Q->wpAny (model X.prog X.w) X.A (spliced (backTo pos (starEach c X.env))) (AP X a b Q) X.xe s
def PS(X:Cx)(st:Stmt)(t:TS):Prop:=
 ∀(a:List (Addr×Obj))(s:Shared)(b:St)(H:Hp)(D:Ends),Inv X a b H s->t D b H->wpAny (model X.prog X.w) X.A (exec st X.env) (SP X a D) X.xe s
def oz(X:Cx)(st:List Stmt)(t:TS):Prop:=
 ∀(a:List (Addr×Obj))(s:Shared)(b:St)(H:Hp)(D:Ends),Inv X a b H s->t D b H->wpAny (model X.prog X.w) X.A (execs st X.env) (SP X a D) X.xe s
theorem thn{Q c:b->Shared->Prop}(h:wpAny M A t Q E s)(d:∀a s,Q a s->c a s):wpAny M A t c E s:=wpAny_mono h d λ_ _ x=>x
section
variable {X:Cx}
def PR(i:Nat):TE:=λa H Q=>∃v,a[i]? =some (some v)/\Q v H
def tC(v:V):TE:=λ_ H Q=>Q v H
theorem GQ(j:X.N[i]? =some x)(k:ub X.env.scope x)(d:(x==("__debug__":Str))=false:=by decide)(n:(x==("__classdict__":Str))=false:=by decide):PE X (.Name x pos) (PR i):=by
 intro b s o H Q I h;rfl';obtain⟨v,e,h⟩:=h;obtain⟨m,q,t⟩:=I.loc;obtain⟨u,r,l⟩:=t i x v j e k;have fin:EP X b o Q u s:=⟨v,H,I,r,h⟩;ac_rfl
 rcases l with ⟨a,w⟩ | ⟨a,c,f,g⟩
 ·exact wpAny_Name (wpAny_loadName_local I.ok.kind a q w fin) d
 ·rcases a with a|a
  ·exact wpAny_Name (wpAny_loadName_cell I.ok.kind a f g fin) d
  ·exact wpAny_Name (wpAny_loadName_free I.ok.kind a f g fin n) d
theorem NP{i j pos}:PE X (.Constant (.int i) j pos) (tC (.int i)):=λ_ _ _ H _ I h=>wpAny_Constant_int ⟨.int i,H,I.tok _,⟨_,rfl⟩,h⟩
theorem RZ{b j pos}:PE X (.Constant (.bool b) j pos) (tC (.bl b)):=λ_ _ _ H _ I h=>Constant_bool ⟨.bl b,H,I,rfl,h⟩
theorem NS{j pos}:PE X (.Constant .none j pos) (tC .bA):=λ_ _ _ H _ I h=>Constant_none ⟨.bA,H,I,rfl,h⟩
theorem NV{x j pos}:PE X (.Constant (.str x) j pos) (tC (.str x)):=λ_ _ _ H _ I h=>Calls.Constant_str ⟨.str x,H,I.tok _,⟨_,rfl⟩,h⟩
def Gl(X:Cx)(x:Str):Prop:=X.env.kindOf x=some .globalImplicit
theorem xt(I:Inv X a b H s)(c:Gl X x)(d:X.mg x=some u)(h:Q u s)
  (e:(x==("__debug__":Str))=false:=by decide):wpAny (model X.prog X.w) X.A (eval (.Name x pos) X.env) Q E s:=
 abG I.ok.kind c (Calls.loadGlobal_global (by rw[I.ok.glob];exact I.mod.glob.keeps I.bk) d h) e
theorem iE{u:Value}(I:Inv X a b H s)(c:Gl X x)(d:X.mg x=none)(e:bootBuiltins x=some u)(h:Q u s)
  (f:x≠"__name__":=by decide) (g:(x==("__debug__":Str))=false:=by decide):wpAny (model X.prog X.w) X.A (eval (.Name x pos) X.env) Q E s:=by
 obtain⟨k,i,j⟩:=I.mod.blt;exact abG I.ok.kind c (Calls.loadGlobal_builtin (by rw[I.ok.glob];exact I.mod.glob.keeps I.bk) d (by rw[I.ok.blt];exact i.keeps I.bk) ((j x f).trans e) h) g
theorem Lg{v:V}(a:Gl X x)(b:X.mg x=some u)(r:RelV v u)(c:(x==("__debug__":Str))=false:=by decide):PE X (.Name x pos) (tC v):=
 λ_ _ _ H _ I h=>xt I a b ⟨v,H,I,r,h⟩ c
theorem Le(a:Gl X x)(b:X.mg x=none)(c:bootBuiltins x=some u)(r:RelV v u)(d:x≠"__name__":=by decide)(e:(x==("__debug__":Str))=false:=by decide):PE X (.Name x pos) (tC v):=
 λ_ _ _ H _ I h=>iE I a b c ⟨v,H,I,r,h⟩ d e
variable {a b:Expr} {ta tb:TE} {pos:Pos}
variable {tA BP:TT} {rest:List Expr}
def Zn(t u:TT):TT:=λd H Q=>t d H λc e=>if c=true then u d e Q else Q false e
def tOr(t u:TT):TT:=λd H Q=>t d H λc e=>if c=true then Q true e else u d e Q
def Zw(t:TT):TT:=λd H Q=>t d H λc e=>Q (!c) e
theorem Lz(f:PT X a tA):PW X (.BoolOp .And [a] pos) tA:=by
 intro i d s g H Q I h;refine isTrue_and (thn (f d s g H Q I h) λc j e=>?_);cases c with
 |true=>exact isTrue_and_nil e
 |false=>exact e
theorem N3(f:PT X a tA):PW X (.BoolOp .Or [a] pos) tA:=by
 intro i d s g H Q I h;refine isTrue_or (thn (f d s g H Q I h) λc j e=>?_);cases c with
 |false=>exact isTrue_or_nil e
 |true=>exact e
theorem N2(j:PT X a tA)(k:PW X (.BoolOp .And (b::rest) pos) BP):PW X (.BoolOp .And (a::b::rest) pos) (Zn tA BP):=by
 intro l d s e H Q I h;refine isTrue_and (thn (j d s e H _ I h) λc m ⟨f,g,i⟩=>?_);cases c with
 |true=>exact k l d m e f Q g i
 |false=>exact⟨f,g,i⟩
theorem R6(j:PT X a tA)(k:PW X (.BoolOp .Or (b::rest) pos) BP):PW X (.BoolOp .Or (a::b::rest) pos) (tOr tA BP):=by
 intro l d s e H Q I h;refine isTrue_or (thn (j d s e H _ I h) λc m ⟨f,g,i⟩=>?_);cases c with
 |true=>exact⟨f,g,i⟩
 |false=>exact k l d m e f Q g i
theorem N0(e:PT X a tA):PT X (.UnaryOp .Not a pos) (Zw tA):=by
 intro d s f H Q I h;exact isTrue_not (e d s f H (λc g=>Q (!c) g) I h)
def Sn(f g:TE):TE:=λd H Q=>f d H λx e=>∃c,x= .bl c/\if c=true then g d e Q else Q (.bl false) e
def Sv(d:TE):TE:=λe H Q=>d e H λx f=>∃c,x= .bl c/\Q (.bl (!c)) f
theorem NU{op}(h:PE X a t):PE X (.BoolOp op [a] pos) t:=λc s d H Q I hw=>BoolOp_one (h c s d H Q I hw)
theorem NK(j:PE X a ta)(k:PE X (.BoolOp .And (b::rest) pos) tb):PE X (.BoolOp .And (a::b::rest) pos) (Sn ta tb):=by
 intro d s f H Q I h;refine BoolOp_and (thn (j d s f H _ I h) λv l m=>?_);rfl';obtain⟨x,g,i,o,e⟩:=m;obtain⟨c,rfl,e⟩:=e;ac_rfl;subst o;refine Pv ?_;cases c with
 |true=>exact k d l f g Q i e
 |false=>exact⟨.bl false,g,i,rfl,e⟩
theorem NT(f:PE X a ta):PE X (.UnaryOp .Not a pos) (Sv ta):=by
 intro d s g H Q I h;refine UnaryOp_ (thn (f d s g H _ I h) λv n i=>?_);rfl';obtain⟨x,k,l,m,e⟩:=i;obtain⟨c,rfl,e⟩:=e;ac_rfl;subst m;exact not_of (Pv ⟨.bl (!c),k,l,rfl,e⟩)
end
def cM(K:ac)(H:Hp)(a:Addr)(c:List V):Prop:=
 Rd H a (.lst c)\/
  ∃(o:Obj)(b:Array Value)(n:Nat),K.lookup a=some o/\o.cls= .type "list"/\o.dict=none/\o.data= .seq b n/\b.size<=sizeLine/\Vals c b.toList
def gO(K:ac)(H:Hp)(a:Addr)(c:List V):Prop:=
 Rd H a (.tup c)\/
  ∃(o:Obj)(b:Array Value)(n:Nat),K.lookup a=some o/\o.cls= .type "tuple"/\o.data= .seq b n/\b.size<=sizeLine/\Vals c b.toList
def S9:Value->Option V
 | .none=>some .bA
 | .bool b=>some (.bl b)
 | .int i _=>some (.int i)
 | .str x _=>some (.str x)
 | .bytes b _=>some (.Hu b)
 | .float b _=>some (.Ez b)
 | .ref a=>some (.ref a)
 | .type n=>some (.ty n)
 |_=>none
theorem RelV.abs{x:V}{u:Value}(r:RelV x u):S9 u=some x:=by
 cases x with
 |bA=>cases r;rfl
 |bl _=>cases r;rfl
 |int _=>obtain⟨t,rfl⟩:=r;rfl
 |str _=>obtain⟨t,rfl⟩:=r;rfl
 |Hu _=>obtain⟨t,rfl⟩:=r;rfl
 |Ez _=>obtain⟨t,rfl⟩:=r;rfl
 |ref _=>cases r;rfl
 |ty _=>cases r;rfl
theorem RelV.inj(r:RelV x u)(q:RelV y u):x=y:=FB (r.abs.symm.trans q.abs)
theorem Vals.inj:∀{a b:List V}{c:List Value},Vals a c->Vals b c->a=b
 |_,_,_, .nil, .nil=>rfl
 |_,_,_, .cons r t, .cons d e=>by rw[r.inj d,Vals.inj t e]
section
variable {X:Cx} {pins:List (Addr×Obj)} {σ:St} {H:Hp} {s:Shared} {a:Addr} {xs ys:List V}
theorem cM.of{K:ac}(h:H a=some (.lst xs)):cM K H a xs:= .inl (.inl h)
theorem gO.of{K:ac}(h:H a=some (.tup xs)):gO K H a xs:= .inl (.inl h)
theorem Inv.list(I:Inv X pins σ H s)(h:cM X.K H a xs):∃its:List Value,Vals xs its/\PlainL s.heap a its.toArray/\xs.length<=sizeLine:=by
 rcases h with h| ⟨o,its,n,b,c,d,f,g,r⟩
 ·obtain⟨z,its,n,r,e⟩:=h.ok I.hok
  exact⟨its,r,⟨_,n,e,rfl,rfl,rfl⟩,z⟩
 ·refine⟨its.toList,r,⟨o,n,I.iV a o b,c,d,by simpa using f⟩,?_⟩
  have e:=r.length;simp only[eN] at e;lia
theorem Inv.tuple(I:Inv X pins σ H s)(h:gO X.K H a xs):∃its:List Value,Vals xs its/\IsTup s.heap a its.toArray/\xs.length<=sizeLine:=by
 rcases h with h| ⟨o,its,n,b,c,d,f,r⟩
 ·obtain⟨z,its,r,p⟩:=h.ok I.hok
  exact⟨its,r,p,z⟩
 ·refine⟨its.toList,r,⟨o,I.iV a o b,c,n,by simpa using d⟩,?_⟩
  have e:=r.length;simp only[eN] at e;lia
theorem Inv.z4(I:Inv X pins σ H s)(h:cM X.K H a xs)(h':cM X.K H a ys):xs=ys:=by
 rfl';obtain⟨c,r,⟨o,n,e,_,_,d⟩,_⟩:=I.list h;obtain⟨b,j,⟨m,p,f,_,_,g⟩,_⟩:=I.list h';ac_rfl;rw[e] at f;cases f;rw[d] at g
 injection g with k _
 have:c=b:=by simpa using Gc Array.toList k
 subst this;exact r.inj j
end
abbrev Cx.qW(X:Cx)(E:Value->Shared->Prop):Cx:={X with xe:=E}
abbrev Cx.kZ(X:Cx):Cx:=X.qW λ_ _=>False
theorem Cx.Ok.qW{X:Cx}(ok:X.Ok)(E:Value->Shared->Prop):(X.qW E).Ok:=
 ⟨ok.mod,ok.kind,ok.glob,ok.blt,ok.above,ok.inj,ok.has,ok.cab,ok.hd,ok.frames,ok.stk,ok.exf,ok.bs,ok.bsz,ok.noex,ok.exfs,ok.funs,ok.frf⟩
theorem Cx.Ok.kK{X:Cx}(ok:(X.qW E).Ok):X.Ok:=
 ⟨ok.mod,ok.kind,ok.glob,ok.blt,ok.above,ok.inj,ok.has,ok.cab,ok.hd,ok.frames,ok.stk,ok.exf,ok.bs,ok.bsz,ok.noex,ok.exfs,ok.funs,ok.frf⟩
section
variable {X:Cx} {pins:List (Addr×Obj)} {σ:St} {H:Hp} {s:Shared} {E:Value->Shared->Prop}
theorem Inv.qW(I:Inv X pins σ H s)(E:Value->Shared->Prop):Inv (X.qW E) pins σ H s:=⟨I.ok.qW E,I.os,I.bare,I.base,I.loc,I.cell,I.free,I.freeC,I.pin,I.hok,I.len⟩
theorem Inv.kK(I:Inv (X.qW E) pins σ H s):Inv X pins σ H s:=⟨I.ok.kK,I.os,I.bare,I.base,I.loc,I.cell,I.free,I.freeC,I.pin,I.hok,I.len⟩
theorem SP.kK{D:Ends}{f:Flow}{s':Shared}(h:SP (X.qW E) pins D f s'):SP X pins D f s':=by
 cases f with
 |next=>obtain⟨aA,H',I,q⟩:=h;exact⟨aA,H',I.kK,q⟩
 |brk=>obtain⟨aA,H',I,q⟩:=h;exact⟨aA,H',I.kK,q⟩
 |cont=>obtain⟨aA,H',I,q⟩:=h;exact⟨aA,H',I.kK,q⟩
 |ret u=>obtain⟨v,aA,H',I,r,q⟩:=h;exact⟨v,aA,H',I.kK,r,q⟩
theorem oz.kZ{st:List Stmt}{t:TS}(h:oz X.kZ st t):oz X st t:=λa s b H D I hw=>
 wpAny_mono (h a s b H D (I.qW _) hw) (λ_ _ q=>q.kK) λ_ _ z=>False.elim z
end
section
variable {X:Cx} {st:Stmt} {rest:List Stmt} {t u:TS} {e:Expr} {te:TE} {pos:Pos}
def Su:TS:=λD a H=>D.nx a H
def Zz(t u:TS):TS:=λD a H=>t {D with nx:=u D} a H
theorem Lu:oz X [] Su:=λ_ _ a H _ I h=>abf ⟨a,H,I,h⟩
theorem mB(h1:PS X st t)(h2:oz X rest u):oz X (st::rest) (Zz t u):=by
 intro pins s σ H D I h;refine wpAny_execs_cons (thn (h1 pins s σ H {D with nx:=u D} I h) λf s1 q=>?_)
 cases f with
 |next=>
  obtain⟨aA,H',I',q⟩:=q;exact h2 pins s1 aA H' D I' q
 |ret v=>exact q
 |brk=>exact q
 |cont=>exact q
theorem Dq(h1:PS X st t):oz X [st] t:=by
 intro pins s σ H D I h;refine wpAny_execs_cons (thn (h1 pins s σ H D I h) λf s1 q=>?_);cases f with
 |next=>exact wpAny_execs_nil q
 |ret v=>exact q
 |brk=>exact q
 |cont=>exact q
theorem Inv.quiet(I:Inv X a b H s):interactive X.env=false:=by simp[interactive,I.ok.kind]
def Sr(b:TE):TS:=λD a H=>b a H λ_ c=>D.nx a c
theorem pJ(c:PE X e te)(d:swapsWith e none pos.line X.env=pure false:=by rfl):PS X (.Expr e pos) (Sr te):=by
 intro a s b H D I h;exact wpAny_Expr_any (thn (c a s b H _ I h) λv j ⟨x,f,g,k,i⟩=>⟨b,f,g,i⟩) I.quiet d
def Zy(a:TE):TS:=λD b H=>a b H D.rt
theorem GX(c:PE X e te):PS X (.Return (some e) pos) (Zy te):=by
 intro a s b H D I h;exact wpAny_Return_some (thn (c a s b H _ I h) λv j ⟨x,d,f,g,i⟩=>⟨x,b,d,f,g,i⟩)
def Zu(c:TT)(t u:TS):TS:=λD a H=>c a H λb d=>if b=true then t D a d else u D a d
theorem R5(n:PT X c i)(o:oz X a t)(p:oz X b u):PS X (.If c a b pos) (Zu i t u):=by
 intro f s g H D I h;refine wpAny_If (thn (n f s g H _ I h) λd j ⟨k,l,m⟩=>?_);cases d with
 |true=>exact o f j g k D l m
 |false=>exact p f j g k D l m
def Oq:TS:=λ_ _ _=>False
theorem IB:PS X st Oq:=λ_ _ _ _ _ _ h=>h.elim
end
abbrev TG:=V->St->Hp->(St->Hp->Prop)->Prop
abbrev za:=List V->St->Hp->(St->Hp->Prop)->Prop
def PG(X:Cx)(a:Expr)(t:TG):Prop:=
 ∀(b:List (Addr×Obj))(s:Shared)(c:St)(H:Hp)(v:V)(u:Value)(Q:St->Hp->Prop),Inv X b c H s->RelV v u->t v c H Q->
  wpAny (model X.prog X.w) X.A (assign a X.env u) (λ_ f=>∃d e,Inv X b d e f/\Q d e) X.xe s
def Av(X:Cx)(g:List Expr)(t:za):Prop:=
 ∀(a:List (Addr×Obj))(s:Shared)(b:St)(H:Hp)(c:List V)(d:List Value)(Q:St->Hp->Prop),Inv X a b H s->Vals c d->t c b H Q->
  wpAny (model X.prog X.w) X.A (assignInOrder ((assignEach g X.env).map (·.2)) d) (λ_ h=>∃e f,Inv X a e f h/\Q e f) X.xe s
abbrev Jp:=V->V->V->Hp->(Hp->Prop)->Prop
def OD(X:Cx)(t:Jp):Prop:=
 ∀(a:List (Addr×Obj))(s:Shared)(b:St)(H:Hp)(o i v:V)(c d u:Value)(Q:Hp->Prop),Inv X a b H s->RelV o c->RelV i d->RelV v u->t o i v H Q->
  wpAny (model X.prog X.w) X.A (setItem c d u) (λ_ f=>∃e,Inv X a b e f/\Q e) X.xe s
section
variable {X:Cx} {pos:Pos}
def J6(i:Nat):TG:=λv a H Q=>Q (a.set i (some v)) H
theorem Di(b:X.N.Nodup)(c:X.N[i]? =some x)(d:Loc X.env.scope x)(e:X.fn x=true\/X.env.scope.names.lookup x=some .local:=by first|exact .inl rfl|exact .inr rfl|assumption):PG X (.Name x pos) (J6 i):=by
 intro a s g H v u Q I r h;exact abO (jA I b c d r (λj f=>⟨_,H,f,h⟩) e)
def Vz:za:=λa b H Q=>a= []/\Q b H
def QW(t:TG)(u:za):za:=λa b H Q=>∃v r,a=v::r/\t v b H λc d=>u r c d Q
theorem Dj:Av X [] Vz:=by
 intro a s b H c d Q I r h;obtain⟨e,h⟩:=h;subst e;cases r;exact assignInOrder_nil ⟨b,H,I,h⟩
theorem Ab(c:PG X e t)(d:Av X b u)
  (f:(assignEach (e::b) X.env).map (·.2)=assign e X.env::(assignEach b X.env).map (·.2):=by rfl):Av X (e::b) (QW t u):=by
 intro a s g H w x Q I r h;obtain⟨v,y,i,h⟩:=h;subst i;cases r with
 |cons r j=>
  rw[f];refine abB (thn (c a s g H _ _ _ I r h) λ_ k l=>?_);rfl';obtain⟨n,o,p,q⟩:=l;ac_rfl;exact d a k n o _ _ Q p j q
def VB(K:ac)(n:Nat)(t:za):TG:=λv c H Q=>∃a b,v= .ref a/\gO K H a b/\b.length=n/\t b c H Q
theorem GU(i:X.calm=true)(h:Av X d t)
  (j:(assignEach d X.env).length=n:=by rfl) (l:(assignEach d X.env).findIdx? (·.1)=none:=by rfl):PG X (.Tuple d k pos) (VB X.K n t):=by
 intro c s f H v u Q I r hw;rfl';obtain⟨a,p,q,w,x,hw⟩:=hw;subst q;subst r;obtain⟨y,g,z,F⟩:=I.tuple w;ac_rfl;refine assign_Tuple_tuple (I.ok.hd i) z (by simp[j,<-x,g.length]) l λA B=>?_
 have C:Inv X c f H {s with heap:=A}:=I.kept (t':=s.toks) λb o e=>B b o (cn (Fk e)) e
 exact h c _ f H p _ Q C (g) hw
def VA(b c:TE)(t:Jp):TG:=λv a H Q=>b a H λo d=>c a d λi e=>t o i v e λf=>Q a f
theorem GR(l:PE X o g)(m:PE X i j)(n:OD X t)
  (p:∀v,assign (.Subscript o i pos) X.env v=(do
   let b <-holding [v] (eval o X.env)
   let c <-holding [v,b] (eval i X.env)
   standAt pos
   holding [v,b,c] (setItem b c v)
   release [v,b,c] []):=by intro _;rfl):PG X (.Subscript o i pos) (VA g j t):=by
 intro a s f H v u Q I r h;rw[p];refine be (KF (thn (l a s f H _ I h) λb q d=>?_));rfl';obtain⟨x,w,z,A,B⟩:=d;ac_rfl;refine be (KF (thn (m a q f w _ z B) λc C d=>?_));rfl';obtain⟨y,E,F,G,J⟩:=d;ac_rfl;refine be (aam (be (KF (thn (n a C f E x y v b c u _ F A G r J) λ_ O d=>?_))));rfl';obtain⟨L,M,N⟩:=d;ac_rfl;exact wpAny_release ⟨f,L,M,N⟩
def PM(b:TE)(g:TG):TS:=λD a H=>b a H λx c=>g x a c D.nx
theorem BF(f:PE X e c)(i:PG X b g)(j:swapsWithSole [b] e pos.line X.env=pure false:=by rfl)(hw:swappedStores [b] e X.env=pure none:=by rfl)
  (k:(assignEach [b] X.env).map (·.2)= [assign b X.env]:=by rfl):PS X (.Assign [b] e pos) (PM c g):=by
 intro a s d H D I h;refine wpAny_Assign_stores (thn (f a s d H _ I h) λv l ⟨x,m,n,o,p⟩=>?_) j hw;rw[k];exact thn (i a l d m x v _ n o p) λ_ r q=>q
theorem qz(d:X.N.Nodup)(f:X.N[i]? =some x)(g:Loc X.env.scope x)(j:PE X e c)(k:swapsWith e (some (.Name x a)) pos.line X.env=pure false:=by rfl)(l:X.fn x=true\/X.env.scope.names.lookup x=some .local:=by first|exact .inl rfl|exact .inr rfl|assumption):
  PS X (.Assign [.Name x a] e pos) (PM c (J6 i)):=by
 intro b s m H D I h;refine wpAny_Assign_Name (thn (j b s m H _ I h) λv t ⟨y,n,o,p,q⟩=>?_) k;exact jA o d f g p (λu r=>⟨_,n,r,q⟩) l
def Zx(i j:Nat)(b:TA):TS:=λD a H=>b a H λc d=>∃v w,c= [v,w]/\D.nx ((a.set i (some v)).set j (some w)) d
theorem NZ{kt k2 FE}(C:X.calm=true)(n:X.N.Nodup)(E:X.N[i]? =some x)(F:X.N[j]? =some y)(G:i≠j)
  (r:X.env.scope.names.lookup x=some .local) (t:X.env.scope.names.lookup y=some .local) (J:PA X [a,b] m)
  (hw:swappedStores [.Tuple [.Name x k, .Name y py] kt pt] (.Tuple [a,b] k2 FE) X.env=pure (some [x,y]))
  (L:swapsWithSole [.Tuple [.Name x k, .Name y py] kt pt] (.Tuple [a,b] k2 FE) pos.line X.env=pure false:=by rfl):
  PS X (.Assign [.Tuple [.Name x k, .Name y py] kt pt] (.Tuple [a,b] k2 FE) pos) (Zx i j m):=by
 intro c s u H D I h;rw[exec_Assign_arm];refine be (aam ?_);rw[L];refine be (mo ?_);rw[ir (by decide)]
 refine be (Tuple_ (thn (J _ c s u H _ I h) λM d O=>?_));obtain⟨vs,z,P,Q,l⟩:=O;obtain⟨v,w,R,l⟩:=l;subst R
 obtain⟨f,g,rfl,S,T⟩:∃f g,M= [f,g]/\RelV v f/\RelV w g:=by
  cases Q with
  |cons p q=>
   cases q with
   |cons U Y=>
    cases Y;exact⟨_,_,rfl,p,U⟩
 refine PP ?_ (by show 2<=sizeLine;decide)
 have Z:Inv X c u z {d with heap:=d.heap.push {cls:= .type "tuple",data:= .seq [f,g].toArray}}:=P.kept (t':=d.toks) λb o e=>AC _ e
 rw[hw];refine be (mo ?_);show wpAny (model X.prog X.w) X.A (do rule "assign.swapped-stores";let items <-unpackItems (.ref d.heap.objs.size) 2 none;assignInOrder [λv=>bindName X.env y v,λv=>bindName X.env x v] items.reverse;pure Flow.next) _ _ _
 refine be (aau (be (unpackItems_tuple (items:= #[f,g]) (I.ok.hd C) (IsTup.new d.heap _) λh' Kw=>?_)));have I3:=Z.kept (h':=h') (t':=d.toks) λb o e=>Kw b o (cn (Fk e)) e;show wpAny _ _ (assignInOrder [λv=>bindName X.env y v,λv=>bindName X.env x v] [g,f]>>=λ_=>pure Flow.next) _ _ _;refine be (abB (wpAny_bindName (jA I3 n F (.inl t) T (λs2 I4=>?_) (.inr t))));refine abB (wpAny_bindName (jA I4 n E (.inl r) S (λs3 B=>assignInOrder_nil (mo ?_)) (.inr r)));rw[List.set_comm _ _ (Ne.symm G)] at B;exact⟨_,z,B,l⟩
end
section
variable {X:Cx} {pos:Pos}
def Ot(c:TT)(h:TS):TS:=λD a H=>∃W:Nat->St->Hp->Prop,(∃m,W m a H)/\∀m a H,W m a H->
 c a H λb d=>if b=true then ∃N:St->Hp->Prop,(∀e f,N e f->∃g,g<m/\W g e f)/\h {D with nx:=N,ct:=N,bk:=D.nx} a d else D.nx a d
theorem IC{c:Expr}{body:List Stmt}{tc:TT}{tb:TS}(hp:PassesOwn (model X.prog X.w) X.A X.env X.xe)(hc:PT X c tc)(hb:oz X body tb):PS X (.While c body [] pos) (Ot tc tb):=by
 intro pins s σ H D I h;obtain⟨W,⟨m0,w0⟩,turn⟩:=h;refine wpAny_While (codeAny_whileLoop (λn s'=>∃aA H',Inv X pins aA H' s'/\W n aA H') ?_ m0 ⟨σ,H,I,w0⟩);intro n s1 SH;rfl';obtain⟨Ge,H1,I1,w1⟩:=SH;ac_rfl;refine wpAny_passesOwn hp (thn (hc pins s1 Ge H1 _ I1 (turn n Ge H1 w1)) λb s2 bg=>?_);rfl';obtain⟨H2,I2,q2⟩:=bg;ac_rfl;cases b with
 |true=>
  rfl';obtain⟨N,hN,q2⟩:=q2;ac_rfl;rw[if_pos rfl];refine wpAny_passesOwn hp (thn (hb pins s2 Ge H2 _ I2 q2) λf s3 q3=>?_);cases f with
  |next=>
   obtain⟨v7,H3,I3,n3⟩:=q3;obtain⟨m',hm,w3⟩:=hN v7 H3 n3;exact⟨m',hm,v7,H3,I3,w3⟩
  |cont=>
   obtain⟨v7,H3,I3,n3⟩:=q3;obtain⟨m',hm,w3⟩:=hN v7 H3 n3;exact⟨m',hm,v7,H3,I3,w3⟩
  |brk=>exact q3
  |ret v=>exact q3
 |false=>
  rw[if_neg di];exact wpAny_execs_nil ⟨Ge,H2,I2,q2⟩
end
structure It where
 go:Nat->Hp->Prop
 yld:Nat->Hp->V->Hp->Prop
 stop:Nat->Hp->Prop
def f9(X:Cx)(a:List (Addr×Obj))(H:Hp)(b:Addr):Prop:=
 H b=none/\b≠X.env.locals/\b∉X.fs/\(b∈X.ex\/X.s₀.heap.objs.size<=b)/\(∀x c,X.env.cells.lookup x=some c->c≠b)/\∀p∈X.pn++a,p.1≠b
theorem Inv.J4(I:Inv X a g H s)(d:s.heap.objs.size<=b)(h:f b=none):f9 X a f b:=by
 refine⟨h,abg (ic I.lt d),I.K3 d, .inr (mM I.sz d),λx c e z=>?_,λp i z=>?_⟩
 ·obtain⟨v,q⟩:=I.cell x c e
  exact absurd (ic q.lt (by rw[z];exact d)) (iS _)
 ·exact absurd (ic (Fk (I.pin p i).1) (by rw[z];exact d)) (iS _)
structure Turn (P:Program) (w:World) (K:ac) (tg:Expr) (J:It) (fp:List Addr) (it:Addr) (tn:Nat->Heap->Prop):Prop where
 mem:it∈fp
 obj:∀i h,tn i h->∀b∈fp,∃o,h.get? b=some o/\∀v,o.data≠ .cell v
 keep:∀i h h',tn i h->(∀b∈fp,∀o,h.get? b=some o->h'.get? b=some o)->tn i h'
 item:∀(X:Cx),X.prog=P->X.w=w->X.K=K->X.calm=true->∀(i:Nat)(pins:List (Addr×Obj))(s:Shared)(σ:St)(H:Hp)(E:Value->Shared->Prop),Inv X pins σ H s->(∀b∈fp,f9 X pins H b)->tn i s.heap->J.go i H->
  wpAny (model P w) X.A (pyNext (.ref it)) (λr s1=>∃u,r=some u/\
   wpAny (model P w) X.A (letOwnedTupleGo tg (.ref it) u) (λ_ s2=>∃x H',Inv X pins σ H' s2/\RelV x u/\J.yld i H x H'/\tn (i+1) s2.heap/\∀b∈fp,H' b=none) E s1) E s
 done:∀(X:Cx),X.prog=P->X.w=w->X.K=K->X.calm=true->∀(i:Nat)(pins:List (Addr×Obj))(s:Shared)(σ:St)(H:Hp)(E:Value->Shared->Prop),Inv X pins σ H s->(∀b∈fp,f9 X pins H b)->tn i s.heap->J.stop i H->
  wpAny (model P w) X.A (pyNext (.ref it)) (λr s1=>r=none/\Inv X pins σ H s1) E s
 self:∀(A:Around)(i:Nat)(s:Shared)(Q:Value->Shared->Prop)(E:Value->Shared->Prop),tn i s.heap->Q (.ref it) s->wpAny (model P w) A (pyIter (.ref it)) Q E s
abbrev TI:=St->Hp->(It->Hp->Prop)->Prop
def SV(X:Cx)(a:List (Addr×Obj))(h:St)(i:Expr)(R:It->Hp->Prop)(j:Value)(d:Shared):Prop:=
 ∃(e:Addr)(f:List Addr)(g:Nat->Heap->Prop)(J:It)(c:Hp),j= .ref e/\Inv X a h c d/\Turn X.prog X.w X.K i J f e g/\g 0 d.heap/\(∀b∈f,f9 X a c b)/\R J c
def PI(X:Cx)(c iter:Expr)(d:TI):Prop:=
 ∀(a:List (Addr×Obj))(s:Shared)(b:St)(H:Hp)(R:It->Hp->Prop),Inv X a b H s->d b H R->
  wpAny (model X.prog X.w) X.A (eval iter X.env) (λv e=>wpAny (model X.prog X.w) X.A (pyIter v) (SV X a b c R) X.xe e) X.xe s
theorem Ka{M:Model}{A:Around}{E:Value->Shared->Prop}{s:Shared}{b:Expr}{c:Addr}{u:Value}{o:Obj}{n:String}{d:Array Value}{Q:Unit->Shared->Prop}(e:s.heap.get? c=some o)(f:o.cls= .type n)(g:o.data= .fields d)
  (i: ["enumerate","zip","dict_itemiterator","dict_reverseitemiterator","odict_iterator","itertools.zip_longest","itertools.pairwise"].contains n=false) (a:Q () s):wpAny M A (letOwnedTupleGo b (.ref c) u) Q E s:=by
 unfold letOwnedTupleGo
 cases b<;>first
  |exact wpAny_pure a
  | (cases u<;>first
    |exact wpAny_pure a
    | (refine wpAny_bind (wpAny_load e ?_)
       rw[f,g];show wpAny M A (if (["enumerate","zip","dict_itemiterator","dict_reverseitemiterator","odict_iterator","itertools.zip_longest","itertools.pairwise"].contains n&&d[0]? ==some (rawInt _))=true then _ else _) Q E s;rw[if_neg (by intro h;rw[i,yS] at h;cases h)]
       exact wpAny_pure a))
def P0(K:ac)(a:Addr):It:=
 ⟨λi H=>∃b x,cM K H a b/\b[i]? =some x,λi H x c=>c=H/\∀b,cM K H a b->b[i]? =some x,λi H=>∃b,cM K H a b/\b.length<=i⟩
def Jj(lo:Int)(n:Nat):It:=⟨λi _=>i<n,λi H x a=>a=H/\x= .int (lo+i),λi _=>n<=i⟩
theorem F2{P:Program}{w:World}{K:ac}{R:Expr}(a g:Addr):Turn P w K R (P0 K a) [g] g (λi h=>h.IsListIter g a i) where
 mem:=by simp
 obj:=λi h st b j=>by
  have e:b=g:=by simpa using j
  subst e;obtain⟨o,e,c,d⟩:=st;exact⟨o,e,λv z=>by rw[d] at z;cases z⟩
 keep:=λi h l st k=>st.at λo e=>k g (by simp) o e
 item:=by
  intro X q hw r N i f s O H E I m st t;rfl';subst q hw r;obtain⟨T,x,n,A⟩:=t;obtain⟨B,C,p,U⟩:=I.list n;obtain⟨u,Y,Z⟩:=C.get A;obtain⟨F,G,f2,J,L,M⟩:=m g (by simp)
  ac_rfl;refine wpAny_pyNext_list_item st p.isList (x:=u) (by simpa using Y) λl Q sb=>?_
  have I1:Inv X f O H {s with heap:=l}:=I.turned (t':=s.toks) (λb o j e=>(sb.2 b j).trans e) F G J L M
  obtain⟨o,e,c,d⟩:=id Q;exact⟨u,rfl,Ka (s:={s with heap:=l}) e c d (by decide) ⟨x,H,I1,Z,⟨rfl,λys hy=>by rw[I.z4 hy n];exact A⟩,Q,λb j=>(m b j).1⟩⟩
 done:=by
  intro X q hw r N i f s O H E I m st t;rfl';subst q hw r;obtain⟨T,n,A⟩:=t;obtain⟨B,C,p,U⟩:=I.list n;obtain⟨F,G,f2,J,L,M⟩:=m g (by simp)
  have hl:=C.length;ac_rfl;exact wpAny_pyNext_list_end (I.ok.hd N) st p.isList (by simp;lia) λl eb=>⟨rfl,I.turned (t':=s.toks) (λb o j e=>eb b o j e) F G J L M⟩
 self:=λ_ _ _ _ _ st h=>wpAny_pyIter_listiter st h
theorem DV{P:Program}{w:World}{K:ac}{G:Expr}(a:Addr)(lo:Int)(n:Nat):Turn P w K G (Jj lo n) [a] a (λi h=>IsRangeIter h a (lo+(i:Nat)*1) ((n:Int)-(i:Nat)) 1) where
 mem:=by simp
 obj:=λi h st b d=>by
  have e:b=a:=by simpa using d
  subst e
  exact⟨_,st,λv z=>by
   have J:Data.fields _=Data.cell v:=z;cases J⟩
 keep:=λi h f st k=>k a (by simp) _ st
 item:=by
  intro X j hw l m i c s B H E I g st p;subst j hw l;rfl';obtain⟨r,u,M,x,y,A⟩:=g a (by simp)
  ac_rfl;have W:=Walks.range (prog:=X.prog) (w:=X.w) (I.ok.hd m) a lo 1 n;refine W.item i s _ _ p st λv f C N F O=>?_;obtain⟨t,rfl⟩:=N;have Q:Inv X c B H {s with heap:=f,toks:=C}:=I.turned (λb o d e=>O b o (by simpa using d) e) r u x y A
  refine⟨_,rfl,Ka (s:={s with heap:=f,toks:=C}) (n:="range_iterator") F rfl rfl (by decide) ⟨.int (lo+i),H,Q,⟨t,?_⟩,⟨rfl,rfl⟩,F,λb d=>(g b d).1⟩⟩
  rw[Int.mul_one]
 done:=by
  intro X j hw l m i c s B H E I g st p;subst j hw l;rfl';obtain⟨r,u,M,x,y,A⟩:=g a (by simp)
  ac_rfl;exact wpAny_pyNext_range_end (I.ok.hd m) st (by have:n<=i:=p;lia) λf R=>⟨rfl,I.turned (t':=s.toks) (λb o d e=>R b o d e) r u x y A⟩
 self:=λ_ _ _ _ _ st h=>wpAny_pyIter_rangeiter st h
section
variable {X:Cx} {tg:Expr}
def RE(K:ac)(c:TE):TI:=λd H R=>c d H λx b=>∃a,x= .ref a/\(∃e,cM K b a e)/\R (P0 K a) b
theorem Ln(j:PE X l i):PI X tg l (RE X.K i):=by
 intro c s k H R I h;refine thn (j c s k H _ I h) λv d m=>?_;rfl';obtain⟨x,r,f,t,u⟩:=m;ac_rfl;rfl';obtain⟨a,e,⟨A,w⟩,q⟩:=u;subst e;subst t;obtain⟨y,B,p,C⟩:=f.list w;ac_rfl;refine wpAny_pyIter_list p.isList ?_;refine⟨d.heap.objs.size,[d.heap.objs.size],_,_,r,rfl,f.kept (t':=d.toks) λb o e=>AC _ e,F2 a _,⟨_,GM _ rfl,rfl,rfl⟩,λb z=>?_,q⟩;have e:b=d.heap.objs.size:=by simpa using z
 subst e;exact f.J4 (bJ _) (f.hok.fresh (bJ _))
theorem Af{c:List (Addr×Obj)}{d:St}{H:Hp}{s:Shared}{R:It->Hp->Prop}{E:Value->Shared->Prop}{lo a:Int}{t u v:Tok}{f:Nat}(I:Inv X c d H s)(h: -(2^62)<=lo)(i:lo<2^62)(j: -(2^62)<=a)(k:a<2^62)
  (q:R (Jj lo (a-lo).toNat) H):wpAny (model X.prog X.w) X.A (pyIter (.ref s.heap.objs.size)) (SV X c d tg R) E {s with heap:=s.heap.push {cls:= .type "range",data:= .fields #[.int lo t, .int a u, .int 1 v]},toks:=f}:=by
 refine wpAny_pyIter_range (IsRange.new ..) (small_one h i j k) ?_;have g:Inv X c d H {s with heap:=s.heap.push {cls:= .type "range",data:= .fields #[.int lo t, .int a u, .int 1 v]},toks:=f}:=I.kept λb o e=>AC _ e
 refine⟨(s.heap.push {cls:= .type "range",data:= .fields #[.int lo t, .int a u, .int 1 v]}).objs.size,[(s.heap.push {cls:= .type "range",data:= .fields #[.int lo t, .int a u, .int 1 v]}).objs.size],_,_,H,rfl,
  g.kept (t':=f) λb o e=>AC _ e,DV _ lo (a-lo).toNat,?_,λb l=>?_,q⟩
 ·have m:lo+((0:Nat):Int)*1=lo:=by simp
  have n:(((a-lo).toNat:Nat):Int)-((0:Nat):Int)=Builtin.Range.rangeSize lo a 1:=by rw[rangeSize_one];split<;>lia
  show IsRangeIter _ _ (lo+((0:Nat):Int)*1) ((((a-lo).toNat:Nat):Int)-((0:Nat):Int)) 1;rw[m,n];exact GM _ rfl
 ·have e:b=(s.heap.push {cls:= .type "range",data:= .fields #[.int lo t, .int a u, .int 1 v]}).objs.size:=by simpa using l
  subst e;exact g.J4 (bJ _) (g.hok.fresh (bJ _))
def RF(a:TA):TI:=λb H R=>a b H λc d=>∃j:Int,c= [.int j]/\-(2^62)<=j/\j<2^62/\R (Jj 0 j.toNat) d
def RG(a:TA):TI:=λb H R=>a b H λc d=>∃i j:Int,c= [.int i, .int j]/\(-(2^62)<=i/\i<2^62/\-(2^62)<=j/\j<2^62)/\R (Jj i (j-i).toNat) d
theorem xW(f:Gl X "range")(g:X.mg "range"=none)(i:PA X [a] d)(k:starEach [a] X.env= [(false,eval a X.env)]:=by rfl):PI X tg (.Call (.Name "range" p) [a] [] pos) (RF d):=by
 intro b s l H R I h;refine Call_ (iE I f g boot_range (SL (thn (i pos b s l H _ I h) λv w ⟨x,y,m,n,c⟩=>?_) k rfl));obtain⟨j,e,c,o,q⟩:=c;subst e;cases n with
 |cons r u=>
  cases u;obtain⟨t,rfl⟩:=r;exact call_range_1 (Af m (by lia) (by lia) c o (by simpa using q))
theorem xX(l:Gl X "range")(m:X.mg "range"=none)(n:PA X [a,b] g)(o:starEach [a,b] X.env= [(false,eval a X.env),(false,eval b X.env)]:=by rfl)(k:starEach [b] X.env= [(false,eval b X.env)]:=by rfl):
  PI X tg (.Call (.Name "range" p) [a,b] [] pos) (RG g):=by
 intro c s u H R I h;refine Call_ (iE I l m boot_range (SL (thn (n pos c s u H _ I h) λB C ⟨E,F,v,w,d⟩=>?_) (by rw[o,k]) (by rw[k];rfl)))
 obtain⟨i,j,e,⟨d,x,y,z⟩,q⟩:=d;subst e;cases w with
 |cons r f=>
  cases f with
  |cons A f=>
   cases f;obtain⟨t,rfl⟩:=r;obtain⟨G,rfl⟩:=A;exact call_range_2 (Af v d x y z q)
def Zt(e:TI)(g:TG)(f:TS):TS:=λD a H=>e a H λJ h=>∃W:Nat->Nat->St->Hp->Prop,(∃m,W 0 m a h)/\∀i m a H,W i m a H->
 (J.stop i H/\D.nx a H)\/(J.go i H/\∃N:St->Hp->Prop,(∀c b,N c b->∃d,d<m/\W (i+1) d c b)/\∀x b,J.yld i H x b->g x a b λj k=>f {D with nx:=N,ct:=N,bk:=D.nx} j k)
def nh(a:List Addr)(h:Heap):List (Addr×Obj):=a.filterMap λb=>(h.get? b).map λo=>(b,o)
theorem e6(c:b∈a)(e:h.get? b=some o):(b,o)∈nh a h:=abC.mpr ⟨b,c,by rw[e];rfl⟩
theorem Ft(c:p∈nh a h):p.1∈a/\h.get? p.1=some p.2:=by
 obtain⟨b,d,e⟩:=abC.mp c;cases q:h.get? b with
 |none=>rw[q] at e;cases e
 |some o=>
  rw[q] at e;have f:(b,o)=p:=FB e;subst f;exact⟨d,q⟩
theorem Inv.pinned(I:Inv X a f H s)(i:∀b∈c,f9 X a H b)(j:∀b∈c,∃o,s.heap.get? b=some o/\∀v,o.data≠ .cell v):Inv X (a++nh c s.heap) f H s:=
 I.mr λp k=>(cV.mp k).elim (λz=>I.pin p (gm _ z)) λz=>by
  rfl';obtain⟨g,e⟩:=Ft z;obtain⟨m,n,q,_⟩:=i p.1 g;obtain⟨o,h,d⟩:=j p.1 g;ac_rfl;rw[e] at h;cases h;exact⟨e,m,n,q,d⟩
theorem Inv.jC(I:Inv X (a++pl) b H s):Inv X a b H s:=I.mr λp c=>I.pin p (gm _ (fG _ c))
theorem GW(C:PassesOwn (model X.prog X.w) X.A X.env X.xe)(hc:X.calm=true)(hi:PI X tg iter Y)(hg:PG X tg g)(c:oz X t Z)
  (hs:∀x,foldedSetIterable iter X.env x=pure x:=by intro _;rfl):PS X (.For tg iter t [] pos) (Zt Y g Z):=by
 intro a s σ H D I h;refine wpAny_For (thn (hi a s σ H _ I h) λv s1 h1=>thn h1 λBc s2 h2=>?_) hs;rfl';obtain⟨it,E,tn,J,H2,e,I2,T,j5,f2,W,⟨m0,w0⟩,F⟩:=h2;subst e;ac_rfl;have j:∀{q:Hp},(∀b∈E,q b=none)->∀b∈E,f9 X a q b:=λhn b c=>⟨hn b c,(f2 b c).2⟩;refine codeAny_forLoop_any (λn s'=>∃i G q,Inv X a G q s'/\tn i s'.heap/\(∀b∈E,q b=none)/\W i n G q) ?_ m0 ⟨0,σ,H2,I2,j5,λb c=>(f2 b c).1,w0⟩;intro n s3 SH;rfl';obtain⟨i,L,O,I3,vW,Vy,w3⟩:=SH;ac_rfl
 rcases F i n L O w3 with ⟨stop,qn⟩ | ⟨go,N,hN,step⟩
 ·refine aat C (thn (T.done X rfl rfl rfl hc i a s3 L O X.xe I3 (j Vy) vW stop) λr s4 B=>?_)
  obtain⟨Q,I4⟩:=B;subst Q;exact abf ⟨L,O,I4,qn⟩
 ·refine aat C (thn (T.item X rfl rfl rfl hc i a s3 L O X.xe I3 (j Vy) vW go) λr s4 B=>?_)
  obtain⟨u,Q,h4⟩:=B;subst Q;refine aat C (thn h4 λ_ s5 B=>?_);rfl';obtain⟨x,H5,I5,r5,y5,R,zh⟩:=B;ac_rfl;have Jh:=I5.pinned (j zh) (T.obj _ _ R);refine aat C (thn (hg _ s5 L H5 x u _ Jh r5 (step x H5 y5)) λ_ s6 B=>?_);rfl';obtain⟨S,H6,I6,q6⟩:=B;ac_rfl;refine aat C (thn (c _ s6 S H6 _ I6 q6) λf U y=>?_)
  have again:∀{k:St}{l:Hp},Inv X (a++nh E s5.heap) k l U->N k l->∃m,m<n/\∃i G q,Inv X a G q U/\tn i U.heap/\(∀b∈E,q b=none)/\W i m G q:=λ {k l} p M=>by
   obtain⟨m',hm,w7⟩:=hN k l M;refine⟨m',hm,i+1,k,l,p.jC,T.keep _ _ _ R λb c o e=>(p.pin (b,o) (gm _ (gm _ (e6 c e)))).1,λb c=>?_,w7⟩;obtain⟨o,e,d⟩:=T.obj _ _ R b c;exact(p.pin (b,o) (gm _ (gm _ (e6 c e)))).2.1
  cases f with
  |next=>obtain⟨k,l,p,M⟩:=y;exact again p M
  |cont=>obtain⟨k,l,p,M⟩:=y;exact again p M
  |brk=>obtain⟨k,l,p,y⟩:=y;exact⟨k,l,p.jC,y⟩
  |ret v=>obtain⟨x7,k,l,p,r7,y⟩:=y;exact⟨x7,k,l,p.jC,r7,y⟩
end
abbrev R2:=V->V->Hp->VK->Prop
def OpR(X:Cx)(f:Value->Value->Sem Value)(r:R2):Prop:=
 ∀(a:List (Addr×Obj))(s:Shared)(b:St)(H:Hp)(x y:V)(v u:Value)(Q:VK),Inv X a b H s->RelV x v->RelV y u->r x y H Q->
  wpAny (model X.prog X.w) X.A (f v u) (EP X a b Q) X.xe s
def UnR(X:Cx)(f:Value->Sem Value)(r:V->Hp->VK->Prop):Prop:=
 ∀(a:List (Addr×Obj))(s:Shared)(b:St)(H:Hp)(x:V)(v:Value)(Q:VK),Inv X a b H s->RelV x v->r x H Q->
  wpAny (model X.prog X.w) X.A (f v) (EP X a b Q) X.xe s
def dZ(X:Cx)(f:Value)(r:List V->Hp->VK->Prop):Prop:=
 ∀(a:List (Addr×Obj))(s:Shared)(b:St)(H:Hp)(c:List V)(d:List Value)(Q:VK),Inv X a b H s->Vals c d->r c H Q->
  wpAny (model X.prog X.w) X.A (call f d) (EP X a b Q) X.xe s
def SY(X:Cx)(r:V->Hp->(Bool->Hp->Prop)->Prop):Prop:=
 ∀(a:List (Addr×Obj))(s:Shared)(b:St)(H:Hp)(x:V)(v:Value)(Q:Bool->Hp->Prop),Inv X a b H s->RelV x v->r x H Q->
  wpAny (model X.prog X.w) X.A (truthy v) (TP X a b Q) X.xe s
def Mb(r:R2)(b c:TE):TE:=λa H Q=>b a H λx d=>c a d λy e=>r x y e Q
def tUn(r:V->Hp->VK->Prop)(a:TE):TE:=λb H Q=>a b H λx c=>r x c Q
def rI(C:Int->Int->Prop)(g:Int->Int->V):R2:=λx y H Q=>∃i j,x= .int i/\y= .int j/\C i j/\Q (g i j) H
def BG(g:Int->Int->V):R2:=λx y H Q=>∃i j,x= .int i/\y= .int j/\Q (g i j) H
def rU(g:Int->V):V->Hp->VK->Prop:=λx H Q=>∃i,x= .int i/\Q (g i) H
section
variable {X:Cx} {a b c:Expr} {ta tb tc:TE} {pos:Pos}
theorem Jw(l:PE X a ta)(m:PE X b tb){d:List (Addr×Obj)}{s:Shared}{e:St}{H:Hp}{R:V->V->Hp->Prop}(I:Inv X d e H s)
  (h:ta e H λx k=>tb e k λy g=>R x y g) {Q:Value->Shared->Prop} {f:Value->Value->Sem Value}
  (n:∀v u j x y g,Inv X d e g j->RelV x v->RelV y u->R x y g->wpAny (model X.prog X.w) X.A (f v u) Q X.xe j):
  wpAny (model X.prog X.w) X.A (eval a X.env) (λv i=>wpAny (model X.prog X.w) X.A (eval b X.env) (λu o=>wpAny (model X.prog X.w) X.A (f v u) Q X.xe o) X.xe i) X.xe s:=by
 refine thn (l d s e H _ I h) λv p ⟨x,k,q,r,t⟩=>?_;refine thn (m d p e k _ q t) λu j ⟨y,g,z,B,C⟩=>?_;exact n v u j x y g z r B C
theorem FA(f:OpR X (binaryOp e) r)(g:PE X a ta)(i:PE X b tb):PE X (.BinOp a e b pos) (Mb r ta tb):=by
 intro d s j H Q I h;exact wpAny_BinOp (Jw g i I h λv u k x y l m n o q=>f d k j l x y v u Q m n o q)
theorem R3(g:UnR X (unaryOp e) r)(i:PE X a ta):PE X (.UnaryOp e a pos) (tUn r ta):=by
 intro d s f H Q I h;exact UnaryOp_ (thn (i d s f H _ I h) λv j ⟨x,k,l,m,n⟩=>g d j f k x v Q l m n)
theorem Nx{f:Value->Value->Sem Value}{C:Int->Int->Prop}{g:Int->Int->Int}
  (rule:∀(i j:Int)(t u:Tok)(s:Shared)(Q:Value->Shared->Prop)(E:Value->Shared->Prop),C i j->Q (.int (g i j) s.toks) {s with toks:=s.toks+1}->wpAny (model X.prog X.w) X.A (f (.int i t) (.int j u)) Q E s):
  OpR X f (rI C λi j=> .int (g i j)):=by
 intro d s n H x y v u Q I e k h;obtain⟨i,j,rfl,rfl,l,q⟩:=h;obtain⟨t,rfl⟩:=e;obtain⟨m,rfl⟩:=k;exact rule i j t m s _ _ l ⟨.int (g i j),H,I.tok _,⟨_,rfl⟩,q⟩
theorem PB{f:Value->Value->Sem Value}{g:Int->Int->Int}
  (rule:∀(i j:Int)(t u:Tok)(s:Shared)(Q:Value->Shared->Prop)(E:Value->Shared->Prop),Q (.int (g i j) s.toks) {s with toks:=s.toks+1}->wpAny (model X.prog X.w) X.A (f (.int i t) (.int j u)) Q E s):
  OpR X f (BG λi j=> .int (g i j)):=by
 intro d s m H x y v u Q I e k h;obtain⟨i,j,rfl,rfl,q⟩:=h;obtain⟨t,rfl⟩:=e;obtain⟨l,rfl⟩:=k;exact rule i j t l s _ _ ⟨.int (g i j),H,I.tok _,⟨_,rfl⟩,q⟩
theorem K9{f:Value->Value->Sem Value}{g:Int->Int->Bool}
  (rule:∀(i j:Int)(t u:Tok)(s:Shared)(Q:Value->Shared->Prop)(E:Value->Shared->Prop),Q (.bool (g i j)) s->wpAny (model X.prog X.w) X.A (f (.int i t) (.int j u)) Q E s):
  OpR X f (BG λi j=> .bl (g i j)):=by
 intro d s m H x y v u Q I e k h;obtain⟨i,j,rfl,rfl,q⟩:=h;obtain⟨t,rfl⟩:=e;obtain⟨l,rfl⟩:=k;exact rule i j t l s _ _ ⟨.bl (g i j),H,I,rfl,q⟩
def OB(i j:Int):Prop:=0<j/\j<1073741824
def OC(i j:Int):Prop:=0<=j/\j<=1000000/\i.natAbs<2^64
def Gg(i j:Int):Prop:=(-(2^64)<i/\i<2^64)\/(-(2^64)<j/\j<2^64)
theorem Gg.ok(h:Gg i j):IntMulOk i j:=by
 rcases h with ⟨d,e⟩ | ⟨d,e⟩
 ·exact .of_left (intBits_le_64 d e)
 ·exact .of_right (intBits_le_64 d e)
theorem Ny:OpR X (binaryOp .Add) (BG λi j=> .int (i+j)):=PB λ_ _ _ _ _ _ _ q=>add_int q
theorem NJ:OpR X (binaryOp .Sub) (BG λi j=> .int (i-j)):=PB λ_ _ _ _ _ _ _ q=>sub_int q
theorem NF:OpR X (binaryOp .Mult) (rI Gg λi j=> .int (i*j)):=Nx λ_ _ _ _ _ _ _ d q=>mul_int q d.ok
theorem Lb:OpR X (binaryOp .FloorDiv) (rI OB λi j=> .int (i / j)):=Nx λi j _ _ _ _ _ d q=>by
 have e:(0:Int)<j:=d.1;have f:j<1073741824:=d.2;exact floordiv_int (by lia) (by rw[Int.fdiv_eq_ediv_of_nonneg i (by lia)];exact q) (.inl (PyProof.noPylong_small (by lia)))
theorem ND:OpR X (binaryOp .Mod) (rI (λ_ j=>0<j) λi j=> .int (i%j)):=Nx λi j _ _ _ _ _ d q=>by
 have e:(0:Int)<j:=d;exact mod_int' (by lia) (by rw[Int.fmod_eq_emod_of_nonneg i (by lia)];exact q)
theorem NH:OpR X (binaryOp .Pow) (rI OC λi j=> .int (i^j.toNat)):=Nx λ_ _ _ _ _ _ _ d q=>pow_int_small d.1 d.2.1 d.2.2 q
theorem unI{f:Value->Sem Value}{g:Int->Int}
  (rule:∀(i:Int)(t:Tok)(s:Shared)(Q:Value->Shared->Prop)(E:Value->Shared->Prop),Q (.int (g i) s.toks) {s with toks:=s.toks+1}->wpAny (model X.prog X.w) X.A (f (.int i t)) Q E s):
  UnR X f (rU λi=> .int (g i)):=by
 intro d s j H x v Q I e h;obtain⟨i,rfl,q⟩:=h;obtain⟨t,rfl⟩:=e;exact rule i t s _ _ ⟨.int (g i),H,I.tok _,⟨_,rfl⟩,q⟩
theorem Ox:UnR X (unaryOp .USub) (rU λi=> .int (-i)):=unI λ_ _ _ _ _ q=>neg_int q
end
section
variable {X:Cx} {a b c:Expr} {ta tb tc:TE} {pos:Pos}
theorem Gw(I:Inv X d f H s)(q:Q (.bl k) H)(e:k=g):EP X d f Q (.bool g) s:=by
 subst e;exact⟨.bl k,H,I,rfl,q⟩
theorem RV:OpR X (compareOp .Lt) (BG λi j=> .bl (decide (i<j))):=K9 λ_ _ _ _ _ _ _ q=>lt_int q
theorem RU:OpR X (compareOp .LtE) (BG λi j=> .bl (decide (i<=j))):=K9 λ_ _ _ _ _ _ _ q=>le_int q
theorem RT:OpR X (compareOp .Gt) (BG λi j=> .bl (decide (j<i))):=K9 λ_ _ _ _ _ _ _ q=>gt_int q
theorem NB:OpR X (compareOp .Is) (λx y H Q=>y= .bA/\Q (.bl (decide (x= .bA))) H):=by
 intro d s g H x y v u Q I e f h;obtain⟨rfl,q⟩:=h;subst f;refine is_none_gen (Gw I q ?_)
 cases x<;>first
  | (cases e;rfl)
  | (obtain⟨t,rfl⟩:=e;rfl)
theorem Lc:OpR X (compareOp .IsNot) (λx y H Q=>y= .bA/\Q (.bl (!decide (x= .bA))) H):=by
 intro d s g H x y v u Q I e f h;obtain⟨rfl,q⟩:=h;subst f;refine isnot_none_gen (Gw I q ?_)
 cases x<;>first
  | (cases e;rfl)
  | (obtain⟨t,rfl⟩:=e;rfl)
theorem OpR.or(h:OpR X f r)(k:OpR X f e):OpR X f (λx y H Q=>r x y H Q\/e x y H Q):=by
 intro d s g H x y v u Q I i j q
 rcases q with q|q
 ·exact h d s g H x y v u Q I i j q
 ·exact k d s g H x y v u Q I i j q
theorem bR(b:Expr)(h:d≠ .In:=by decide)(e:d≠ .NotIn:=by decide):behindInMarks d b=false:=by
 have f:(d==CmpOp.In)=false:=by cases d<;>first|rfl|exact absurd rfl h
 have g:(d==CmpOp.NotIn)=false:=by cases d<;>first|rfl|exact absurd rfl e
 cases b<;>simp[behindInMarks,f,g]
theorem Lf(f:OpR X (compareOp e) r)(g:PE X a ta)(i:PE X b tb)(j:behindInMarks e b=false):PE X (.Compare a [e] [b] pos) (Mb r ta tb):=by
 intro d s k H Q I h;exact wpAny_Compare1 (Jw g i I h λv u l x y m n o p q=>f d l k m x y v u Q n o p q) j
def FY(t:TE):TT:=λd H Q=>t d H λx e=>∃k,x= .bl k/\Q k e
theorem Lv(i:OpR X (compareOp f) r)(j:PE X a ta)(l:PE X b tb)(m:behindInMarks f b=false):PT X (.Compare a [f] [b] pos) (FY (Mb r ta tb)):=by
 intro d s g H Q I h
 refine wpAny_isTrue_Compare1 (thn (j d s g H _ I h) λv n ⟨x,o,p,q,t⟩=>thn (l d n g o _ p t) λu w ⟨y,A,B,C,E⟩=>
  thn (i d w g A x y v u _ B q C E) λc M ⟨z,F,G,J,k,e,L⟩=>?_) m
 subst e;subst J;exact Pv ⟨F,G,L⟩
def BQ(r f:R2)(g h i:TE):TE:=λd H Q=>g d H λx j=>h d j λy l=>r x y l λz e=>∃k,z= .bl k/\
 (if k=true then i d e λm n=>f y m n Q else Q (.bl false) e)
theorem Iw(q:OpR X (compareOp i) r)(t:OpR X (compareOp j) l)(w:PE X a ta)(A:PE X b tb)(B:PE X c tc)
  (C:lastMarks [i,j] [b,c]=false:=by with_unfolding_all rfl):PE X (.Compare a [i,j] [b,c] pos) (BQ r l ta tb tc):=by
 intro f s g H Q I h
 refine Compare_chain (thn (w f s g H _ I h) λv E ⟨x,F,G,J,L⟩=>chain_link (thn (A f E g F _ G L) λu M ⟨y,N,O,m,P⟩=>
  thn (q f M g N x y v u _ O J m P) λd R ⟨z,n,o,S,k,e,p⟩=>?_)) C
 subst e;subst S;refine Pv ?_;cases k with
 |false=>exact ite_ff ⟨.bl false,n,o,rfl,p⟩
 |true=>exact ite_tt (chain_last (thn (B f R g n _ o p) λT U ⟨Y,Z,I4,r4,q4⟩=>t f U g Z y Y u T Q I4 m r4 q4))
theorem ID(q:OpR X (compareOp i) r)(t:OpR X (compareOp j) l)(w:PE X a ta)(A:PE X b tb)(B:PE X c tc)
  (C:lastMarks [i,j] [b,c]=false:=by with_unfolding_all rfl):PT X (.Compare a [i,j] [b,c] pos) (FY (BQ r l ta tb tc)):=by
 intro f s g H Q I h
 refine isTrue_chain (thn (w f s g H _ I h) λv E ⟨x,F,G,J,L⟩=>test_link (thn (A f E g F _ G L) λu M ⟨y,N,O,m,P⟩=>
  thn (q f M g N x y v u _ O J m P) λd R ⟨z,n,o,S,k,e,p⟩=>?_)) C
 subst e;subst S;refine Pv ?_;cases k with
 |false=>
  rfl';obtain⟨k',U,Y⟩:=p;cases U;ac_rfl;exact ite_ff ⟨n,o,Y⟩
 |true=>
  refine ite_tt (test_last (thn (B f R g n _ o p) λZ s4 ⟨z',H4,I4,r4,q4⟩=>thn (t f s4 g H4 y z' u Z _ I4 m r4 q4) λd' s5 ⟨z2,H5,I5,r5,k2,e2,q5⟩=>?_));subst e2;subst r5;exact Pv ⟨H5,I5,q5⟩
def OE(K:ac)(x:V)(H:Hp)(k:Bool):Prop:=
 match x with
 | .bA=>k=false
 | .bl b=>k=b
 | .int i=>k=(i !=0)
 | .str y=>y.length<=sizeLine/\k=((y.length:Int) !=0)
 | .Hu y=>y.size<=sizeLine/\k=((y.size:Int) !=0)
 | .ref p=>(∃d,cM K H p d/\k= !d.isEmpty)\/(∃d,gO K H p d/\k= !d.isEmpty)\/∃e,H p=some (.dK e)/\k= !e.isEmpty
 |_=>False
theorem CV(r:KV e f):(!f.isEmpty)= !e.isEmpty:=by
 cases r<;>rfl
theorem vf(r:Vals e d):(!d.toArray.isEmpty)= !e.isEmpty:=by
 cases r<;>simp
theorem kC:(sizeLine:Nat)<2^63:=by rw[abA];decide
theorem Ov:SY X (λx H Q=>∃k,OE X.K x H k/\Q k H):=by
 intro pins s σ H x v Q I rx h;obtain⟨k,e,q⟩:=h;have hl:=kC;have hs:sizeLine=16777216:=sizeLine_eq;cases x with
 |bA=>
  cases rx;have e':k=false:=e;subst e';exact truthy_none ⟨H,I,q⟩
 |bl b=>
  cases rx;have e':k=b:=e;subst e';exact wpAny_truthy_bool ⟨H,I,q⟩
 |int i=>
  obtain⟨t,rfl⟩:=rx;have e':k=(i !=0):=e;subst e';exact PySem.P.truthy_int ⟨H,I,q⟩
 |str y=>
  obtain⟨t,rfl⟩:=rx;obtain⟨hy,e'⟩:y.length<=sizeLine/\k=((y.length:Int) !=0):=e;subst e';exact PySem.P.truthy_str (by lia) ⟨H,I.tok _,q⟩
 |Hu y=>
  obtain⟨t,rfl⟩:=rx;obtain⟨hy,e'⟩:y.size<=sizeLine/\k=((y.size:Int) !=0):=e;subst e';exact PySem.W.truthy_bytes (by lia) ⟨H,I.tok _,q⟩
 |ref p=>
  subst rx;have e':(∃xs,cM X.K H p xs/\k= !xs.isEmpty)\/(∃xs,gO X.K H p xs/\k= !xs.isEmpty)\/∃fe,H p=some (.dK fe)/\k= !fe.isEmpty:=e
  rcases e' with ⟨xs,hx,e'⟩ | ⟨xs,hx,e'⟩ | ⟨fe,hx,e'⟩
  ·subst e'
   obtain⟨its,r,pl,hz⟩:=I.list hx;have hlen:=r.length;exact wpAny_truthy_list pl.isList (by simp only[cT];lia) ⟨H,I.tok _,by rw[vf r];exact q⟩
  ·subst e'
   obtain⟨its,r,pl,hz⟩:=I.tuple hx;have hlen:=r.length;exact truthy_tuple pl (by simp only[cT];lia) ⟨H,I.tok _,by rw[vf r];exact q⟩
  ·subst e'
   obtain⟨hz,hS,vs,r,m⟩:fe.length<=sizeLine/\(p==sysModules)=false/\∃vs,KV fe vs/\s.heap.DictOf (xH X.prog X.w) p vs:=I.hok p _ hx;have hlen:fe.length=vs.length:=Paired.length r;exact wpAny_truthy_dict hS m (by lia) ⟨H,I.tok _,by rw[CV r];exact q⟩
 |_=>exact(show False from e).elim
theorem IE(i:PE X a ta)(j:∀d,isTrue a X.env d=(do let v <-d;standAt a.pos;holding [v] (truthy v))):
  PT X a (λf H Q=>ta f H λx g=>∃k,OE X.K x g k/\Q k g):=by
 intro e s f H Q I h;exact isTrue_plain (thn (i e s f H _ I h) λv l ⟨x,m,n,o,p⟩=>Ov e l f m x v Q n o p) (j _)
theorem vals1(r:Vals [x] d):∃u,d= [u]/\RelV x u:=by
 cases r with
 |cons e f=>cases f;exact⟨_,rfl,e⟩
end
structure wu (h:Heap) (x dx C:Addr) (mA:Str->Option Value):Prop where
 obj:h.get? x=some (b0 C dx)
 ns:h.Ns1 dx mA
 ne:dx≠x
theorem Fd{h:Heap}(n:h.Ns1 c d):∃f,h.get? c=some f/\∀b,cv b f=some (d b):=by
 rfl';obtain⟨o,g,v,j,k,l,_,m⟩:=n;ac_rfl;refine⟨o,j,λb=>?_⟩;have e:=m b;unfold nsFind findBy at e;rw[<-Array.find?_toList] at e;unfold cv;rw[k];dsimp only
 split
 ·rename_i y q
  rw[q] at e;exact Gc some e
 ·rename_i q
  rw[q] at e
  have a:g.toList.any (·.refKey)=false:=by
   rw[List.any_eq_false];intro y p;obtain⟨z,t,r⟩:=l y (Array.mem_toList_iff.mp p);simp[DictEntry.refKey,r]
  have s:¬g.toList.any (·.refKey)=true:=by rw[a];exact di
  rw[ir s];exact Gc some e
theorem wu.look(I:wu h x c C d):∃b,PySem.W.InstAt h x (b0 C c) C (some b)/\∀a,cv a b=some (d a):=
 let ⟨b,e,f⟩:=Fd I.ns
 ⟨b,⟨I.obj,rfl,rfl,e⟩,f⟩
section
variable {prog:Program} {w:World} {A:Around} {E:Value->Shared->Prop} {s:Shared} {K:ac} {x dx C f:Addr} {mA:Str->Option Value} {name:Str} {v:Value}
theorem get_map(X:K.In s.heap)(I:wu s.heap x dx C mA)(b:b6 K C name=true)(c:ce K C=true)
  (d:bd K (.ref C) name=some none) (e:mA name=some v) (g:PySem.W.handedIn v=true) (h:Q v {s with toks:=s.toks+1}):
  wpAny (model prog w) A (getAttr (.ref x) name a) Q E s:=by
 obtain⟨j,J,i⟩:=I.look;exact PySem.W.get_value X J (abr b).1 (PySem.W.findObj_own c d rfl (by rw[i,e])) g h
theorem HM(X:K.In s.heap)(I:wu s.heap x dx C mA)(a:b6 K C name=true)
  (b:bd K (.ref C) name=some (some (.ref f))) (c:b4 K (.ref f)=true) (d:mA name=none) (h:Q (.ref f,[.ref x]) s):
  wpAny (model prog w) A (getMethod (.ref x) name pl) Q E s:=by
 obtain⟨e,J,g⟩:=I.look;exact PySem.W.method_fn X J (abr a).1 (abr a).2 b (aav.mp c) (by show(cv name e).map (·.isSome)=some false;rw[g,d];rfl) h
theorem LM(X:K.In s.heap)(I:wu s.heap x dx C mA)
  (m:bd K (.ref C) "__setattr__"=some (some (.builtin "object.__setattr__"))) (n:cA K C=true) (o:db K C name=some none) (p:ce K C=true)
  (hw:da mA j) (G:j.length<=sizeLine)
  (h:∀c,wu c x dx C (λy=>if y=name then some v else mA y)->Heap.SameBut dx s.heap c->Q () {s with heap:=c,toks:=s.toks+2}):
  wpAny (model prog w) A (setAttr (.ref x) name v) Q E s:=by
 rfl';obtain⟨H,J,L⟩:=I.look;obtain⟨M,t,u⟩:=PySem.W.any_some p;ac_rfl;refine PySem.W.set_plain X J m (PySem.W.osa_open (s:={s with toks:=s.toks+1}) (r:=none) X J n o λb=>?_)
 have z:s.heap.get? x=some ⟨.ref C,some dx, .plain, #[]⟩:=I.obj;refine be (mo (be (be (wpAny_loadPart z (be (PySem.W.Looks.here (s:={s with toks:=s.toks+1}) (PySem.W.looks_clsIn X t) ?_))))))
 rw[u];refine mo (a:=some dx) (be (mo (be ?_)));refine wpAny_nsSet1 (s:={s with toks:=s.toks+1}) I.ns λc k l=>?_
 rfl';obtain⟨N,B,F,e,g,i⟩:=k.count (PySem.Within.cons name v hw);ac_rfl;refine be (wpAny_lookBehind e (by rw[g];exact pastItsLine_dict (mM i (by rw[dM];lia))) ?_)
 exact mo (h _ ⟨(l.2 _ (Ne.symm I.ne)).trans I.obj,k,I.ne⟩ l)
theorem Ip(X:K.In s.heap)(c:dc K C=true)
  (e:bd K (.ref C) "__init__"=some (some (.ref f))) (i:PySem.W.typeIn K (.ref f)=some (.type "function"))
  (h:codeAny (model prog w) (A.under (.builtin "type.__call__" ⟨.ref C::a,b⟩)) (.call (.ref f) ⟨.ref (s.heap.objs.size+1)::a,b⟩) (PySem.W.InitBack (s.heap.objs.size+1) R)
   {s with heap:=(s.heap.push bm).push (b0 C s.heap.objs.size)}):
  codeAny (model prog w) A (.call (.ref C) ⟨a,b⟩) R s:=by
 obtain⟨j,g,d,t,os⟩:=s;exact PySem.W.make_core (PySem.W.makes_of X c) (PySem.W.looks_findIn X e) (λself=>PySem.W.bind_fn X self i) (.inl rfl) h
end
def jg(f:Str)(v:V):List (Str×V)->List (Str×V)
 | []=> [(f,v)]
 | (g,x)::r=>if g=f then(g,v)::r else(g,x)::jg f v r
theorem tw(f g:Str)(v:V):∀fs:List (Str×V),(jg f v fs).lookup g=if g=f then some v else fs.lookup g
 | []=>by
  show bz g [(f,v)]=_
  by_cases h:g=f
  ·have a:(g==f)=true:=aav.mpr h
   simp only[bz,a,tz h]
  ·have a:(g==f)=false:=aao.mpr h
   simp only[bz,a,ir h]
 | (k,x)::r=>by
  have c:=tw f g v r;rw[show jg f v ((k,x)::r)=(if k=f then(k,v)::r else(k,x)::jg f v r) from rfl]
  by_cases b:k=f
  ·rw[tz b]
   by_cases h:g=k
   ·have a:(g==k)=true:=aav.mpr h
    simp only[bz,a,tz (h.trans b)]
   ·have a:(g==k)=false:=aao.mpr h
    simp only[bz,a,ir (λe:g=f=>h (e.trans b.symm))]
  ·rw[ir b]
   by_cases h:g=k
   ·have a:(g==k)=true:=aav.mpr h
    simp only[bz,a,ir (λe:g=f=>b (h.symm.trans e))]
   ·have a:(g==k)=false:=aao.mpr h
    simp only[bz,a];exact c
theorem rM(f:Str)(v:V):∀fs:List (Str×V),f∈(jg f v fs).map (·.1)/\∀g,g∈fs.map (·.1)->g∈(jg f v fs).map (·.1)
 | []=>⟨by simp[jg],λg h=>by simp at h⟩
 | (k,x)::r=>by
  obtain⟨b,c⟩:=rM f v r;rw[show jg f v ((k,x)::r)=(if k=f then(k,v)::r else(k,x)::jg f v r) from rfl]
  by_cases a:k=f
  ·rw[tz a]
   subst a;exact⟨by simp,λg h=>h⟩
  ·rw[ir a]
   refine⟨?_,λg h=>?_⟩
   ·rw[h7]
    exact cG _ b
   ·rw[h7] at h ⊢
    rcases cC.mp h with e|e
    ·exact cC.mpr (.inl e)
    ·exact cG _ (c g e)
theorem tj(f:Str)(v:V):∀fs:List (Str×V),(jg f v fs).length<=fs.length+1
 | []=>by simp[jg]
 | (k,x)::r=>by
  have b:=tj f v r;rw[show jg f v ((k,x)::r)=(if k=f then(k,v)::r else(k,x)::jg f v r) from rfl]
  by_cases a:k=f
  ·rw[tz a,dM,dM];lia
  ·rw[ir a,dM,dM];lia
theorem oE.some_of{v:V}{o:Option Value}(r:oE (some v) o):∃u,o=some u/\RelV v u:=by
 cases o with
 |none=>exact(show False from r).elim
 |some u=>exact⟨u,rfl,r⟩
theorem oE.none_of(r:oE none o):o=none:=by
 cases o with
 |none=>rfl
 |some u=>exact(show False from r).elim
theorem EE{v:V}{u:Value}(r:RelV v u):PySem.W.handedIn u=true:=by
 cases v with
 |bA=>cases(show u=Value.none from r);rfl
 |bl b=>cases(show u=Value.bool b from r);rfl
 |int i=>obtain⟨t,e⟩:=(show ∃t,u=Value.int i t from r);cases e;rfl
 |str x=>obtain⟨t,e⟩:=(show ∃t,u=Value.str x t from r);cases e;rfl
 |Hu b=>obtain⟨t,e⟩:=(show ∃t,u=Value.bytes b t from r);cases e;rfl
 |Ez b=>obtain⟨t,e⟩:=(show ∃t,u=Value.float b t from r);cases e;rfl
 |ref a=>cases(show u=Value.ref a from r);rfl
 |ty n=>cases(show u=Value.type n from r);rfl
section
variable {P:Program} {w:World} {H H':Hp} {h h':Heap} {a C dx:Addr} {fs fs':List (Str×V)}
theorem sZ(hok:jl P w H h)(e:H a=some (.ins C dx fs)):∃b,wu h a dx C b/\(∀f,oE (fs.lookup f) (b f))/\da b (fs.map (·.1))/\fs.length<=1000/\H dx=some (.own a):=by
 obtain⟨d,z,ne,c,b,n,r,q⟩:=(show dO P w H h a (.ins C dx fs) from hok a _ e);exact⟨b,⟨c,n,ne⟩,r,q,z,d⟩
end
structure wk (K:ac) (C:Addr):Prop where
 pg:b6 K C Str.empty=true
 hd:ce K C=true
 po:cA K C=true
 sa:bd K (.ref C) "__setattr__"=some (some (.builtin "object.__setattr__"))
theorem wk.get{K:ac}{C:Addr}(c:wk K C)(f:Str):b6 K C f=true:=c.pg
def mP(K:ac)(C:Addr)(f:Str):Prop:=bd K (.ref C) f=some none
theorem mP.Sx{K:ac}{C:Addr}{f:Str}(n:mP K C f):db K C f=some none:=by
 unfold db;rw[show bd K (.ref C) f=some none from n];rfl
structure Meth (K:ac) (C:Addr) (m:Str) (f:Addr):Prop where
 at_:bd K (.ref C) m=some (some (.ref f))
 fn:b4 K (.ref f)=true
 kp:ai K (.ref f)=true
section
variable {X:Cx} {pins:List (Addr×Obj)} {σ:St} {H:Hp} {s:Shared} {a C dx:Addr} {fs:List (Str×V)} {f:Str} {v:V} {A:Around} {E:Value->Shared->Prop}
theorem CH(I:Inv X pins σ H s)(e:H a=some (.ins C dx fs))(c:wk X.K C)(n:mP X.K C f)(l:fs.lookup f=some v)
  (h:∀u d,Inv X pins σ H d->RelV v u->Q u d):wpAny (model X.prog X.w) A (getAttr (.ref a) f b) Q E s:=by
 obtain⟨i,O,r,_,_,_⟩:=sZ I.hok e;obtain⟨u,j,g⟩:=oE.some_of (v:=v) (o:=i f) (by rw[<-l];exact r f)
 exact get_map I.iV O (c.get f) c.hd n j (EE g) (h u _ (I.tok _) g)
theorem vd{pl:Sem Bool}(I:Inv X pins σ H s)(e:H a=some (.ins C dx fs))(c:wk X.K C)(k:Meth X.K C m g)(l:fs.lookup m=none)
  (h:Q (.ref g,[.ref a]) s):wpAny (model X.prog X.w) A (getMethod (.ref a) m pl) Q E s:=by
 obtain⟨b,O,r,_,_,_⟩:=sZ I.hok e;have d:b m=none:=oE.none_of (by rw[<-l];exact r m)
 exact HM I.iV O (c.get m) k.at_ k.fn d h
theorem Dz(I:Inv X pins σ H s)(e:H a=some (.ins C dx fs))(c:wk X.K C)(n:mP X.K C f)(N:fs.length<1000)(m:RelV y u)
  (h:∀i,Inv X pins σ (upd H a (.ins C dx (jg f y fs))) i->Q () i):wpAny (model X.prog X.w) A (setAttr (.ref a) f u) Q E s:=by
 rfl';obtain⟨j,O,r,k,_,l⟩:=sZ I.hok e;have t:(fs.map (·.1)).length<=sizeLine:=by rw[aD,abA];lia
 ac_rfl;refine LM I.iV O c.sa c.po n.Sx c.hd k t λB d F=>h _ ?_;have G:∃o,B.get? dx=some o:=let ⟨o,_,_,J,_⟩:=d.ns;⟨o,J⟩;refine I.write (x:=a) (e:=dx) (by rw[e];exact True.intro) (.inr l) (λb q L z=>(F.2 b L).trans z) G ?_
 refine⟨by rw[aN O.ne];exact l,?_,O.ne,d.obj,_,d.ns,λg=>?_,λg M=>?_⟩
 ·have:=tj f y fs;lia
 ·show oE ((jg f y fs).lookup g) (if g=f then some u else j g)
  rw[tw]
  by_cases q:g=f
  ·rw[tz q,tz q];exact m
  ·rw[ir q,ir q];exact r g
 ·by_cases q:g=f
  ·rw[q];exact(rM f y fs).1
  ·refine(rM f y fs).2 g (k g λz=>M ?_)
   show(if g=f then some u else j g)=none;rw[ir q];exact z
theorem Inv.made(I:Inv X pins σ H s):Inv X pins σ (upd (upd H s.heap.objs.size (.own (s.heap.objs.size+1))) (s.heap.objs.size+1) (.ins C s.heap.objs.size []))
  {s with heap:=(s.heap.push bm).push (b0 C s.heap.objs.size)}:=by
 have c:(s.heap.push bm).get? s.heap.objs.size=some bm:=GM s.heap rfl
 have d:((s.heap.push bm).push (b0 C s.heap.objs.size)).get? (s.heap.objs.size+1)=some (b0 C s.heap.objs.size):=by
  have:=GM (s.heap.push bm) (o:=b0 C s.heap.objs.size) rfl
  rwa [Heap.size_push] at this
 have g:(s.heap.push bm).Ns s.heap.objs.size (λ_=>none):=⟨bm, #[],_,c,rfl,(λe h=>absurd h (by simp)),λ_=>rfl⟩
 have i:=I.laid (a:=s.heap.objs.size) (o:= .own (s.heap.objs.size+1)) (h':=s.heap.push bm) (t':=s.toks) (λb u q=>AC _ q) (bJ _) ⟨_,c⟩;refine i.laid (a:=s.heap.objs.size+1) (o:= .ins C s.heap.objs.size []) (t':=s.toks) (λb u q=>AC _ q) (Nat.le_of_eq (Heap.size_push _ _)) ?_;have ne:s.heap.objs.size≠s.heap.objs.size+1:=cn (aa7 _);refine⟨by rw[aN ne,aB],cF _,ne,d,λ_=>none,(Heap.Ns1.of_empty g).at λo q=>AC _ q,λ_=>True.intro,λy j=>absurd rfl j⟩
theorem Jt{f:Str}{s:Shared}(c:attributeBase e f env (eval e env)=eval e env)
  (h:wpAny (model prog w) A (eval e env) (λo b=>wpAny (model prog w) A (getAttr o f true) Q E b) E s):wpAny (model prog w) A (eval (.Attribute e f pos) env) Q E s:=
 Attribute_any_ h (by rw[arm_eval_Attribute,c])
end
def Zs(K:ac)(c:TE)(f:Str):TE:=λd H Q=>c d H λx b=>∃a C e fs v,x= .ref a/\b a=some (.ins C e fs)/\wk K C/\mP K C f/\fs.lookup f=some v/\Q v b
def YQ(K:ac)(e g:TE)(f:Str):TS:=λD b H=>g b H λy h=>e b h λx c=>∃a C d fs,x= .ref a/\c a=some (.ins C d fs)/\wk K C/\mP K C f/\fs.length<1000/\
 D.nx b (upd c a (.ins C d (jg f y fs)))
section
variable {X:Cx} {o e value:Expr} {f:Str} {pos pos' ZD:Pos} {ta tv:TE}
theorem NO(d:PE X e ta)(g:attributeBase e f X.env (eval e X.env)=eval e X.env):PE X (.Attribute e f pos) (Zs X.K ta f):=by
 intro b s i H Q I h;refine Jt g (thn (d b s i H _ I h) λu A j=>?_);rfl';obtain⟨x,m,p,r,a,C,E,fs,v,t,w,c,n,l,q⟩:=j;ac_rfl;subst t;obtain rfl:u=Value.ref a:=r;exact CH p w c n l λF G y z=>⟨v,m,y,z,q⟩
theorem NY(g:PE X o ta)(i:PE X value tv)(j:swapsWith value (some (.Attribute o f pos')) pos.line X.env=pure false):PS X (.Assign [.Attribute o f pos'] value pos) (YQ X.K ta tv f):=by
 intro b s d H D I h;refine plainObj_wpAny_Assign_Attribute (thn (i b s d H _ I h) λu k ⟨y,m,p,r,q⟩=>thn (g b k d m _ p q) λt F ⟨x,G,v,w,a,C,J,fs,z,A,c,n,l,B⟩=>?_) j;subst z;obtain rfl:t=Value.ref a:=w;exact Dz v A c n l r λL E=>⟨d,_,E,B⟩
end
section
variable {X:Cx} {pins:List (Addr×Obj)} {σ:St} {H:Hp} {s:Shared} {A:Around} {E:Value->Shared->Prop} {Q:Value->Shared->Prop} {c:Value} {b:Bool}
inductive km (K:ac) (H:Hp):V->Value->Prop where
 |bA:km K H .bA (.type "NoneType")
 |bl (x:Bool):km K H (.bl x) (.type "bool")
 |int (i:Int):km K H (.int i) (.type "int")
 |str (x:Str):km K H (.str x) (.type "str")
 |Ez (x:UInt64):km K H (.Ez x) (.type "float")
 |lst {a:Addr} {xs:List V} (e:H a=some (.lst xs)):km K H (.ref a) (.type "list")
 |sS {a:Addr} {o:Obj} {xs:List V} (e:H a=some (.sS o (.lst xs))):km K H (.ref a) (.type "list")
 |tup {a:Addr} {xs:List V} (e:H a=some (.tup xs)):km K H (.ref a) (.type "tuple")
 |dK {a:Addr} {fe:List (Key×V)} (e:H a=some (.dK fe)):km K H (.ref a) (.type "dict")
 |dT {a:Addr} {fe:List (List Key×V)} (e:H a=some (.dT fe)):km K H (.ref a) (.type "dict")
 |ins {a C dx:Addr} {fs:List (Str×V)} (e:H a=some (.ins C dx fs)) (cl:wk K C) (ha:bd K (.ref C) "__class__"=some (some (.builtin "object.__class__")))
   (hn:PySem.W.specialIn K (.builtin "object.__class__") "__get__"=some (some (.builtin "getset_descriptor.__get__"))) (Wi:PySem.W.takesIn K (.builtin "object.__class__")=some true)
   (hm:PySem.W.mroIn K C (.type "object")=some true):km K H (.ref a) (.ref C)
theorem EZ{x:V}{u t:Value}(I:Inv X pins σ H s)(rx:RelV x u)(ty:km X.K H x t)(e:du X.K t c=some b)(h:∀tk,Q (.bool b) {s with toks:=tk}):
  wpAny (model X.prog X.w) A (call (.builtin "isinstance") [u,c]) Q E s:=by
 cases ty with
 |bA=>cases(show u=Value.none from rx);exact PySem.W.kia_one PySem.W.kitx_none I.iV True.intro e (λz=>nomatch z) h
 |bl y=>cases(show u=Value.bool y from rx);exact PySem.W.kia_one PySem.W.kitx_bool I.iV True.intro e (λz=>nomatch z) h
 |int i=>obtain⟨t,q⟩:=(show ∃t,u=Value.int i t from rx);cases q;exact PySem.W.kia_one PySem.W.kitx_int I.iV True.intro e (λz=>nomatch z) h
 |str y=>obtain⟨t,q⟩:=(show ∃t,u=Value.str y t from rx);cases q;exact PySem.W.kia_one PySem.W.kitx_str I.iV True.intro e (λz=>nomatch z) h
 |Ez y=>obtain⟨t,q⟩:=(show ∃t,u=Value.float y t from rx);cases q;exact PySem.W.kia_one PySem.W.kitx_float I.iV True.intro e (λz=>nomatch z) h
 | @lst a xs ea=>
  cases(show u=Value.ref a from rx);obtain⟨_,_,n,_,h1⟩:=(show dO X.prog X.w H s.heap a (.lst xs) from I.hok a _ ea);exact PySem.W.kia_one PySem.W.kitx_list I.iV ⟨_,h1,rfl⟩ e (λz=>nomatch z) h
 | @sS a ob xs ea=>
  cases(show u=Value.ref a from rx);obtain⟨_,_,_,n,_,h1⟩:=(show dO X.prog X.w H s.heap a (.sS ob (.lst xs)) from I.hok a _ ea);exact PySem.W.kia_one PySem.W.kitx_list I.iV ⟨_,h1,rfl⟩ e (λz=>nomatch z) h
 | @tup a xs ea=>
  cases(show u=Value.ref a from rx);obtain⟨_,_,_,p⟩:=(show dO X.prog X.w H s.heap a (.tup xs) from I.hok a _ ea);obtain⟨o,h1,h2,_⟩:=p;exact PySem.W.kia_one PySem.W.kitx_tuple I.iV ⟨o,h1,h2⟩ e (λz=>nomatch z) h
 | @dK a fe ea=>
  cases(show u=Value.ref a from rx);obtain⟨_,_,vs,_,p⟩:=(show dO X.prog X.w H s.heap a (.dK fe) from I.hok a _ ea);obtain⟨o,es,ep,h1,h2,_⟩:=p;exact PySem.W.kia_one PySem.W.kitx_dict I.iV ⟨o,h1,h2.1⟩ e (λz=>nomatch z) h
 | @dT a fe ea=>
  cases(show u=Value.ref a from rx);obtain⟨_,_,xs,_,o,es,ep,h1,h2,_⟩:=(show dO X.prog X.w H s.heap a (.dT fe) from I.hok a _ ea);exact PySem.W.kia_one PySem.W.kitx_dict I.iV ⟨o,h1,h2.1⟩ e (λz=>nomatch z) h
 | @ins a C dx fs ea cl ha hn Wi hm=>
  rfl';cases(show u=Value.ref a from rx);obtain⟨mA,O,_⟩:=sZ I.hok ea;obtain⟨od,J,_⟩:=O.look;ac_rfl;exact PySem.W.kia_one (PySem.W.kitx_own (cl.get _) cl.hd ha hn Wi hm) I.iV J e (λz=>nomatch z) h
end
structure cU (k:Nat) (A:Around):Prop where
 hd:A.handled=none
 dp:A.depth+3*k+5<recursionLimit
 un:A.units+16*k+200<cLine
theorem cU.mono(r:cU k A)(h:j<=k):cU j A:=⟨r.hd,by have:=r.dp;lia,by have:=r.un;lia⟩
theorem cU.deeper(r:cU (k+1) A)(env:Env):cU k (A.deeper env):=
 ⟨r.hd,by have:=r.dp;show A.depth+1+3*k+5<_;lia,by have:=r.un;show A.units+3+16*k+200<_;lia⟩
theorem C5{A:Around}:(A.under (.builtin "type.__call__" ⟨.ref C::a,b⟩)).depth=A.depth+1:=by
 first|rfl|simp[Around.under,Code.weight,Code.isCreation,Code.isGuard,Code.isCaller,Code.frames,Code.isFrame,guardIds]
theorem C6{A:Around}:(A.under (.builtin "type.__call__" ⟨.ref C::a,b⟩)).units=A.units+1:=by
 first|rfl|simp[Around.under,Code.cUnits,Code.frames,Code.isFrame]
theorem cU.make(r:cU (k+1) A)(C:Addr)(a:List Value)(b:List (Str×Value)):cU k (A.under (.builtin "type.__call__" ⟨.ref C::a,b⟩)):=
 ⟨r.hd,by have:=r.dp;rw[C5];lia,by have:=r.un;rw[C6];lia⟩
theorem cU.depth{k:Nat}(r:cU k A):A.depth<recursionLimit:=by have:=r.dp;lia
theorem cU.units(r:cU k A):A.units+64<cLine:=by have:=r.un;lia
def PN:TA:=λ_ H Q=>Q [] H
def Sq(b:TE)(c:TA):TA:=λa H Q=>b a H λx d=>c a d λe f=>Q (x::e) f
section
variable {X:Cx} {e:Expr} {es:List Expr} {te:TE} {t:TA} {pos:Pos}
theorem g6:PA X [] PN:=λ_ _ _ _ H Q I h=>Calls.spliced_nil ⟨[],H,I, .nil,h⟩
theorem eZ(c:PE X e te)(d:PA X es t)(f:starEach (e::es) X.env=(false,eval e X.env)::starEach es X.env:=by rfl):PA X (e::es) (Sq te t):=by
 intro pos a s b H Q I h;rw[f];show wpAny _ _ (spliced ((false,eval e X.env)::backTo pos (starEach es X.env))) _ _ s;refine Calls.spliced_cons (thn (c a s b H _ I h) λu g i=>?_);rfl';obtain⟨x,k,l,m,n⟩:=i;ac_rfl;exact thn (d pos a g b k _ l n) λy z ⟨o,p,q,r,v⟩=>⟨x::o,p,q, .cons m r,v⟩
def ZA(t:TA):TE:=λc H Q=>t c H λa b=>a.length<=sizeLine/\∀p,b p=none->Q (.ref p) (upd b p (.tup a))
def Zv(t:TA):TE:=λc H Q=>t c H λa b=>a.length<=sizeLine/\∀p,b p=none->Q (.ref p) (upd b p (.lst a))
theorem NW{x1}(h:PA X es t):PE X (.Tuple es x1 pos) (ZA t):=by
 intro a s g H Q I i;refine wpAny_Tuple_spliced (thn (h pos a s g H _ I i) λj c ⟨k,d,f,r,z,q⟩=>⟨r.length▸z,?_⟩);have l:d c.heap.objs.size=none:=f.hok.fresh (bJ _);refine⟨.ref c.heap.objs.size,upd d c.heap.objs.size (.tup k),f.laid (t':=c.toks) (λb u e=>AC _ e) (bJ _) ?_,rfl,q _ l⟩;exact⟨z,j,r,⟨_,GM _ rfl,rfl,_,rfl⟩⟩
theorem GP(h:PA X es t):PE X (.List es pos) (Zv t):=by
 intro a s g H Q I i;refine wpAny_List_spliced (thn (h pos a s g H _ I i) λj c ⟨k,d,f,r,z,q⟩=>⟨r.length▸z,?_⟩);have l:d c.heap.objs.size=none:=f.hok.fresh (bJ _);refine⟨.ref c.heap.objs.size,upd d c.heap.objs.size (.lst k),f.laid (t':=c.toks) (λb u e=>AC _ e) (bJ _) ?_,rfl,q _ l⟩;exact⟨z,j,0,r,GM _ rfl⟩
end
abbrev Sp:=List V->Hp->VK->XK->Prop
abbrev t9:=List Env->Hp->Shared->XK->Value->Shared->Prop
structure Env0 (P:Program) (w:World) (K:ac) (mg:Str->Option Value) (base:Heap) (A:Around) (outer:List Env) (s:Shared) (H:Hp):Prop where
 frames:A.frames=some outer
 mod:Mod K mg base
 bs:∀b o,base.get? b=some o->s.heap.get? b=some o/\H b=none
 bsz:base.objs.size<=s.heap.objs.size
 funs:s.heap.FunFrames base outer
 frf:∀b∈w6 outer,H b=none
 hok:jl P w H s.heap
 bare:AllBare s.gens
def CE(outer:List Env)(P:Program)(w:World)(H:Hp)(s:Shared)(Q:VK)(u:Value)(a:Shared):Prop:=
 ∃v b,a.os=s.os/\AllBare a.gens/\Un (w6 outer) [] H b s.heap a.heap/\jl P w b a.heap/\RelV v u/\Q v b
def CR(b:t9)(outer:List Env)(P:Program)(w:World)(H:Hp)(s:Shared)(Q:VK)(E:XK)(r:Result)(a:Shared):Prop:=
 match r with
 | .ok (.ret u)=>CE outer P w H s Q u a
 | .ok _=>False
 | .error e=>b outer H s E e a
structure FnOk (P:Program) (w:World) (K:ac) (mg:Str->Option Value) (base:Heap) (CX:t9) (k:Nat) (f:Addr) (fd:FuncData) (ps:List Str) (sp:Sp):Prop where
 len:∀vs H Q E,sp vs H Q E->vs.length=ps.length
 run:∀(A:Around)(outer:List Env)(s:Shared)(H:Hp)(args:Args)(us:List Value)(vs:List V)(Q:VK)(E:XK),cU k A->Env0 P w K mg base A outer s H->BindsTo s fd args (ps.zip us)->Vals vs us->sp vs H Q E->
  codeAny (model P w) A (.call (.ref f) args) (CR CX outer P w H s Q E) s
theorem FnOk.mono{P:Program}{w:World}{K:ac}{base:Heap}(F:FnOk P w K b base c j f d e g)(h:j<=k):
  FnOk P w K b base c k f d e g:=⟨F.len,λA outer s H a i l Q E m=>F.run A outer s H a i l Q E (m.mono h)⟩
theorem FnOk.imp{P:Program}{w:World}{K:ac}{c:Str->Option Value}{base:Heap}{d:t9}{k:Nat}{f:Addr}{e:FuncData}{g:List Str}{i j:Sp}(F:FnOk P w K c base d k f e g i)
  (h:∀a H Q E,j a H Q E->i a H Q E):FnOk P w K c base d k f e g j:=
 ⟨λa H Q E q=>F.len a H Q E (h _ _ _ _ q),λA outer s H b l a Q E m n o p r=>F.run A outer s H b l a Q E m n o p (h _ _ _ _ r)⟩
theorem Env0.make{P:Program}{w:World}{K:ac}{a:Str->Option Value}{base:Heap}{A:Around}{outer:List Env}{s:Shared}{H:Hp}(e:Env0 P w K a base A outer s H)(C:Addr)(b:List Value)(c:List (Str×Value)):
  Env0 P w K a base (A.under (.builtin "type.__call__" ⟨.ref C::b,c⟩)) outer s H:=⟨by first|exact e.frames| (simpa [Around.under,Code.envs,Code.isFrame,pushEnvs] using e.frames),e.mod,e.bs,e.bsz,e.funs,e.frf,e.hok,e.bare⟩
section
variable {X:Cx} {pins:List (Addr×Obj)} {σ:St} {H:Hp} {s s':Shared}
theorem Inv.Pe(I:Inv X pins σ H s):Env0 X.prog X.w X.K X.mg X.base X.A X.stack s H:=
 ⟨I.ok.frames,I.ok.mod,I.bs,mM I.ok.bsz I.sz,I.stack,I.DR,I.hok,I.bare⟩
theorem Inv.after(I:Inv X pins σ H s)(h:CE X.stack X.prog X.w H s Q u s'):EP X pins σ Q u s':=by
 obtain⟨v,a,os,bare,un,hok,r,q⟩:=h;obtain⟨c,g,d,t,e⟩:=s';obtain rfl:e=s.os:=os;exact⟨v,a,I.call (h':=c) (g':=g) (d':=d) (t':=t) (ch:= []) un hok bare (λb z=>absurd z (by simp)),r,q⟩
end
def So(a:Sp)(b:List V)(E:XK)(t:TA):TE:=λc H Q=>t c H λd e=>a (d++b) e Q E
def FX(C:Addr)(m:Str)(d:Sp)(e:List V)(E:XK)(f:TE)(t:TA):TE:=λb H Q=>f b H λx c=>∃a g fs,x= .ref a/\c a=some (.ins C g fs)/\fs.lookup m=none/\
 t b c λh i=>d (x::(h++e)) i Q E
def Ss(C:Addr)(c:Sp)(d:List V)(E:XK)(t:TA):TE:=λe H Q=>t e H λf b=>∀x a,b x=none->b a=none->a≠x->
 c (.ref x::(f++d)) (upd (upd b a (.own x)) x (.ins C a [])) (λv g=>v= .bA/\Q (.ref x) g) E
def Binds(K:ac)(d:FuncData)(b:List Str)(c:List Value):Prop:=
 ∀(s:Shared)(a:List Value),K.In s.heap->(a++c).length=b.length->BindsTo s d ⟨a,[]⟩ (b.zip (a++c))
theorem Binds.all{K:ac}{c:FuncData}{b:List Str}(h:∀a:List Value,a.length=b.length->bindArgs c ⟨a,[]⟩=pure (b.zip a)):Binds K c b []:=λs a _ d=>by
 rw[j7] at d ⊢;exact .of_eq (h a d)
def Passes(c:t9)(X:Cx)(E:XK):Prop:=∀(a:List (Addr×Obj))(d:St)(H:Hp)(s:Shared)(e:Value)(b:Shared),Inv X a d H s->c X.stack H s E e b->X.xe e b
section
variable {X:Cx} {CX:t9} {k:Nat} {f C:Addr} {fd:FuncData} {ps:List Str} {sp:Sp} {bx:List V} {ds:List Value} {E:XK} {x m:Str} {p pos apos:Pos} {e o:Expr} {es:List Expr} {ta:TE} {t:TA}
theorem BI{pins:List (Addr×Obj)}{σ:St}{H:Hp}{s:Shared}{Q:VK}{us:List Value}{vs:List V}(F:FnOk X.prog X.w X.K X.mg X.base CX k f fd ps sp)(hr:cU k X.A)(hb:Binds X.K fd ps ds)(hd:Vals bx ds)(hx:Passes CX X E)
  (I:Inv X pins σ H s) (r:Vals vs us) (h:sp (vs++bx) H Q E):wpAny (model X.prog X.w) X.A (call (.ref f) us) (EP X pins σ Q) X.xe s:=by
 have r2:Vals (vs++bx) (us++ds):=r.append hd;have hl:(us++ds).length=ps.length:=by rw[<-r2.length];exact F.len _ _ _ _ h
 refine wpAny_call (codeAny_mono (F.run X.A X.stack s H ⟨us,[]⟩ (us++ds) (vs++bx) Q E hr I.Pe (hb s us I.iV hl) r2 h) λr s' hq=>?_);cases r with
 |error e=>exact hx pins σ H s e s' I hq
 |ok fl=>
  cases fl with
  |ret u=>exact I.after hq
  |next=>exact False.elim hq
  |brk=>exact False.elim hq
  |cont=>exact False.elim hq
theorem Dg(F:FnOk X.prog X.w X.K X.mg X.base CX k f fd ps sp)(c:cU k X.A)(d:Gl X x)(g:X.mg x=some (.ref f))(i:ai X.K (.ref f)=true)(j:Binds X.K fd ps ds)(l:Vals bx ds)(n:Passes CX X E)
  (u:PA X (e::es) t) (v:(x==("__debug__":Str))=false:=by decide) (y:starEach (e::es) X.env=(false,eval e X.env)::starEach es X.env:=by rfl) (z:(backTo pos (starEach es X.env)).any (·.1)=false:=by rfl):
  PE X (.Call (.Name x p) (e::es) [] pos) (So sp bx E t):=by
 intro a s B H Q I h;refine UV (xt I d g ?_ v);refine abD (h₀:=X.base) I.ok.mod.kin i (thn (u pos a s B H _ I h) λG J ⟨L,M,b,r,q⟩=>⟨b.iV,?_⟩) y z;exact BI F c j l n b r q
theorem Lj{pl:Sem Bool}(v:PE X o ta)(c:wk X.K C)(d:Meth X.K C m f)(F:FnOk X.prog X.w X.K X.mg X.base CX k f fd ps sp)(y:cU k X.A)(z:Binds X.K fd ps ds)(B:Vals bx ds)(G:Passes CX X E)(J:PA X (e::es) t)
  (L:starEach (e::es) X.env=(false,eval e X.env)::starEach es X.env:=by rfl) (M:(backTo pos (starEach es X.env)).any (·.1)=false:=by rfl)
  (N:eval (.Call (.Attribute o m apos) (e::es) [] pos) X.env=(do
   let g <-eval o X.env
   standAt apos.atName
   let (f,first) <-holding [g] (getMethod g m pl)
   callWith pos f first (backTo pos (starEach (e::es) X.env)) (backToKw pos (keywordEach [] X.env))):=by rfl):
  PE X (.Call (.Attribute o m apos) (e::es) [] pos) (FX C m sp bx E ta t):=by
 intro b s i H Q I h;refine PySem.W.methodCall_KW (pl:=pl) (thn (v b s i H _ I h) λu O ⟨x,P,j,R,a,Y,fs,S,T,l,q⟩=>?_) N;subst S;obtain rfl:u=Value.ref a:=R;refine vd j T c d l ?_;refine abD (first:= [.ref a]) (h₀:=X.base) I.ok.mod.kin d.kp (thn (J pos b O i P _ j q) λus Z ⟨vs,p,n,r,U⟩=>⟨n.iV,?_⟩) L M;exact BI (us:= .ref a::us) (vs:= .ref a::vs) F y z B G n (.cons rfl r) U
theorem z9{pl:Sem Bool}(j:PE X o ta)(c:wk X.K C)(g:Meth X.K C m f)(F:FnOk X.prog X.w X.K X.mg X.base CX k f fd ps sp)(n:cU k X.A)(r:Binds X.K fd ps ds)(v:Vals bx ds)(y:Passes CX X E)
  (z:eval (.Call (.Attribute o m apos) [] [] pos) X.env=(do
   let i <-eval o X.env
   standAt apos.atName
   let (f,first) <-holding [i] (getMethod i m pl)
   callWith pos f first (backTo pos (starEach [] X.env)) (backToKw pos (keywordEach [] X.env))):=by rfl):
  PE X (.Call (.Attribute o m apos) [] [] pos) (FX C m sp bx E ta PN):=by
 intro b s B H Q I h;refine PySem.W.methodCall_KW (pl:=pl) (thn (j b s B H _ I h) λu M ⟨x,N,d,G,a,O,fs,J,L,l,q⟩=>?_) z;subst J;obtain rfl:u=Value.ref a:=G;refine vd d L c g l ?_;exact PySem.W.callWith_K0 (first:= [.ref a]) d.iV g.kp (BI (us:= [.ref a]) (vs:= [.ref a]) F n r v y d (.cons rfl .nil) q)
structure Mk (K:ac) (C f:Addr):Prop where
 makes:dc K C=true
 init:bd K (.ref C) "__init__"=some (some (.ref f))
 fn:b4 K (.ref f)=true
 kp:ai K (.ref C)=true
theorem IH{pins:List (Addr×Obj)}{σ:St}{H:Hp}{s:Shared}{Q:VK}{us:List Value}{vs:List V}(M:Mk X.K C f)(F:FnOk X.prog X.w X.K X.mg X.base CX k f fd ps sp)(hr:cU (k+1) X.A)(hb:Binds X.K fd ps ds)(hd:Vals bx ds)
  (hx:Passes CX X E) (I:Inv X pins σ H s) (r:Vals vs us)
  (h:∀x dx,H x=none->H dx=none->dx≠x->sp (.ref x::(vs++bx)) (upd (upd H dx (.own x)) x (.ins C dx [])) (λv H2=>v= .bA/\Q (.ref x) H2) E):
  wpAny (model X.prog X.w) X.A (call (.ref C) us) (EP X pins σ Q) X.xe s:=by
 have hq:=h (s.heap.objs.size+1) s.heap.objs.size (I.hok.fresh (j9 _)) (I.hok.fresh (bJ _)) (cn (Nat.lt_succ_self _));have I2:=Inv.made (C:=C) I;have r2:Vals (V.ref (s.heap.objs.size+1)::(vs++bx)) (Value.ref (s.heap.objs.size+1)::(us++ds)):= .cons rfl (r.append hd)
 have hl:(Value.ref (s.heap.objs.size+1)::us++ds).length=ps.length:=by
  have e:=r2.length;rw[F.len _ _ _ _ hq] at e;exact e.symm
 refine wpAny_call (Ip (f:=f) I.iV M.makes M.init (beq_iff_eq.mp M.fn) (codeAny_mono (F.run _ X.stack _ _ ⟨Value.ref (s.heap.objs.size+1)::us,[]⟩ (Value.ref (s.heap.objs.size+1)::(us++ds)) _ _ E (hr.make C us [])
  (I2.Pe.make C us []) (hb _ (Value.ref (s.heap.objs.size+1)::us) I2.iV hl) r2 hq) λr s' CO=>?_))
 cases r with
 |error e=>exact hx pins σ _ _ e s' I2 CO
 |ok fl=>
  cases fl with
  |ret u=>
   rfl';obtain⟨v,H',I3,rv,ev,q3⟩:=I2.after CO;subst ev;ac_rfl;exact⟨rv,⟨V.ref (s.heap.objs.size+1),H',I3,rfl,q3⟩⟩
  |next=>exact False.elim CO
  |brk=>exact False.elim CO
  |cont=>exact False.elim CO
theorem Li(M:Mk X.K C f)(F:FnOk X.prog X.w X.K X.mg X.base CX k f fd ps sp)(c:cU (k+1) X.A)(d:Gl X x)(g:X.mg x=some (.ref C))(i:Binds X.K fd ps ds)(j:Vals bx ds)(l:Passes CX X E)
  (n:PA X (e::es) t) (u:(x==("__debug__":Str))=false:=by decide) (v:starEach (e::es) X.env=(false,eval e X.env)::starEach es X.env:=by rfl) (y:(backTo pos (starEach es X.env)).any (·.1)=false:=by rfl):
  PE X (.Call (.Name x p) (e::es) [] pos) (Ss C sp bx E t):=by
 intro a s z H Q I h;refine UV (xt I d g ?_ u);refine abD (h₀:=X.base) I.ok.mod.kin M.kp (thn (n pos a s z H _ I h) λB G ⟨J,L,b,r,q⟩=>⟨b.iV,?_⟩) v y;exact IH M F c i j l b r q
end
section
variable {X:Cx} {CX:t9} {k:Nat} {f C:Addr} {fd:FuncData} {ps ks:List Str} {sp:Sp} {E:XK} {x m:Str} {p pos apos aai:Pos} {e o:Expr} {es:List Expr} {kws:List Keyword} {te ta:TE} {t tk:TA} {nm:Option Str}
variable {g:List Value->List Value->List Value} {gV:List V->List V->List V}
end
structure aH (N P:List Str) (sc:Scope):Prop where
 kind:sc.kind= .function
 co:sc.isCoroutine=false
 gen:sc.isGenerator=false
 nd:N.Nodup
 pre:N.take P.length=P
 par:∀x∈P,sc.names.lookup x=some .local\/sc.names.lookup x=some .cell
 nofree:∀y∈sc.names,y.2≠ .free
theorem wC{kindOf:Str->Option NameKind}{x:Str}:∀{binds:List (Str×Value)}{m:Str->Option Value},(∀v,(x,v)∉binds)->bindL kindOf binds m x=m x
 | [],_,_=>rfl
 | (n,v)::r,m,h=>by
  unfold bindL;rw[wC λw hw=>h w (cG _ hw)]
  split
  ·have:x≠n:=by rintro rfl;exact h v cg
   simp[this]
  ·rfl
theorem wA{kindOf:Str->Option NameKind}{x:Str}:∀{binds:List (Str×Value)}{m:Str->Option Value},(∀v,(x,v)∉binds)->bindC kindOf binds m x=m x
 | [],_,_=>rfl
 | (n,v)::r,m,h=>by
  unfold bindC;rw[wA λw hw=>h w (cG _ hw)]
  split
  ·rfl
  ·have:x≠n:=by rintro rfl;exact h v cg
   simp[this]
theorem wB{kindOf:Str->Option NameKind}{x:Str}{v:Value}:∀{P:List Str}{a:List Value}{i:Nat}{m:Str->Option Value},P.Nodup->P[i]? =some x->a[i]? =some v->kindOf x=some .local->
  bindL kindOf (P.zip a) m x=some v
 | [],_,_,_,_,h,_,_=>by simp at h
 |_::_,[],_,_,_,_,h,_=>by simp at h
 |p::P,w::a,0,m,d,b,c,e=>by
  simp at b c;subst b;subst c;show bindL kindOf ((p,w)::P.zip a) m p=_;unfold bindL;rw[wC λv f=>(ie.mp d).1 (ab9 f).1,tz e];simp
 |p::P,w::a,i+1,m,d,b,c,e=>by
  show bindL kindOf ((p,w)::P.zip a) m x=_;unfold bindL;exact wB (i:=i) (ie.mp d).2 (by simpa using b) (by simpa using c) e
theorem wz{kindOf:Str->Option NameKind}{x:Str}{v:Value}:∀{P:List Str}{a:List Value}{i:Nat}{m:Str->Option Value},P.Nodup->P[i]? =some x->a[i]? =some v->kindOf x≠some .local->
  bindC kindOf (P.zip a) m x=some v
 | [],_,_,_,_,h,_,_=>by simp at h
 |_::_,[],_,_,_,_,h,_=>by simp at h
 |p::P,w::a,0,m,d,b,c,e=>by
  simp at b c;subst b;subst c;show bindC kindOf ((p,w)::P.zip a) m p=_;unfold bindC;rw[wA λv f=>(ie.mp d).1 (ab9 f).1,ir e];simp
 |p::P,w::a,i+1,m,d,b,c,e=>by
  show bindC kindOf ((p,w)::P.zip a) m x=_;unfold bindC;exact wz (i:=i) (ie.mp d).2 (by simpa using b) (by simpa using c) e
def start(N:List Str)(a:List V):St:=a.map some++bi (N.length-a.length) none
def u6(g:t9)(P:Program)(w:World)(K:ac)(mg:Str->Option Value)(base:Heap)(N:List Str)(b:Str)(a:Scope)(f:Addr)(c:Value)(A:Around)(outer:List Env)(s:Shared)(H:Hp)(E:XK):Cx where
 prog:=P
 w:=w
 K:=K
 mg:=mg
 base:=base
 A:=A.deeper (envOfC b a s.heap.objs.size f c)
 N:=N
 s₀:=s
 H₀:=H
 env:=envOfC b a s.heap.objs.size f c
 outer:=outer
 stack:=envOfC b a s.heap.objs.size f c::outer
 ex:= []
 calm:=true
 fn:=λ_=>true
 pn:= []
 xe:=λe h=>wpAny (model P w) (A.deeper (envOfC b a s.heap.objs.size f c)) (leaving (envOfC b a s.heap.objs.size f c) e) (λ_ d=>g outer H s E e d) (λi d=>g outer H s E i d) h
theorem zC{a:Scope}{n:Nat}(h:a.names.lookup x=some .cell):∃c,(cellsFrom n a.names []).lookup x=some c:=by
 have q:=ach a.names n [] (.inl h);exact Option.isSome_iff_exists.mp q
theorem EX{M:t9}{P:Program}{w:World}{K:ac}{I:Str->Option Value}{base:Heap}{N m:List Str}{g:Str}{d:Scope}{f:Addr}{C:Value}{A:Around}{outer:List Env}{s O:Shared}{H:Hp}{E:XK}{J:List Value}{o:List V}
  (S:aH N m d) (U:A.handled=none) (l:Env0 P w K I base A outer s H) (Z:o.length=m.length) (r:Vals o J)
  (x:InCallC s s.heap.objs.size (bindL (envOfC g d s.heap.objs.size f C).kindOf (m.zip J) λ_=>none) (cellsFrom (s.heap.objs.size+1) d.names []) (bindC (envOfC g d s.heap.objs.size f C).kindOf (m.zip J) λ_=>none) O):
  Inv (u6 M P w K I base N g d f C A outer s H E) [] (start N o) H O:=by
 have eM:m.length<=N.length:=by have:=Gc dh S.pre;rw[cm] at this;lia
 obtain⟨F,tk,rfl,Q⟩:=x.done;have L:∀b:Addr,b∉(u6 M P w K I base N g d f C A outer s H E).ex:=λb z=>absurd (show b∈([]:List Addr) from z) (by simp)
 refine⟨⟨l.mod,S.kind,rfl,rfl,bJ _,λy z c F j=>?_,λy t=>?_,λy c _ h=>?_,λ_=>U,Around.frames_deeper l.frames, .inr ⟨rfl,rfl⟩,λb z=>absurd z (L b),l.bs,l.bsz,λb _ _=>L b,λb z=>absurd z (L b),l.funs,l.frf⟩,
  rfl,l.bare,Un.kept Q,⟨_,x.toInCall.ns,λi y v F j h3=>?_⟩,λy c h=>⟨_,x.cell y c h⟩,l.hok.fresh (bJ _),λy c h=>?_,λp B=>absurd (show p∈([]:List (Addr×Obj)) from B) (by simp),l.hok.kept Q,?_⟩
 ·exact name_of_addr x.apart (aap F) (aap j)
 ·have t:d.names.lookup y=some .cell\/d.names.lookup y=some .free:=t
  rcases t with t|t
  ·exact zC t
  ·exact absurd rfl (S.nofree _ (aap t))
 ·exact sD (x.above y c (aap h))
 ·have G:i<o.length:=by
   unfold start at j
   by_cases G:i<o.length
   ·exact G
   ·rw[hU (by simpa using G)] at j
    rw[An] at j
    split at j<;>cases j
  have X:o[i]? =some v:=by
   unfold start at j;rw[fF (by simpa using G),dF] at j
   cases e:o[i]? with
   |none=>rw[e] at j;cases j
   |some a=>rw[e] at j;cases j;rfl
  obtain⟨u,R,Y⟩:=r.get X
  have B:m[i]? =some y:=by
   rw[<-S.pre,t4 (by lia)];exact F
  have T:m.Nodup:=by rw[<-S.pre];exact S.nd.sublist (abP _ _)
  refine⟨u,Y,?_⟩
  rcases S.par y (fH B) with k|k
  ·exact .inl ⟨k,wB T B R k⟩
  ·obtain⟨c,e⟩:=zC (n:=s.heap.objs.size+1) k
   refine .inr ⟨.inl k,c,e,?_⟩;have q:=x.cell y c e;rw[wz T B R (by show d.names.lookup y≠_;rw[k];decide)] at q
   exact q
 ·exact l.hok.fresh (sD (x.above y c (aap h)))
 ·unfold start
  show _=N.length;rw[b7,aD,Ao];lia
theorem QU{B:t9}{P:Program}{w:World}{K:ac}{C:Str->Option Value}{base:Heap}{k:Nat}{f:Addr}{i c:Str}{d:Arguments}{g:List Stmt}{a:Scope}{U kV p X l Y oc:Value}{Z od:Option Addr}
  {De:Array (Option Value)} {N F:List Str} {L:Sp} (lk:K.lookup f=some ⟨oc,od, .func (b5 i c d g a U kV p X Z l Y),De⟩) (gE:am K l c=true) (S:aH N F a)
  (len:∀h H Q E,L h H Q E->h.length=F.length)
  (rJ:∀(A:Around)(outer:List Env)(s:Shared)(H:Hp)(h:List V)(Q:VK)(E:XK),cU k (A.deeper (envOfC c a s.heap.objs.size f l))->L h H Q E->
   ∃t,oz (u6 B P w K C base N c a f l A outer s H E) g t/\t {nx:=λ_ j=>Q .bA j,rt:=Q} (start N h) H):
  FnOk P w K C base B (k+1) f (b5 i c d g a U kV p X Z l Y) F L:=by
 refine⟨len,λA outer s H args us h Q E M z hb r CP=>?_⟩;have hl:=len _ _ _ _ CP;have KX:K.In s.heap:=z.mod.kin.keeps λb o e=>(z.bs b o e).1;have O:s.heap.NoLimit:=z.mod.nolimit.keeps λb o e=>(z.bs b o e).1
 have Rq:∀y∈F.zip us,a.names.lookup y.1=some .local\/(a.names.lookup y.1=some .cell/\((cellsFrom (s.heap.objs.size+1) a.names []).lookup y.1).isSome=true):=λ⟨n,v⟩ hy=>by
  rcases S.par n (ab9 hy).1 with q|q
  ·exact .inl q
  ·exact .inr ⟨q,ach _ _ _ (.inl q)⟩
 refine codeAny_call_function M.depth (KX _ _ lk) rfl S.co S.gen rfl (PySem.W.codeRec_of KX gE) (hb _ _ _ _ ?_);refine wpAny_newFunctionEnv_cells S.kind Rq λenv he s1 x=>?_;subst he;obtain⟨t,ht,hq⟩:=rJ A outer s H h Q E (M.deeper _) CP;refine⟨O.keeps x.toInCall.keep,codeAny_func ?_⟩;have I:Inv (u6 B P w K C base N c a f l A outer s H E) [] (start N h) H s1:=EX S M.hd z hl r x;refine wpAny_mono (ht [] s1 (start N h) H _ I hq) (λfl R m=>?_) λe R m=>m
 have fin:∀{G:St}{j:Hp}{v:V}{u:Value},Inv (u6 B P w K C base N c a f l A outer s H E) [] G j R->RelV v u->Q v j->CE outer P w H s Q u R:=
  λ {G j v u} J T q=>⟨v,j,J.os,J.bare,J.base,J.hok,T,q⟩
 cases fl with
 |ret u=>
  obtain⟨v,G,j,J,T,q⟩:=m;exact fin J T q
 |next=>
  obtain⟨G,j,J,q⟩:=m;exact fin (v:=V.bA) (u:=Value.none) J rfl q
 |brk=>
  obtain⟨_,_,_,q⟩:=m;exact False.elim q
 |cont=>
  obtain⟨_,_,_,q⟩:=m;exact False.elim q
section
variable {X:Cx} {x:Str} {p pos:Pos} {e:Expr} {es:List Expr} {t:TA} {id T:String} {r:List V->Hp->VK->Prop}
def Zr(r:List V->Hp->VK->Prop)(t:TA):TE:=λa H Q=>t a H λb c=>r b c Q
theorem qx(c:dZ X (.builtin id) r)(d:Gl X x)(f:X.mg x=none)(g:bootBuiltins x=some (.builtin id))(i:PA X (e::es) t)(j:x≠"__name__":=by decide)(k:(x==("__debug__":Str))=false:=by decide)
  (l:starEach (e::es) X.env=(false,eval e X.env)::starEach es X.env:=by rfl) (m:(backTo pos (starEach es X.env)).any (·.1)=false:=by rfl):PE X (.Call (.Name x p) (e::es) [] pos) (Zr r t):=by
 intro a s b H Q I h;refine UV (iE I d f g ?_ j k);exact PyProof.Rows.callWith_builtin1 (thn (i pos a s b H _ I h) λn o ⟨q,u,v,w,y⟩=>c a o b u q n Q v w y) l m
theorem Fz(c:dZ X (.type T) r)(d:Gl X x)(f:X.mg x=none)(g:bootBuiltins x=some (.type T))(i:PA X (e::es) t)(j:x≠"__name__":=by decide)(k:(x==("__debug__":Str))=false:=by decide)
  (l:starEach (e::es) X.env=(false,eval e X.env)::starEach es X.env:=by rfl) (m:(backTo pos (starEach es X.env)).any (·.1)=false:=by rfl):PE X (.Call (.Name x p) (e::es) [] pos) (Zr r t):=by
 intro a s b H Q I h;refine UV (iE I d f g ?_ j k);exact SL (thn (i pos a s b H _ I h) λn o ⟨q,u,v,w,y⟩=>c a o b u q n Q v w y) l m
end
end L2
namespace HT
open PySem PyProof.Rows
def lexLt:List Int->List Int->Bool
 | [],[]=>false
 | [],_::_=>true
 |_::_,[]=>false
 |x::a,y::b=>if x=y then lexLt a b else decide (x<y)
theorem kB(x y:Int)(a b:List Int):lexLt (x::a) (y::b)=if x=y then lexLt a b else decide (x<y):=rfl
theorem xB:lexLt [] []=false:=rfl
theorem vQ(y:Int)(a:List Int):lexLt [] (y::a)=true:=rfl
theorem vP(x:Int)(a:List Int):lexLt (x::a) []=false:=rfl
theorem HL(A:Around)(s:Shared)(a:Int)(t:Tok)(c:Int)(u:Tok):∃e,SeqAt.EqAt A s (.int a t) (.int c u) e/\(e=true↔a=c):=
 ⟨(a==c),aaO a t c u,by simp⟩
theorem IF(A:Around)(s:Shared)(a:Int)(t:Tok)(c:Int)(u:Tok)(prog:Program)(w:World)(E:Value->Shared->Prop)(Q:Value->Shared->Prop)(h:Q (.bool (decide (a<c))) s):
  wpAny (model prog w) A (richCompare .Lt (.int a t) (.int c u)) Q E s:=
 (PyProof.Rows.lt_int h:wpAny (model prog w) A (compareOp .Lt (.int a t) (.int c u)) Q E s)
section
open PySem.SeqAt
open PySem.AutoSeq1 (wpAny_loadPart')
open PySem.MeetsSeq PySem.MeetsSeq2 PySem.MeetsSeq3
end
section
variable {prog:Program} {w:World} {A:Around} {E:Value->Shared->Prop} {s:Shared}
theorem Jz(r:IsTup s.heap t c.toArray)(u:IsTup s.heap b a.toArray)(h:c≠ [])
  (v:a= []->Q (.ref t) s) (x:a≠ []->Q (.ref s.heap.objs.size) {s with heap:=s.heap.push {cls:= .type "tuple",data:= .seq (c++a).toArray}})
  (y:c.length+a.length<=sizeLine):wpAny (model prog w) A (binaryOp .Add (.ref t) (.ref b)) Q E s:=by
 rfl';obtain⟨⟨cls,i,data,j⟩,f,k,n,l⟩:=id r;obtain⟨⟨C,m,data2,o⟩,g,p,q,d⟩:=id u;ac_rfl;simp only at k l p d;subst k l p d;have e:c.toArray++a.toArray=(c++a).toArray:=by simp
 by_cases hw:a= []
 ·exact concat_meets ⟨_,f,rfl⟩ ⟨_,g,rfl⟩ noFill_tuple_add seq_tuple_add aci ab4 (abV _ _)
   (tuple_addW1 t b c.toArray a.toArray n q i m j o (by simpa using h) (by simp[hw])) ⟨f,g,v hw⟩
 ·refine concat_meets ⟨_,f,rfl⟩ ⟨_,g,rfl⟩ noFill_tuple_add seq_tuple_add aci ab4 (abV _ _)
   (tuple_addW2 t b c.toArray a.toArray n q i m j o (by simpa using h) (by simpa using hw) (by rw[cT,cT];exact y)) ⟨f,g,?_⟩
  rw[e];exact x hw
def bU(n d:Nat):Option Int->Nat
 |none=>d
 |some v=>if v<0 then(v+(n:Int)).toNat else min v.toNat n
theorem Ob(n d:Nat)(b:d<=n)(o:Option Int):bU n d o<=n:=by
 cases o with
 |none=>exact b
 |some v=>
  show(if v<0 then(v+(n:Int)).toNat else min v.toNat n)<=n
  by_cases a:v<0
  ·rw[tz a];lia
  ·rw[ir a];exact Nat.min_le_right _ _
theorem Cs(v:Int)(n d:Nat):(if v<0 then max (v+(n:Int)) 0 else min v (n:Int))=((bU n d (some v):Nat):Int):=by
 show(if v<0 then max (v+(n:Int)) 0 else min v (n:Int))=(((if v<0 then(v+(n:Int)).toNat else min v.toNat n):Nat):Int)
 by_cases a:v<0
 ·simp only[tz a];lia
 ·simp only[ir a];lia
theorem Cf(lo a:Option Int)(n:Nat):Builtin.Slice.sliceAdjust lo a 1 (n:Int)=(((bU n 0 lo:Nat):Int),((bU n n a:Nat):Int)):=by
 have b:¬((1:Int)<0):=by lia
 unfold Builtin.Slice.sliceAdjust;simp only[b,M2];refine aaC ?_ ?_
 ·cases lo with
  |none=>rfl
  |some v=>exact Cs v n 0
 ·cases a with
  |none=>rfl
  |some v=>exact Cs v n n
theorem Dl(i j:Nat):Builtin.Slice.slicePlaces (i:Int) (j:Int) 1=j-i:=by
 unfold Builtin.Slice.slicePlaces;have a:(1:Int)>0:=by lia
 simp only[a,aaq,Int.ediv_one]
 split<;>lia
theorem vp(p:IsPart v o)(h:Q o s):wpAny (model prog w) A (Builtin.Slice.slicePartIndex v) Q E s:=by
 cases p with
 |none=>exact slicePart_none h
 |int i t=>exact slicePart_int h
theorem tS{f:Addr}{b c:Value}{lo a:Option Int}{n:Nat}{Q:Int×Int×Nat->Shared->Prop}(g:s.heap.IsSliceOf f b c .none)(pl:IsPart b lo)(i:IsPart c a)
  (h:Q (((bU n 0 lo:Nat):Int),1,bU n n a-bU n 0 lo) s):wpAny (model prog w) A (Builtin.Slice.sliceApplied (.ref f) (pure (n:Int))) Q E s:=by
 rfl';obtain⟨os,d,l,e⟩:=id g;ac_rfl;unfold Builtin.Slice.sliceApplied Builtin.Slice.sliceFields;refine be (be (wpAny_field d e (x:=b) rfl (be (wpAny_field d e (x:=c) rfl (be (wpAny_field d e (x:= .none) rfl (mo ?_)))))));refine be (slicePart_none ?_);rw[ir (by decide)]
 refine be (vp pl (be (vp i (be (mo ?_)))));show wpAny _ _ (match Builtin.Slice.sliceAdjust lo a 1 (n:Int) with| (lo,a)=>pure (lo,(1:Int),Builtin.Slice.slicePlaces lo a 1)) _ _ s
 rw[Cf lo a n];show wpAny _ _ (pure (((bU n 0 lo:Nat):Int),(1:Int),Builtin.Slice.slicePlaces ((bU n 0 lo:Nat):Int) ((bU n n a:Nat):Int) 1)) _ _ s;rw[Dl];exact mo h
theorem Iz(a:Array Value)(i k:Nat):((bb k).filterMap λ(m:Nat)=>a[((i:Int)+(m:Int)*1).toNat]?).toArray=((a.toList.drop i).take k).toArray:=by
 have e:(λ(m:Nat)=>a[((i:Int)+(m:Int)*1).toNat]?)=λm=>a[i+m]? :=by
  funext m
  have:((i:Int)+(m:Int)*1).toNat=i+m:=by lia
  rw[this]
 rw[e]
 have:=pick_run a i k
 rw[List.filterMap_map] at this;have b:((λx=>a[x]?)∘λx=>i+x)=λm=>a[i+m]? :=rfl;rw[b] at this;rw[this]
theorem rH{t e:Addr}{a:Array Value}{g i:Value}{lo b:Option Int}{Q:Value->Shared->Prop}(c:IsTup s.heap t a)(j:s.heap.IsSliceOf e g i .none)(pl:IsPart g lo)(k:IsPart i b)
  (hw:¬(bU a.size 0 lo=0/\bU a.size a.size b=a.size))
  (h:Q (.ref s.heap.objs.size) {s with heap:=s.heap.push {cls:= .type "tuple",data:= .seq ((a.toList.drop (bU a.size 0 lo)).take (bU a.size a.size b-bU a.size 0 lo)).toArray}})
  (p:a.size<=sizeLine):wpAny (model prog w) A (getItem (.ref t) (.ref e)) Q E s:=by
 have d:sizeOk (.seq ((a.toList.drop (bU a.size 0 lo)).take (bU a.size a.size b-bU a.size 0 lo)).toArray):=by
  show((a.toList.drop (bU a.size 0 lo)).take (bU a.size a.size b-bU a.size 0 lo)).toArray.size<=sizeLine;rw[cT,cm,fR,eN];lia
 have r:bU a.size a.size b<=a.size:=Ob _ _ (bJ _) b;obtain⟨os,l,n,u⟩:=id j;have f:s.TypeIs (.ref e) "slice":=⟨os,l,n⟩;unfold getItem
 try with_reducible refine wpAny_holding ?_
 first|refine wpAny_bind (wpAny_pure ?_) |skip
 refine wpAny_bind (wpAny_sequenceKey c.typeIs (by decide) ?_)
 refine wpAny_bind (wpAny_callSpecial?_slot (name:=Str.ofString "__getitem__") c.typeIs PyProof.Rows.slot_tuple_getitem
  (wpAny_call_entry PyProof.Rows.slot_tuple_getitem c.typeIs entry_tuple_getitem ?_ (args_tuple_getitem _ _)))
 show wpAny _ _ (Builtin.Tuple.tupleItemsOf (.ref t)>>=_) _ _ s;refine wpAny_bind (tupleItemsOf_ c ?_);refine wpAny_bind (wpAny_typeOf f ?_);rw[if_pos (by decide)]
 refine wpAny_bind (tS j pl k ?_)
 have o:¬((((bU a.size 0 lo:Nat):Int)==0&&(1:Int)==1&&(bU a.size a.size b-bU a.size 0 lo)==a.size)=true):=by
  intro q;rw[y3,y3] at q;have v:((bU a.size 0 lo:Nat):Int)=0:=eq_of_beq q.1.1;have x:bU a.size a.size b-bU a.size 0 lo=a.size:=eq_of_beq q.2;exact hw ⟨by lia,by lia⟩
 show wpAny _ _ (if (((bU a.size 0 lo:Nat):Int)==0&&(1:Int)==1&&(bU a.size a.size b-bU a.size 0 lo)==a.size)=true then _ else _) _ _ s;rw[if_neg o,Iz]
 first
  |exact wpAny_bind (m:=Builtin.Tuple.tupleExact _) (wpAny_newObj_type (wpAny_pure ⟨_,rfl,wpAny_pure h⟩) d)
  |exact wpAny_bind (m:=Builtin.Tuple.tupleExact _) (wpAny_newObj_type (wpAny_bind (wpAny_pure (wpAny_pure ⟨_,rfl,wpAny_pure h⟩))) d)
  |exact wpAny_bind (wpAny_bind (m:=Builtin.Tuple.tupleExact _) (wpAny_newObj_type (wpAny_pure (wpAny_pure ⟨_,rfl,wpAny_pure h⟩)) d))
  |exact wpAny_bind (wpAny_bind (m:=Builtin.Tuple.tupleExact _) (wpAny_newObj_type (wpAny_pure ⟨_,rfl,wpAny_pure h⟩) d))
end
end HT
namespace L2
open PySem PySem.Spec PyProof.Rows
abbrev TO:=St->Hp->(Option Int->Hp->Prop)->Prop
def PO(X:Cx)(e:Option Expr)(t:TO):Prop:=
 ∀(a:List (Addr×Obj))(s:Shared)(b:St)(H:Hp)(Q:Option Int->Hp->Prop),Inv X a b H s->t b H Q->
  wpAny (model X.prog X.w) X.A (evalPart e X.env) (λu d=>∃o c,Inv X a b c d/\IsPart u o/\Q o c) X.xe s
def Ma:TO:=λ_ H Q=>Q none H
def Sw(t:TE):TO:=λa H Q=>t a H λx b=>∃i,x= .int i/\Q (some i) b
theorem intsAre_of:∀{b:List Value},Vals (a.map V.int) b->IntsAre b a:=by
 induction a with
 |nil=>intro b r;rw[acy] at r;cases r;exact .nil
 |cons n a c=>
  intro b r;rw[h7] at r;cases r with
  |cons d f=>
   obtain⟨t,e⟩:=d;subst e;exact .cons n t (c f)
section
variable {X:Cx} {e:Expr} {te:TE} {lo hi:Option Expr} {tl th:TO} {pos p2:Pos}
theorem Lp:PO X none Ma:=by
 intro a s b H Q I h;rw[evalPart_none];exact mo ⟨none,H,I, .none,h⟩
theorem Lq(h:PE X e te):PO X (some e) (Sw te):=by
 intro a s b H Q I hw;rw[evalPart_some];refine thn (h a s b H _ I hw) λu l c=>?_;rfl';obtain⟨x,f,g,j,k⟩:=c;obtain⟨i,rfl,q⟩:=k;obtain⟨t,rfl⟩:=j;ac_rfl;exact⟨some i,f,g, .int i t,q⟩
def Eg(X:Cx)(r:V->Option Int->Option Int->Hp->VK->Prop):Prop:=
 ∀(a:List (Addr×Obj))(s:Shared)(b:St)(H:Hp)(x:V)(v c d:Value)(lo f:Option Int)(g:Addr)(Q:VK),Inv X a b H s->RelV x v->s.heap.IsSliceOf g c d .none->IsPart c lo->IsPart d f->r x lo f H Q->
  ∃T id,typeLookup (.type T) "__getitem__"=pure (some (.builtin id))/\s.TypeIs v T/\wpAny (model X.prog X.w) X.A (getItem v (.ref g)) (EP X a b Q) X.xe s
theorem Eg.or(h:Eg X r)(m:Eg X c):Eg X (λx lo b H Q=>r x lo b H Q\/c x lo b H Q):=by
 intro a s d H x v f g lo b i Q I j k pl l q
 rcases q with q|q
 ·exact h a s d H x v f g lo b i Q I j k pl l q
 ·exact m a s d H x v f g lo b i Q I j k pl l q
def tSl(r:V->Option Int->Option Int->Hp->VK->Prop)(b:TE)(c d:TO):TE:=λa H Q=>b a H λx f=>c a f λl g=>d a g λu h=>r x l u h Q
theorem Aa(m:Eg X r)(n:PE X e te)(o:PO X lo tl)(p:PO X hi th):PE X (.Subscript e (.Slice lo hi none p2) pos) (tSl r te tl th):=by
 intro a s d H Q I h;refine Subscript_ (thn (n a s d H _ I h) λv t f=>?_);rfl';obtain⟨x,y,z,A,B⟩:=f;ac_rfl;refine wpAny_Slice (thn (o a t d y _ z B) λi C ⟨l,E,F,pl,G⟩=>thn (p a C d E _ F G) λj c f=>?_);rfl';obtain⟨u,k,J,L,M⟩:=f;ac_rfl;rw[evalPart_none];refine mo ?_;have N:Inv X a d k {c with heap:=c.heap.push {cls:= .type "slice",data:= .fields #[i,j, .none]}}:=J.kept (t':=c.toks) λb S q=>AC _ q
 obtain⟨T,id,O,P,R⟩:=m a {c with heap:=c.heap.push {cls:= .type "slice",data:= .fields #[i,j, .none]}} d k x v i j l u c.heap.objs.size Q N A (Heap.IsSliceOf.new ..) pl L M
 exact tail_any (ops:= [.ref c.heap.objs.size,v]) P O R (by with_unfolding_all rfl)
def u5(a:List V)(lo b:Option Int):List V:=(a.drop (HT.bU a.length 0 lo)).take (HT.bU a.length a.length b-HT.bU a.length 0 lo)
theorem sH(a:List V)(lo b:Option Int):(u5 a lo b).length<=a.length:=by
 unfold u5;rw[cm,fR];lia
def YK(K:ac):V->Option Int->Option Int->Hp->VK->Prop:=λx lo c H Q=>∃a b,x= .ref a/\gO K H a b/\
 ¬(HT.bU b.length 0 lo=0/\HT.bU b.length b.length c=b.length)/\∀p,H p=none->Q (.ref p) (upd H p (.tup (u5 b lo c)))
theorem Oc:Eg X (YK X.K):=by
 intro i s u H x v w y lo f z Q I l m pl n h;rfl';obtain⟨a,d,rfl,t,hw,q⟩:=h;subst l;obtain⟨g,r,j,k⟩:=I.tuple t;have c:g.toArray.size=d.length:=by rw[cT];exact r.length.symm
 ac_rfl;refine⟨"tuple",_,abe.lookup,j.typeIs,?_⟩;refine HT.rH j m pl n (by rw[c];exact hw) ?_ (by rw[c];exact k)
 rw[c];refine⟨.ref s.heap.objs.size,_,I.laid (t':=s.toks) (o:= .tup (u5 d lo f)) (λb B q=>AC _ q) (bJ _) ?_,rfl,q _ (I.hok.fresh (bJ _))⟩;exact⟨mM (sH d lo f) k,_,(r.drop (HT.bU d.length 0 lo)).take (HT.bU d.length d.length f-HT.bU d.length 0 lo),IsTup.new _ _⟩
def Sb(K:ac):R2:=λx y H Q=>∃a b d c,x= .ref a/\y= .ref b/\gO K H a d/\gO K H b c/\d≠ []/\d.length+c.length<=sizeLine/\
 (c= []->Q (.ref a) H)/\(c≠ []->∀p,H p=none->Q (.ref p) (upd H p (.tup (d++c))))
theorem Vals.xI(r:Vals a b):b= []↔a= []:=by
 cases r with
 |nil=>simp
 |cons _ _=>simp
theorem La:OpR X (binaryOp .Add) (Sb X.K):=by
 intro f s F H x y v u Q I i j h;rfl';obtain⟨a,b,l,m,rfl,rfl,n,p,r,g,t,A⟩:=h;subst i;subst j;obtain⟨B,d,C,_⟩:=I.tuple n;obtain⟨J,c,E,_⟩:=I.tuple p;ac_rfl;refine HT.Jz C E (λz=>r (d.xI.mp z)) (λz=>⟨.ref a,H,I,rfl,t (c.xI.mp z)⟩) (λz=>?_) (by rw[<-d.length,<-c.length];exact g)
 refine⟨.ref s.heap.objs.size,_,I.laid (t':=s.toks) (o:= .tup (l++m)) (λb L q=>AC _ q) (bJ _) ?_,rfl,A (λw=>z (c.xI.mpr w)) _ (I.hok.fresh (bJ _))⟩;exact⟨by rw[b7];exact g,_,d.append c,IsTup.new _ _⟩
end
def rK(n:Nat)(i:Int):Option Nat:=if 0<=i then(if i<n then some i.toNat else none) else if-(n:Int)<=i then some (i+n).toNat else none
def gn{a:Type}(b:List a)(i:Int):Option a:=(rK b.length i).bind λj=>b[j]?
theorem C0(h:rK n i=some j):seqIndex? i n=some j/\j<n/\-(n:Int)<=i/\i<n:=by
 unfold rK at h
 by_cases b:0<=i
 ·rw[tz b] at h
  by_cases a:i<n
  ·rw[tz a] at h
   have e:i.toNat=j:=FB h;exact⟨by rw[seqIndex_of b a,e],by lia,by lia,a⟩
  ·rw[ir a] at h;cases h
 ·rw[ir b] at h
  by_cases a: -(n:Int)<=i
  ·rw[tz a] at h
   have e:(i+n).toNat=j:=FB h;exact⟨by rw[seqIndex_neg (by lia) a,e],by lia,a,by lia⟩
  ·rw[ir a] at h;cases h
theorem Ci(h:gn a i=some v):∃j,seqIndex? i a.length=some j/\a[j]? =some v/\j<a.length/\-(a.length:Int)<=i/\i<a.length:=by
 unfold gn at h;cases e:rK a.length i with
 |none=>rw[e] at h;cases h
 |some j=>
  rw[e] at h;obtain⟨c,d,f,g⟩:=C0 e;exact⟨j,c,h,d,f,g⟩
theorem Cj{b:Type}{a:List b}{j:Nat}{v:b}(h:a[j]? =some v):gn a (j:Int)=some v:=by
 have c:j<a.length:=(dQ.mp h).1
 have e:rK a.length (j:Int)=some j:=by
  unfold rK;rw[tz (by lia),tz (by lia)];simp
 unfold gn;rw[e];exact h
def Cd(b:Expr):Prop:=∀o i,subscripted b false o i=operate [o,i] (getItem o i)
def Ec(X:Cx)(r:R2):Prop:=
 ∀(c a:Expr)(b:List (Addr×Obj))(s:Shared)(d:St)(H:Hp)(x y:V)(v u:Value)(Q:VK),Inv X b d H s->RelV x v->RelV y u->r x y H Q->
  subscripted a false v u=operate [v,u] (getItem v u)->wpAny (model X.prog X.w) X.A (subscriptTail c a v u) (EP X b d Q) X.xe s
def Ef(X:Cx)(id:String)(r:V->List V->Hp->VK->Prop):Prop:=
 ∀(a:List (Addr×Obj))(s:Shared)(b:St)(H:Hp)(x:V)(c:List V)(v:Value)(d:List Value)(Q:VK),Inv X a b H s->RelV x v->Vals c d->r x c H Q->
  wpAny (model X.prog X.w) X.A (call (.builtin id) (v::d)) (EP X a b Q) X.xe s
section
variable {X:Cx} {a b:Expr} {ta tb:TE} {pos:Pos}
theorem Ec.or(h:Ec X r)(l:Ec X f):Ec X (λx y H Q=>r x y H Q\/f x y H Q):=by
 intro c d e s g H x y v u Q I i j q k
 rcases q with q|q
 ·exact h c d e s g H x y v u Q I i j q k
 ·exact l c d e s g H x y v u Q I i j q k
theorem R0(d:Ec X r)(e:PE X a ta)(f:PE X b tb)(g:Cd b):PE X (.Subscript a b pos) (Mb r ta tb):=by
 intro c s i H Q I h;exact Subscript_ (Jw e f I h λv u j x y k l m n q=>d a b c j i k x y v u Q l m n q (g _ _))
def YE(K:ac):R2:=λx y H Q=>∃p c i v,x= .ref p/\y= .int i/\cM K H p c/\gn c i=some v/\Q v H
def YF(K:ac):R2:=λx y H Q=>∃p c i v,x= .ref p/\y= .int i/\gO K H p c/\gn c i=some v/\Q v H
theorem KD:Ec X (YE X.K):=by
 intro e f c s l H x y v u Q I A B h m;rfl';obtain⟨p,R,i,z,rfl,rfl,E,F,q⟩:=h;subst A;obtain⟨t,rfl⟩:=B;obtain⟨g,r,pl,S⟩:=I.list E;obtain⟨j,d,G,T,J,L⟩:=Ci F;obtain⟨w,n,M⟩:=r.get G;have N:=r.length;have U:=kC;have fin:EP X c l Q w s:=⟨z,H,I,M,q⟩;ac_rfl
 by_cases o:0<=i
 ·have k:i.toNat=j:=by
   rw[seqIndex_of o L] at d;exact FB d
  exact item_listR pl.isList o (by lia) (by rw[k];simpa using n) fin m
 ·have k:(i+(g.toArray.size:Int)).toNat=j:=by
   rw[seqIndex_neg (by lia) J] at d
   rw[cT,<-N];exact FB d
  exact acj (x:=w) pl.isList.typeIs slot_list_getitem.lookup
   (wpAny_getItem_list_neg (Q:=λr O=>r=w/\EP X c l Q r O) pl.isList (by lia) (by rw[cT]<;>lia) (by lia) (by rw[k];simpa using n) ⟨rfl,fin⟩) m
theorem M4:Ec X (YF X.K):=by
 intro d e c s f H x y v u Q I g k h l;rfl';obtain⟨p,M,i,z,rfl,rfl,n,o,q⟩:=h;subst g;obtain⟨t,rfl⟩:=k;obtain⟨A,r,pl,N⟩:=I.tuple n;obtain⟨j,B,C,O,P,R⟩:=Ci o;obtain⟨w,E,F⟩:=r.get C;have G:=r.length;have S:=kC;have fin:EP X c f Q w s:=⟨z,H,I,F,q⟩;ac_rfl
 exact acj (x:=w) pl.typeIs slot_tuple_getitem.lookup
  (getItem_tuple (j:=j) (Q:=λr J=>r=w/\EP X c f Q r J) pl (by lia) (by lia) (by rw[cT,<-G];exact B) (by simpa using E) ⟨rfl,fin⟩) l
theorem C7(c:List Value)(n j:Nat)(u:Value):Obj.mapSeq (·.setIfInBounds j u) {cls:= .type "list",data:= .seq c.toArray n}={cls:= .type "list",data:= .seq (c.set j u).toArray n}:=by
 simp[Obj.mapSeq]
theorem Inv.lst{c:List (Addr×Obj)}{f:St}{H:Hp}{s:Shared}{p:Addr}{d:List V}(I:Inv X c f H s)(h:H p=some (.lst d)):
  ∃(its:List Value)(n:Nat),Vals d its/\s.heap.get? p=some {cls:= .type "list",data:= .seq its.toArray n}/\d.length<=sizeLine:=by
 obtain⟨z,its,n,r,e⟩:=I.hok p _ h;exact⟨its,n,r,e,z⟩
theorem Inv.Nj{its c:List Value}(I:Inv X d j H s)(h:H p=some (.lst l))
  (m:s.heap.get? p=some {cls:= .type "list",data:= .seq its.toArray n}) (k:f {cls:= .type "list",data:= .seq its.toArray n}={cls:= .type "list",data:= .seq c.toArray i}) (r:Vals g c) (o:g.length<=sizeLine) (t:Nat):
  Inv X d j (upd H p (.lst g)) {s with heap:=s.heap.update p f,toks:=t}:=by
 have e:(s.heap.update p f).get? p=some {cls:= .type "list",data:= .seq c.toArray i}:=by
  rw[UF f m (by rw[k]<;>rfl),k]
 refine I.write (x:=p) (e:=p) (by rw[h];trivial) (.inl rfl) (λb u v q=>(aas _ _ (Ne.symm v)).trans q) ⟨_,e⟩ ?_
 exact⟨o,c,i,r,e⟩
def Se:V->V->V->Hp->(Hp->Prop)->Prop:=λo i v H Q=>∃p c k j,o= .ref p/\i= .int k/\H p=some (.lst c)/\rK c.length k=some j/\Q (upd H p (.lst (c.set j v)))
theorem set_list:OD X Se:=by
 intro c s A H o i v M N u Q I B C E h;rfl';obtain⟨p,G,k,j,rfl,rfl,m,J,q⟩:=h;subst B;obtain⟨t,rfl⟩:=C;obtain⟨d,n,r,f,L⟩:=I.lst m;obtain⟨e,P,w,x⟩:=C0 J;have g:=r.length;have R:=kC;ac_rfl
 have y:Inv X c A (upd H p (.lst (G.set j v))) {s with heap:=s.heap.update p (Obj.mapSeq (·.setIfInBounds j u))}:=
  I.Nj m f (C7 d n j u) (r.set E j) (by rw[mJ];exact L) s.toks
 by_cases z:0<=k
 ·have l:k.toNat=j:=by
   rw[seqIndex_of z x] at e;exact FB e
  exact PySem.W.ki_setAt f z (by lia) (by rw[cT,<-g];exact x) (by rw[l];exact⟨_,y,q⟩)
 ·have l:(k+(d.toArray.size:Int)).toNat=j:=by
   rw[seqIndex_neg (by lia) w] at e
   rw[cT,<-g];exact FB e
  exact PySem.W.ki_setBack f (by lia) (by rw[cT,<-g];exact w) (by lia) (by rw[l];exact⟨_,y,q⟩)
theorem zu(lo c:Option Int)(n:Nat):(sliceBounds lo c none n).1=((HT.bU n 0 lo:Nat):Int)/\(sliceBounds lo c none n).2.1=((HT.bU n n c:Nat):Int)/\(sliceBounds lo c none n).2.2=1:=by
 refine⟨?_,?_,rfl⟩
 ·cases lo with
  |none=>simp[sliceBounds,HT.bU]
  |some i=>
   simp only[sliceBounds,HT.bU,Option.getD_none,show(1:Int)>0 by decide,aaq]
   by_cases h:i<0
   ·simp only[h,aaq]<;>lia
   ·simp only[h,M2]<;>lia
 ·cases c with
  |none=>simp[sliceBounds,HT.bU]
  |some i=>
   simp only[sliceBounds,HT.bU,Option.getD_none,show(1:Int)>0 by decide,aaq]
   by_cases h:i<0
   ·simp only[h,aaq]<;>lia
   ·simp only[h,M2]<;>lia
theorem yn(c:List Value)(lo d:Option Int):slicePick c.toArray lo d none=((c.drop (HT.bU c.length 0 lo)).take (HT.bU c.length c.length d-HT.bU c.length 0 lo)).toArray:=by
 obtain⟨e,f,g⟩:=zu lo d c.toArray.size;unfold slicePick;rw[e,f,g];simp only[sliceRange_one,pick_run,cT]<;>rfl
def YJ(K:ac):V->Option Int->Option Int->Hp->VK->Prop:=λx lo d H Q=>∃a c,x= .ref a/\cM K H a c/\∀p,H p=none->Q (.ref p) (upd H p (.lst (u5 c lo d)))
theorem DB:Eg X (YJ X.K):=by
 intro f s t H x v u w lo e y Q I i j pl k h;rfl';obtain⟨a,c,rfl,m,q⟩:=h;subst i;obtain⟨n,r,g,p⟩:=I.list m;have d:=r.length;ac_rfl;refine⟨"list",_,slot_list_getitem.lookup,g.isList.typeIs,?_⟩;refine wpAny_getItem_list_slice g.isList j pl k .none (by simp) ?_ (by rw[cT]<;>lia)
 rw[yn,<-d];refine⟨.ref s.heap.objs.size,_,I.laid (t':=s.toks) (o:= .lst (u5 c lo e)) (λb A q=>AC _ q) (bJ _) ?_,rfl,q _ (I.hok.fresh (bJ _))⟩;exact⟨mM (sH c lo e) p,_,0,(r.drop (HT.bU c.length 0 lo)).take (HT.bU c.length c.length e-HT.bU c.length 0 lo),GM _ rfl⟩
def gX:V->Bool
 | .bA=>true
 | .bl _=>true
 | .int _=>true
 | .str _=>true
 |_=>false
def wX:V->V->Bool
 | .bA, .bA=>true
 | .bl a, .bl b=>a==b
 | .bl a, .int b=>(if a then 1 else 0)==b
 | .int a, .bl b=>a==(if b then 1 else 0)
 | .int a, .int b=>a==b
 | .str a, .str b=>a==b
 |_,_=>false
theorem MM{A:Around}{s:Shared}{y x:V}{u v:Value}(ry:RelV y u)(rx:RelV x v)(fy:gX y=true)(fx:gX x=true):SeqAt.EqAt A s u v (wX y x):=by
 cases y with
 |bA=>
  cases ry;cases x with
  |bA=>cases rx;exact SeqAt.EqAt.same _
  |bl b=>cases rx;exact SeqAt.EqAt.none_bool b
  |int b=>obtain⟨t,rfl⟩:=rx;exact SeqAt.EqAt.none_int b t
  |str b=>obtain⟨t,rfl⟩:=rx;exact SeqAt.EqAt.none_str b t
  |_=>exact absurd (show false=true from fx) di
 |bl a=>
  subst ry;cases x with
  |bA=>cases rx;exact SeqAt.EqAt.bool_none a
  |bl b=>cases rx;exact SeqAt.EqAt.bool_bool a b
  |int b=>obtain⟨t,rfl⟩:=rx;exact SeqAt.EqAt.bool_int a b t
  |str b=>obtain⟨t,rfl⟩:=rx;exact SeqAt.EqAt.bool_str a b t
  |_=>exact absurd (show false=true from fx) di
 |int a=>
  obtain⟨t',rfl⟩:=ry;cases x with
  |bA=>cases rx;exact SeqAt.EqAt.int_none a t'
  |bl b=>cases rx;exact SeqAt.EqAt.int_bool a t' b
  |int b=>obtain⟨t,rfl⟩:=rx;exact SeqAt.EqAt.int_int a t' b t
  |str b=>obtain⟨t,rfl⟩:=rx;exact SeqAt.EqAt.int_str a t' b t
  |_=>exact absurd (show false=true from fx) di
 |str a=>
  obtain⟨t',rfl⟩:=ry;cases x with
  |bA=>cases rx;exact SeqAt.EqAt.str_none a t'
  |bl b=>cases rx;exact SeqAt.EqAt.str_bool a t' b
  |int b=>obtain⟨t,rfl⟩:=rx;exact SeqAt.EqAt.str_int a t' b t
  |str b=>obtain⟨t,rfl⟩:=rx;exact SeqAt.EqAt.str_str a t' b t
  |_=>exact absurd (show false=true from fx) di
 |_=>exact absurd (show false=true from fy) di
def qG(x:V)(u:Value):Bool:=match u with
 | .none=>wX .bA x
 | .bool b=>wX (.bl b) x
 | .int i _=>wX (.int i) x
 | .str z _=>wX (.str z) x
 |_=>false
theorem wd{x y:V}{u:Value}(r:RelV y u)(f:gX y=true):qG x u=wX y x:=by
 cases y with
 |bA=>cases r;rfl
 |bl b=>cases r;rfl
 |int i=>obtain⟨t,rfl⟩:=r;rfl
 |str z=>obtain⟨t,rfl⟩:=r;rfl
 |_=>exact absurd (show false=true from f) di
theorem oH:∀{c:List V}{d:List Value},Vals c d->c.all gX=true->d.any (qG x)=c.any λy=>wX y x
 |_,_, .nil,_=>rfl
 |y::c,u::d, .cons r t,f=>by
  rw[aa2,y3] at f;rw[uW,uW,wd r f.1,oH t f.2]
theorem jx(g:RelV x v)(h:gX x=true):∀{d:List V}{e:List Value},Vals d e->d.all gX=true->∀u∈e,SeqAt.EqAt A s u v (qG x u)
 |_,_, .nil,_=>λu c=>by cases c
 |y::d,u::e, .cons r t,f=>λi c=>by
  rw[aa2,y3] at f
  rcases cC.mp c with rfl|c
  ·rw[wd r f.1];exact MM r g f.1 h
  ·exact jx g h t f.2 i c
def M3(x:V)(c:List V):Bool:=c.any λy=>wX y x
def Sd(K:ac)(neg:Bool):R2:=λx y H Q=>∃p c,y= .ref p/\(cM K H p c\/gO K H p c)/\gX x=true/\c.all gX=true/\Q (.bl (if neg then !M3 x c else M3 x c)) H
theorem Fv:OpR X (compareOp .In) (Sd X.K false):=by
 intro e s l H x y v u Q I f i h;rfl';obtain⟨p,n,rfl,d,g,fs,q⟩:=h;subst i;ac_rfl
 rcases d with d|d
 ·obtain⟨c,r,pl,k⟩:=I.list d
  refine SeqAt.in_listAt (qG x) pl.isList (λw hw=>jx f g r fs w (by simpa using hw)) ⟨.bl _,H,I,rfl,?_⟩
  rw[show c.toArray.any (qG x)=c.any (qG x) by simp,oH r fs]
  exact q
 ·obtain⟨c,r,pl,k⟩:=I.tuple d
  refine SeqAt.in_tupleAt (qG x) pl (λw hw=>jx f g r fs w (by simpa using hw)) ⟨.bl _,H,I,rfl,?_⟩
  rw[show c.toArray.any (qG x)=c.any (qG x) by simp,oH r fs]
  exact q
theorem zt:OpR X (compareOp .NotIn) (Sd X.K true):=by
 intro e s l H x y v u Q I f i h;rfl';obtain⟨p,n,rfl,d,g,fs,q⟩:=h;subst i;ac_rfl
 rcases d with d|d
 ·obtain⟨c,r,pl,k⟩:=I.list d
  refine SeqAt.notIn_listAt (qG x) pl.isList (λw hw=>jx f g r fs w (by simpa using hw)) ⟨.bl _,H,I,rfl,?_⟩
  rw[show c.toArray.any (qG x)=c.any (qG x) by simp,oH r fs]
  exact q
 ·obtain⟨c,r,pl,k⟩:=I.tuple d
  refine SeqAt.notIn_tupleAt (qG x) pl (λw hw=>jx f g r fs w (by simpa using hw)) ⟨.bl _,H,I,rfl,?_⟩
  rw[show c.toArray.any (qG x)=c.any (qG x) by simp,oH r fs]
  exact q
theorem zb:dZ X (.builtin "len") (λi H Q=>∃p d,i= [.ref p]/\(cM X.K H p d\/gO X.K H p d)/\Q (.int d.length) H):=by
 intro j s n H i o Q I r h;rfl';obtain⟨p,d,rfl,e,q⟩:=h;obtain⟨u,rfl,l⟩:=vals1 r;subst l;have v:=kC;ac_rfl
 rcases e with e|e
 ·obtain⟨f,g,pl,m⟩:=I.list e
  have c:=g.length;exact Calls.call_len_list pl.isList (by simp only[cT]<;>lia) ⟨.int d.length,H,I.tok _,⟨s.toks+1,by rw[cT,c]⟩,q⟩
 ·obtain⟨f,g,pl,m⟩:=I.tuple e
  have c:=g.length;exact len_tuple pl (by simp only[cT]<;>lia) ⟨.int d.length,H,I.tok _,⟨s.toks+1,by rw[cT,c]⟩,q⟩
theorem zc:dZ X (.type "list") (λA H Q=>∃p f,A= [.ref p]/\(cM X.K H p f\/gO X.K H p f)/\∀l,H l=none->Q (.ref l) (upd H l (.lst f))):=by
 intro j s C H A F Q I r h;obtain⟨p,f,rfl,k,q⟩:=h;obtain⟨u,rfl,E⟩:=vals1 r;subst E
 have fin:∀(c:List Value),Vals f c->f.length<=sizeLine->∀(d:Heap)(g:Nat),(∀b B,s.heap.get? b=some B->d.get? b=some B)->
   d.get? s.heap.objs.size=some {cls:= .type "list",dict:=none,data:= .seq c.toArray g,slots:= #[]}->EP X j C Q (.ref s.heap.objs.size) {s with heap:=d}:=λc i m d g t e=>
  ⟨.ref s.heap.objs.size,_,I.laid (t':=s.toks) t (bJ _) (show dO X.prog X.w _ d _ (.lst f) from⟨m,c,g,i,e⟩),rfl,q _ (I.hok.fresh (bJ _))⟩
 rcases k with k|k
 ·obtain⟨c,i,pl,m⟩:=I.list k
  have v:=i.length;obtain⟨o,x,y,n,z⟩:=pl.isList;exact call_list_seq p (.inl rfl) x y z (λd g t e=>fin c i m d g t e) (by simp only[cT]<;>lia)
 ·obtain⟨c,i,pl,m⟩:=I.tuple k
  have v:=i.length;obtain⟨o,x,y,n,z⟩:=pl;exact call_list_seq p (.inr rfl) x y z (λd g t e=>fin c i m d g t e) (by simp only[cT]<;>lia)
def Ow(K:ac)(T:String)(x:V)(H:Hp):Prop:=match x with
 | .str _=>T="str"
 | .int _=>T="int"
 | .ref p=>(T="list"/\∃d,cM K H p d)\/(T="tuple"/\∃o,K.lookup p=some o/\o.cls= .type "tuple"/\o.dict=none)\/
   (T="dict"/\((∃c,H p=some (.dK c))\/∃c,H p=some (.dT c)))\/(T="set"/\∃S n,H p=some (.set S n))
 |_=>False
theorem Hn(I:Inv X g m H s)(r:RelV x v)(h:Ow X.K T x H):
  s.TypeIs v T/\∀a,v= .ref a->∃l,s.heap.get? a=some l/\l.dict=none:=by
 cases x with
 |str z=>
  obtain⟨t,rfl⟩:=r;cases(show T="str" from h);exact⟨typeIs_str s z t,λ_ e=>nomatch e⟩
 |int i=>
  obtain⟨t,rfl⟩:=r;cases(show T="int" from h);exact⟨typeIs_int s i t,λ_ e=>nomatch e⟩
 |ref p=>
  subst r
  rcases h with ⟨rfl,A,q⟩ | ⟨rfl,o,d,u,j⟩ | ⟨rfl,d⟩ | ⟨rfl,S,n,d⟩
  ·obtain⟨w,_,pl,_⟩:=I.list q
   refine⟨pl.isList.typeIs,λa e=>?_⟩;cases e;obtain⟨o,n,e,c,j,_⟩:=pl;exact⟨o,e,j⟩
  ·refine⟨⟨o,I.iV p o d,u⟩,λa e=>?_⟩
   cases e;exact⟨o,I.iV _ o d,j⟩
  ·have z:∃o,s.heap.get? p=some o/\o.ExactDict:=by
    rcases d with ⟨y,d⟩ | ⟨y,d⟩
    ·obtain⟨_,_,_,_,o,_,_,e,f,_⟩:=I.hok p _ d
     exact⟨o,e,f⟩
    ·obtain⟨_,_,_,_,o,_,_,e,f,_⟩:=I.hok p _ d
     exact⟨o,e,f⟩
   obtain⟨o,e,f⟩:=z;refine⟨⟨o,e,f.1⟩,λa k=>?_⟩;cases k;exact⟨o,e,f.2.1⟩
  ·obtain⟨o,_,_,_,e,f,_⟩:=I.hok p _ d
   refine⟨⟨o,e,f.1⟩,λa k=>?_⟩;cases k;exact⟨o,e,f.2.1⟩
 |_=>exact False.elim h
def Zo(K:ac)(T:String)(r:V->List V->Hp->VK->Prop)(d:TE):TE:=λe H Q=>d e H λx c=>Ow K T x c/\r x [] c Q
def tBM(K:ac)(T:String)(r:V->List V->Hp->VK->Prop)(e:TE)(t:TA):TE:=λc H Q=>e c H λx d=>Ow K T x d/\t c d λf g=>r x f g Q
variable {o e:Expr} {es:List Expr} {to:TE} {t:TA} {name:Str} {apos aQ:Pos} {T id:String} {r:V->List V->Hp->VK->Prop}
theorem NL(i:PlainAttrs T)(slot:Slot T name id)(j:typeOf (.builtin id)=pure (.type "method_descriptor"))(k:Ef X id r)(l:PE X o to)
  (m:attributeBase o name X.env (eval o X.env)=eval o X.env:=by rfl) (n:(apos.endLine==aQ.line)=true:=by rfl):PE X (.Call (.Attribute o name apos) [] [] aQ) (Zo X.K T r to):=by
 intro c s d H Q I h;refine wpAny_Call_method0_late m n (thn (l c s d H _ I h) λv p q=>?_);rfl';obtain⟨x,w,f,g,y,z⟩:=q;obtain⟨A,B⟩:=Hn f g y;ac_rfl;exact⟨T,id,i,slot,j,A,B,aaD rfl (PySem.evalArgs_none (k c p d w x [] v [] Q f g .nil z))⟩
theorem xV(l:PlainAttrs T)(slot:Slot T name id)(m:typeOf (.builtin id)=pure (.type "method_descriptor"))(n:Ef X id r)(p:PE X o to)(q:PA X (e::d) t)
  (u:attributeBase o name X.env (eval o X.env)=eval o X.env:=by rfl)
  (w:((backTo f (starEach (e::d) X.env)).all (λx=>!x.1)&&(backToKw f (keywordEach [] X.env)).all (λx=>x.1.isSome)
   &&decide ((e::d).length+([]:List Keyword).length+(if ([]:List Keyword).isEmpty then 0 else 1)<30))=true:=by rfl)
  (y:(apos.endLine==f.line)=true:=by rfl) (z:starEach (e::d) X.env=(false,eval e X.env)::starEach d X.env:=by rfl) (A:(backTo f (starEach d X.env)).any (·.1)=false:=by rfl):
  PE X (.Call (.Attribute o name apos) (e::d) [] f) (tBM X.K T r to t):=by
 intro c s g H Q I h;refine aaZ u w y rfl (thn (p c s g H _ I h) λv B C=>?_);rfl';obtain⟨x,F,i,j,G,J⟩:=C;obtain⟨L,M⟩:=Hn i j G;ac_rfl;refine⟨T,id,l,slot,m,L,M,?_⟩;have k:=q f c B g F _ i J;rw[z] at k ⊢;refine aaD (by show(false|| (backTo f (starEach d X.env)).any (·.1))=false;rw[A]<;>rfl) (abi ?_)
 exact thn k λN O ⟨P,R,S,U,Y⟩=>n c O g R x P v N Q S j U Y
end
def Jl(X:Cx)(id:String)(r:V->List V->Hp->VK->Prop):Prop:=
 ∀(a:List (Addr×Obj))(s:Shared)(b:St)(H:Hp)(x:V)(c:List V)(v:Value)(d:List Value)(Q:VK),Inv X a b H s->RelV x v->Vals c d->r x c H Q->
  wpAny (model X.prog X.w) X.A (call (.builtin id) (v::d)) (EP X a b Q) X.xe s
theorem Vals.one(h:Vals [x] a):∃u,a= [u]/\RelV x u:=by
 cases h with|cons r t=>cases t;exact⟨_,rfl,r⟩
theorem Vals.two(h:Vals [x,y] a):∃u v,a= [u,v]/\RelV x u/\RelV y v:=by
 cases h with
 |cons r t=>
  obtain⟨v,rfl,q⟩:=Vals.one t;exact⟨_,v,rfl,r,q⟩
theorem Vals.zero:∀{a:List Value},Vals [] a->a= []
 |_, .nil=>rfl
theorem Vals.dropLast(h:Vals a b):Vals a.dropLast b.dropLast:=by
 induction h with
 |nil=>exact .nil
 |cons r t c=>
  cases t with
  |nil=>exact .nil
  |cons q d=>exact .cons r c
theorem Vals.rep(h:Vals a b):∀k:Nat,Vals (bi k a).flatten (bi k b).flatten
 |0=> .nil
 |k+1=>by
  rw[yZ,yZ,t7,t7];exact Vals.append h (Vals.rep h k)
theorem CB(l:List c):l.eraseIdx (l.length-1)=l.dropLast:=by
 induction l with
 |nil=>rfl
 |cons a r d=>
  cases r with
  |nil=>rfl
  |cons b r=>
   have e:(a::b::r).length-1=((b::r).length-1)+1:=by
    have f:(a::b::r).length=r.length+2:=rfl;have g:(b::r).length=r.length+1:=rfl;lia
   rw[e,ab5,d]
   all_goals rfl
theorem foldl_rep(a:List Value):∀(k:Nat)(b:List Value),
  List.foldl (λc d=>c++d) b.toArray (bi k a.toArray)=(b++(bi k a).flatten).toArray
 |0,b=>by simp
 |k+1,b=>by
  have e:b.toArray++a.toArray=(b++a).toArray:=by simp
  have f:(b++a)++(bi k a).flatten=b++(bi (k+1) a).flatten:=by
   rw[yZ,t7,nZ]
  rw[<-f,<-foldl_rep a k (b++a),<-e,yZ,aca]
section
variable {X:Cx} {pins:List (Addr×Obj)} {σ:St} {H:Hp} {s:Shared} {l b:Addr} {xs ys zs:List V}
theorem Inv.GG{its its':List Value}(I:Inv X pins σ H s)(a:H l=some (.lst xs))
  (e:s.heap.get? l=some {cls:= .type "list",data:= .seq its.toArray n}) (c:f its.toArray=its'.toArray) (d:Vals ys its') (g:ys.length<=sizeLine):
  Inv X pins σ (upd H l (.lst ys)) {s with heap:=s.heap.update l (Obj.mapSeq f),toks:=t'}:=by
 have q:=PySem.IsL.update e f;rw[c] at q;refine I.write (x:=l) (e:=l) (by rw[a];exact trivial) (.inl rfl) (λj u h i=>(aas s.heap (Obj.mapSeq f) (Ne.symm h)).trans i) ⟨_,q⟩ ?_
 exact⟨g,its',_,d,q⟩
theorem Inv.GF{its:List Value}{t':Nat}(I:Inv X pins σ H s)(a:Vals ys its)(c:ys.length<=sizeLine):
  Inv X pins σ (upd H s.heap.objs.size (.lst ys)) {s with heap:=s.heap.push {cls:= .type "list",data:= .seq its.toArray},toks:=t'}:=
 I.laid (λ_ _ q=>AC _ q) (bJ _) ⟨c,its,0,a,GM _ rfl⟩
theorem Inv.fresh(I:Inv X pins σ H s):H s.heap.objs.size=none:=I.hok.fresh (bJ _)
theorem Inv.pk(I:Inv X pins σ H s)(a:H l=some (.lst xs)):xs.length<=sizeLine/\∃(its:List Value)(n:Nat),Vals xs its/\xs.length=its.length/\s.heap.get? l=some {cls:= .type "list",data:= .seq its.toArray n}:=by
 obtain⟨z,its,n,r,e⟩:=I.hok l _ a;exact⟨z,its,n,r,r.length,e⟩
theorem z7(h:n<=sizeLine):Builtin.List.listTooLong n=false:=by
 unfold Builtin.List.listTooLong;exact FM (by lia)
end
section
variable {X:Cx}
def LB:V->List V->Hp->VK->Prop:=λx b H Q=>∃l a y,x= .ref l/\b= [y]/\H l=some (.lst a)/\a.length<sizeLine/\Q .bA (upd H l (.lst (a++ [y])))
theorem rS:Jl X "list.append" LB:=by
 intro b s j H x k v m Q I d f h;rfl';obtain⟨l,p,y,rfl,rfl,c,t,q⟩:=h;subst d;obtain⟨u,rfl,i⟩:=f.one;obtain⟨z,a,n,r,w,e⟩:=I.pk c;ac_rfl;refine aaA F.slot_list_append ⟨_,e,rfl⟩ F.entry_list_append (F.args_list_append_2 _ _) (PySem.list_append l a.toArray n u (by rw[cT];lia)) ⟨e,?_⟩
 refine⟨.bA,_,I.GG (its':=a++ [u]) c e (by simp) (r.append (.cons i .nil)) ?_,rfl,q⟩
 rw[b7,q0];lia
def LC:V->List V->Hp->VK->Prop:=λx d H Q=>∃l b a c,x= .ref l/\d= [.ref b]/\H l=some (.lst a)/\H b=some (.lst c)/\a.length+c.length<=sizeLine/\Q .bA (upd H l (.lst (a++c)))
theorem Fh:Jl X "list.extend" LC:=by
 intro d s A H x B v C Q I g i h;obtain⟨l,b,E,G,rfl,rfl,f,j,J,q⟩:=h;cases g;obtain⟨u,rfl,k⟩:=i.one;cases k;obtain⟨z,a,n,r,L,e⟩:=I.pk f;obtain⟨M,c,m,o,p,t⟩:=I.pk j;have w:a.toArray.size+c.toArray.size<=sizeLine:=by rw[cT,cT];lia
 have y:¬(!a.toArray.isEmpty&&Builtin.List.listTooLong (a.toArray.size+c.toArray.size))=true:=by
  rw[z7 w,yT];exact di
 refine aaA F.slot_list_extend ⟨_,e,rfl⟩ F.entry_list_extend (F.args_list_extend_2 _ _)
  (AutoSeq1.list_extend_list_list_0 l a.toArray n b c.toArray m y (by rw[cT];lia) (by lia)) ⟨e,t,?_⟩
 refine⟨.bA,_,I.GG (its':=a++c) f e (by simp) (r.append o) ?_,rfl,q⟩
 rw[b7];lia
def YH:V->List V->Hp->VK->Prop:=λx b H Q=>∃l a y,x= .ref l/\b= []/\H l=some (.lst a)/\a[a.length-1]? =some y/\Q y (upd H l (.lst a.dropLast))
theorem Nl:Jl X "list.pop" YH:=by
 intro c s t H x w v A Q I f g h;rfl';obtain⟨l,C,y,rfl,rfl,d,j,q⟩:=h;subst f;have b:=g.zero;subst b;obtain⟨z,a,n,r,k,e⟩:=I.pk d;obtain⟨u,m,o⟩:=r.get j;ac_rfl
 have p:a.toArray[a.toArray.size-1]? =some u:=by
  show a.toArray[a.length-1]? =some u;rw[<-fi,<-k];exact m
 refine aaA F.slot_list_pop ⟨_,e,rfl⟩ F.entry_list_pop (F.args_list_pop_1 _) (MeetsSeq.list_pop_last l a.toArray n u p (by rw[cT];lia)) ⟨e,?_⟩
 refine⟨y,_,I.GG (its':=a.dropLast) d e ?_ r.dropLast ?_,o,q⟩
 ·show a.toArray.eraseIdxIfInBounds (a.toArray.size-1)=a.dropLast.toArray
  rw[cT,List.eraseIdxIfInBounds_toArray,CB]
 ·rw[List.length_dropLast]
  lia
def YC:R2:=λx y H Q=>∃l b a c,x= .ref l/\y= .ref b/\H l=some (.lst a)/\H b=some (.lst c)/\a.length+c.length<=sizeLine/\∀p,H p=none->Q (.ref p) (upd H p (.lst (a++c)))
theorem BC:OpR X (binaryOp .Add) YC:=by
 intro c s w H x y v u Q I f g h;rfl';obtain⟨l,b,B,C,rfl,rfl,j,k,E,q⟩:=h;subst f;subst g;obtain⟨z,a,n,r,F,e⟩:=I.pk j;obtain⟨G,d,J,m,o,p⟩:=I.pk k;ac_rfl;refine PySem.P.add_list e p ?_ (by rw[cT,cT];lia)
 have t:a.toArray++d.toArray=(a++d).toArray:=by simp
 rw[t];exact⟨.ref _,_,I.GF (t':=s.toks) (r.append m) (by rw[b7];lia),rfl,q _ I.fresh⟩
def YI:R2:=λx y H Q=>∃l k a,x= .ref l/\y= .int k/\H l=some (.lst a)/\-(2^63)<=k/\k<2^63/\a.length*k.toNat<=sizeLine/\
 ∀p,H p=none->Q (.ref p) (upd H p (.lst (bi k.toNat a).flatten))
theorem len_rep(a:List b)(k:Nat):(bi k a).flatten.length=k*a.length:=by
 induction k with
 |zero=>simp
 |succ k c=>rw[yZ,t7,b7,c,acz,Nat.add_comm]
theorem NI:OpR X (binaryOp .Mult) YI:=by
 intro g s O H x y v u Q I j o h;rfl';obtain⟨l,k,R,rfl,rfl,w,A,B,i,q⟩:=h;subst j;obtain⟨t,rfl⟩:=o;obtain⟨z,b,n,r,C,e⟩:=I.pk w;have c:b.toArray.size*k.toNat<=sizeLine:=by rw[cT,<-C];exact i
 ac_rfl
 have E:¬b.toArray.size*k.toNat>(2^63-1) / 8:=by
  have:(sizeLine:Nat)<=(2^63-1) / 8:=by decide
  lia
 have G:¬(!Builtin.List.listFitsIndex k)=true:=by
  rw[fitsIndex_both A B];exact di
 have J:¬Builtin.List.listTooLong (b.toArray.size*k.toNat)=true:=by
  rw[z7 c];exact di
 have L:List.foldl (λd f=>d++f) #[] (bi (if b.toArray.isEmpty=true then 0 else k.toNat) b.toArray)=(bi k.toNat b).flatten.toArray:=by
  have M:∀m:Nat,List.foldl (λd f=>d++f) #[] (bi m b.toArray)=(bi m b).flatten.toArray:=λm=>by
   have:=foldl_rep b m []
   rw[n5] at this;exact this
  rw[M];cases b with
  |nil=>simp
  |cons a S=>rw[ir (by simp)]
 refine wpAny_binaryOp_repeat_ref (T:="list") (U:="int") (by decide) ⟨_,e,rfl⟩ (λN=>typeIs_int N k t) noFill_list_mul F.fills_int_mul F.slot_int_rmul repeat_list F.slot_int_index.lookup
  (aaA F.slot_int_rmul (typeIs_int s k t) F.entry_int_rmul (F.args_int_rmul_2 _ _) (int___rmul___int_list k t l b.toArray n)
   ⟨e,rfl,⟨_,e,rfl⟩,aaA F.slot_list_mul ⟨_,e,rfl⟩ F.entry_list_mul (F.args_list_mul_2 _ _) (AutoListH.list___mul___list_int_3 l b.toArray n k t G E J) ⟨e,?_⟩⟩)
 rw[L];exact⟨.ref _,_,I.GF (t':=s.toks) (r.rep k.toNat) (by rw[len_rep,Nat.mul_comm];exact i),rfl,q _ I.fresh⟩
end
section
variable {prog:Program} {w:World} {A:Around} {E:Value->Shared->Prop} {s:Shared}
end
section
variable {X:Cx}
end
end L2
namespace SN
open PySem PySem.W PySem.Calls PyProof.Rows
theorem um:∀(c:List Int)(d:List Value),WellAll P h d (c.map WData.int)->IntsAre d c:=by
 intro c
 induction c with
 |nil=>
  intro d w;rw[acy] at w;cases w;exact .nil
 |cons n c e=>
  intro d w;rw[h7] at w;cases w with
  |cons a b=>
   cases a;exact .cons _ _ (e _ b)
theorem FP{l:OpenLaw}(o:l.most=some n) 
  (j:l.row.toRowW.claim.pre args=true) (p:WellAll P h c args):
  ∃a k b,c= [Value.ref a]/\args= [WData.list (b.map WData.int)]/\h.get? a=some {cls:= .type "list",data:= .seq k.toArray}/\IntsAre k b/\b.length<=n:=by
 have i:WShape.hasAll [] args [.list .int]=true:=(pre_splitW j).1;have m:l.pre.holds [] {args:=args}=true:=(pre_splitW j).2;obtain⟨d,r,rfl,s,t⟩:=hasAllW_cons i;obtain rfl:=hasAllW_nil t;obtain⟨A,rfl,u⟩:=hasW_list s;obtain⟨b,rfl⟩:=items_int u
 have e:b.length<=n:=by
  unfold OpenLaw.pre at m
  have f:(WTm.not (.lt (.lit (.int (n:Int))) (.len (.arg 0)))).holds [] {args:= [.list (b.map .int)]}=true:=by
   have f:=(holds_andW m).1;rw[o] at f;exact f
  have g:=condW_of f (w_not (w_lt w_lit (w_len_list (w_arg rfl))));rw[aD] at g;refine rg λq=>?_;have v:(n:Int)<((b.length:Nat):Int):=by lia
  first
   | (rw[B v] at g;exact absurd g (by decide))
   | (simp at g;lia)
 cases p with
 |cons w x=>
  cases x;cases w with
  |list y z=>exact⟨_,_,b,rfl,rfl,y,um b _ z,e⟩
theorem FD(l:OpenLaw)(args:List WData):l.row.toRowW.claim.post args (.bool true) args=true:=
 postW_of (r:=l.row.toRowW) (X:=(true==true))
  (show WShape.has [] (.bool true) .bool=true by first|rfl|decide|simp[WShape.has,WShape.arms,WShape.armsAll])
  (show(WTm.eq .res (.lit (.bool true))).value [] {args:=args,res:=some (.bool true),after:=args}=some (.bool (true==true)) from w_eq_bool (w_res rfl) w_lit) rfl
theorem Ax{l:OpenLaw} 
  (C:l.most=some n) (E:d.params.defaults= [])
  (call:∀(w:World)(e b:Shared)(m u:Str->Option Value)(j:Addr)(o:Obj)(v p g:Value)(a:Addr)(i:List Value)(s:List Int),
   Ground q c [] x w e m u b.heap->y w b.heap->
   b.heap.get? j=some o->o.data= .func (docDef d.name d.params d.body d.scope v p g)->b.heap.CodeRec p d.name->m d.name=some (.ref j)->
   b.heap.get? a=some {cls:= .type "list",data:= .seq i.toArray}->IntsAre i s->s.length<=n->b.gens= #[]->
   codeAny (model l.prog w) callerA (.call (.ref j) ⟨[.ref a],[]⟩) (λr t=>r= .ok (.ret (.bool true))/\OldK b.heap t.heap/\t.os=b.os/\AllBare t.gens) b):
  WalkO q c x y l.row.toRowW d [] (λf i=>dz f i):=by
 intro w e b m u G Y j o v p g F kV H I J z L M A B as N O P Q CL;obtain rfl:F= .none:=Dflts.none z E;obtain rfl:kV= .none:=Dflts.noKw z;rfl';obtain⟨a,i,s,rfl,rfl,S,h,k⟩:=FP C N Q;ac_rfl;refine enter_call (aaN (call w e b m u j o v p g a i s G Y H (fd_plain I) J L S h k M) λr t T=>?_);obtain⟨rfl,U,X,Z⟩:=T;exact⟨.inl ⟨.bool true, .bool true,[],rfl,λ_=>rfl, .bool true,FD l _,λ_=>⟨List.Pairwise.nil,λ_ hm=>(nomatch hm)⟩⟩,U,X,Z⟩
section
variable {prog:Program} {w:World} {A:Around} {E:Value->Shared->Prop} {s:Shared} {K:Frag}
end
end SN
namespace L2
open PySem PySem.Spec PyProof.Rows
theorem nz:∀{a:List Value}{b:List Int},IntsAre a b->Vals (b.map V.int) a
 |_,_, .nil=> .nil
 |_,_, .cons n t h=> .cons ⟨t,rfl⟩ (nz h)
def Jm(H:Hp):Prop:=∀b,H b=none\/∃o a,H b=some (.sS o (.lst a))
theorem Ij{P:Program}{w:World}{K:ac}{l E:Str->Option Value}{M:t9}{k:Nat}{G a:Addr}{N:FuncData}{x:Str}{O:Sp}{c:Shared}{j:List Value}{p:List Int}
  (Q:K.In c.heap) (R:c.heap.Ns mainGlobals l) (f:c.heap.Ns builtinsNs E) (I:∀x:Str,x≠"__name__"->E x=bootBuiltins x) (V1:c.heap.NoLimit) (hg:c.gens= #[])
  (B:c.heap.get? a=some {cls:= .type "list",data:= .seq j.toArray}) (S:IntsAre j p) (T:p.length<=sizeLine) (hr:cU k callerA)
  (F:∀base:Heap,K.In base->base.Ns mainGlobals l->FnOk P w K l base M k G N [x] O) (Rf:∀(s:Shared)(u:Value),BindsTo s N ⟨[u],[]⟩ [(x,u)])
  (CP:∀H:Hp,Jm H->cM K H a (p.map V.int)->O [.ref a] H (λv _=>v= .bl true) λ_ _ _=>False)
  (Q1:∀H e g,M [] H c (λ_ _ _=>False) e g->False):
  codeAny (model P w) callerA (.call (.ref G) ⟨[.ref a],[]⟩) (λr g=>r= .ok (.ret (.bool true))/\OldK c.heap g.heap/\g.os=c.os/\AllBare g.gens) c:=by
 have U:=nz S;have W6:=S.length
 have i:∀H:Hp,Jm H->cM K H a (p.map V.int)->jl P w H c.heap->(∀b,H b≠none->b=a)->(H a≠none->K.lookup a=none)->
   codeAny (model P w) callerA (.call (.ref G) ⟨[.ref a],[]⟩) (λr g=>r= .ok (.ret (.bool true))/\OldK c.heap g.heap/\g.os=c.os/\AllBare g.gens) c:=by
  intro H X hS hok Y hK;have Z:∀{b:Addr}{o:Obj},c.heap.get? b=some o->H b=none->(sW c.heap H).get? b=some o:=λe n=>HX e n
  have K2:∀{b:Addr}{o:Obj}{t:Array DictEntry}{y:Nat},c.heap.get? b=some o->o.data= .dict t y->H b=none:=λ {b o t y} e d=>by
   cases q:H b with
   |none=>rfl
   |some u=>
    have J:b=a:=Y b (by rw[q];simp)
    subst J;rw[B] at e;cases e;have d':Data.seq j.toArray _=Data.dict t y:=d;cases d'
  have C:∀{b:Addr}{m:Str->Option Value},c.heap.Ns b m->(sW c.heap H).Ns b m:=λ {b m} ⟨o,t,y,e,d,r⟩=>⟨o,t,y,Z e (K2 e d),d,r⟩
  have VF:K.In (sW c.heap H):=λb o e=>Z (Q b o e) (by
   cases q:H b with
   |none=>rfl
   |some u=>
    have J:b=a:=Y b (by rw[q];simp)
    subst J;rw[hK (by rw[q];simp)] at e;cases e)
  have hM:Mod K l (sW c.heap H):=⟨VF,C R,⟨E,C f,I⟩,let ⟨mc,h1,h2⟩:=V1;⟨mc,C h1,h2⟩⟩;have e0:Env0 P w K l (sW c.heap H) callerA [] c H:=⟨rfl,hM,λb o e=>K7 e,Nat.le_of_eq (EL _ _),trivial,λb f=>absurd (show b∈([]:List Addr) from f) (by simp),hok, .of_eq hg⟩
  refine aaN ((F _ VF (C R)).run callerA [] c H ⟨[.ref a],[]⟩ [.ref a] [.ref a] _ _ hr e0 (Rf c (.ref a)) (.cons rfl .nil) (CP H X hS)) λr g h=>?_;cases r with
  |error e=>exact(Q1 H e g h).elim
  |ok fl=>
   cases fl with
   |next=>exact False.elim h
   |brk=>exact False.elim h
   |cont=>exact False.elim h
   |ret u=>
    rfl';obtain⟨v,H',os,bare,un,V9,r',q⟩:=h;have q':v= .bl true:=q;subst q';ac_rfl;obtain rfl:u=Value.bool true:=r';refine⟨rfl,OldK.of_keep λb o e=>?_,os,bare⟩;cases q:H b with
    |none=>exact un.keep b o e q (by intro z;exact absurd (show b∈([]:List Addr) from z) (by simp)) (by simp)
    |some u=>
     rcases X b with z| ⟨ob,xs,z⟩
     ·rw[q] at z;cases z
     ·have z2:=un.frzs b ob _ z
      obtain⟨e1,_⟩:=hok b _ z;obtain⟨e2,_⟩:=V9 b _ z2;rw[e] at e1;cases e1;exact e2
 cases L:K.lookup a with
 |some o=>
  have e:=Q a o L;rw[B] at e;cases FB e;refine i (λ_=>none) (λ_=> .inl rfl) (.inr ⟨_,j.toArray,_,L,rfl,rfl,rfl,by rw[cT,W6];exact T,by simpa using U⟩) (λb u z=>by have A:(none:Option HO)=some u:=z;cases A) (λb z=>absurd rfl z) λz=>absurd rfl z
 |none=>
  refine i (λb=>if b=a then some (.sS {cls:= .type "list",data:= .seq j.toArray} (.lst (p.map V.int))) else none) (λb=>?_) (.inl (.inr ⟨{cls:= .type "list",data:= .seq j.toArray},tz rfl⟩)) (λb u z=>?_) (λb z=>?_) λ_=>L
  ·by_cases f:b=a
   ·exact .inr ⟨_,_,tz f⟩
   ·exact .inl (ir f)
  ·by_cases f:b=a
   ·have A:=(tz f).symm.trans z
    obtain rfl:=FB A;subst f;exact⟨B,by rw[aD];exact T,j,_,U,B⟩
   ·have A:=(ir f).symm.trans z
    cases A
  ·by_cases f:b=a
   ·exact f
   ·exact absurd (ir f) z
theorem Mg{l:cp}{n k:Nat}{q:Program}{i:List Str}{I:(Str->Option Value)->Heap->Prop}{A:World->Heap->Prop}{d:DefRec}{K:Params->ac}{CX:World->t9}{sp:World->Sp}{x:Str}
  (J:l.most=some n) (L:n<=sizeLine) (M:d.params.defaults= []) (N:cU k callerA)
  (O:∀(w:World)(h:Heap),A w h->(K w.params).In h)
  (F:∀(w:World)(m:Str->Option Value)(r:Addr)(h:Heap),(K w.params).In h->h.Ns mainGlobals m->m d.name=some (.ref r)->
   ∃y:FuncData,(∀(s:Shared)(u:Value),BindsTo s y ⟨[u],[]⟩ [(x,u)])/\
    ∀base:Heap,(K w.params).In base->base.Ns mainGlobals m->FnOk l.prog w (K w.params) m base (CX w) k r y [x] (sp w))
  (P:∀(w:World)(H:Hp)(a:Addr)(t:List Int),t.length<=n->Jm H->cM (K w.params) H a (t.map V.int)->sp w [.ref a] H (λv _=>v= .bl true) λ_ _ _=>False)
  (Q:∀(w:World)(H:Hp)(s:Shared)(e:Value)(z:Shared),CX w [] H s (λ_ _ _=>False) e z->False):
  dL q i I A l.row.toRowW d [] (λf B=>dz f B):=by
 refine SN.Ax J M λw C p m mb r o pm cd R a B t G Y ho hd gE S U j c X=>?_;have E:=O w _ Y;obtain⟨y,Z,hF⟩:=F w m r _ E G.T.g S;exact Ij E G.T.g G.T.b G.T.builtins G.T.nolimit X U j (mM c L) N hF Z (λH hO hS=>P w H a t c hO hS) λH e z=>Q w H p e z
def inClass(s:Stmt)(j:Nat):Stmt:=match s with
 | .ClassDef _ _ _ body _ _ _ _ _ _ _=>body.getD j (.Pass ⟨0,0,0,0⟩)
 |_=> .Pass ⟨0,0,0,0⟩
def jJ(s:Stmt):Arguments:=match s with
 | .FunctionDef _ a _ _ _ _ _ _ _ _=>a
 |_=>{posonlyargs:= [],args:= [],vararg:=none,kwonlyargs:= [],kw_defaults:= [],kwarg:=none,defaults:= []}
def gu(s:Stmt):List Stmt:=match s with
 | .FunctionDef _ _ b _ _ _ _ _ _ _=>b
 |_=> []
def av(s:Stmt):Scope:=match s with
 | .FunctionDef _ _ _ _ _ _ sc _ _ _=>sc
 |_=>{kind:= .function,names:= [],isGenerator:=false,isCoroutine:=false}
abbrev cq:t9:=λ_ _ _ _ _ _=>False
abbrev E0:XK:=λ_ _ _=>False
theorem uD:Passes cq X E0:=λ_ _ _ _ _ _ _ h=>h.elim
structure y9 (K:ac) (x qual:Str) (st:Stmt) (f:Addr) (fd:FuncData):Prop where
 ex:∃(oc:Value)(od:Option Addr)(kV doc pm:Value)(an:Option Addr)(bI ct:Value)(De:Array (Option Value)),
  fd=b5 x qual (jJ st) (gu st) (av st) .none kV doc pm an bI ct/\K.lookup f=some ⟨oc,od, .func fd,De⟩/\am K bI qual=true
 kp:ai K (.ref f)=true
section
variable {P:Program} {w:World} {K:ac} {mg:Str->Option Value} {base:Heap}
theorem y9.ok{x a:Str}{st:Stmt}{f:Addr}{e:FuncData}{N c:List Str}{k:Nat}{d:Sp}(F:y9 K x a st f e)(S:aH N c (av st))(len:∀vs H Q E,d vs H Q E->vs.length=c.length)
  (g:∀(b:Value)(A:Around)(outer:List Env)(s:Shared)(H:Hp)(vs:List V)(Q:VK)(E:XK),cU k (A.deeper (envOfC a (av st) s.heap.objs.size f b))->d vs H Q E->
   ∃t,oz (u6 cq P w K mg base N a (av st) f b A outer s H E).kZ (gu st) t/\t {nx:=λ_ i=>Q .bA i,rt:=Q} (start N vs) H):FnOk P w K mg base cq (k+1) f e c d:=by
 rfl';obtain⟨u,v,kV,l,y,z,b,B,C,rfl,m,n⟩:=F.ex;ac_rfl;refine QU m n S len λA outer s H vs Q E o p=>?_;obtain⟨t,h,q⟩:=g b A outer s H vs Q E o p;exact⟨t,h.kZ,q⟩
theorem y9.binds{st:Stmt}{ps:List Str}(F:y9 K x a st f j)
  (h:∀(kV b c:Value)(d:Option Addr)(e g:Value)(i:List Value),i.length=ps.length->bindArgs (b5 x a (jJ st) (gu st) (av st) .none kV b c d e g) ⟨i,[]⟩=pure (ps.zip i)):Binds K j ps []:=by
 rfl';obtain⟨m,n,kV,b,c,d,e,g,o,rfl,p,q⟩:=F.ex;ac_rfl;exact .all (h kV b c d e g)
theorem sT{x a:Str}{st:Stmt}{f:Addr}{i:Value}{j e:Option Addr}{m:Array (Option Value)}{kV b g d h:Value}(l:K.lookup f=some ⟨i,j, .func (b5 x a (jJ st) (gu st) (av st) .none kV b g e d h),m⟩)
  (c:am K d a=true) (k:ai K (.ref f)=true):y9 K x a st f (b5 x a (jJ st) (gu st) (av st) .none kV b g e d h):=⟨⟨i,j,kV,b,g,e,d,h,m,rfl,l,c⟩,k⟩
end
theorem eG(h:n<=1000):n<sizeLine:=Nat.lt_of_le_of_lt h (by decide)
section
variable {X:Cx}
theorem pv(i:Nat)(a:X.N[i]? =some x:=by rfl)(b:ub X.env.scope x:=by first|exact Or.inl rfl|exact Or.inr (Or.inl rfl) |exact Or.inr (Or.inr rfl))(c:(x==("__debug__":Str))=false:=by decide)
  (d:(x==("__classdict__":Str))=false:=by decide):PE X (.Name x pos) (PR i):=GQ a b c d
end
theorem ck{A B:Prop}(h:B):if false=true then A else B:=by
 rw[ir di];exact h
theorem dJ{A B:Prop}(h:A):if true=true then A else B:=by
 rw[tz rfl];exact h
def aP(H a:Hp):Prop:=∀b o,H b=some o->a b=some o
theorem aP.refl(H:Hp):aP H H:=λ_ _ h=>h
theorem aP.trans{H d e:Hp}(a:aP H d)(b:aP d e):aP H e:=λc o h=>b c o (a c o h)
theorem aP.free(e:aP H a)(h:a l=Option.none):H l=Option.none:=by
 cases q:H l with
 |none=>rfl
 |some o=>
  rw[e l o q] at h;cases h
def jc(env:Env):List (Str×NameKind)->List (Str×Addr)->List (Str×Addr)
 | [],a=>a
 | (n,k)::r,a=>if k==NameKind.free then jc env r ((n,(env.cells.lookup n).getD 0)::a) else jc env r a
theorem fV(h:∀x∈b.names,x.2= .free->∃c,env.cells.lookup x.1=some c):closureFor b env=pure (jc env b.names []):=by
 simp only[closureFor]
 have j:∀(names:List (Str×NameKind))(d:List (Str×Addr)),(∀x∈names,x.2= .free->∃c,env.cells.lookup x.1=some c)->
   (forIn names d λx e=>if (x.snd==NameKind.free)=true then(do let a <-cellOf env x.fst;pure (ForInStep.yield ((x.fst,a)::e))) else pure (ForInStep.yield e))=(pure (jc env names d):Sem _):=by
  intro names
  induction names with
  |nil=>intro d _;rfl
  |cons x r l=>
   obtain⟨n,k⟩:=x;intro d h;rw[List.forIn_cons,jc];have f:=λd=>l d λy m=>h y (cG _ m);cases g:k==NameKind.free with
   |false=>
    simp only[g,fj,M2];exact f d
   |true=>
    have o:k= .free:=by simpa using g
    obtain⟨c,i⟩:=h (n,k) cg o;simp only at i;simp only[aaq,cellOf,i];exact f _
 rw[j _ _ h];rfl
theorem fU:∀(names:List (Str×NameKind))(a:List (Str×Addr)),(∀x∈names,x.2= .free->∃c,env.cells.lookup x.1=some c)->(∀x c,a.lookup x=some c->env.cells.lookup x=some c)->
  ∀x c,(jc env names a).lookup x=some c->env.cells.lookup x=some c
 | [],a,_,b=>b
 | (n,k)::r,a,h,b=>by
  rw[jc]
  split
  ·rename_i g
   refine fU r _ (λy d=>h y (cG _ d)) λx c e=>?_;obtain⟨l,f⟩:=h (n,k) cg (by simpa using g)
   rw[t8] at e
   split at e
   ·rename_i i
    have j:x=n:=by simpa using i
    subst j;simp only at f;rw[f] at e ⊢;exact e
   ·exact b x c e
  ·exact fU r a (λy d=>h y (cG _ d)) b
theorem ql{env:Env}:∀(names:List (Str×NameKind))(a:List (Str×Addr))(x:Str),((x,NameKind.free)∈names\/∃c,a.lookup x=some c)->∃c,(jc env names a).lookup x=some c
 | [],a,x,h=>by
  rcases h with h|h
  ·cases h
  ·exact h
 | (n,k)::r,a,x,h=>by
  rw[jc]
  split
  ·rename_i b
   refine ql r _ x ?_
   by_cases e:x=n
   ·subst e;exact .inr ⟨(env.cells.lookup x).getD 0,by simp[t8]⟩
   ·have ne:(x==n)=false:=by simpa using e
    rcases h with h| ⟨c,h⟩
    ·rcases cC.mp h with z|z
     ·cases z;exact absurd rfl e
     ·exact .inl z
    ·exact .inr ⟨c,by rw[t8,ne];exact h⟩
  ·rename_i b
   refine ql r a x ?_
   rcases h with h|h
   ·rcases cC.mp h with z|z
    ·cases z;exact absurd rfl b
    ·exact .inl z
   ·exact .inr h
def nW(src:List (Option Nat))(a:St):St:=src.map λo=>o.bind λi=>(a[i]?).bind id
def dk(a:Scope)(b:List Str):List (Option Nat)->List Str->Prop
 | [],[]=>True
 |none::r,_::n=>dk a b r n
 |some i::r,x::n=>b[i]? =some x/\a.names.lookup x=some .free/\dk a b r n
 |_,_=>False
theorem dk.len:∀{src:List (Option Nat)}{NC:List Str},dk a b src NC->src.length=NC.length
 | [],[],_=>rfl
 |none::r,_::n,h=>by have:=dk.len (src:=r) (NC:=n) h;simp[this]
 |some i::r,_::n,h=>by have:=dk.len (src:=r) (NC:=n) h.2.2;simp[this]
 | [],_::_,h=>h.elim
 |none::_,[],h=>h.elim
 |some _::_,[],h=>h.elim
theorem dk.at{a:Scope}{d:List Str}:∀{src:List (Option Nat)}{NC:List Str}{j i:Nat}{x:Str},dk a d src NC->src[j]? =some (some i)->NC[j]? =some x->d[i]? =some x/\a.names.lookup x=some .free
 | [],[],_,_,_,_,h,_=>by simp at h
 |none::r,_::n,0,_,_,_,h,_=>by simp at h
 |none::r,_::n,j+1,i,x,h,b,c=>dk.at (src:=r) (NC:=n) (j:=j) h (by simpa using b) (by simpa using c)
 |some k::r,y::n,0,i,x,h,b,c=>by
  have e:k=i:=by simpa using b
  have f:y=x:=by simpa using c
  subst e f;exact⟨h.1,h.2.1⟩
 |some k::r,_::n,j+1,i,x,h,b,c=>dk.at (src:=r) (NC:=n) (j:=j) h.2.2 (by simpa using b) (by simpa using c)
 | [],_::_,_,_,_,h,_,_=>h.elim
 |none::_,[],_,_,_,h,_,_=>h.elim
 |some _::_,[],_,_,_,h,_,_=>h.elim
structure cu (X:Cx) (scope:Scope):Prop where
 kind:scope.kind= .function
 names:∀x∈scope.names,x.2= .local->scope.names.lookup x.1=some .local
 nocell:∀x∈scope.names,x.2≠ .cell
 free:∀x∈scope.names,x.2= .free->X.env.kindOf x.1=some .cell\/X.env.kindOf x.1=some .free
theorem iY{env:Env}:∀(names:List (Str×NameKind))(x:Str),
  (names.map λ(n,k)=>if (k==NameKind.free&&env.scope.kind== .function&&env.kindOf n==some .cell) then(n,NameKind.cell) else(n,k)).lookup x=
   (names.lookup x).map λk=>if (k==NameKind.free&&env.scope.kind== .function&&env.kindOf x==some .cell) then NameKind.cell else k
 | [],_=>rfl
 | (n,k)::r,x=>by
  have c:=iY (env:=env) r x;show bz x ((if (k==NameKind.free&&env.scope.kind== .function&&env.kindOf n==some .cell)=true then(n,NameKind.cell) else(n,k))::_)=_;cases b:x==n with
  |true=>
   have e:x=n:=by simpa using b
   subst e
   by_cases a:(k==NameKind.free&&env.scope.kind== .function&&env.kindOf x==some .cell)=true
   ·rw[tz a,t8,t8]
    simp only[b];show some NameKind.cell=some (if _ then _ else _);rw[tz a]
   ·rw[ir a,t8,t8]
    simp only[b];show some k=some (if _ then _ else _);rw[ir a]
  |false=>
   by_cases a:(k==NameKind.free&&env.scope.kind== .function&&env.kindOf n==some .cell)=true
   ·rw[tz a];simp only[t8,b];exact c
   ·rw[ir a];simp only[t8,b];exact c
theorem mem_lookup{names:List (Str×NameKind)}{x:Str}{k:NameKind}(h:names.lookup x=some k):(x,k)∈names:=aap h
def b8(X:Cx)(a:Scope)(NC:List Str)(ex:List Addr)(s:Shared)(H:Hp):Cx:=
 {X with N:=NC,s₀:=s,H₀:=H,env:=compEnvC a (jc X.env a.names []) s.heap.objs.size X.env,outer:=X.stack,stack:=X.stack,ex:=ex,fn:=λ_=>false,pn:= [],xe:=λ_ _=>False}
section
variable {X:Cx} {pins:List (Addr×Obj)} {σ:St} {H:Hp} {s:Shared} {scope:Scope} {NC:List Str} {ex:List Addr} {src:List (Option Nat)}
theorem cu.cells(c:cu X scope)(ok:X.Ok):∀x∈scope.names,x.2= .free->∃c,X.env.cells.lookup x.1=some c:=λx a e=>ok.has x.1 (c.free x a e)
theorem cu.RK(c:cu X scope)(h:(compEnvC scope (jc X.env scope.names []) C X.env).kindOf x=some k)(i:k= .cell\/k= .free):scope.names.lookup x=some .free:=by
 have a:(relabel scope X.env).names.lookup x=some k:=h;unfold relabel at a;rw[iY] at a;cases e:scope.names.lookup x with
 |none=>rw[e] at a;cases a
 |some b=>
  have g:=c.nocell _ (mem_lookup e);rw[e] at a;have f:(if (b==NameKind.free&&X.env.scope.kind== .function&&X.env.kindOf x==some .cell) then NameKind.cell else b)=k:=FB a
  by_cases d:b= .free
  ·rw[d]
  ·have j:(b==NameKind.free)=false:=by simpa using d
   rw[j,yS,yS,ir di] at f
   rcases i with z|z
   ·rw[f] at g;exact absurd z g
   ·rw[f] at d;exact absurd z d
theorem JA(I:Inv X pins σ H s)(c:cu X scope)(f:∀b∈ex,f9 X pins H b)(g:∀b∈ex,b<s.heap.objs.size):(b8 X scope NC ex s H).Ok where
 mod:=I.ok.mod
 kind:=c.kind
 glob:=I.ok.glob
 blt:=I.ok.blt
 above:=bJ _
 inj:=λx y d i j=>I.ok.inj x y d (fU _ _ (c.cells I.ok) (λ_ _ z=>by cases z) x d i) (fU _ _ (c.cells I.ok) (λ_ _ z=>by cases z) y d j)
 has:=λx k=>ql _ _ x (.inl (mem_lookup (by rcases k with h|h<;>exact c.RK h (by simp))))
 cab:=λ_ _ z=>by cases z
 hd:=I.ok.hd
 frames:=I.ok.frames
 stk:= .inl rfl
 exf:=λb a=>⟨cn (g b a),λx d e=>(f b a).2.2.2.2.1 x d (fU _ _ (c.cells I.ok) (λ_ _ z=>by cases z) x d e)⟩
 bs:=I.bs
 bsz:=mM I.ok.bsz I.sz
 noex:=λb o e a=>by
  rcases(f b a).2.2.2.1 with z|z
  ·exact I.ok.noex b o e z
  ·exact absurd (ic (Fk e) (mM I.ok.bsz z)) (iS _)
 exfs:=λb a z=>(cC.mp (I.BO b z)).elim (f b a).2.1 (f b a).2.2.1
 funs:=I.stack
 frf:=I.DR
theorem zD{tk:Nat}(I:Inv X pins σ H s)(c:cu X scope)(A:dk scope X.N src NC)(E:∀b∈ex,f9 X pins H b)(F:∀b∈ex,b<s.heap.objs.size)
  (G:h.Ns s.heap.objs.size (λ_=>none)) (J:Heap.SameBut s.heap.objs.size (s.heap.push C) h):
  Inv (b8 X scope NC ex s H) [] (nW src σ) H {s with heap:=h,toks:=tk}:=by
 have f:∀b o,s.heap.get? b=some o->h.get? b=some o:=λb o e=>J.extBut b o (cn (Fk e)) (AC _ e);have t:∀x d,(jc X.env scope.names []).lookup x=some d->X.env.cells.lookup x=some d:=λx d=>fU _ _ (c.cells I.ok) (λ_ _ z=>by cases z) x d
 have a:∀d v,s.heap.IsCell d v->h.IsCell d v:=λd v ⟨o,L,k⟩=>⟨o,f d o L,k⟩;refine⟨JA I c E F,rfl,I.bare,Un.kept f,⟨_,G,λj x v M O U=>?_⟩,λx d e=>?_,I.hok.fresh (bJ _),λx d e=>I.freeC x d (t x d e),λp P=>absurd (show p∈([]:List (Addr×Obj)) from P) (by simp),I.hok.kept f,?_⟩
 ·have g:(nW src σ)[j]? =some (some v):=O
  unfold nW at g;rw[dF] at g;cases w:src[j]? with
  |none=>rw[w] at g;cases g
  |some o=>
   rw[w] at g;cases o with
   |none=>cases g
   |some i=>
    have n:(σ[i]?).bind id=some v:=FB g
    have Q:σ[i]? =some (some v):=by
     cases q:σ[i]? with
     |none=>rw[q] at n;cases n
     |some z=>rw[q] at n;exact Gc some n
    rfl';obtain⟨S,y⟩:=A.at w M;have B:=c.free _ (mem_lookup y) rfl;obtain⟨m,Z,T⟩:=I.loc;obtain⟨u,r,l⟩:=T i x v S Q (B.elim (λz=> .inr (.inl z)) (λz=> .inr (.inr z)));ac_rfl;refine⟨u,r, .inr ⟨?_,?_⟩⟩
    ·show(relabel scope X.env).names.lookup x=_\/(relabel scope X.env).names.lookup x=_
     unfold relabel;rw[iY,y]
     by_cases z:(NameKind.free==NameKind.free&&X.env.scope.kind== .function&&X.env.kindOf x==some .cell)=true
     ·left;simp only[Option.map_some,z,aaq]
     ·right;simp only[Option.map_some,z];rfl
    ·obtain⟨d,k⟩:=ql (env:=X.env) scope.names [] x (.inl (mem_lookup y))
     refine⟨d,k,?_⟩
     rcases l with ⟨l,_⟩ | ⟨_,d',e,z⟩
     ·exfalso;rcases B with z|z<;>(rw[l] at z;cases z)
     ·rw[t x d k] at e;cases e;exact a d _ z
 ·obtain⟨v,z⟩:=I.cell x d (t x d e)
  exact⟨v,a d v z⟩
 ·show(nW src σ).length=NC.length
  unfold nW;rw[aD];exact A.len
theorem comp_back(I:Inv X pins σ H s)(p:∀b∈ex,f9 X pins H b)(J:Inv (b8 X scope NC ex s H) m l g c)
  (r:Heap.SameBut s.heap.objs.size c.heap i):Inv X pins σ g {c with heap:=i}:=by
 have h:∀b o,b≠s.heap.objs.size->c.heap.get? b=some o->i.get? b=some o:=λb o a e=>r.extBut b o a e;have ne:∀b o,s.heap.get? b=some o->b≠s.heap.objs.size:=λb o e=>cn (Fk e);have u:=J.base;refine I.P5 (ch:=ex) (show c.os=s.os from J.os) ⟨λb o e n a f=>h b o (ne b o e) (u.keep b o e n a f),λb o e n a f=>?_,u.free,λb o e f=>?_,u.tups,u.frzs,u.tbls⟩ ?_ J.bare λb a=>?_
 ·obtain⟨t,q⟩:=u.slot b o e n a f
  exact⟨t,h b _ (ne b o e) q⟩
 ·obtain⟨j,q⟩:=u.there b o e f
  exact⟨j,h b j (ne b o e) q⟩
 ·intro b o e
  have k:∀b o,g b=some o->b≠s.heap.objs.size:=λb o e z=>by
   have:=J.free
   rw[z] at e;have w:g s.heap.objs.size=none:=this;rw[w] at e;cases e
  refine(J.hok b o e).vt (λd v x q=>h d v ?_ q) (λ_ q=>q) λ_ _ q=>q
  rcases x with z|z
  ·rw[z];exact k b o e
  ·exact k d _ z
 ·obtain⟨_,y,_,A,B,C⟩:=p b a
  exact⟨A,y,B,C⟩
end
def mQ(X:Cx)(b:List Expr)(t:TT):Prop:=
 ∀(a:List (Addr×Obj))(s:Shared)(d:St)(H:Hp)(Q:Bool->Hp->Prop),Inv X a d H s->t d H Q->
  wpAny (model X.prog X.w) X.A (forIn b true λc r=>if r=true then do let ok <-isTrue c X.env (eval c X.env);pure (ForInStep.yield ok) else pure (ForInStep.yield r)) (TP X a d Q) X.xe s
def ZC:TT:=λ_ H Q=>Q true H
theorem Lw:mQ X [] ZC:=λ_ _ _ H _ I h=>wpAny_tests_nil ⟨H,I,h⟩
theorem Lx(h:PT X c t):mQ X [c] t:=λa s b H Q I q=>wpAny_tests_one (h a s b H Q I q)
def ZT(J:It)(g:TG)(o:TT)(p:TE)(D:Addr)(Q:VK)(q:St)(H:Hp):Prop:=
 ∃W:Nat->Nat->St->Hp->Prop,(∃m,W 0 m q H)/\∀i m e a,W i m e a->
  (J.stop i a/\Q (.ref D) a)\/
  (J.go i a/\∃N:St->Hp->Prop,(∀f h,N f h->∃j,j<m/\W (i+1) j f h)/\∀x k,J.yld i a x k->g x e k λc r=>o c r λb l=>
   if b=true then p c l λv n=>∃d,n D=some (.lst d)/\d.length<sizeLine/\N c (upd n D (.lst (d++ [v]))) else N c l)
def Oo(c:TI)(g:TG)(d:TT)(e:TE)(src:List (Option Nat)):TE:=λa H Q=>c a H λJ b=>∀D,b D=none->ZT J g d e D Q (nW src a) (upd b D (.lst []))
section
variable {X:Cx} {elt iter tg:Expr} {ifs:List Expr} {scope:Scope} {pos:Pos} {wi:TI} {g:TG} {tt:TT} {te:TE} {src:List (Option Nat)} {NC:List Str}
theorem u4{RR:Value->Addr->Result->Shared->Prop}{Q:VK}
  (hc:X.calm=true) (c:cu X scope) (eI:dk scope X.N src NC) (I2:Inv X j σ I B) (T:Turn X.prog X.w X.K tg J F it tn) (j5:tn 0 B.heap) (f2:∀b∈F,f9 X j I b)
  (hg:∀s H,PG (b8 X scope NC F s H) tg g) (ht:∀s H,mQ (b8 X scope NC F s H) ifs tt) (he:∀s H,PE (b8 X scope NC F s H) elt te)
  (hW:∀D,I D=none->∃W:Nat->Nat->St->Hp->Prop,(∃m,W 0 m (nW src σ) (upd I D (.lst [])))/\∀i m fA I,W i m fA I->
   (J.stop i I/\Q (.ref D) I)\/
   (J.go i I/\∃N:St->Hp->Prop,(∀G a,N G a->∃m',m'<m/\W (i+1) m' G a)/\∀x U,J.yld i I x U->g x fA U λfJ H4=>tt fJ H4 λb H5=>
    if b=true then te fJ H5 λv H6=>∃ys,H6 D=some (.lst ys)/\ys.length<sizeLine/\N fJ (upd H6 D (.lst (ys++ [v]))) else N fJ H5))
  (Q4:∀D C U G a M,Inv X j σ U C->(∀b∈F,f9 X j U b)->Inv (b8 X scope NC F C U) [] G a M->Q (.ref D) a->RR (.ref D) C.heap.objs.size (.ok .next) M):
  wpAny (model X.prog X.w) X.A (newList []) (λacc L8=>wpAny (model X.prog X.w) X.A (newFunctionEnv scope X.env.globals (jc X.env scope.names []) [] X.env.qual none .none (some X.env)) (λoI yx=>
   codeAny (model X.prog X.w) X.A (.compStart (.ListComp elt [⟨tg,iter,ifs,0⟩] scope pos) 0 (.ref it) acc {oI with scope:=relabel scope X.env}) (RR acc oI.locals) yx) E L8) E B:=by
 rfl';obtain⟨W,⟨m0,w0⟩,turn⟩:=hW B.heap.objs.size I2.fresh;have I3:Inv X j σ (upd I B.heap.objs.size (.lst [])) {B with heap:=B.heap.push {cls:= .type "list",data:= .seq ([]:List Value).toArray}}:=I2.GF (its:= []) (t':=B.toks) .nil (cF _)
 ac_rfl
 have Io:∀b∈F,b<B.heap.objs.size:=λb l=>by
  obtain⟨o,e,_⟩:=T.obj _ _ j5 b l;exact Fk e
 have f3:∀b∈F,f9 X j (upd I B.heap.objs.size (.lst [])) b:=λb l=>⟨by rw[aN (cn (Io b l))];exact(f2 b l).1,(f2 b l).2⟩
 refine PP ?_
 suffices key:∀C:Shared,Inv X j σ (upd I B.heap.objs.size (.lst [])) C->(∀b o,B.heap.get? b=some o->C.heap.get? b=some o)->
   wpAny (model X.prog X.w) X.A (newFunctionEnv scope X.env.globals (jc X.env scope.names []) [] X.env.qual none .none (some X.env)) (λoI yx=>
    codeAny (model X.prog X.w) X.A (.compStart (.ListComp elt [⟨tg,iter,ifs,0⟩] scope pos) 0 (.ref it) (.ref B.heap.objs.size) {oI with scope:=relabel scope X.env}) (RR (.ref B.heap.objs.size) oI.locals) yx) E C from
  key _ I3 λb o e=>AC _ e
 intro C I3 Sz;have vW:tn 0 C.heap:=T.keep _ _ _ j5 λb _ o e=>Sz b o e
 have Fe:∀b∈F,b<C.heap.objs.size:=λb l=>by
  obtain⟨o,e,_⟩:=T.obj _ _ vW b l;exact Fk e
 generalize hH3:upd I B.heap.objs.size (.lst [])=U at I3 f3 w0;refine wpAny_newFunctionEnv c.nocell (by intro y hy;simp at hy) (λh1 A6 A9=>?_) c.kind
 have I4:=zD (src:=src) (NC:=NC) (ex:=F) (tk:=C.toks+([]:List (Str×Value)).length) I3 c eI f3 Fe A6 A9;have L5:tn 0 h1:=T.keep _ _ _ vW λb l o e=>A9.extBut b o (cn (Fe b l)) (AC _ e);generalize L:b8 X scope NC F C U=k at I4
 have R:∀{a:Hp},(∀b∈F,a b=none)->∀b∈F,f9 k [] a b:=λ {a} hn b l=>by
  subst L;refine⟨hn b l,cn (Fe b l),λz=>?_, .inl l,λx d e=>?_,λp hp=>absurd (show p∈([]:List (Addr×Obj)) from hp) (by simp)⟩
  ·exact(I4.ok.exfs b l) z
  ·exact(I4.ok.exf b l).2 x d e
 have Y:codeAny (model X.prog X.w) X.A (.compLoop (.ListComp elt [⟨tg,iter,ifs,0⟩] scope pos) 0 (.ref it) (.ref B.heap.objs.size) k.env) (RR (.ref B.heap.objs.size) C.heap.objs.size)
   {C with heap:=h1,toks:=C.toks+([]:List (Str×Value)).length}:=by
  refine acA rfl (λn M=>∃i G a,Inv k [] G a M/\tn i M.heap/\(∀b∈F,a b=none)/\W i n G a) (λn M hI=>?_) m0 ⟨0,_,_,I4,L5,λb l=>(f3 b l).1,w0⟩;obtain⟨i,G,a,I5,vX,zh,w5⟩:=hI;show wpAny _ X.A ((compTurn (.ListComp elt [⟨tg,iter,ifs,0⟩] scope pos) 0 (.ref it) (.ref B.heap.objs.size) k.env).onRaise (λx=>do noteFrame x k.env;theTreesLotGoes x)) _ _ M
  refine wpAny_noted ?_;rw[compTurn_list]
  have kZ:∀{α:Type}{t:Sem α}{Q:α->Shared->Prop}{E:Value->Shared->Prop}{s:Shared},wpAny (model k.prog k.w) k.A t Q k.xe s->wpAny (model X.prog X.w) X.A t Q E s:=λ {α t Q E s} h=>by
   subst L;exact wpAny_mono h (λ_ _ q=>q) λ_ _ f=>f.elim
  have HU:k.calm=true:=by subst L;exact hc
  have eP:k.prog=X.prog:=by subst L;rfl
  have ew:k.w=X.w:=by subst L;rfl
  have eK:k.K=X.K:=by subst L;rfl
  have eA:k.A=X.A:=by subst L;rfl
  have Rl:PG k tg g:=by subst L;exact hg _ _
  have Rz:mQ k ifs tt:=L▸ht _ _;have Rh:PE k elt te:=L▸he _ _;refine be (aam (be ?_))
  rcases turn i n G a w5 with ⟨stop,qn⟩ | ⟨go,N,hN,step⟩
  ·have hd:=T.done k eP ew eK HU i [] M G a (notedBy (model X.prog X.w) X.A k.env λe M=>RR (.ref B.heap.objs.size) C.heap.objs.size (.error e) M) I5 (R zh) vX stop
   rw[eA] at hd;refine thn hd λr s6 O=>?_;obtain⟨hr,I6⟩:=O;subst hr;refine mo ?_;subst L;exact Q4 _ C U G a s6 I3 f3 I6 qn
  ·have hd:=T.item k eP ew eK HU i [] M G a (notedBy (model X.prog X.w) X.A k.env λe M=>RR (.ref B.heap.objs.size) C.heap.objs.size (.error e) M) I5 (R zh) vX go
   rw[eA] at hd;refine thn hd λr s6 O=>?_;rfl';obtain⟨u,hr,h6⟩:=O;ac_rfl;subst hr;refine be (thn h6 λ_ s7 O=>?_);rfl';obtain⟨x,H7,I7,r7,y7,yt,J5⟩:=O;ac_rfl;have Ji:=I7.pinned (R J5) (T.obj _ _ yt)
   have again:∀{S:St}{Z:Hp}{s8:Shared},Inv k ([]++nh F s7.heap) S Z s8->N S Z->∃m,m<n/\∃i G a,Inv k [] G a s8/\tn i s8.heap/\(∀b∈F,a b=none)/\W i m G a:=λ {S Z s8} I8 n8=>by
    obtain⟨m',hm,w8⟩:=hN S Z n8;refine⟨m',hm,i+1,S,Z,I8.jC,T.keep _ _ _ yt λb l o e=>(I8.pin (b,o) (gm _ (gm _ (e6 l e)))).1,λb l=>?_,w8⟩;obtain⟨o,e,d⟩:=T.obj _ _ yt b l;exact(I8.pin (b,o) (gm _ (gm _ (e6 l e)))).2.1
   refine be (kZ (thn (Rl _ s7 G H7 x u _ Ji r7 (step x H7 y7)) λ_ s8 O=>?_));rfl';obtain⟨S,Z,I8,q8⟩:=O;ac_rfl;refine be (kZ (thn (Rz _ s8 S Z _ I8 q8) λb s9 O=>?_));obtain⟨H9,I9,q9⟩:=O;cases b with
   |false=>
    rw[ir di] at q9;exact mo ⟨L▸rfl,again I9 q9⟩
   |true=>
    rw[tz rfl] at q9;refine be (be (kZ (thn (Rh _ s9 S H9 _ I9 q9) λy N9 O=>?_)));rfl';obtain⟨v,Jf,PY,R9,ys,hD,hz,R7⟩:=O;ac_rfl;refine be (kZ (thn (rS _ N9 S Jf (.ref B.heap.objs.size) [v] _ [y] (λ_ a=>N S a) PY rfl (.cons R9 .nil) ⟨_,ys,v,rfl,rfl,hD,hz,R7⟩) λ_ Oa O=>?_));rfl';obtain⟨_,Mq,Jg,_,R8⟩:=O;ac_rfl;exact mo (mo ⟨L▸rfl,again Jg R8⟩)
 subst L;exact ack Y (T.self _ 0 _ _ _ L5 Y)
theorem Lh(j:X.calm=true)(c:cu X scope)(k:dk scope X.N src NC)(l:PI X tg iter wi)
  (n:∀b s H,PG (b8 X scope NC b s H) tg g) (o:∀b s H,mQ (b8 X scope NC b s H) ifs tt) (p:∀b s H,PE (b8 X scope NC b s H) elt te)
  (r:∀x,foldedSetIterable iter X.env x=pure x:=by intro _;rfl):PE X (.ListComp elt [⟨tg,iter,ifs,0⟩] scope pos) (Oo wi g tt te src):=by
 intro a s f H Q I h;rw[eval_ListComp];refine aax (use:=none) rfl r (fV (c.cells I.ok)) c.kind c.names (thn (l a s f H _ I h) λv R t=>thn t λS U u=>?_);rfl';obtain⟨Z,d,tn,J,H2,rfl,z,T,B,E,F⟩:=u;ac_rfl;refine u4 (RR:=λe C=>compPost (model X.prog X.w) X.A X.xe none (EP X a f Q) e C) (Q:=Q) j c k z T B E (n d) (o d) (p d) F ?_;intro D s3 H3 aA G s' L M i q;obtain⟨m,O,_⟩:=i.loc;exact⟨m,O,λh' P=>⟨.ref D,G,comp_back L M i P,rfl,q⟩⟩
def Om(b:TI)(g:TG)(c:TT)(d:TE)(src:List (Option Nat))(i:Nat):TS:=λD a H=>Oo b g c d src a H λv e=>D.nx (a.set i (some v)) e
theorem Ae(hc:X.calm=true)(hN:X.N.Nodup)(fb:X.N[i]? =some x)(hx:Loc X.env.scope x)(c:cu X scope)(eI:dk scope X.N src NC)(hi:PI X tg iter wi)
  (hg:∀t s H,PG (b8 X scope NC t s H) tg g) (ht:∀t s H,mQ (b8 X scope NC t s H) ifs tt) (he:∀t s H,PE (b8 X scope NC t s H) elt te)
  (kW:swapsWith (.ListComp elt [⟨tg,iter,ifs,0⟩] scope pos) (some (.Name x r)) P.line X.env=pure true)
  (hf:X.fn x=true\/X.env.scope.names.lookup x=some .local:=by first|exact .inl rfl|exact .inr rfl|assumption)
  (hs:∀x,foldedSetIterable iter X.env x=pure x:=by intro _;rfl):PS X (.Assign [.Name x r] (.ListComp elt [⟨tg,iter,ifs,0⟩] scope pos) P) (Om wi g tt te src i):=by
 intro f s u H D I h;rw[exec_Assign_Name_used _ _ _ _ kW];refine be (aam (be ?_));show wpAny _ X.A (do let _ <-comprehension (.ListComp elt [⟨tg,iter,ifs,0⟩] scope pos) scope X.env _ (newList []) false (eval iter X.env) (some (assign (.Name x r) X.env))) _ _ s
 refine be (wpAny_mono (aax (use:=some (assign (.Name x r) X.env)) (Q:=λ_ j=>SP X f D .next j) rfl hs (fV (c.cells I.ok)) c.kind c.names
  (thn (hi f s u H _ I h) λv s1 h1=>thn h1 λBc s2 h2=>?_)) (λ_ j hq=>mo (mo hq)) λ_ _ e=>e)
 rfl';obtain⟨it,F,tn,J,H2,rfl,I2,T,j5,f2,hW⟩:=h2;ac_rfl;refine u4 (RR:=λG C=>compPost (model X.prog X.w) X.A X.xe (some (assign (.Name x r) X.env)) (λ_ j=>SP X f D .next j) G C) (Q:=λv k=>D.nx (u.set i (some v)) k) hc c eI I2 T j5 f2 (hg F) (ht F) (he F) hW ?_;intro a l H3 aA k j n f3 L q;obtain⟨m,hn,_⟩:=L.loc;have R:Inv X f u k j:=comp_back n f3 L (.refl ..);have S:l.heap.objs.size≠X.env.locals:=abg n.lt
 have nc:∀y d,X.env.cells.lookup y=some d->d≠l.heap.objs.size:=λy d e z=>by
  obtain⟨v,hv⟩:=n.cell y d e
  have:=hv.lt
  rw[z] at this;exact absurd this (iS _)
 have np:∀p∈X.pn++f,p.1≠l.heap.objs.size:=λp B z=>by
  have:=Fk (n.pin p B).1
  rw[z] at this;exact absurd this (iS _)
 rfl';obtain⟨M,es,ep,Rw,U,rC⟩:=id hn;have Y:k l.heap.objs.size=none:=L.free;ac_rfl
 have IP:Inv X ((l.heap.objs.size,M)::f) u k j:=R.mr λp B=>by
  rcases cC.mp B with z|z
  ·rw[z]
   exact⟨Rw,Y,S,n.K3 (bJ _),λv w=>by rw[U] at w;cases w⟩
  ·exact R.pin p (gm _ z)
 refine abO (jA (x:=x) IP hN fb hx (v:= .ref a) rfl (λZ O=>?_) hf);have Q0:=(O.pin (l.heap.objs.size,M) (gm _ cg)).1;refine⟨m,⟨M,es,ep,Q0,U,rC⟩,λh6 sb=>?_⟩;have Jh:Inv X f (u.set i (some (.ref a))) k Z:=O.mr λp B=>O.pin p (gm _ (cG _ B));exact⟨_,k,Jh.turned (t':=Z.toks) (it:=l.heap.objs.size) (λb o hb e=>sb.extBut b o hb e) Y S (.inr n.sz) nc np,q⟩
end
section
variable {X:Cx} {pins:List (Addr×Obj)} {σ:St} {H:Hp} {s:Shared} {h':Heap} {fp:List Addr}
theorem Inv.DX{t':Nat}(I:Inv X pins σ H s)(d:∀b∈fp,f9 X pins H b)(k:∀b o,b∉fp->s.heap.get? b=some o->h'.get? b=some o):Inv X pins σ H {s with heap:=h',toks:=t'}:=by
 refine I.step (g':=s.gens) (d':=s.drawn) (ch:=fp) (λb g=>?_) (λb o _ _ a e _=>k b o a e) (λb o _ _ a e _=>⟨o.slots,k b o a e⟩) (λ_ _ _ _ n=>n)
  (λb o a e=>⟨o,k b o a e⟩) (λ_ _ e=>e) (λ_ _ _ e=>e) (λb y e=>⟨#[],by rw[e];simp⟩) (λm h=>?_) (λb u e=>?_) I.bare
 ·obtain⟨_,i,_,j,l,p⟩:=d b g
  exact⟨j,i,l,p⟩
 ·obtain⟨o,t,w,x,r⟩:=h
  exact⟨o,t,w,k _ o (λz=>(d _ z).2.1 rfl) x,r⟩
 ·have f:∀b u,H b=some u->b∉fp:=λb u e z=>by rw[(d b z).1] at e;cases e
  refine(I.hok b u e).vt (λc v a q=>k c v ?_ q) (λ_ q=>q) λ_ _ q=>q
  rcases a with z|z
  ·rw[z];exact f b u e
  ·exact f c _ z
theorem Inv.Md(I:Inv X pins σ H s)(g:∀b∈fp,f9 X pins H b)(k:∀b o,b∉fp->s.heap.get? b=some o->h'.get? b=some o)(i:s.heap.objs.size<=t)
  (new:dO X.prog X.w (upd H t o) h' t o):Inv X pins σ (upd H t o) {s with heap:=h',toks:=t'}:=by
 have l:H t=none:=I.hok.fresh i;have d:∀b u,H b=some u->upd H t o b=some u:=λb u e=>by rw[aN (bu e l)];exact e
 refine I.step (g':=s.gens) (d':=s.drawn) (ch:=fp) (λb f=>?_) (λb o _ _ a e _=>k b o a e) (λb o _ _ a e _=>⟨o.slots,k b o a e⟩) (λb o _ e n=>?_)
  (λb o a e=>⟨o,k b o a e⟩) (λb G e=>d b _ e) (λb _ _ e=>d b _ e) (λb J e=>⟨#[],by rw[d b _ e];simp⟩) (λm p=>?_) (λb u e=>?_) I.bare
 ·obtain⟨_,x,_,y,A,B⟩:=g b f
  exact⟨y,x,A,B⟩
 ·rw[aN (cn (ic (Fk e) i))];exact n
 ·obtain⟨o,C,E,F,r⟩:=p
  exact⟨o,C,E,k _ o (λz=>(g _ z).2.1 rfl) F,r⟩
 ·by_cases f:b=t
  ·subst f
   rw[aB] at e;cases FB e;exact new
  ·rw[aN f] at e
   have j:∀b u,H b=some u->b∉fp:=λb u e z=>by rw[(g b z).1] at e;cases e
   refine(I.hok b u e).vt (λc v a q=>k c v ?_ q) (λh q=>d h _ q) λh _ q=>d h _ q
   rcases a with z|z
   ·rw[z];exact j b u e
   ·exact j c _ z
end
def PZ(K:ac)(a:Addr):It:=
 ⟨λi H=>∃b x,cM K H a b/\b[i]? =some x,λi H y c=>∃t x,y= .ref t/\H t=none/\c=upd H t (.tup [.int i,x])/\∀b,cM K H a b->b[i]? =some x,λi H=>∃b,cM K H a b/\b.length<=i⟩
theorem CW(e:h.get? t=some {cls:= .type "tuple",data:= .seq #[u,v]}):IsTup h t [u,v].toArray:=⟨_,e,rfl,_,rfl⟩
theorem F1{P:Program}{w:World}{K:ac}{Y:List Expr}{k1}{Z:Pos}(a e l:Addr)(ne:e≠l):
  Turn P w K (.Tuple Y k1 Z) (PZ K a) [e,l] e (λi h=>(∃g,IsEnum h e l i g)/\h.IsListIter l a i) where
 mem:=by simp
 obj:=λi h st b f=>by
  obtain⟨⟨g,m⟩,o,A,c,d⟩:=st
  rcases cC.mp f with z|z
  ·subst z
   exact⟨_,m,λv w=>by cases w⟩
  ·have B:b=l:=by simpa using z
   subst B;exact⟨o,A,λv z=>by rw[d] at z;cases z⟩
 keep:=λi h t st k=>by
  obtain⟨⟨g,m⟩,j5⟩:=st;exact⟨⟨g,k e (by simp) _ m⟩,j5.at λo q=>k l (by simp) o q⟩
 item:=by
  intro X C hw F R i j s S H E I r st G;rfl';subst C hw F;obtain⟨xs,x,y,L⟩:=G;obtain⟨M,N,p,hz⟩:=I.list y;obtain⟨u,hu,ru⟩:=N.get L;obtain⟨⟨g,m⟩,n⟩:=st;ac_rfl;refine wpAny_pyNext_enum_item m n p.isList (x:=u) (by simpa using hu) ne λt AV Kk O aag kk=>?_
  have k2:∀b o,b∉ [e,l]->s.heap.get? b=some o->t.get? b=some o:=λb o f q=>kk b o (λz=>f (by simp[z])) (λz=>f (by simp[z])) q
  have I1:Inv X j S (upd H s.heap.objs.size (.tup [.int i,x])) {s with heap:=t,toks:=s.toks+1}:=
   I.Md r k2 (bJ _) ⟨by show 2<=sizeLine;decide,[.int i s.toks,u], .cons ⟨_,rfl⟩ (.cons ru .nil),CW O⟩
  refine⟨_,rfl,wpAny_letOwnedTupleGo_enum AV λh2 Q T=>?_⟩
  have lt:∀b∈ [e,l],b<s.heap.objs.size:=λb f=>by
   rcases cC.mp f with z|z
   ·rw[z];exact Fk m
   ·obtain⟨o,A,_⟩:=n
    have B:b=l:=by simpa using z
    rw[B];exact Fk A
  have U:∀b∈ [e,l],f9 X j (upd H s.heap.objs.size (.tup [.int i,x])) b:=λb f=>⟨by rw[aN (cn (lt b f))];exact(r b f).1,(r b f).2⟩
  refine⟨.ref s.heap.objs.size,_,I1.DX (t':=s.toks+1) U (λb o f q=>T.extBut b o (λz=>f (by simp[z])) q),rfl,⟨_,x,rfl,I.hok.fresh (bJ _),rfl,λys hy=>by rw[I.z4 hy y];exact L⟩,⟨⟨u,?_⟩,Kk.extBut T.extBut (Ne.symm ne)⟩,λb f=>(U b f).1⟩
  have z:((i+1:Nat):Int)=(i:Int)+1:=by lia
  rw[z];exact Q
 done:=by
  intro X C hw F R i j s S H E I r st G;rfl';subst C hw F;obtain⟨xs,y,L⟩:=G;obtain⟨M,N,p,hz⟩:=I.list y;have hl:=N.length;obtain⟨⟨g,m⟩,n⟩:=st;ac_rfl;exact wpAny_pyNext_enum_end (I.ok.hd R) m n p.isList (by simp;lia) λt eb=>⟨rfl,I.DX (t':=s.toks) r λb o f q=>eb b o (λz=>f (by simp[z])) q⟩
 self:=λ_ _ _ _ _ st h=>by
  obtain⟨⟨g,m⟩,_⟩:=st;exact wpAny_pyIter_enum m h
section
variable {X:Cx}
def RD(K:ac)(c:TA):TI:=λd H R=>c d H λe b=>∃a,e= [.ref a]/\(∃f,b a=some (.lst f))/\R (PZ K a) b
theorem Lm{k1}(t:Gl X "enumerate")(v:X.mg "enumerate"=none)(w:PA X [a] i)(x:starEach [a] X.env= [(false,eval a X.env)]:=by rfl):
  PI X (.Tuple o k1 r) (.Call (.Name "enumerate" p) [a] [] pos) (RD X.K i):=by
 intro d s y H R I h;refine Call_ (iE I t v boot_enumerate (SL (thn (w pos d s y H _ I h) λP c ⟨Q,A,f,B,C⟩=>?_) x rfl));rfl';obtain⟨l,e,⟨T,F⟩,q⟩:=C;subst e;obtain⟨u,rfl,G⟩:=B.one;subst G;obtain⟨z,J,n,U,j,e⟩:=f.pk F;ac_rfl;refine call_enumerate_1 e λY k g Z L=>?_;refine wpAny_pyIter_enum k ?_;have M:c.heap.objs.size+1≠c.heap.objs.size:=Nat.succ_ne_self _;refine⟨c.heap.objs.size+1,[c.heap.objs.size+1,c.heap.objs.size],_,_,A,rfl,f.kept (t':=c.toks) L,F1 l _ _ M,⟨⟨_,k⟩,g⟩,λb N=>?_,q⟩
 have m:c.heap.objs.size<=b:=by
  rcases cC.mp N with z|z
  ·rw[z];exact j9 _
  ·have O:b=c.heap.objs.size:=by simpa using z
   rw[O];exact bJ _
 exact f.J4 m (f.hok.fresh m)
end
end L2
namespace Wb
abbrev W:=List (List Nat)
def row(w:W)(p:Nat):List Nat:=w.getD p []
inductive Reach (w:W):Nat->Nat->Prop
 |refl (p):Reach w p p
 |step {p q r}:Reach w p q->r∈row w q->Reach w p r
structure Good (w:W):Prop where
 rng:∀p q,q∈row w p->q<w.length
 irr:∀p,p∉row w p
 nod:∀p,(row w p).Nodup
 sym:∀p q,q∈row w p->p∈row w q
 con:∀p,p<w.length->Reach w 0 p
theorem b9(h:q∈row w p):p<w.length:=by
 apply GE;intro a;unfold row at h;rw[aU,nX (by lia)] at h
 simp at h
theorem Dw(h:p<w.length):w[p]? =some (row w p):=by
 unfold row;rw[aU,bB h];rfl
theorem Hb(h:w[p]? =some r):row w p=r:=by
 unfold row;rw[aU,h];rfl
theorem Dx(h:w.length<=p):row w p= []:=by
 unfold row;rw[aU,nX h];rfl
theorem Reach.trans(h:Reach w p q)(a:Reach w q r):Reach w p r:=by
 induction a with
 |refl=>exact h
 |step _ b c=>exact .step c b
theorem Reach.symm(a:∀p q,q∈row w p->p∈row w q)(h:Reach w p q):Reach w q p:=by
 induction h with
 |refl=>exact .refl _
 |step _ b c=>exact(Reach.step (.refl _) (a _ _ b)).trans c
theorem Reach.mono{w a:W}(b:∀p q,q∈row w p->q∈row a p)(h:Reach w p q):Reach a p q:=by
 induction h with
 |refl=>exact .refl _
 |step _ c d=>exact .step d (b _ _ c)
def ins{a:Type}(b:List a)(i:Nat)(x:a):List a:=b.take i++x::b.drop i
theorem uk(a:List b)(i:Nat)(x:b):(ins a i x).Perm (x::a):=by
 unfold ins;have h:= @List.perm_middle _ x (a.take i) (a.drop i);rw[hV] at h;exact h
theorem dU:a∈ins b i x↔a=x\/a∈b:=by
 rw[(uk b i x).mem_iff,cC]
theorem rT(h:a.Nodup)(c:x∉a):(ins a i x).Nodup:=by
 rw[(uk a i x).nodup_iff,ie];exact⟨c,h⟩
theorem CT(a:List b)(i:Nat)(x:b):(ins a i x).length=a.length+1:=by
 rw[(uk a i x).length_eq];rfl
theorem yf(h:p<w.length):row (w.set p r) x=if p=x then r else row w x:=by
 unfold row;rw[aU,qj]
 by_cases e:p=x
 ·rw[tz e,tz e,tz h];rfl
 ·rw[ir e,ir e,aU]
def tie(w:W)(p i u j:Nat):W:=(w.set p (ins (row w p) i u)).set u (ins (row w u) j p)
theorem tU(w:W)(p i u j:Nat):(tie w p i u j).length=w.length:=by unfold tie;simp
theorem yg{p i u j x:Nat}(a:p<w.length)(b:u<w.length):row (tie w p i u j) x=if u=x then ins (row w u) j p else if p=x then ins (row w p) i u else row w x:=by
 unfold tie;rw[yf (by simpa using b),yf a]
theorem HN(g:Good w)(l:p<w.length)(m:u<w.length)(ne:u≠p)(k:u∉row w p):Good (tie w p i u j):=by
 have b:=λx=>yg (i:=i) (j:=j) (x:=x) l m;have d:p∉row w u:=λh=>k (g.sym _ _ h)
 have mono:∀x q,q∈row w x->q∈row (tie w p i u j) x:=λx q f=>by
  rw[b]
  split
  ·rename_i e;subst e;exact dU.mpr (.inr f)
  ·split
   ·rename_i e;subst e;exact dU.mpr (.inr f)
   ·exact f
 refine⟨λx q a=>?_,λx a=>?_,λx=>?_,λx q a=>?_,λx a=>?_⟩
 ·rw[b] at a;rw[tU]
  split at a
  ·rcases dU.mp a with e|e
   ·lia
   ·exact g.rng _ _ e
  ·split at a
   ·rcases dU.mp a with e|e
    ·lia
    ·exact g.rng _ _ e
   ·exact g.rng _ _ a
 ·rw[b] at a
  split at a
  ·rename_i c;subst c
   rcases dU.mp a with e|e
   ·exact ne e
   ·exact g.irr _ e
  ·split at a
   ·rename_i c;subst c
    rcases dU.mp a with e|e
    ·exact ne e.symm
    ·exact g.irr _ e
   ·exact g.irr _ a
 ·rw[b];split
  ·exact rT (g.nod _) d
  ·split
   ·exact rT (g.nod _) k
   ·exact g.nod _
 ·rw[b] at a
  split at a
  ·rename_i c;subst c
   rcases dU.mp a with e|e
   ·subst e;rw[b,ir ne,tz rfl];exact dU.mpr (.inl rfl)
   ·exact mono _ _ (g.sym _ _ e)
  ·split at a
   ·rename_i c;subst c
    rcases dU.mp a with e|e
    ·subst e;rw[b,tz rfl];exact dU.mpr (.inl rfl)
    ·exact mono _ _ (g.sym _ _ e)
   ·exact mono _ _ (g.sym _ _ a)
 ·rw[tU] at a;exact(g.con x a).mono mono
theorem good_ren(g:Good w)(m:k.length=w.length)(l:∀p,p<w.length->c p<w.length)
  (inj:∀p q,p<w.length->q<w.length->c p=c q->p=q) (j:∀y,y<w.length->∃p,p<w.length/\c p=y)
  (n:∀p,p<w.length->(row k (c p)).Perm ((row w p).map c)):Good k:=by
 have mem:∀p q,p<w.length->(q∈row k (c p)↔∃a,a∈row w p/\c a=q):=λp q f=>by
  rw[(n p f).mem_iff,bY]
 have reach:∀{p q},Reach w p q->Reach k (c p) (c q):=λ {p q} h=>by
  induction h with
  |refl=>exact .refl _
  |step _ o s=>exact .step s ((mem _ _ (b9 o)).mpr ⟨_,o,rfl⟩)
 refine⟨λy q d=>?_,λy d=>?_,λy=>?_,λy q d=>?_,λy d=>?_⟩
 ·obtain⟨p,f,rfl⟩:=j y (by have:=b9 d;lia)
  obtain⟨a,i,rfl⟩:=(mem p q f).mp d;rw[m];exact l a (g.rng _ _ i)
 ·obtain⟨p,f,rfl⟩:=j y (by have:=b9 d;lia)
  obtain⟨a,i,e⟩:=(mem p _ f).mp d
  have:=inj a p (g.rng _ _ i) f e
  subst this;exact g.irr _ i
 ·by_cases d:y<w.length
  ·obtain⟨p,f,rfl⟩:=j y d
   rw[(n p f).nodup_iff];unfold cr;rw[hZ];refine Wp ?_ (g.nod p);intro a b i t ne e;exact ne (inj a b (g.rng _ _ i) (g.rng _ _ t) e)
  ·rw[Dx (by lia)];exact jj
 ·obtain⟨p,f,rfl⟩:=j y (by have:=b9 d;lia)
  obtain⟨a,i,rfl⟩:=(mem p q f).mp d;exact(mem a _ (g.rng _ _ i)).mpr ⟨p,g.sym _ _ i,rfl⟩
 ·rw[m] at d
  obtain⟨p,f,rfl⟩:=j y d;obtain⟨z,u,v⟩:=j 0 (by lia)
  have r:=reach (((g.con z u).symm g.sym).trans (g.con p f));rw[v] at r;exact r
def af(l:List Nat)(x:Nat):Nat:=l.getD ((l.idxOf x+1)%l.length) 0
def bp(w:W)(d:Nat×Nat):Nat×Nat:=(d.2,af (row w d.2) d.1)
def aG(w:W)(d:Nat×Nat):Prop:=d.2∈row w d.1
theorem nv(h:x∈l):l[(l.idxOf x+1)%l.length]? =some (af l x):=by
 have a:0<l.length:=Ea h;unfold af;rw[aU,bB (lN _ a)];rfl
theorem cc{l:List Nat}{x:Nat}(h:x∈l):af l x∈l:=fH (nv h)
theorem KW(f:a<n)(g:b<n)(e:(a+1)%n=(b+1)%n):a=b:=by
 by_cases d:a+1=n
 ·by_cases c:b+1=n
  ·lia
  ·rw[d,rj,ji (by lia)] at e;lia
 ·by_cases c:b+1=n
  ·rw[c,rj,ji (by lia)] at e;lia
  ·rw[ji (by lia),ji (by lia)] at e;lia
theorem eH(g:l.Nodup)(a:x∈l)(b:y∈l)(e:af l x=af l y):x=y:=by
 have o:0<l.length:=Ea a;have c:=nv a;have h:=nv b;rw[e] at c;have d:=h8.mpr a;have f:=h8.mpr b;obtain⟨p,i⟩:=dQ.mp c;obtain⟨r,j⟩:=dQ.mp h;have q:=(List.getElem_inj g).mp (i.trans j.symm);have k:=KW d f q;have m:=kN d;have n:=kN f;rw[<-m,<-n];simp only[k]
theorem fm(g:Good w)(h:aG w d):aG w (bp w d):=cc (g.sym _ _ h)
theorem jQ(g:Good w)(h:aG w d)(c:aG w e)(q:bp w d=bp w e):d=e:=by
 have a:d.2=e.2:=Gc Prod.fst q;have b:af (row w d.2) d.1=af (row w e.2) e.1:=Gc Prod.snd q;rw[<-a] at b;have f:d.1∈row w d.2:=g.sym _ _ h;have i:e.1∈row w d.2:=by rw[a];exact g.sym _ _ c
 exact aaC (eH (g.nod _) f i b) a
def bP(w:W):List (Nat×Nat):=(bb w.length).flatMap λp=>(row w p).map λq=>(p,q)
theorem cX:d∈bP w↔aG w d:=by
 unfold bP aG;rw[y4]
 constructor
 ·rintro⟨p,_,h⟩
  obtain⟨q,a,rfl⟩:=bY.mp h;exact a
 ·intro h
  exact⟨d.1,bV.mpr (b9 h),bY.mpr ⟨d.2,h,rfl⟩⟩
theorem aI [DecidableEq b]:∀{l m:List b},l.Nodup->(∀x∈l,x∈m)->l.length<=m.length
 | [],_,_,_=>cF _
 |a::r,m,g,h=>by
  have c:=ie.mp g;have d:=h a cg;have i:=aI (l:=r) (m:=m.erase a) c.2 λx f=>(List.mem_erase_of_ne (λ(e:x=a)=>c.1 (by rw[<-e];exact f))).mpr (h x (cG _ f))
  rw[List.length_erase_of_mem d] at i
  have:=Ea d
  simp only[dM];lia
theorem dg(g:Good w)(p:Nat):(row w p).length<=w.length:=by
 have:=aI (m:=bb w.length) (g.nod p) λx a=>bV.mpr (g.rng _ _ a)
 simpa using this
theorem zM{f:b->List c}{k:Nat}:∀{l:List b},(∀x∈l,(f x).length<=k)->(l.flatMap f).length<=l.length*k
 | [],_=>by simp
 |a::r,h=>by
  have e:=zM (f:=f) (k:=k) (l:=r) λx d=>h x (cG _ d)
  have:=h a cg
  rw[mI,b7,dM,acz];lia
theorem rA(g:Good w):(bP w).length<=w.length*w.length:=by
 have:=zM (f:=λp=>(row w p).map λq=>(p,q)) (k:=w.length) (l:=bb w.length) λx _=>by rw[aD];exact dg g x
 rw[iR] at this;exact this
def gk(w:W):Nat->Nat×Nat->Nat×Nat
 |0,d=>d
 |n+1,d=>bp w (gk w n d)
theorem jw(g:Good w)(h:aG w d):∀n,aG w (gk w n d)
 |0=>h
 |n+1=>fm g (jw g h n)
theorem xp(m:Nat):∀n,gk w (n+m) d=gk w n (gk w m d)
 |0=>by rw[n6];rfl
 |n+1=>by rw[Nat.succ_add];show bp w (gk w (n+m) d)=bp w (gk w n (gk w m d));rw[xp m n]
theorem CZ(g:Good w)(h:aG w d)(a:aG w e):∀n,gk w n d=gk w n e->d=e
 |0,q=>q
 |n+1,q=>CZ g h a n (jQ g (jw g h n) (jw g a n) q)
def walk(w:W)(d:Nat×Nat)(k:Nat):List (Nat×Nat):=(bb k).map λi=>gk w i d
theorem F3(w:W)(d:Nat×Nat)(k:Nat):walk w d (k+1)=walk w d k++ [gk w k d]:=by
 unfold walk;rw[sA,cJ];rfl
theorem uL(w:W)(d:Nat×Nat)(k:Nat):(walk w d k).length=k:=by unfold walk;simp
theorem yy(g:Good w)(h:aG w d):∀e∈walk w d k,aG w e:=λe a=>by
 obtain⟨i,_,rfl⟩:=bY.mp a;exact jw g h i
theorem vw(g:Good w)(h:aG w d)(a:∀j,0<j->j<k->gk w j d≠d):(walk w d k).Nodup:=by
 unfold walk cr;rw[hZ];refine Wp ?_ yO;intro i j f b lt e;have l:=bV.mp b;have c:gk w i d=gk w i (gk w (j-i) d):=by rw[<-xp (j-i) i,show i+(j-i)=j by lia];exact e
 exact a (j-i) (by lia) (by lia) (CZ g h (jw g h _) i c).symm
theorem Mf(g:Good w)(h:aG w d){k:Nat}(a:∀j,0<j->j<k->gk w j d≠d):k<=(bP w).length:=by
 have:=aI (m:=bP w) (vw g h a) λe b=>cX.mpr (yy g h e b)
 rwa [uL] at this
theorem Ct(g:Good w){S:Nat->Prop}(c:S 0)(d:∀p q,S p->q∈row w p->S q):∀p,p<w.length->S p:=λp e=>by
 have:∀{a b},Reach w a b->S a->S b:=λ {a b} h f=>by
  induction h with
  |refl=>exact f
  |step _ i j=>exact d _ _ j i
 exact this (g.con p e) c
def lexLe(a b:Nat×Nat):Prop:=a.1<b.1\/(a.1=b.1/\a.2<=b.2)
theorem qu(h:lexLe a b)(c:lexLe b a):a=b:=by
 unfold lexLe at h c;exact aaC (by lia) (by lia)
def kJ(rows:Nat->List Nat)(n:Nat):List (Nat×Nat):=(bb n).flatMap λp=>((rows p).filter λq=>decide (p<q)).map λq=>(p,q)
theorem jU{e c:Type}{R:c->c->Prop}{f:e->List c}:∀{l:List e},(∀x∈l,(f x).Pairwise R)->l.Pairwise (λa b=>∀x∈f a,∀y∈f b,R x y)->(l.flatMap f).Pairwise R
 | [],_,_=>List.Pairwise.nil
 |a::r,h,p=>by
  have g:=List.pairwise_cons.mp p;rw[mI,B6];refine⟨h a cg,jU (λx d=>h x (cG _ d)) g.2,λx d y i=>?_⟩;obtain⟨b,j,k⟩:=y4.mp i;exact g.1 b j x d y k
end Wb
namespace L2
open PySem PySem.Spec PyProof.Rows
section
variable {X:Cx}
theorem Vals.ins{x:V}{u:Value}(r:RelV x u){a:List V}{b:List Value}(i:Nat)(h:Vals a b):Vals (Wb.ins a i x) (Wb.ins b i u):=(h.take i).append (.cons r (h.drop i))
def LD:V->List V->Hp->VK->Prop:=λx b H Q=>∃l a i y,x= .ref l/\b= [.int i,y]/\H l=some (.lst a)/\0<=i/\i<=a.length/\a.length<sizeLine/\Q .bA (upd H l (.lst (Wb.ins a i.toNat y)))
theorem Fj:Jl X "list.insert" LD:=by
 intro b s u H x w v A Q I f g h;rfl';obtain⟨l,C,i,y,rfl,rfl,c,E,G,J,q⟩:=h;subst f;obtain⟨L,d,rfl,⟨t,rfl⟩,k⟩:=g.two;obtain⟨z,a,n,r,M,e⟩:=I.pk c;have N:=kC;ac_rfl
 have m:¬(!Builtin.List.listFitsIndex i)=true:=by
  rw[fitsIndex_both (by lia) (by lia)]
  exact di
 refine aaA F.slot_list_insert ⟨_,e,rfl⟩ F.entry_list_insert (F.args_list_insert_3 _ _ _) (AutoSeq1.list_insert_list_int_val_1 l a.toArray n i t d m (by rw[cT];lia)) ⟨e,?_⟩
 refine⟨.bA,_,I.GG (its':=Wb.ins a i.toNat d) c e ?_ (r.ins k i.toNat) ?_,rfl,q⟩
 ·have o:¬i<0:=by lia
  have p:min i.toNat a.length=i.toNat:=by lia
  simp only[o,M2,cT,p];apply abW.mp;unfold Wb.ins;simp;exact yW (by rw[fR];lia)
 ·rw[Wb.CT];lia
def N4(K:ac):V->List V->Hp->VK->Prop:=λx b H Q=>∃(l:Addr)(a:List V)(y:V)(j:Nat)(z:V),x= .ref l/\b= [y]/\H l=some (.lst a)/\gX y=true/\a.all gX=true/\a[j]? =some z/\wX z y=true/\
 (∀(m:Nat) z,m<j->a[m]? =some z->wX z y=false)/\Q (.int j) H
theorem Iq:Jl X "list.index" (N4 X.K):=by
 intro A s U H x Y v Z Q I B C h;rfl';obtain⟨l,d,y,j,z,rfl,rfl,G,J,fs,f,L,M,q⟩:=h;subst B;obtain⟨u,rfl,N⟩:=C.one;obtain⟨fz,a,n,r,hl,e⟩:=I.pk G;obtain⟨w,hw,O⟩:=r.get f;ac_rfl
 have P:j<a.toArray.size:=by
  obtain⟨b,_⟩:=dQ.mp hw;simpa using b
 have flat:∀(m:Nat) z,d[m]? =some z->gX z=true:=λm z h=>(yR.mp fs) z (fH h)
 have g:a.toArray[j]=w:=by
  obtain⟨b,i⟩:=dQ.mp hw;simpa using i
 have bT:=kC
 have zj:j<d.length:=by
  obtain⟨b,_⟩:=dQ.mp f;exact b
 refine aaA F.slot_list_index ⟨_,e,rfl⟩ F.entry_list_index (F.args_list_index_2 _ _) (SeqAt.list_indexAt l a.toArray n none #[] u (qG y) j P (by lia) ?_ ?_) ⟨e,λw hw=>jx N J r fs w (by simpa using hw),?_⟩
 ·rw[g,wd O (flat j z f)];exact L
 ·intro m R S
  have HZ:m<a.length:=by simpa using R
  obtain⟨c,k⟩:∃c,d[m]? =some c:=⟨_,bB (by lia)⟩
  obtain⟨T,o,p⟩:=r.get k
  have t:a.toArray[m]=T:=by
   obtain⟨b,i⟩:=dQ.mp o;simpa using i
  rw[t,wd p (flat m c k)];exact M m c S k
 ·exact⟨.int j,H,I.tok _,⟨_,rfl⟩,q⟩
end
mutual
inductive Dp (K:ac) (H:Hp):V->PyData->Prop
 |bA:Dp K H .bA .none
 |bl (b:Bool):Dp K H (.bl b) (.bool b)
 |int (i:Int):Dp K H (.int i) (.int i)
 |str (x:Str) (h:PyData.strOk x=true):Dp K H (.str x) (.str x)
 |lst {a:Addr} {xs:List V} {ds:List PyData}:cM K H a xs->DpAll K H xs ds->Dp K H (.ref a) (.list ds)
 |tup {a:Addr} {xs:List V} {ds:List PyData}:gO K H a xs->DpAll K H xs ds->Dp K H (.ref a) (.tuple ds)
inductive DpAll (K:ac) (H:Hp):List V->List PyData->Prop
 |nil:DpAll K H [] []
 |cons {v:V} {vs:List V} {d:PyData} {ds:List PyData}:Dp K H v d->DpAll K H vs ds->DpAll K H (v::vs) (d::ds)
end
section
variable {X:Cx} {pins:List (Addr×Obj)} {σ:St} {H:Hp} {s:Shared}
mutual
theorem Dp.reads(I:Inv X pins σ H s):∀{v:V}{d:PyData}{u:Value},Dp X.K H v d->RelV v u->(∃as,Reads s.heap u d as)/\d.canLay0=true
 |_,_,_, .bA,r=>by cases r;exact⟨⟨_, .none⟩,rfl⟩
 |_,_,_, .bl b,r=>by cases r;exact⟨⟨_, .bool b⟩,rfl⟩
 |_,_,_, .int i,r=>by obtain⟨t,rfl⟩:=r;exact⟨⟨_, .int i t⟩,rfl⟩
 |_,_,_, .str x h,r=>by obtain⟨t,rfl⟩:=r;exact⟨⟨_, .str x t⟩,by simpa [PyData.canLay0] using h⟩
 |_,_,_, .lst h a,r=>by
  cases r;obtain⟨its,rv,pl,hz⟩:=I.list h;obtain⟨⟨as,ra⟩,c⟩:=DpAll.reads I a rv;obtain⟨o,ho,hc,n,hd⟩:=pl.isList;exact⟨⟨_, .list ho hc hd (by simpa using ra)⟩,by simpa [PyData.canLay0] using c⟩
 |_,_,_, .tup h a,r=>by
  cases r;obtain⟨its,rv,pl,hz⟩:=I.tuple h;obtain⟨⟨as,ra⟩,c⟩:=DpAll.reads I a rv;obtain⟨o,ho,hc,n,hd⟩:=pl;exact⟨⟨_, .tuple ho hc hd (by simpa using ra)⟩,by simpa [PyData.canLay0] using c⟩
theorem DpAll.reads(I:Inv X pins σ H s):∀{vs:List V}{ds:List PyData}{us:List Value},DpAll X.K H vs ds->Vals vs us->(∃as,ReadsAll s.heap us ds as)/\PyData.canLayAll0 ds=true
 |_,_,_, .nil, .nil=>⟨⟨_, .nil⟩,by simp[PyData.canLayAll0]⟩
 |_,_,_, .cons a as, .cons r rs=>by
  obtain⟨⟨x,h1⟩,c1⟩:=Dp.reads I a r;obtain⟨⟨y,h2⟩,c2⟩:=DpAll.reads I as rs;exact⟨⟨_, .cons h1 h2⟩,by simp[PyData.canLayAll0,c1,c2]⟩
end
end
section
variable {X:Cx}
def YD(K:ac):R2:=λx y H Q=>∃d e,Dp K H x d/\Dp K H y e/\d.depth<=64/\Q (.bl (PyData.eqv d e)) H
def YG(K:ac):R2:=λx y H Q=>∃d e,Dp K H x d/\Dp K H y e/\d.depth<=64/\Q (.bl (!PyData.eqv d e)) H
theorem Nz(n:X.A.units+64<cLine):OpR X (compareOp .Eq) (YD X.K):=by
 intro a s o H x y v u Q I b c h;rfl';obtain⟨d,e,g,i,r,q⟩:=h;obtain⟨⟨t,j⟩,k⟩:=g.reads I b;obtain⟨⟨bs,l⟩,m⟩:=i.reads I c;ac_rfl;exact SeqAt.compareEq_reads j l k m (by have:=Nat.min_le_left d.depth e.depth;lia) ⟨.bl _,H,I,rfl,q⟩
theorem NG(n:X.A.units+64<cLine):OpR X (compareOp .NotEq) (YG X.K):=by
 intro a s o H x y v u Q I b c h;rfl';obtain⟨d,e,g,i,r,q⟩:=h;obtain⟨⟨t,j⟩,k⟩:=g.reads I b;obtain⟨⟨bs,l⟩,m⟩:=i.reads I c;ac_rfl;exact SeqAt.compareNe_reads j l k m (by have:=Nat.min_le_left d.depth e.depth;lia) ⟨.bl _,H,I,rfl,q⟩
end
def nD(n:Nat):PyData:= .int n
def iO(r:List Nat):PyData:= .list (r.map nD)
theorem kz{e:Type}{f:e->PyData}(g:∀a b,PyData.eqv (f a) (f b)=true↔a=b):∀c d:List e,PyData.eqvAll (c.map f) (d.map f)=true↔c=d
 | [],[]=>by simp[PyData.eqvAll]
 | [],_::_=>by simp[PyData.eqvAll]
 |_::_,[]=>by simp[PyData.eqvAll]
 |a::c,b::d=>by
  have h:=kz g c d;simp[PyData.eqvAll,g,h]
theorem MN(a b:Nat):PyData.eqv (nD a) (nD b)=true↔a=b:=by
 simp[nD,PyData.eqv];lia
theorem zJ(a b:List Nat):PyData.eqv (iO a) (iO b)=true↔a=b:=by
 unfold iO;rw[PyData.eqv];exact kz MN a b
theorem iC{f:c->PyData}{k:Nat}(d:∀a,(f a).depth<=k):∀b:List c,PyData.depthAll (b.map f)<=k
 | []=>by simp[PyData.depthAll]
 |a::b=>by
  have:=d a
  have e:=iC d b;simp[PyData.depthAll];lia
theorem iK(a:List Nat):(iO a).depth<=2:=by
 unfold iO;rw[PyData.depth]
 have:=iC (f:=nD) (k:=1) (λn=>by simp[nD,PyData.depth]) a
 lia
end L2
namespace L2
open PySem PySem.Spec PyProof.Rows
theorem Vals.of_get:∀{a:List V}{b:List Value},a.length=b.length->(∀(k:Nat) x u,a[k]? =some x->b[k]? =some u->RelV x u)->Vals a b
 | [],[],_,_=> .nil
 | [],_::_,h,_=>by simp at h
 |_::_,[],h,_=>by simp at h
 |x::a,u::b,h,r=> .cons (r 0 x u rfl rfl) (Vals.of_get (by simpa using h) λk y w c d=>r (k+1) y w (by simpa using c) (by simpa using d))
section
variable {X:Cx}
theorem Hv(t:X.calm=true):dZ X (.builtin "all") (λj H Q=>∃(p:Addr)(bs:List Bool),j= [.ref p]/\H p=some (.lst (bs.map V.bl))/\Q (.bl (bs.all id)) H):=by
 intro k s T H j U Q I y h;rfl';obtain⟨p,bs,rfl,B,q⟩:=h;obtain⟨u,rfl,C⟩:=y.one;subst C;obtain⟨a,r,pl,Y⟩:=I.list (cM.of B);have l:=r.length;rw[aD] at l;ac_rfl;refine call_all_walk (wpAny_pyIter_list pl.isList ?_)
 have F:p≠s.heap.objs.size:=by
  obtain⟨o,G,_⟩:=pl.isList;exact cn (Fk G)
 have J:∀i:Nat,i<a.length->∃b,bs[i]? =some b/\a[i]? =some (.bool b):=λi c=>by
  rfl';obtain⟨b,d⟩:∃b,bs[i]? =some b:=⟨_,bB (by lia)⟩
  obtain⟨w,hw,L⟩:=r.get (i:=i) (x:= .bl b) (by rw[dF,d];rfl)
  subst L;ac_rfl;exact⟨b,d,hw⟩
 refine⟨_,_,_,a.toArray.size,_,_,λi=>bs.getD i false,rfl,Walks.list (show X.A.in1.handled=none from I.ok.hd t) s.heap.objs.size p F a.toArray,⟨⟨_,GM _ rfl,rfl,rfl⟩,pl.isList.push _⟩,?_,λM Z N=>?_⟩
 ·intro i v s Q E O P
  have g:a[i]? =some v:=by simpa using O
  have c:i<a.length:=by
   obtain⟨R,_⟩:=dQ.mp g;exact R
  obtain⟨b,d,hw⟩:=J i c;rw[hw] at g;cases FB g;refine Pv ?_;have m:Q (bs.getD i false) s:=P;rw[aU,d] at m;exact m
 ·have kept:∀b o,s.heap.get? b=some o->M.get? b=some o:=λb o e=>N b o (by simp;exact cn (Fk e)) (AC _ e)
  have e:(bb a.toArray.size).all (λi=>bs.getD i false)=bs.all id:=by
   rw[cT,<-l];rw[Bool.eq_iff_iff,yR,yR]
   constructor
   ·intro h x S
    obtain⟨i,c,rfl⟩:=gh.mp S
    have:=h i (bV.mpr c)
    rw[aU,bB c] at this;exact this
   ·intro h i c
    have n:=bV.mp c;rw[aU,bB n];exact h _ (n0 n)
  rw[e];exact⟨.bl _,H,I.kept kept,rfl,q⟩
theorem AB:dZ X (.builtin "isinstance") (λa H Q=>∃(x:V)(n:String)(t:Value)(b:Bool),a= [x, .ty n]/\km X.K H x t/\du X.K t (.type n)=some b/\Q (.bl b) H):=by
 intro c s k H a l Q I d h;rfl';obtain⟨x,n,t,b,rfl,g,e,q⟩:=h;obtain⟨o,p,rfl,i,j⟩:=d.two;subst j;ac_rfl;exact EZ I i g e λr=>⟨.bl b,H,I.tok _,rfl,q⟩
theorem zd:dZ X (.builtin "sorted") (λf H Q=>∃(p:Addr)(c:List Int),f= [.ref p]/\cM X.K H p (c.map V.int)/\c.length<64/\∀(q:Addr)(a:List Int),H q=none->a.Perm c->a.Pairwise (·<=·)->Q (.ref q) (upd H q (.lst (a.map V.int)))):=by
 intro g s z H f A Q I j h;rfl';obtain⟨p,c,rfl,l,C,q⟩:=h;obtain⟨u,rfl,m⟩:=j.one;subst m;obtain⟨d,r,pl,_⟩:=I.list l;have n:=r.length;rw[aD] at n;ac_rfl;refine sorted_ints pl.isList (intsAre_of r) (by lia) λout a t i v=>?_
 obtain⟨e,w⟩:=abj s.heap d out;have x:H (s.heap.objs.size+1)=none:=I.hok.fresh (j9 _);have E:=i.length_eq;have F:64<=sizeLine:=by decide
 refine⟨.ref (s.heap.objs.size+1),_,I.laid (t':=s.toks) (λb o y=>aa3 y) (j9 _) (o:= .lst (a.map V.int)) ⟨by rw[aD];lia,out.toList,e,nz t,by simpa using w⟩,rfl,q _ a x i v⟩
end
theorem wI(b f g j e:Expr)(h k:List Expr)(a:Scope)(pos:Pos)(i d:Value)(env:Env):
  compTurn (.ListComp b [⟨f,g,h,0⟩,⟨j,e,k,0⟩] a pos) 0 i d env=(do
   standAt g.pos
   match <-pyNext i with
   |none=>pure (.done .next)
   |some v=>
    letOwnedTupleGo f i v
    assign f env v
    let ok <-forIn h true λc r=>if r=true then do let ok <-isTrue c env (eval c env);pure (ForInStep.yield ok) else pure (ForInStep.yield r)
    if ok=true then
     let x <-eval e env
     standAt e.pos
     let x <-foldedSetIterable e env x
     let l <-holding [x] (pyIter x)
     let _ <-runOwn (.compStart (.ListComp b [⟨f,g,h,0⟩,⟨j,e,k,0⟩] a pos) 1 l d env) env
     again (.compLoop (.ListComp b [⟨f,g,h,0⟩,⟨j,e,k,0⟩] a pos) 0 i d env)
    else again (.compLoop (.ListComp b [⟨f,g,h,0⟩,⟨j,e,k,0⟩] a pos) 0 i d env)):=by rfl
theorem wJ(b i j e g:Expr)(k h:List Expr)(a:Scope)(pos:Pos)(f d:Value)(env:Env):
  compTurn (.ListComp b [⟨i,j,k,0⟩,⟨e,g,h,0⟩] a pos) 1 f d env=(do
   standAt g.pos
   match <-pyNext f with
   |none=>pure (.done .next)
   |some v=>
    letOwnedTupleGo e f v
    assign e env v
    let ok <-forIn h true λc r=>if r=true then do let ok <-isTrue c env (eval c env);pure (ForInStep.yield ok) else pure (ForInStep.yield r)
    if ok=true then
     (do let _ <-call (.builtin "list.append") [d,<-eval b env])
     again (.compLoop (.ListComp b [⟨i,j,k,0⟩,⟨e,g,h,0⟩] a pos) 1 f d env)
    else again (.compLoop (.ListComp b [⟨i,j,k,0⟩,⟨e,g,h,0⟩] a pos) 1 f d env)):=by rfl
section
variable {X XC:Cx} {elt i0 t0 i1 t1:Expr} {f0 f1:List Expr} {scope:Scope} {pos:Pos} {wi cY:TI} {g g1:TG} {tt cI:TT} {te:TE} {src:List (Option Nat)} {NC:List Str}
theorem vI{b a:Value}{env:Env}{R:Result->Shared->Prop}{s:Shared}{A:Around}
  (c:codeAny (model X.prog X.w) A (.compLoop (.ListComp elt [⟨t0,i0,f0,0⟩,⟨t1,i1,f1,0⟩] scope pos) 1 b a env) R s)
  (d:∀(Q:Value->Shared->Prop)(E:Value->Shared->Prop),Q b s->wpAny (model X.prog X.w) A (pyIter b) Q E s):
  codeAny (model X.prog X.w) A (.compStart (.ListComp elt [⟨t0,i0,f0,0⟩,⟨t1,i1,f1,0⟩] scope pos) 1 b a env) R s:=by
 refine codeAny_of_tree ?_;refine wpAny_notedAt ?_;unfold compStart;refine wpAny_bind (wpAny_askSetting (wpAny_ite ?_))
 split
 ·first
   |exact wpAny_bind (wpAny_pure (wpAny_pure ⟨rfl,c⟩))
   |exact wpAny_pure ⟨rfl,c⟩
 ·refine wpAny_bind (wpAny_rule ?_)
  exact wpAny_bind (wpAny_standAt (wpAny_bind (d _ _ (wpAny_pure ⟨rfl,c⟩))))
theorem Cu{a:List (Addr×Obj)}{s:Shared}{σ:St}{H:Hp}{g D:Addr}{F:List Addr}{tn:Nat->Heap->Prop}{J:It}{R:Result->Shared->Prop}{N:St->Hp->Prop}
  (MZ:XC.xe=λ_ _=>False) (hc:XC.calm=true) (I:Inv XC a σ H s) (T:Turn XC.prog XC.w XC.K t1 J F g tn) (st:tn 0 s.heap) (f2:∀b∈F,f9 XC a H b)
  (hg:PG XC t1 g1) (ht:mQ XC f1 cI) (he:PE XC elt te)
  (hW:∃W:Nat->Nat->St->Hp->Prop,(∃m,W 0 m σ H)/\∀i m fA O,W i m fA O->(J.stop i O/\N fA O)\/
   (J.go i O/\∃L:St->Hp->Prop,(∀j c,L j c->∃m',m'<m/\W (i+1) m' j c)/\∀x H3,J.yld i O x H3->g1 x fA H3 λfJ H4=>cI fJ H4 λb H5=>
    if b=true then te fJ H5 λv H6=>∃P,H6 D=some (.lst P)/\P.length<sizeLine/\L fJ (upd H6 D (.lst (P++ [v]))) else L fJ H5))
  (hR:∀j c B,Inv XC a j c B->N j c->R (.ok .next) B):
  codeAny (model XC.prog XC.w) XC.A (.compStart (.ListComp elt [⟨t0,i0,f0,0⟩,⟨t1,i1,f1,0⟩] scope pos) 1 (.ref g) (.ref D) XC.env) R s:=by
 obtain⟨W,⟨m0,w0⟩,S⟩:=hW
 have kZ:∀{α:Type}{t:Sem α}{Q:α->Shared->Prop}{E:Value->Shared->Prop}{s:Shared},wpAny (model XC.prog XC.w) XC.A t Q XC.xe s->wpAny (model XC.prog XC.w) XC.A t Q E s:=λ {α t Q E s} h=>
  wpAny_mono h (λ_ _ q=>q) λ_ _ f=>by rw[MZ] at f;exact f.elim
 have l:∀{c:Hp},(∀b∈F,c b=none)->∀b∈F,f9 XC a c b:=λhn b C=>⟨hn b C,(f2 b C).2⟩
 have U:codeAny (model XC.prog XC.w) XC.A (.compLoop (.ListComp elt [⟨t0,i0,f0,0⟩,⟨t1,i1,f1,0⟩] scope pos) 1 (.ref g) (.ref D) XC.env) R s:=by
  refine acA rfl (λn B=>∃i j c,Inv XC a j c B/\tn i B.heap/\(∀b∈F,c b=none)/\W i n j c) (λn B hI=>?_) m0 ⟨0,σ,H,I,st,λb C=>(f2 b C).1,w0⟩;rfl';obtain⟨i,j,c,I5,vX,zh,w5⟩:=hI;ac_rfl;show wpAny _ XC.A ((compTurn (.ListComp elt [⟨t0,i0,f0,0⟩,⟨t1,i1,f1,0⟩] scope pos) 1 (.ref g) (.ref D) XC.env).onRaise (λx=>do noteFrame x XC.env;theTreesLotGoes x)) _ _ B
  refine wpAny_noted ?_;rw[wJ];refine be (aam (be ?_))
  rcases S i n j c w5 with ⟨stop,qn⟩ | ⟨go,L,hN,step⟩
  ·refine thn (T.done XC rfl rfl rfl hc i a B j c _ I5 (l zh) vX stop) λr s6 k=>?_
   obtain⟨hr,I6⟩:=k;subst hr;exact mo (hR j c s6 I6 qn)
  ·refine thn (T.item XC rfl rfl rfl hc i a B j c _ I5 (l zh) vX go) λr s6 k=>?_
   rfl';obtain⟨u,hr,h6⟩:=k;ac_rfl;subst hr;refine be (thn h6 λ_ s7 k=>?_);rfl';obtain⟨x,H7,I7,r7,y7,yt,J5⟩:=k;ac_rfl;have Ji:=I7.pinned (l J5) (T.obj _ _ yt)
   have nextT:∀{z:St}{G:Hp}{M:Shared},Inv XC (a++nh F s7.heap) z G M->L z G->∃m,m<n/\∃i j c,Inv XC a j c M/\tn i M.heap/\(∀b∈F,c b=none)/\W i m j c:=λ {z G M} Z n8=>by
    obtain⟨m',hm,w8⟩:=hN z G n8;refine⟨m',hm,i+1,z,G,Z.jC,T.keep _ _ _ yt λb C o e=>(Z.pin (b,o) (gm _ (gm _ (e6 C e)))).1,λb C=>?_,w8⟩;obtain⟨o,e,d⟩:=T.obj _ _ yt b C;exact(Z.pin (b,o) (gm _ (gm _ (e6 C e)))).2.1
   refine be (kZ (thn (hg _ s7 j H7 x u _ Ji r7 (step x H7 y7)) λ_ M k=>?_));rfl';obtain⟨z,G,Z,q8⟩:=k;ac_rfl;refine be (kZ (thn (ht _ M z G _ Z q8) λb s9 k=>?_));obtain⟨H9,I9,q9⟩:=k;cases b with
   |false=>
    rw[ir di] at q9;exact mo ⟨rfl,nextT I9 q9⟩
   |true=>
    rw[tz rfl] at q9;refine be (be (kZ (thn (he _ s9 z H9 _ I9 q9) λy N9 k=>?_)));rfl';obtain⟨v,Jf,PY,R9,P,hD,hz,R7⟩:=k;ac_rfl;refine be (kZ (thn (rS _ N9 z Jf (.ref D) [v] _ [y] (λ_ c=>L z c) PY rfl (.cons R9 .nil) ⟨_,P,v,rfl,rfl,hD,hz,R7⟩) λ_ Oa k=>?_));rfl';obtain⟨_,Mq,Jg,_,R8⟩:=k;ac_rfl;exact mo (mo ⟨rfl,nextT Jg R8⟩)
 exact vI (X:=XC) U λQ E q=>T.self _ 0 _ _ _ st q
def tIn(p:TG)(q:TT)(r:TE)(D:Addr)(J:It)(N:St->Hp->Prop):St->Hp->Prop:=λs H=>
 ∃W:Nat->Nat->St->Hp->Prop,(∃m,W 0 m s H)/\∀i m d a,W i m d a->(J.stop i a/\N d a)\/
  (J.go i a/\∃e:St->Hp->Prop,(∀h j,e h j->∃k,k<m/\W (i+1) k h j)/\∀x l,J.yld i a x l->p x d l λc t=>q c t λb n=>
   if b=true then r c n λv o=>∃f,o D=some (.lst f)/\f.length<sizeLine/\e c (upd o D (.lst (f++ [v]))) else e c n)
def PQ(g:TG)(l:TT)(n:TI)(o:TG)(p:TT)(q:TE)(D:Addr)(J:It)(Q:VK)(r:St)(H:Hp):Prop:=
 ∃W:Nat->Nat->St->Hp->Prop,(∃m,W 0 m r H)/\∀i m d a,W i m d a->
  (J.stop i a/\Q (.ref D) a)\/
  (J.go i a/\∃N:St->Hp->Prop,(∀e f,N e f->∃h,h<m/\W (i+1) h e f)/\∀x j,J.yld i a x j->g x d j λc s=>l c s λb k=>
   if b=true then n c k λt u=>tIn o p q D t N c u else N c k)
def Hk(c:TI)(g:TG)(d:TT)(e:TI)(f:TG)(h:TT)(i:TE)(src:List (Option Nat)):TE:=λa H Q=>c a H λJ b=>∀D,b D=none->PQ g d e f h i D J Q (nW src a) (upd b D (.lst []))
theorem sF{RR:Value->Addr->Result->Shared->Prop}{Q:VK}
  (hc:X.calm=true) (c:cu X scope) (eI:dk scope X.N src NC) (I2:Inv X j σ P l) (T:Turn X.prog X.w X.K t0 J F it Z) (j5:Z 0 l.heap) (f2:∀b∈F,f9 X j P b)
  (hg:∀ex s H,PG (b8 X scope NC ex s H) t0 g) (ht:∀ex s H,mQ (b8 X scope NC ex s H) f0 tt) (kT:∀ex s H,PI (b8 X scope NC ex s H) t1 i1 cY) (xb:∀ex s H,PG (b8 X scope NC ex s H) t1 g1)
  (xl:∀ex s H,mQ (b8 X scope NC ex s H) f1 cI) (he:∀ex s H,PE (b8 X scope NC ex s H) elt te) (sX:∀env x,foldedSetIterable i1 env x=pure x)
  (hW:∀D,P D=none->PQ g tt cY g1 cI te D J Q (nW src σ) (upd P D (.lst [])))
  (Q4:∀D B H3 G v I,Inv X j σ H3 B->(∀b∈F,f9 X j H3 b)->Inv (b8 X scope NC F B H3) [] G v I->Q (.ref D) v->RR (.ref D) B.heap.objs.size (.ok .next) I):
  wpAny (model X.prog X.w) X.A (newList []) (λacc L8=>wpAny (model X.prog X.w) X.A (newFunctionEnv scope X.env.globals (jc X.env scope.names []) [] X.env.qual none .none (some X.env)) (λoI yx=>
   codeAny (model X.prog X.w) X.A (.compStart (.ListComp elt [⟨t0,i0,f0,0⟩,⟨t1,i1,f1,0⟩] scope pos) 0 (.ref it) acc {oI with scope:=relabel scope X.env}) (RR acc oI.locals) yx) E L8) E l:=by
 rfl';obtain⟨W,⟨m0,w0⟩,turn⟩:=hW l.heap.objs.size I2.fresh;have I3:Inv X j σ (upd P l.heap.objs.size (.lst [])) {l with heap:=l.heap.push {cls:= .type "list",data:= .seq ([]:List Value).toArray}}:=I2.GF (its:= []) (t':=l.toks) .nil (cF _)
 ac_rfl
 have Io:∀b∈F,b<l.heap.objs.size:=λb k=>by
  obtain⟨o,e,_⟩:=T.obj _ _ j5 b k;exact Fk e
 have f3:∀b∈F,f9 X j (upd P l.heap.objs.size (.lst [])) b:=λb k=>⟨by rw[aN (cn (Io b k))];exact(f2 b k).1,(f2 b k).2⟩
 refine PP ?_
 suffices key:∀B:Shared,Inv X j σ (upd P l.heap.objs.size (.lst [])) B->(∀b o,l.heap.get? b=some o->B.heap.get? b=some o)->
   wpAny (model X.prog X.w) X.A (newFunctionEnv scope X.env.globals (jc X.env scope.names []) [] X.env.qual none .none (some X.env)) (λoI yx=>
    codeAny (model X.prog X.w) X.A (.compStart (.ListComp elt [⟨t0,i0,f0,0⟩,⟨t1,i1,f1,0⟩] scope pos) 0 (.ref it) (.ref l.heap.objs.size) {oI with scope:=relabel scope X.env}) (RR (.ref l.heap.objs.size) oI.locals) yx) E B from
  key _ I3 λb o e=>AC _ e
 intro B I3 Sz;have vW:Z 0 B.heap:=T.keep _ _ _ j5 λb _ o e=>Sz b o e
 have Fe:∀b∈F,b<B.heap.objs.size:=λb k=>by
  obtain⟨o,e,_⟩:=T.obj _ _ vW b k;exact Fk e
 generalize hH3:upd P l.heap.objs.size (.lst [])=H3 at I3 f3 w0;refine wpAny_newFunctionEnv c.nocell (by intro y hy;simp at hy) (λh1 A6 A9=>?_) c.kind
 have I4:=zD (src:=src) (NC:=NC) (ex:=F) (tk:=B.toks+([]:List (Str×Value)).length) I3 c eI f3 Fe A6 A9;have L5:Z 0 h1:=T.keep _ _ _ vW λb k o e=>A9.extBut b o (cn (Fe b k)) (AC _ e);generalize C:b8 X scope NC F B H3=a at I4
 have L:∀{v:Hp},(∀b∈F,v b=none)->∀b∈F,f9 a [] v b:=λ {v} hn b k=>by
  subst C;refine⟨hn b k,cn (Fe b k),λz=>?_, .inl k,λx d e=>?_,λp hp=>absurd (show p∈([]:List (Addr×Obj)) from hp) (by simp)⟩
  ·exact(I4.ok.exfs b k) z
  ·exact(I4.ok.exf b k).2 x d e
 have HU:a.calm=true:=by subst C;exact hc
 have eP:a.prog=X.prog:=by subst C;rfl
 have ew:a.w=X.w:=by subst C;rfl
 have eK:a.K=X.K:=by subst C;rfl
 have eA:a.A=X.A:=by subst C;rfl
 have MZ:a.xe=λ_ _=>False:=by subst C;rfl
 have Rl:PG a t0 g:=by subst C;exact hg _ _ _
 have Rz:mQ a f0 tt:=C▸ht _ _ _;have hiC:PI a t1 i1 cY:=C▸kT _ _ _;have VW:PG a t1 g1:=C▸xb _ _ _;have Wh:mQ a f1 cI:=C▸xl _ _ _;have Rh:PE a elt te:=C▸he _ _ _
 have kZ:∀{α:Type}{t:Sem α}{Q:α->Shared->Prop}{E:Value->Shared->Prop}{s:Shared},wpAny (model a.prog a.w) a.A t Q a.xe s->wpAny (model X.prog X.w) X.A t Q E s:=λ {α t Q E s} h=>by
  rw[<-eP,<-ew,<-eA];exact wpAny_mono h (λ_ _ q=>q) λ_ _ f=>by rw[MZ] at f;exact f.elim
 have S:codeAny (model X.prog X.w) X.A (.compLoop (.ListComp elt [⟨t0,i0,f0,0⟩,⟨t1,i1,f1,0⟩] scope pos) 0 (.ref it) (.ref l.heap.objs.size) a.env) (RR (.ref l.heap.objs.size) B.heap.objs.size)
   {B with heap:=h1,toks:=B.toks+([]:List (Str×Value)).length}:=by
  refine acA rfl (λn I=>∃i G v,Inv a [] G v I/\Z i I.heap/\(∀b∈F,v b=none)/\W i n G v) (λn I hI=>?_) m0 ⟨0,_,_,I4,L5,λb k=>(f3 b k).1,w0⟩;rfl';obtain⟨i,G,v,I5,vX,zh,w5⟩:=hI;ac_rfl;show wpAny _ X.A ((compTurn (.ListComp elt [⟨t0,i0,f0,0⟩,⟨t1,i1,f1,0⟩] scope pos) 0 (.ref it) (.ref l.heap.objs.size) a.env).onRaise (λx=>do noteFrame x a.env;theTreesLotGoes x)) _ _ I
  refine wpAny_noted ?_;rw[wI];refine be (aam (be ?_))
  rcases turn i n G v w5 with ⟨stop,qn⟩ | ⟨go,N,hN,step⟩
  ·have hd:=T.done a eP ew eK HU i [] I G v (notedBy (model X.prog X.w) X.A a.env λe I=>RR (.ref l.heap.objs.size) B.heap.objs.size (.error e) I) I5 (L zh) vX stop
   rw[eA] at hd;refine thn hd λr s6 O=>?_;obtain⟨hr,I6⟩:=O;subst hr;refine mo ?_;subst C;exact Q4 _ B _ G v s6 I3 f3 I6 qn
  ·have hd:=T.item a eP ew eK HU i [] I G v (notedBy (model X.prog X.w) X.A a.env λe I=>RR (.ref l.heap.objs.size) B.heap.objs.size (.error e) I) I5 (L zh) vX go
   rw[eA] at hd;refine thn hd λr s6 O=>?_;obtain⟨u,hr,h6⟩:=O;subst hr;refine be (thn h6 λ_ s7 O=>?_);rfl';obtain⟨x,H7,I7,r7,y7,yt,J5⟩:=O;ac_rfl;have Ji:=I7.pinned (L J5) (T.obj _ _ yt)
   have nextT:∀{U:St}{Y:Hp}{s8:Shared},Inv a ([]++nh F s7.heap) U Y s8->N U Y->∃m,m<n/\∃i G v,Inv a [] G v s8/\Z i s8.heap/\(∀b∈F,v b=none)/\W i m G v:=λ {U Y s8} I8 n8=>by
    obtain⟨m',hm,w8⟩:=hN U Y n8;refine⟨m',hm,i+1,U,Y,I8.jC,T.keep _ _ _ yt λb k o e=>(I8.pin (b,o) (gm _ (gm _ (e6 k e)))).1,λb k=>?_,w8⟩;obtain⟨o,e,d⟩:=T.obj _ _ yt b k;exact(I8.pin (b,o) (gm _ (gm _ (e6 k e)))).2.1
   refine be (kZ (thn (Rl _ s7 G H7 x u _ Ji r7 (step x H7 y7)) λ_ s8 O=>?_));rfl';obtain⟨U,Y,I8,q8⟩:=O;ac_rfl;refine be (kZ (thn (Rz _ s8 U Y _ I8 q8) λb s9 O=>?_));obtain⟨H9,I9,q9⟩:=O;cases b with
   |false=>
    rw[ir di] at q9;exact mo ⟨C▸rfl,nextT I9 q9⟩
   |true=>
    rw[tz rfl] at q9;refine be (kZ (thn (hiC _ s9 U H9 _ I9 q9) λv1 N9 h10=>?_));refine be (aam (be (aa0 (sX _ v1) (be (KF (kZ (thn h10 λBc Oa h11=>?_)))))));rfl';obtain⟨CY,fp1,tn1,J1,Mq,rfl,Jg,T1,Zj,f11,Kj⟩:=h11;ac_rfl;refine be (wpAny_runOwn ?_);have tr:∀(cd:Code)(R:Result->Shared->Prop),codeAny (model a.prog a.w) a.A cd R Oa->codeAny (model X.prog X.w) X.A cd R Oa:=λcd R h=>by rw[eP,ew,eA] at h;exact h
    exact tr _ _ (Cu MZ HU Jg T1 Zj f11 VW Wh Rh Kj λG v I ZS n12=>mo ⟨C▸rfl,nextT ZS n12⟩)
 subst C;exact ack S (T.self _ 0 _ _ _ L5 S)
theorem NQ(e:X.calm=true)(c:cu X scope)(f:dk scope X.N src NC)(i:PI X t0 i0 wi)
  (j:∀a s H,PG (b8 X scope NC a s H) t0 g) (k:∀a s H,mQ (b8 X scope NC a s H) f0 tt) (l:∀a s H,PI (b8 X scope NC a s H) t1 i1 cY) (n:∀a s H,PG (b8 X scope NC a s H) t1 g1)
  (o:∀a s H,mQ (b8 X scope NC a s H) f1 cI) (p:∀a s H,PE (b8 X scope NC a s H) elt te)
  (q:∀x,foldedSetIterable i0 X.env x=pure x:=by intro _;rfl) (r:∀env x,foldedSetIterable i1 env x=pure x:=by intro _ _;rfl):
  PE X (.ListComp elt [⟨t0,i0,f0,0⟩,⟨t1,i1,f1,0⟩] scope pos) (Hk wi g tt cY g1 cI te src):=by
 intro b s t H Q I h;rw[eval_ListComp];refine aax (use:=none) rfl q (fV (c.cells I.ok)) c.kind c.names (thn (i b s t H _ I h) λv O u=>thn u λP R w=>?_);obtain⟨S,U,Y,J,Z,rfl,y,T,z,A,B⟩:=w
 exact sF e c f y T z A j k l n o p r B λD s3 H3 aA C s' E F d G=>by
  obtain⟨m,L,_⟩:=d.loc;exact⟨m,L,λh' M=>⟨.ref D,C,comp_back E F d M,rfl,G⟩⟩
end
end L2
namespace KS
open PySem PySem.W PyProof.Rows
section
variable {prog:Program} {w:World} {A:Around} {E:Value->Shared->Prop} {s:Shared}
theorem DH(c:s.heap.get? a=some (seqObj "list" b.toArray n))(j:b.length<2)
  (h:G (.done (.ret .none)) {s with heap:=sortedHeap s.heap a b b.toArray}):wpAny (model prog w) A (Builtin.«list.sort» ⟨[.ref a],[]⟩) G E s:=by
 rw[list_sort_plain];have m:a<s.heap.objs.size:=Fk c;refine be (listItems_at c rfl (be (abH c rfl ?_)));obtain⟨l,d⟩:∃k,(s.heap.update a (Obj.mapSeq λ_=> #[])).get? a=some (seqObj "list" #[] k):=⟨_,abk c (λ_=> #[])⟩;refine be (acm d rfl (be (wpAny_newTuple (be (aa4 (KF ?_))))));have e:(((s.heap.update a (Obj.mapSeq λ_=> #[])).push (seqObj "tuple" b.toArray 0)).push (seqObj "list" #[] 0)).get? a=some (seqObj "list" #[] l):=AC _ (AC _ d);show wpAny (model prog w) A _ G E {s with heap:=((s.heap.update a (Obj.mapSeq λ_=> #[])).push (seqObj "tuple" b.toArray 0)).push (seqObj "list" #[] 0)}
 dsimp only;have f:b.toArray.size<2:=j;rw[tz f,tz f];refine be (mo ?_);rw[StateT.run_pure];refine be (mo ?_);dsimp only
 have g:(arrOf (SortSt.mk' general' (b.toArray.zip b.toArray) #[] 7 none)).map (·.2)=b.toArray:=by
  show(b.toArray.zip b.toArray).map (·.2)=b.toArray;apply abW.mp;simp[List.map_snd_zip]
 refine be (acm e rfl (be (abH e rfl ?_ (hsz2:=by rw[g];rw[abA];lia))))
 simp only[abQ,fj,M2];have i:=h;unfold sortedHeap at i;rw[g];exact mo i
theorem qV(e:s.heap.IsList l a.toArray)(f:a.length<2)(h:G (.ref (s.heap.objs.size+1)) {s with heap:=sortedAll s.heap a a.toArray}):
  wpAny (model prog w) A (call (.builtin "sorted") [.ref l]) G E s:=by
 refine aaL kind_sorted acB acC (acD (.ref l)) ?_;unfold Builtin.«sorted»;have b:a.length<=sizeLine:=by rw[abA];lia
 refine be (m:=checkCount "sorted" 1 1 _) (mo (be (collect_list e (be (aa4 ?_ b)) b)));have c:((s.heap.push (seqObj "list" #[] 0)).update s.heap.objs.size (Obj.mapSeq (·++a.toArray))).objs.size=s.heap.objs.size+1:=by rw[aaH,abS]
 have d:(((s.heap.push (seqObj "list" #[] 0)).update s.heap.objs.size (Obj.mapSeq (·++a.toArray))).push (seqObj "list" a.toArray 0)).get? (s.heap.objs.size+1)=some (seqObj "list" a.toArray 0):=by
  rw[<-c];exact GM _ rfl
 show wpAny (model prog w) _ _ _ E {s with heap:=((s.heap.push (seqObj "list" #[] 0)).update s.heap.objs.size (Obj.mapSeq (·++a.toArray))).push (seqObj "list" a.toArray 0)}
 rw[c];exact be (KF (Re slot_list_sort ⟨_,d,rfl⟩ entry_list_sort (DH d f ⟨_,rfl,mo ⟨_,rfl,h⟩⟩) (acq _)))
end
end KS
namespace L2
open PySem PySem.Spec PyProof.Rows
section
variable {X:Cx} {pins:List (Addr×Obj)} {σ:St} {H:Hp} {s:Shared} {h':Heap}
end
def uC(k:Nat×Nat):List V:= [.int (k.1:Nat), .int (k.2:Nat)]
def Aw(H:Hp)(L:List (Addr×(Nat×Nat))):Prop:=∀p∈L,H p.1=some (.tup (uC p.2))
def jP(a b:Nat×Nat):Bool:=if a.1=b.1 then decide (a.2<b.2) else decide (a.1<b.1)
theorem uv(x y:Nat×Nat):jP x y=true↔x.1<y.1\/(x.1=y.1/\x.2<y.2):=by
 unfold jP
 by_cases e:x.1=y.1
 ·rw[tz e,decide_eq_true_iff]
  lia
 ·rw[ir e,decide_eq_true_iff]
  lia
theorem Ik(x y z:Nat×Nat)(h:jP x z=true):jP x y=true\/jP y z=true:=by
 rw[uv] at*;rw[uv];lia
theorem KN(x y z:Nat×Nat)(h:jP x y=true)(a:jP y z=true):jP x z=true:=by
 rw[uv] at*;lia
theorem xw(h:jP b a=false):Wb.lexLe a b:=by
 unfold jP at h;unfold Wb.lexLe
 by_cases e:b.1=a.1
 ·rw[tz e] at h
  have:=aak h
  right;lia
 ·rw[ir e] at h
  have:=aak h
  left;lia
theorem M8 
  (n:IsTup s.heap x [.int a i, .int b j].toArray) (o:IsTup s.heap y [.int c k, .int d l].toArray)
  (h:C (if a=c then decide (b<d) else decide (a<c)) s):wpAny (model prog w) A (keyLt' (tuples' true) (.ref x) (.ref y)) C E s:=by
 rfl';obtain⟨u,f,_,v,q⟩:=n;obtain⟨z,g,_,B,r⟩:=o;ac_rfl;refine PySem.W.kat_lt f q g r ?_;refine PySem.W.kat_cons (aaO a i c k prog w _ _ ?_)
 by_cases e:a=c
 ·rw[tz e] at h
  rw[show(a==c)=true by simpa using e]
  refine PySem.W.kat_yes (PySem.W.kat_cons (aaO b j d l prog w _ _ ?_))
  by_cases m:b=d
  ·rw[show(b==d)=true by simpa using m]
   refine PySem.W.kat_yes (PySem.W.kat_nil ?_);rw[show decide (b<d)=false by simp;lia] at h
   simpa using h
  ·rw[show(b==d)=false by simpa using m]
   refine PySem.W.kat_no (PySem.W.kat_one _ _ ?_);exact lt_int h
 ·rw[ir e] at h
  rw[show(a==c)=false by simpa using e]
  exact PySem.W.kat_no (oneLt_int h)
section
variable {X:Cx}
theorem sh:∀{as:List Addr}{us:List Value},Vals (as.map V.ref) us->us=as.map Value.ref
 | [],_, .nil=>rfl
 |a::as,_, .cons r t=>by cases r;rw[sh t];rfl
theorem rZ:∀b:List Addr,Vals (b.map V.ref) (b.map Value.ref)
 | []=> .nil
 |a::b=> .cons rfl (rZ b)
theorem Iv(I:Inv X b c H s)(h:H a=some (.tup (uC k))):
  ∃t u,IsTup s.heap a [.int (k.1:Nat) t, .int (k.2:Nat) u].toArray:=by
 rfl';obtain⟨e,r,p,_⟩:=I.tuple (gO.of h);obtain⟨g,i,rfl,⟨t,rfl⟩,⟨u,rfl⟩⟩:=Vals.two r;ac_rfl;exact⟨t,u,p⟩
end
end L2
set_option maxHeartbeats 4000000
namespace L2
open PySem PySem.Spec PyProof.Rows
def ZU(a:Addr)(fs:List (Str×V)):HO:= .ext λh=>fs.length<=1000/\∃b,h.Ns1 a b/\(∀f,oE (fs.lookup f) (b f))/\da b (fs.map (·.1))
section
variable {P:Program} {w:World} {H:Hp} {h:Heap} {a C:Addr} {d:Option Addr} {fs:List (Str×V)}
end
section
variable {X:Cx} {pins:List (Addr×Obj)} {σ:St} {H:Hp} {s:Shared}
variable {a C:Addr} {fs:List (Str×V)} {f:Str} {v:V} {A:Around} {E:Value->Shared->Prop}
end
section
variable {X:Cx} {o e value:Expr} {f:Str} {pos pos' ZD:Pos} {ta tv:TE}
end
theorem cu.of(f:Scope)(e:X.env.scope=f)(k:d.kind= .function)(a:∀x∈d.names,x.2= .local->d.names.lookup x.1=some .local)(b:∀x∈d.names,x.2≠ .cell)
  (c:∀x∈d.names,x.2= .free->f.names.lookup x.1=some .cell\/f.names.lookup x.1=some .free):cu X d:=⟨k,a,b,λx g h=>by rw[<-e] at c;exact c x g h⟩
structure fu (K:ac) (mg:Str->Option Value) (x:Str) (st:Stmt) (ps:List Str) where
 f:Addr
 fd:FuncData
 F:y9 K x x st f fd
 b:Binds K fd ps []
 m:mg x=some (.ref f)
theorem aY(h:H p=none)(o:HO):aP H (upd H p o):=λb u q=>by rw[aN (bu q h)];exact q
theorem small(h:n<=1000):n<=sizeLine:=sD (eG h)
open PySem.Calls
abbrev Pg(C t:Addr)(a:Value)(d:Option Addr):Obj:={cls:= .ref C,dict:=d,data:= .fields #[.ref t,a, .none, .none, .bool false, .none]}
def SQ(C a:Addr)(d:Option Addr):HO:= .ext λh=>∃t b,h.get? a=some (Pg C t b d)
section
variable {P:Program} {w:World} {H:Hp} {h:Heap} {a C:Addr} {d:Option Addr}
end
def SW(h:Heap)(T:Addr):Prop:=∃o a,h.get? T=some o/\o.data= .fields a/\a[3]? =some .none
section
variable {M:Model} {A:Around} {E:Value->Shared->Prop} {s:Shared}
end
def SX(X:Cx)(H:Hp)(h:Heap)(a:Value):Prop:=a= .none\/∃T,a= .ref T/\X.s₀.heap.objs.size<=T/\T≠X.env.locals/\(∀x c,X.env.cells.lookup x=some c->c≠T)/\(∀p∈X.pn,p.1≠T)/\H T=none/\SW h T
def SR(X:Cx)(H:Hp)(s:Shared)(a:Addr):Prop:=∃C t b d,H a=some (SQ C a d)/\s.heap.get? a=some (Pg C t b d)/\SX X H s.heap b
section
variable {X:Cx} {pins:List (Addr×Obj)} {σ:St} {H H':Hp} {s s':Shared} {a:Addr}
end
def S0(X:Cx)(b:St)(H:Hp)(a:Addr):Prop:=∀s,Inv X [] b H s->SR X H s a->X.xe (.ref a) s
end L2
namespace TS
open PySem PyProof.Rows
def fc:Bool->Keyed->Array Keyed->Nat->Nat->Nat->StateT SortSt Sem (Option Nat):=sortPriv%PySem.Builtin.gallop
def qw:Array Keyed->Array Keyed->StateT SortSt Sem (Array Keyed):=sortPriv%PySem.Builtin.mergeLo
def qv:Array Keyed->Array Keyed->StateT SortSt Sem (Array Keyed):=sortPriv%PySem.Builtin.mergeHi
def setMinGallop':Nat->StateT SortSt Sem Unit:=sortPriv%PySem.Builtin.setMinGallop
def jF(left:Bool)(key:Keyed)(arr:Array Keyed)(base i:Nat):StateT SortSt Sem (Option Bool):=do
 let x <-elem' arr (base+i)
 if left then lt' x key else return (<-lt' key x).map (!·)
theorem CG(left:Bool)(key:Keyed)(arr:Array Keyed)(base n a:Nat):fc left key arr base n a=(do
 let mut lastofs:=0
 let mut ofs:=1
 let mut lo:=0
 let mut hi:=0
 let some right <-jF left key arr base a|return none
 if right then
  let b:=n-a
  for _ in [0:n] do
   if ofs>=b then break
   let some more <-jF left key arr base (a+ofs) |return none
   if !more then break
   lastofs:=ofs
   ofs:=2*ofs+1
  lo:=a+lastofs+1
  hi:=a+min ofs b
 else
  let b:=a+1
  for _ in [0:n] do
   if ofs>=b then break
   let some found <-jF left key arr base (a-ofs) |return none
   if found then break
   lastofs:=ofs
   ofs:=2*ofs+1
  lo:=a+1-min ofs b
  hi:=a-lastofs
 for _ in [0:n] do
  if lo>=hi then break
  let m:=lo+(hi-lo) / 2
  let some more <-jF left key arr base m|return none
  if more then lo:=m+1 else hi:=m
 return some hi):=rfl
def gN(O:KeyOrd)(key:Keyed->O.α)(S:Keyed->Prop)(a:SortKind)(M:Model)(A:Around)(E:Value->Shared->Prop)(s:Shared):Prop:=
 ∀(x y:Keyed)(st:SortSt)(Q:Option Bool->SortSt->Prop),S x->S y->kindOf st=a->Q (some (O.blt (key x) (key y))) st->wpS M A E s (lt' x y) Q st
section
variable {O:KeyOrd} {key:Keyed->O.α} {S:Keyed->Prop} {k0:SortKind} {M:Model} {A:Around} {E:Value->Shared->Prop} {s:Shared} {st:SortSt}
def eu(O:KeyOrd)(key:Keyed->O.α)(left:Bool)(k x:Keyed):Bool:=if left then O.blt (key x) (key k) else !O.blt (key k) (key x)
theorem bC{i:Nat}(h:arr[i]? =some x)(q:Q x st):wpS M A E s (elem' arr i) Q st:=by
 rw[elem'_eq,h];exact Do q
theorem kM(C:gN O key S k0 M A E s)(d:arr[base+i]? =some x)(a:S k)(b:S x)(c:kindOf st=k0)
  (q:Q (some (eu O key left k x)) st):wpS M A E s (jF left k arr base i) Q st:=by
 unfold jF;refine Da (bC d ?_);unfold eu at q;cases left with
 |true=>exact C _ _ _ _ b a c q
 |false=>exact Da (C _ _ _ _ a b c (Do q))
structure Seg (S:Keyed->Prop) (arr:Array Keyed) (base n:Nat) (g:Nat->Keyed):Prop where
 at_:∀i,i<n->arr[base+i]? =some (g i)
 mem:∀i,i<n->S (g i)
theorem gM(C:gN O key S k0 M A E s){base n a:Nat}(G:Seg S arr base n g)(H:S k)(J:kindOf st=k0)(X:a<n)
  (mono:∀i j,i<=j->j<n->eu O key left k (g j)=true->eu O key left k (g i)=true)
  (q:∀p,p<=n->(∀i,i<p->eu O key left k (g i)=true)->(∀i,p<=i->i<n->eu O key left k (g i)=false)->Q (some p) st):wpS M A E s (fc left k arr base n a) Q st:=by
 rw[CG];refine Da (kM C (G.at_ _ X) H (G.mem _ X) J ?_)
 have P:∀i j,i<=j->j<n->eu O key left k (g i)=false->eu O key left k (g j)=false:=λi j cW hj h=>by
  cases e:eu O key left k (g j) with
  |false=>rfl
  |true=>rw[mono i j cW hj e] at h;cases h
 have fin:∀lo b,lo<=b->b<=n->(∀i,i<lo->eu O key left k (g i)=true)->(∀i,b<=i->i<n->eu O key left k (g i)=false)->
   wpS M A E s (do
    let mut lo:=lo
    let mut b:=b
    for _ in [0:n] do
     if lo>=b then break
     let m:=lo+(b-lo) / 2
     let some more <-jF left k arr base m|return none
     if more then lo:=m+1 else b:=m
    return some b) Q st:=by
  intro lo b R hn B y;dsimp only
  refine Da (Os (Pi (I:=λx c f=>f=st/\∃lo b,c=(none,lo,b)/\lo<=b/\b<=n/\b-lo<=n-x/\(∀i,i<lo->eu O key left k (g i)=true)/\(∀i,b<=i->i<n->eu O key left k (g i)=false))
   (Q:=λc f=>f=st/\∃b,c=(none,b,b)/\b<=n/\(∀i,i<b->eu O key left k (g i)=true)/\(∀i,b<=i->i<n->eu O key left k (g i)=false)) ?step ?fin ⟨rfl,lo,b,rfl,R,hn,by lia,B,y⟩) ?post)
  case fin=>
   rintro c f ⟨rfl,lo,b,rfl,r,w,t,l,L⟩
   have:lo=b:=by lia
   subst this;exact⟨rfl,lo,rfl,w,l,L⟩
  case step=>
   rintro x c f _ Y ⟨rfl,lo,b,rfl,r,w,t,l,L⟩;dsimp only
   by_cases v:lo>=b
   ·rw[tz v]
    have:lo=b:=by lia
    subst this;exact Do ⟨rfl,lo,rfl,w,l,L⟩
   ·rw[ir v]
    have u:lo+(b-lo) / 2<n:=by lia
    refine Da (kM C (G.at_ _ u) H (G.mem _ u) J ?_);cases e:eu O key left k (g (lo+(b-lo) / 2)) with
    |true=>
     dsimp only;rw[tz rfl];exact Do ⟨rfl,_,_,rfl,by lia,w,by lia,λi b=>mono _ _ (by lia) u e,L⟩
    |false=>
     dsimp only;rw[ir (by decide)]
     exact Do ⟨rfl,_,_,rfl,by lia,by lia,by lia,l,λi B y=>P _ _ B y e⟩
  case post=>
   rintro c f ⟨rfl,b,rfl,T,N,F⟩;exact Do (q _ T N F)
 dsimp only;cases Z:eu O key left k (g a) with
 |true=>
  rw[tz rfl]
  refine Da (Os (Pi (I:=λx c f=>f=st/\∃d o,c=(none,d,o)/\d<o/\x<o/\a+d<n/\eu O key left k (g (a+d))=true)
   (Q:=λc f=>f=st/\∃d o,c=(none,d,o)/\d<o/\a+d<n/\eu O key left k (g (a+d))=true/\(n-a<=o\/(a+o<n/\eu O key left k (g (a+o))=false))) ?step ?fin2 ⟨rfl,0,1,rfl,by lia,by lia,by lia,Z⟩) ?post)
  case fin2=>
   rintro c f ⟨rfl,d,o,rfl,r,w,t,l⟩;exact⟨rfl,d,o,rfl,r,t,l, .inl (by lia)⟩
  case step=>
   rintro x c f _ Y ⟨rfl,d,o,rfl,r,w,t,l⟩;dsimp only
   by_cases v:o>=n-a
   ·rw[tz v]
    exact Do ⟨rfl,d,o,rfl,r,t,l, .inl v⟩
   ·rw[ir v]
    have u:a+o<n:=by lia
    refine Da (kM C (G.at_ _ u) H (G.mem _ u) J ?_);cases e:eu O key left k (g (a+o)) with
    |true=>
     dsimp only;rw[ir (by decide)]
     exact Do ⟨rfl,_,_,rfl,by lia,by lia,u,e⟩
    |false=>
     dsimp only;rw[tz (by decide)]
     exact Do ⟨rfl,d,o,rfl,r,t,l, .inr ⟨u,e⟩⟩
  case post=>
   rintro c f ⟨rfl,d,o,rfl,T,N,F,z⟩;refine fin (a+d+1) (a+min o (n-a)) (by lia) (by lia) (λi b=>mono _ _ (by lia) N F) (λi B y=>?_)
   rcases z with z| ⟨z,U⟩
   ·lia
   ·exact P _ _ (by lia) y U
 |false=>
  rw[ir (by decide)]
  refine Da (Os (Pi (I:=λx c f=>f=st/\∃d o,c=(none,d,o)/\d<o/\x<o/\d<=a/\eu O key left k (g (a-d))=false)
   (Q:=λc f=>f=st/\∃d o,c=(none,d,o)/\d<o/\d<=a/\eu O key left k (g (a-d))=false/\(a+1<=o\/(o<=a/\eu O key left k (g (a-o))=true))) ?step ?fin2 ⟨rfl,0,1,rfl,by lia,by lia,by lia,Z⟩) ?post)
  case fin2=>
   rintro c f ⟨rfl,d,o,rfl,r,w,t,l⟩;exact⟨rfl,d,o,rfl,r,t,l, .inl (by lia)⟩
  case step=>
   rintro x c f _ Y ⟨rfl,d,o,rfl,r,w,t,l⟩;dsimp only
   by_cases v:o>=a+1
   ·rw[tz v]
    exact Do ⟨rfl,d,o,rfl,r,t,l, .inl v⟩
   ·rw[ir v]
    have u:a-o<n:=by lia
    refine Da (kM C (G.at_ _ u) H (G.mem _ u) J ?_);cases e:eu O key left k (g (a-o)) with
    |true=>
     dsimp only;rw[tz rfl];exact Do ⟨rfl,d,o,rfl,r,t,l, .inr ⟨by lia,e⟩⟩
    |false=>
     dsimp only;rw[ir (by decide)]
     exact Do ⟨rfl,_,_,rfl,by lia,by lia,by lia,e⟩
  case post=>
   rintro c f ⟨rfl,d,o,rfl,T,N,F,z⟩;refine fin (a+1-min o (a+1)) (a-d) (by lia) (by lia) (λi b=>?_) (λi B y=>P _ _ B y F)
   rcases z with z| ⟨z,U⟩
   ·lia
   ·exact mono _ _ (by lia) (by lia) U
end
section
variable {O:KeyOrd} {key:Keyed->O.α} {S:Keyed->Prop} {k0:SortKind} {M:Model} {A:Around} {E:Value->Shared->Prop} {s:Shared} {st bS:SortSt}
def ky(O:KeyOrd)(key:Keyed->O.α)(a:Array Keyed)(i:Nat):O.α:=key (a[i]?.getD (.none, .none))
theorem iu(h:a[i]? =b[j]?):ky O key a i=ky O key b j:=by unfold ky;rw[h]
def jn(O:KeyOrd)(key:Keyed->O.α)(c:Array Keyed)(a b:Nat):Prop:=∀i j,a<=i->i<=j->j<b->O.kle (ky O key c i) (ky O key c j)
def Hr(O:KeyOrd)(key:Keyed->O.α)(c:Array Keyed)(a b:Nat):Prop:=∀i j,a<=i->i<=j->j<b->O.kle (ky O key c j) (ky O key c i)
structure gP (bS st:SortSt) (lo hi:Nat):Prop where
 perm:(arrOf st).Perm (arrOf bS)
 kind:kindOf st=kindOf bS
 failed:failedOf st=failedOf bS
 pend:pendingOf st=pendingOf bS
 out:∀i,i<lo\/hi<=i->(arrOf st)[i]? =(arrOf bS)[i]?
theorem gP.refl(st:SortSt)(lo a:Nat):gP st st lo a:=⟨.refl _,rfl,rfl,rfl,λ_ _=>rfl⟩
theorem gP.trans{d e:SortSt}{lo c:Nat}(a:gP bS d lo c)(b:gP d e lo c):gP bS e lo c:=
 ⟨b.perm.trans a.perm,b.kind.trans a.kind,b.failed.trans a.failed,b.pend.trans a.pend,λi h=>(b.out i h).trans (a.out i h)⟩
theorem gP.size{lo b:Nat}(a:gP bS st lo b):(arrOf st).size=(arrOf bS).size:=a.perm.size_eq
theorem gP.mirror{lo a i j:Nat}(c:lo<=i)(d:j<=a)(b:j<=(arrOf st).size):gP st (setArr st (mirror (arrOf st) i j ((j-i) / 2))) lo a:=
 ⟨mirror_perm _ _ _ _,rfl,rfl,rfl,λk h=>by
  show(PyProof.Rows.mirror (arrOf st) i j ((j-i) / 2))[k]? =_;rw[getElem?_mirror_all b,ir (by lia)]⟩
theorem gP.bubble{lo a src d:Nat}(b:d<=src)(e:lo<=src-d)(f:src<a)(c:src<(arrOf st).size):gP st (setArr st (bubble (arrOf st) src d)) lo a:=
 ⟨bubble_perm _ _ _,rfl,rfl,rfl,λk h=>by
  show(PyProof.Rows.bubble (arrOf st) src d)[k]? =_;rw[getElem?_bubble c d b,ir (by lia),ir (by lia)]⟩
theorem rN(c:j<=a.size)(k:Nat):ky O key (mirror a i j ((j-i) / 2)) k=if i<=k/\k<j then ky O key a (i+j-1-k) else ky O key a k:=by
 have e:=getElem?_mirror_all (i:=i) c k
 by_cases b:i<=k/\k<j
 ·rw[tz b] at e ⊢;exact iu e
 ·rw[ir b] at e ⊢;exact iu e
theorem gy(c:j<=a.size)(b:∀k,i<=k->k<j->ky O key a k=ky O key a (j-1))(k:Nat):ky O key (mirror a i j ((j-i) / 2)) k=ky O key a k:=by
 rw[rN c]
 split
 ·rw[b _ (by lia) (by lia),b k (by lia) (by lia)]
 ·rfl
theorem xq(f:src<a.size)(g:d<=src)(k:Nat):
  ky O key (bubble a src d) k=if k=src-d then ky O key a src else if src-d<k/\k<=src then ky O key a (k-1) else ky O key a k:=by
 have e:=getElem?_bubble f d g k
 by_cases b:k=src-d
 ·rw[tz b] at e ⊢;exact iu e
 ·rw[ir b] at e ⊢
  by_cases c:src-d<k/\k<=src
  ·rw[tz c] at e ⊢;exact iu e
  ·rw[ir c] at e ⊢;exact iu e
structure Ok (S:Keyed->Prop) (k0:SortKind) (st:SortSt):Prop where
 mem:∀p,p∈(arrOf st).toList->S p
 kind:kindOf st=k0
theorem Ok.step{lo b:Nat}(o:Ok S k0 bS)(a:gP bS st lo b):Ok S k0 st:=
 ⟨λp c=>o.mem p ((B2.mp a.perm).mem_iff.mp c),a.kind.trans o.kind⟩
theorem Ok.at{i:Nat}(o:Ok S k0 st)(a:i<(arrOf st).size):(arrOf st)[i]? =some ((arrOf st)[i]?.getD (.none, .none))/\S ((arrOf st)[i]?.getD (.none, .none)):=by
 have e:(arrOf st)[i]? =some (arrOf st)[i]:=aaF _ i a;rw[e];exact⟨rfl,o.mem _ (by simp)⟩
theorem qh(C:gN O key S k0 M A E s)(o:Ok S k0 st)(a:i<(arrOf st).size)(b:j<(arrOf st).size)
  (q:Q (some (O.blt (ky O key (arrOf st) i) (ky O key (arrOf st) j))) st):wpS M A E s (ltAt' i j) Q st:=by
 rw[ltAt'_eq];obtain⟨c,d⟩:=o.at a;obtain⟨e,f⟩:=o.at b;refine Da (aaJ (Da (bC c (Da (bC e (C _ _ _ _ d f o.kind q))))))
theorem wpS_binarySort(C:gN O key S k0 M A E s){lo n ok:Nat}{Q:Bool->SortSt->Prop}(o:Ok S k0 st)(X:lo+n<=(arrOf st).size)(hok:ok<=n)(F:jn O key (arrOf st) lo (lo+ok))
  (h:∀b,gP st b lo (lo+n)->jn O key (arrOf b) lo (lo+n)->Q true b):wpS M A E s (binarySort' lo n ok) Q st:=by
 rw[binarySort'_eq]
 refine wpS_bind (wpS_mono (wpS_forRange (I:=λk c b=>c=(none,())/\gP st b lo (lo+n)/\jn O key (arrOf b) lo (lo+min k n))
  (Q:=λc b=>c=(none,())/\gP st b lo (lo+n)/\jn O key (arrOf b) lo (lo+n)) ?step ?fin ?init) ?post)
 case post=>
  rintro c b ⟨rfl,f,e⟩;exact wpS_pure (h b f e)
 case init=>
  refine⟨rfl, .refl _ _ _,λi j t y G=>?_⟩
  by_cases p:ok=0
  ·have:i=j:=by lia
   subst this;exact KeyOrd.kle_refl _
  ·exact F i j t y (by lia)
 case fin=>
  rintro c b ⟨H,f,e⟩;refine⟨H,f,?_⟩
  rwa [show min (max (max ok 1) n) n=n by lia] at e
 case step=>
  rintro k c b J Y ⟨rfl,f,e⟩;rw[show min k n=k by lia] at e
  have L:=o.step f;have Z:=f.size;have q:lo+k<(arrOf b).size:=by lia
  refine wpS_bind (wpS_mono (wpS_forRange (I:=λx c d=>d=b/\∃l r,c=(none,l,r)/\l<=r/\r<=k/\r-l<=k-x/\
    (∀i,i<l->O.kle (ky O key (arrOf b) (lo+i)) (ky O key (arrOf b) (lo+k)))/\(∀i,r<=i->i<k->O.klt (ky O key (arrOf b) (lo+k)) (ky O key (arrOf b) (lo+i))))
   (Q:=λc d=>d=b/\∃l r,c=(none,l,r)/\l<=k/\
    (∀i,i<l->O.kle (ky O key (arrOf b) (lo+i)) (ky O key (arrOf b) (lo+k)))/\(∀i,l<=i->i<k->O.klt (ky O key (arrOf b) (lo+k)) (ky O key (arrOf b) (lo+i)))) ?istep ?ifin ?iinit) ?ipost)
  case iinit=>exact⟨rfl,0,k,rfl,by lia,by lia,by lia,λi t=>by lia,λi p u=>by lia⟩
  case ifin=>
   rintro c d ⟨rfl,l,r,rfl,v,w,N,g,m⟩
   have:l=r:=by lia
   subst this;exact⟨rfl,l,l,rfl,w,g,m⟩
  case istep=>
   rintro x c d _ P ⟨rfl,l,r,rfl,v,w,N,g,m⟩;dsimp only
   by_cases z:l>=r
   ·rw[if_pos z]
    have:l=r:=by lia
    subst this;exact wpS_pure ⟨rfl,l,l,rfl,w,g,m⟩
   ·rw[if_neg z]
    refine wpS_bind (qh C L q (by lia) ?_)
    cases B:O.blt (ky O key (arrOf d) (lo+k)) (ky O key (arrOf d) (lo+(l+r) / 2))
    case true=>
     simp only[if_true];refine wpS_pure ⟨rfl,l,(l+r) / 2,rfl,by lia,by lia,by lia,g,λi p u=>?_⟩
     exact KeyOrd.klt_of_klt_of_kle B (e _ _ (by lia) (by lia) (by lia))
    case false=>
     simp only[fj,if_false];refine wpS_pure ⟨rfl,(l+r) / 2+1,r,rfl,by lia,by lia,by lia,λi p=>?_,m⟩
     exact KeyOrd.kle_trans (e (lo+i) (lo+(l+r) / 2) (by lia) (by lia) (by lia)) (show O.kle _ _ from B)
  case ipost=>
   rintro c d ⟨rfl,l,r,rfl,R,g,m⟩;show wpS _ _ _ _ (do moveDown' (lo+k) (lo+l);pure (ForInStep.yield (none,()))) _ _
   rw[moveDown'_eq];have ed:lo+k-(lo+l)=k-l:=by lia
   refine wpS_bind (wpS_modify (wpS_pure ⟨rfl,f.trans (gP.bubble (by lia) (by lia) (by lia) q),?_⟩))
   rw[show min (k+1) n=k+1 by lia]
   intro i j t y G;show O.kle (ky O key (bubble (arrOf d) (lo+k) (lo+k-(lo+l))) i) (ky O key (bubble (arrOf d) (lo+k) (lo+k-(lo+l))) j);rw[xq q (by lia),xq q (by lia),show lo+k-(lo+k-(lo+l))=lo+l by lia]
   have T:∀a,lo<=a->a<lo+l->O.kle (ky O key (arrOf d) a) (ky O key (arrOf d) (lo+k)):=λa p u=>by
    have:=g (a-lo) (by lia);rwa [show lo+(a-lo)=a by lia] at this
   have U:∀a,lo+l<=a->a<lo+k->O.klt (ky O key (arrOf d) (lo+k)) (ky O key (arrOf d) a):=λa p u=>by
    have:=m (a-lo) (by lia) (by lia);rwa [show lo+(a-lo)=a by lia] at this
   repeat' split
   all_goals first
    | (exfalso;lia)
    |exact KeyOrd.kle_refl _
    |exact T _ (by lia) (by lia)
    |exact KeyOrd.kle_of_klt (U _ (by lia) (by lia))
    |exact e _ _ (by lia) (by lia) (by lia)
end
def Cg(lo a d:Nat):StateT SortSt Sem AscSt:=
 forIn [a:d] ((none,a):AscSt) λ_ b=>do
  let c <-ltAt' (lo+b.snd) (lo+b.snd-1)
  match c with
  |some e=>if e=true then pure (ForInStep.done (none,b.snd)) else pure (ForInStep.yield (none,b.snd+1))
  |_=>pure (ForInStep.done (some none,b.snd))
def tailL(lo n b:Nat):StateT SortSt Sem (Option Nat):=do
 reverseSlice' lo (lo+n)
 let a <-Cg lo n b
 match a.fst with
 |some r=>pure r
 |none=>pure (some a.snd)
def AI(lo n c:Nat):StateT SortSt Sem DescSt:=
 forIn [n:c] ((none,n,0):DescSt) λ_ a=>do
  let b <-ltAt' (lo+a.snd.fst) (lo+a.snd.fst-1)
  match b with
  |some d=>
   if d=true then
    if a.snd.snd>0 then do
     reverseSlice' (lo+a.snd.fst-(a.snd.snd+1)) (lo+a.snd.fst)
     pure (ForInStep.yield (none,a.snd.fst+1,0))
    else pure (ForInStep.yield (none,a.snd.fst+1,0))
   else do
    let b <-ltAt' (lo+a.snd.fst-1) (lo+a.snd.fst)
    match b with
    |some e=>
     if e=true then pure (ForInStep.done (none,a.snd.fst,a.snd.snd))
     else pure (ForInStep.yield (none,a.snd.fst+1,a.snd.snd+1))
    |_=>pure (ForInStep.done (some none,a.snd.fst,a.snd.snd))
  |_=>pure (ForInStep.done (some none,a.snd.fst,a.snd.snd))
def descP(lo n b:Nat):StateT SortSt Sem (Option Nat):=do
 liftM (rule "list.sort.descending-run")
 let a <-AI lo (n+1) b
 match a.fst with
 |some r=>pure r
 |none=>
  if a.snd.snd>0 then do
   reverseSlice' (lo+a.snd.fst-(a.snd.snd+1)) (lo+a.snd.fst)
   tailL lo a.snd.fst b
  else tailL lo a.snd.fst b
theorem zf(lo c:Nat):countRun' lo c=(do
  let a <-Cg lo 1 c
  match a.fst with
  |some r=>pure r
  |none=>
   if (a.snd==c)=true then pure (some a.snd)
   else if a.snd>1 then do
    let e <-ltAt' lo (lo+a.snd-1)
    match e with
    |some g=>if g=true then pure (some a.snd) else do
      reverseSlice' lo (lo+a.snd)
      descP lo a.snd c
    |_=>pure none
   else descP lo a.snd c):=by
 rw[countRun'_eq];dsimp only;unfold descP tailL AI Cg
 congr 1
 funext a
 obtain⟨r,n⟩:=a;cases r with
 |some r=>rfl
 |none=>
  dsimp only
  split
  ·rfl
  ·split
   ·congr 1
    funext x
    cases x with
    |none=>rfl
    |some g=>
     dsimp only
     split
     ·rfl
     ·congr 1
      funext _r
      (congr 1;funext _u;congr 1;congr 1;funext s2;obtain⟨d,h,i⟩:=s2;cases d with
 |some d=>rfl
 |none=>(dsimp only;split;(congr 1;funext _v;(congr 1;funext _w;congr 1;(funext s3;obtain⟨b,f⟩:=s3;cases b<;>rfl)));(congr 1;funext _w;congr 1;(funext s3;obtain⟨b,f⟩:=s3;cases b<;>rfl))))
   ·(congr 1;funext _u;congr 1;congr 1;funext s2;obtain⟨d,h,i⟩:=s2;cases d with
 |some d=>rfl
 |none=>(dsimp only;split;(congr 1;funext _v;(congr 1;funext _w;congr 1;(funext s3;obtain⟨b,f⟩:=s3;cases b<;>rfl)));(congr 1;funext _w;congr 1;(funext s3;obtain⟨b,f⟩:=s3;cases b<;>rfl))))
section
variable {O:KeyOrd} {key:Keyed->O.α} {S:Keyed->Prop} {k0:SortKind} {prog:Program} {w:World} {A:Around} {E:Value->Shared->Prop} {s:Shared} {st bS:SortSt}
theorem Ak(C:gN O key S k0 (model prog w) A E s){lo a b:Nat}{Q:AscSt->SortSt->Prop}(o:Ok S k0 st)(v:lo+b<=(arrOf st).size)(y:1<=a)(f:a<=b)(l:jn O key (arrOf st) lo (lo+a))
  (h:∀n,a<=n->n<=b->jn O key (arrOf st) lo (lo+n)->(n=b\/O.klt (ky O key (arrOf st) (lo+n)) (ky O key (arrOf st) (lo+n-1)))->Q (none,n) st):
  wpS (model prog w) A E s (Cg lo a b) Q st:=by
 unfold Cg;refine Pi (I:=λx c e=>e=st/\c=(none,x)/\jn O key (arrOf st) lo (lo+x)) ?step ?fin ⟨rfl,rfl,l⟩
 case fin=>
  rintro c e ⟨rfl,rfl,d⟩;rw[show max a b=b by lia] at d ⊢
  exact h b f (bJ _) d (.inl rfl)
 case step=>
  rintro x c e m p ⟨rfl,rfl,d⟩;dsimp only;refine Da (qh C o (by lia) (by lia) ?_)
  cases g:O.blt (ky O key (arrOf e) (lo+x)) (ky O key (arrOf e) (lo+x-1))
  case true=>
   simp only[aaq];exact Do (h x m (by lia) d (.inr g))
  case false=>
   simp only[fj,M2];refine Do ⟨rfl,rfl,λi j k q z=>?_⟩
   by_cases r:j<lo+x
   ·exact d i j k q r
   ·have t:j=lo+x:=by lia
    subst t
    by_cases u:i=lo+x
    ·subst u;exact SZ _
    ·exact IR (d i (lo+x-1) k (by lia) (by lia)) g
theorem tZ(h:Q () (setArr st (mirror (arrOf st) i j ((j-i) / 2)))):wpS (model prog w) A E s (reverseSlice' i j) Q st:=by
 rw[reverseSlice'_eq];exact aaT h
theorem yH(C:gN O key S k0 (model prog w) A E s){lo n a:Nat}{Q:Option Nat->SortSt->Prop}(o:Ok S k0 st)(f:lo+a<=(arrOf st).size)(g:1<=n)(k:n<=a)(l:Hr O key (arrOf st) lo (lo+n))
  (h:∀m b,gP st b lo (lo+a)->1<=m->m<=a->jn O key (arrOf b) lo (lo+m)->Q (some m) b):wpS (model prog w) A E s (tailL lo n a) Q st:=by
 unfold tailL;have c:lo+n<=(arrOf st).size:=by lia
 refine Da (tZ ?_);have d:gP st (setArr st (mirror (arrOf st) lo (lo+n) ((lo+n-lo) / 2))) lo (lo+a):=gP.mirror (bJ _) (by lia) c
 refine Da (Ak C (o.step d) (by rw[d.size];exact f) g k ?_ λm q p e _=>Do (h m _ d (by lia) p e))
 intro i j r t u;show O.kle (ky O key (mirror (arrOf st) lo (lo+n) ((lo+n-lo) / 2)) i) (ky O key (mirror (arrOf st) lo (lo+n) ((lo+n-lo) / 2)) j);rw[rN c,rN c,tz (by lia),tz (by lia)]
 exact l _ _ (by lia) (by lia) (by lia)
theorem F4(C:gN O key S k0 (model prog w) A E s){lo n d:Nat}{Q:DescSt->SortSt->Prop}(o:Ok S k0 st)(Y:lo+d<=(arrOf st).size)(p:1<=n)(P:n<=d)(R:Hr O key (arrOf st) lo (lo+n))
  (h:∀m b a,gP st a lo (lo+d)->n<=m->m<=d->Hr O key (arrOf a) lo (lo+m)->b+1<=m->(∀i,lo+m-(b+1)<=i->i<lo+m->ky O key (arrOf a) i=ky O key (arrOf a) (lo+m-1))->Q (none,m,b) a):
  wpS (model prog w) A E s (AI lo n d) Q st:=by
 unfold AI
 refine Pi (I:=λx c a=>∃b,c=(none,x,b)/\gP st a lo (lo+d)/\Hr O key (arrOf a) lo (lo+x)/\b+1<=x/\
   (∀i,lo+x-(b+1)<=i->i<lo+x->ky O key (arrOf a) i=ky O key (arrOf a) (lo+x-1))) ?step ?fin ⟨0,rfl, .refl _ _ _,R,by lia,λi p r=>by congr 1;lia⟩
 case fin=>
  rintro c a ⟨b,rfl,e,f,q,g⟩;rw[show max n d=d by lia] at f q g ⊢
  exact h d b a e P (bJ _) f q g
 case step=>
  rintro x c a Z T ⟨b,rfl,e,f,q,g⟩;dsimp only;have F:=o.step e;have hz:=e.size;have G:lo+x<=(arrOf a).size:=by lia
  refine Da (qh C F (by lia) (by lia) ?_)
  cases H:O.blt (ky O key (arrOf a) (lo+x)) (ky O key (arrOf a) (lo+x-1))
  case true=>
   simp only[aaq]
   have J:∀t:Array Keyed,(∀k,ky O key t k=ky O key (arrOf a) k)->Hr O key t lo (lo+(x+1)):=by
    intro t L i j l u U;rw[L,L]
    by_cases v:j<lo+x
    ·exact f i j l u v
    ·have y:j=lo+x:=by lia
     subst y
     by_cases z:i=lo+x
     ·subst z;exact SZ _
     ·exact IR (On H) (f i (lo+x-1) l (by lia) (by lia))
   by_cases M:b>0
   ·rw[tz M]
    refine Da (tZ (Do ⟨0,rfl,e.trans (gP.mirror (by lia) (by lia) G),J _ (gy G g),by lia,λi p r=>by congr 1;lia⟩))
   ·rw[ir M]
    exact Do ⟨0,rfl,e,J _ (λ_=>rfl),by lia,λi p r=>by congr 1;lia⟩
  case false=>
   simp only[fj,M2];refine Da (qh C F (by lia) (by lia) ?_)
   cases X:O.blt (ky O key (arrOf a) (lo+x-1)) (ky O key (arrOf a) (lo+x))
   case true=>
    simp only[aaq];exact Do (h x b a e (by lia) (by lia) f q g)
   case false=>
    simp only[fj,M2];have N:ky O key (arrOf a) (lo+x)=ky O key (arrOf a) (lo+x-1):=O.total _ _ H X;refine Do ⟨b+1,rfl,e,λi j l u U=>?_,by lia,λi p r=>?_⟩
    ·by_cases v:j<lo+x
     ·exact f i j l u v
     ·have y:j=lo+x:=by lia
      subst y
      by_cases z:i=lo+x
      ·subst z;exact SZ _
      ·rw[N];exact f i (lo+x-1) l (by lia) (by lia)
    ·rw[show lo+(x+1)-1=lo+x by lia]
     by_cases B:i=lo+x
     ·subst B;rfl
     ·rw[N];exact g i (by lia) (by lia)
theorem yA(C:gN O key S k0 (model prog w) A E s){lo n b:Nat}{Q:Option Nat->SortSt->Prop}(o:Ok S k0 st)(u:lo+b<=(arrOf st).size)(v:n+1<=b)(x:Hr O key (arrOf st) lo (lo+(n+1)))
  (h:∀m a,gP st a lo (lo+b)->1<=m->m<=b->jn O key (arrOf a) lo (lo+m)->Q (some m) a):wpS (model prog w) A E s (descP lo n b) Q st:=by
 unfold descP;refine Da (aa8 (aau ⟨rfl,?_⟩));refine Da (F4 C o u (by lia) v x λm d a c F p q G r=>?_)
 dsimp only;have H:=c.size;have e:lo+m<=(arrOf a).size:=by lia
 by_cases t:d>0
 ·rw[tz t]
  have f:gP a (setArr a (mirror (arrOf a) (lo+m-(d+1)) (lo+m) ((lo+m-(lo+m-(d+1))) / 2))) lo (lo+b):=gP.mirror (by lia) (by lia) e
  refine Da (tZ (yH C (o.step (c.trans f)) (by rw[f.size];lia) (by lia) p ?_ λg k l=>h g k ((c.trans f).trans l)))
  intro i j y z B;show O.kle (ky O key (mirror (arrOf a) _ _ _) j) (ky O key (mirror (arrOf a) _ _ _) i);rw[gy e r,gy e r];exact q i j y z B
 ·rw[ir t]
  exact yH C (o.step c) (by lia) (by lia) p q λg k l=>h g k (c.trans l)
theorem wpS_countRun(C:gN O key S k0 (model prog w) A E s){lo a:Nat}{Q:Option Nat->SortSt->Prop}(o:Ok S k0 st)(v:lo+a<=(arrOf st).size)(I:1<=a)
  (h:∀m e,gP st e lo (lo+a)->1<=m->m<=a->jn O key (arrOf e) lo (lo+m)->Q (some m) e):wpS (model prog w) A E s (countRun' lo a) Q st:=by
 rw[zf];refine Da (Ak C o v (bJ 1) I (λi j c x y=>by have:i=j:=(by lia);subst this;exact SZ _) λn z B d f=>?_)
 dsimp only
 by_cases g:n=a
 ·rw[tz (by simpa using g)]
  exact Do (h n st (.refl _ _ _) z B d)
 ·rw[ir (by simpa using g)]
  have F:O.klt (ky O key (arrOf st) (lo+n)) (ky O key (arrOf st) (lo+n-1)):=f.resolve_left g
  by_cases G:n>1
  ·rw[tz G]
   refine Da (qh C o (by lia) (by lia) ?_)
   cases J:O.blt (ky O key (arrOf st) lo) (ky O key (arrOf st) (lo+n-1))
   case true=>
    simp only[aaq];exact Do (h n st (.refl _ _ _) z B d)
   case false=>
    simp only[fj,M2];have l:lo+n<=(arrOf st).size:=by lia
    have b:∀k,lo<=k->k<lo+n->ky O key (arrOf st) k=ky O key (arrOf st) (lo+n-1):=by
     intro k H L;have M:=d lo k (by lia) H L
     have N:=d k (lo+n-1) H (by lia) (by lia)
     exact KeyOrd.kle_antisymm N (IR J M)
    have p:gP st (setArr st (mirror (arrOf st) lo (lo+n) ((lo+n-lo) / 2))) lo (lo+a):=gP.mirror (bJ _) (by lia) l
    refine Da (tZ (yA C (o.step p) (by rw[p.size];lia) (by lia) ?_ λP R T=>h P R (p.trans T)))
    intro i j c x y;show O.kle (ky O key (mirror (arrOf st) _ _ _) j) (ky O key (mirror (arrOf st) _ _ _) i);rw[gy l b,gy l b]
    by_cases q:j<lo+n
    ·rw[b i c (by lia),b j (by lia) q];exact SZ _
    ·have U:j=lo+n:=by lia
     subst U
     by_cases r:i=lo+n
     ·subst r;exact SZ _
     ·rw[b i c (by lia)];exact On F
  ·rw[ir G]
   have X:n=1:=by lia
   subst X;refine yA C o v (by lia) ?_ h
   intro i j c x y
   by_cases r:i=j
   ·subst r;exact SZ _
   ·have t:i=lo:=by lia
    have u:j=lo+1:=by lia
    subst t;subst u;exact On F
end
section lists
variable (O:KeyOrd) (key:Keyed->O.α)
def LE(x y:Keyed):Prop:=O.kle (key x) (key y)
structure MI (l o ra rb:List Keyed):Prop where
 perm:(o++(ra++rb)).Perm l
 so:o.Pairwise (LE O key)
 sa:ra.Pairwise (LE O key)
 sb:rb.Pairwise (LE O key)
 le:∀x∈o,∀y∈ra++rb,LE O key x y
def Res(l r:List Keyed):Prop:=r.Perm l/\r.Pairwise (LE O key)
variable {O key}
theorem MI.m7{l o xs e b:List Keyed}(m:MI O key l o (xs++e) b)(h:∀x∈xs,∀y∈b,LE O key x y):MI O key l (o++xs) e b:=by
 obtain⟨f,g,c⟩:=B6.mp m.sa;refine⟨by simpa [nZ] using m.perm,B6.mpr ⟨m.so,f,λx d y a=>m.le x d y (by simp[a])⟩,g,m.sb,λx d y a=>?_⟩
 rcases cV.mp d with z|z
 ·refine m.le x z y ?_
  rcases cV.mp a with u|u<;>simp[u]
 ·rcases cV.mp a with u|u
  ·exact c x z y u
  ·exact h x z y u
theorem MI.swap(m:MI O key l o a b):MI O key l o b a:=
 ⟨(abb o fQ).trans m.perm,m.so,m.sb,m.sa,λx c y d=>m.le x c y (by rcases cV.mp d with u|u<;>simp[u])⟩
theorem MI.m8{l o xs a b:List Keyed}(m:MI O key l o a (xs++b))(h:∀x∈xs,∀y∈a,LE O key x y):MI O key l (o++xs) a b:=(m.swap.m7 h).swap
theorem MI.CA(m:MI O key l o a []):Res O key l (o++a):=
 ⟨by simpa using m.perm,B6.mpr ⟨m.so,m.sa,λx b y c=>m.le x b y (by simp[c])⟩⟩
theorem MI.Be(m:MI O key l o a b)(h:∀y∈b,∀x∈a,LE O key y x):Res O key l (o++b++a):=by
 have c:MI O key l o a (b++ []):=by rw[j7];exact m
 exact(c.m8 h).CA
end lists
def Bj(a b:Array Keyed)(h e f d:Nat)(out:Array Keyed)(g:Nat):StateT SortSt Sem (ForInStep (Option (Array Keyed)×Array Keyed×Nat×Nat×Nat×Nat×Nat)):=do
 let c <-elem' a d
 let out:Array Keyed:=out.push c
 let d:Nat:=d+1
 if (d+1==a.size)=true then pure (ForInStep.done (some (out++b.extract g b.size++a.extract d a.size),out,d,g,h,e,f))
 else if (decide (e<7)&&decide (f<7))=true then pure (ForInStep.done (none,out,d,g,h,e,f))
 else pure (ForInStep.yield (none,out,d,g,h,e,f))
def ux(a b:Array Keyed)(f g i d:Nat)(out:Array Keyed)(e:Nat):StateT SortSt Sem (ForInStep (Option (Array Keyed)×Array Keyed×Nat×Nat×Nat×Nat×Nat)):=do
 let c <-elem' b d
 let out:Array Keyed:=out.push c
 let d:Nat:=d+1
 if (d==b.size)=true then pure (ForInStep.done (some (out++a.extract e a.size++b.extract d b.size),out,e,d,f,g,i))
 else do
  let c <-elem' a e
  let h <-fc true c b d (b.size-d) 0
  match h with
  |some k=>
   if k>0 then
    if (d+k==b.size)=true then pure (ForInStep.done (some (out++b.extract d (d+k)++a.extract e a.size++b.extract (d+k) b.size),out++b.extract d (d+k),e,d+k,f,g,k))
    else Bj a b f g k e (out++b.extract d (d+k)) (d+k)
   else Bj a b f g k e out d
  |_=>pure (ForInStep.done (some (out++a.extract e a.size++b.extract d b.size),out,e,d,f,g,i))
def rR(a b:Array Keyed)(g i c e:Nat)(out:Array Keyed)(f:Nat):StateT SortSt Sem (ForInStep (Option (Array Keyed)×Array Keyed×Nat×Nat×Nat×Nat×Nat)):=do
 setMinGallop' f
 let d <-elem' b e
 let h <-fc false d a c (a.size-c) 0
 match h with
 |some k=>
  if k>0 then
   if (c+k+1==a.size)=true then pure (ForInStep.done (some (out++a.extract c (c+k)++b.extract e b.size++a.extract (c+k) a.size),out++a.extract c (c+k),c+k,e,f,k,g))
   else if (c+k==a.size)=true then pure (ForInStep.done (some (out++a.extract c (c+k)++a.extract (c+k) a.size++b.extract e b.size),out++a.extract c (c+k),c+k,e,f,k,g))
   else ux a b f k g e (out++a.extract c (c+k)) (c+k)
  else ux a b f k g e out c
 |_=>pure (ForInStep.done (some (out++a.extract c a.size++b.extract e b.size),out,c,e,f,i,g))
def Bl(a b:Array Keyed)(c:Option (Array Keyed)×Array Keyed×Nat×Nat×Nat×Nat×Nat):StateT SortSt Sem (ForInStep (Option (Array Keyed)×Array Keyed×Nat×Nat×Nat×Nat×Nat)):=
 if c.2.2.2.2.1>1 then rR a b c.2.2.2.2.2.2 c.2.2.2.2.2.1 c.2.2.1 c.2.2.2.1 c.2.1 (c.2.2.2.2.1-1) else rR a b c.2.2.2.2.2.2 c.2.2.2.2.2.1 c.2.2.1 c.2.2.2.1 c.2.1 c.2.2.2.2.1
def Bk(a b:Array Keyed)(e:Nat)(c:Option (Array Keyed)×Array Keyed×Nat×Nat×Nat×Nat):StateT SortSt Sem (ForInStep (Option (Array Keyed)×Array Keyed×Nat×Nat×Nat×Nat)):=do
 let y <-elem' b c.2.2.2.1
 let x <-elem' a c.2.2.1
 let d <-lt' y x
 match d with
 |some f=>
  if f=true then do
   let y <-elem' b c.2.2.2.1
   if (c.2.2.2.1+1==b.size)=true then pure (ForInStep.done (some (c.2.1.push y++a.extract c.2.2.1 a.size++b.extract (c.2.2.2.1+1) b.size),c.2.1.push y,c.2.2.1,c.2.2.2.1+1,0,c.2.2.2.2.2+1))
   else if c.2.2.2.2.2+1>=e then pure (ForInStep.done (none,c.2.1.push y,c.2.2.1,c.2.2.2.1+1,0,c.2.2.2.2.2+1))
   else pure (ForInStep.yield (none,c.2.1.push y,c.2.2.1,c.2.2.2.1+1,0,c.2.2.2.2.2+1))
  else do
   let x <-elem' a c.2.2.1
   if (c.2.2.1+1+1==a.size)=true then pure (ForInStep.done (some (c.2.1.push x++b.extract c.2.2.2.1 b.size++a.extract (c.2.2.1+1) a.size),c.2.1.push x,c.2.2.1+1,c.2.2.2.1,c.2.2.2.2.1+1,0))
   else if c.2.2.2.2.1+1>=e then pure (ForInStep.done (none,c.2.1.push x,c.2.2.1+1,c.2.2.2.1,c.2.2.2.2.1+1,0))
   else pure (ForInStep.yield (none,c.2.1.push x,c.2.2.1+1,c.2.2.2.1,c.2.2.2.2.1+1,0))
 |_=>pure (ForInStep.done (some (c.2.1++a.extract c.2.2.1 a.size++b.extract c.2.2.2.1 b.size),c.2.1,c.2.2.1,c.2.2.2.1,c.2.2.2.2.1,c.2.2.2.2.2))
def tu(a b:Array Keyed)(f:Option (Array Keyed)×Array Keyed×Nat×Nat×Nat):StateT SortSt Sem (ForInStep (Option (Array Keyed)×Array Keyed×Nat×Nat×Nat)):=do
 let e <-forIn [0:a.size+b.size] (none,f.2.1,f.2.2.1,f.2.2.2.1,0,0) λ_ c=>Bk a b f.2.2.2.2 c
 match e.1 with
 |some r=>pure (ForInStep.done (some r,e.2.1,e.2.2.1,e.2.2.2.1,f.2.2.2.2))
 |none=>do
  liftM (rule "list.sort.gallop")
  let d <-forIn [0:a.size+b.size] (none,e.2.1,e.2.2.1,e.2.2.2.1,f.2.2.2.2+1,e.2.2.2.2.1,e.2.2.2.2.2) λ_ c=>Bl a b c
  match d.1 with
  |some r=>pure (ForInStep.done (some r,d.2.1,d.2.2.1,d.2.2.2.1,d.2.2.2.2.1))
  |none=>do
   setMinGallop' (d.2.2.2.2.1+1)
   pure (ForInStep.yield (none,d.2.1,d.2.2.1,d.2.2.2.1,d.2.2.2.2.1+1))
theorem bnd{b d:Type}{m c:StateT SortSt Sem b}{f a:b->StateT SortSt Sem d}(h:m=c)(g:∀x,f x=a x):m>>=f=c>>=a:=by rw[h,show f=a from funext g]
theorem AQ{a:Type}{n:Nat}{d:a}{f b:Nat->a->StateT SortSt Sem (ForInStep a)}(h:∀i c,f i c=b i c):forIn [0:n] d f=forIn [0:n] d b:=by rw[show f=b from funext λi=>funext (h i)]
theorem fC [Decidable c] (h:c->x=a) (g:¬c->y=b):(if c then x else y)=if c then a else b:=by
 by_cases e:c
 ·rw[tz e,tz e];exact h e
 ·rw[ir e,ir e];exact g e
theorem zq(a b:Array Keyed):qw a b=(do
 rule "list.sort.merge-lo"
 let total:=a.size+b.size
 let done (out:Array Keyed) (c d:Nat):=out++a.extract c a.size++b.extract d b.size
 let e (out:Array Keyed) (c d:Nat):=out++b.extract d b.size++a.extract c a.size
 let mut out:Array Keyed:= #[<-elem' b 0]
 let mut c:=0
 let mut d:=1
 if d==b.size then return done out c d
 if c+1==a.size then return e out c d
 let mut minGallop:=gallopOf (<-get)
 for _ in [0:total] do
  let mut acount:=0
  let mut bcount:=0
  for _ in [0:total] do
   let some Ei <-lt' (<-elem' b d) (<-elem' a c) |return done out c d
   if Ei then
    out:=out.push (<-elem' b d);d:=d+1;bcount:=bcount+1;acount:=0
    if d==b.size then return done out c d
    if bcount>=minGallop then break
   else
    out:=out.push (<-elem' a c);c:=c+1;acount:=acount+1;bcount:=0
    if c+1==a.size then return e out c d
    if acount>=minGallop then break
  rule "list.sort.gallop"
  minGallop:=minGallop+1
  for _ in [0:total] do
   if minGallop>1 then minGallop:=minGallop-1
   setMinGallop' minGallop
   let some k <-fc false (<-elem' b d) a c (a.size-c) 0|return done out c d
   acount:=k
   if k>0 then
    out:=out++a.extract c (c+k);c:=c+k
    if c+1==a.size then return e out c d
    if c==a.size then return done out c d
   out:=out.push (<-elem' b d);d:=d+1
   if d==b.size then return done out c d
   let some k <-fc true (<-elem' a c) b d (b.size-d) 0|return done out c d
   bcount:=k
   if k>0 then
    out:=out++b.extract d (d+k);d:=d+k
    if d==b.size then return done out c d
   out:=out.push (<-elem' a c);c:=c+1
   if c+1==a.size then return e out c d
   if acount<7&&bcount<7 then break
  minGallop:=minGallop+1
  setMinGallop' minGallop
 unsupported "internal:list.sort.merge-bound"):=rfl
theorem Bp(a b:Array Keyed):qw a b=(do
 liftM (rule "list.sort.merge-lo")
 let y <-elem' b 0
 if (1==b.size)=true then pure (#[y]++a.extract 0 a.size++b.extract 1 b.size)
 else if (0+1==a.size)=true then pure (#[y]++b.extract 1 b.size++a.extract 0 a.size)
 else do
  let d <-get
  let e <-forIn [0:a.size+b.size] (none, #[y],0,1,gallopOf d) λ_ c=>tu a b c
  match e.1 with
  |some r=>pure r
  |none=>liftM (unsupported (α:=Array Keyed) "internal:list.sort.merge-bound")):=by
 rw[zq];dsimp only;refine bnd rfl λ_=>bnd rfl λy=>?_;refine Gc (ite _ _) (Gc (ite _ _) ?_);refine bnd rfl λg=>bnd (AQ λ_ c=>?_) λu=>?_
 ·unfold tu
  refine bnd (AQ λ_ t=>?_) λt=>?_
  ·unfold Bk
   refine bnd rfl λ_=>bnd rfl λ_=>bnd rfl λz=>?_;cases z<;>rfl
  ·obtain⟨i,l⟩:=t
   cases i with
   |some r=>rfl
   |none=>
    dsimp only;refine bnd rfl λ_=>bnd (AQ λ_ u=>?_) λu=>?_
    ·unfold Bl
     have m:∀h,rR a b u.2.2.2.2.2.2 u.2.2.2.2.2.1 u.2.2.1 u.2.2.2.1 u.2.1 h=rR a b u.2.2.2.2.2.2 u.2.2.2.2.2.1 u.2.2.1 u.2.2.2.1 u.2.1 h:=λ_=>rfl;refine fC (λ_=>?_) (λ_=>?_)
     all_goals
      unfold rR;refine bnd rfl λ_=>bnd rfl λ_=>bnd rfl λz=>?_;cases z with
      |none=>rfl
      |some k=>
       dsimp only;refine fC (λ_=>?_) (λ_=>?_)
       ·refine fC (λ_=>rfl) (λ_=>fC (λ_=>rfl) (λ_=>?_))
        unfold ux;refine bnd rfl λ_=>fC (λ_=>rfl) (λ_=>bnd rfl λ_=>bnd rfl λz=>?_);cases z with
        |none=>rfl
        |some k=>rfl
       ·unfold ux
        refine bnd rfl λ_=>fC (λ_=>rfl) (λ_=>bnd rfl λ_=>bnd rfl λz=>?_);cases z with
        |none=>rfl
        |some k=>rfl
    ·obtain⟨f,j⟩:=u
     cases f<;>rfl
 ·obtain⟨f,j⟩:=u
  cases f<;>rfl
structure GS (st au:SortSt):Prop where
 arr:arrOf au=arrOf st
 kind:kindOf au=kindOf st
 failed:failedOf au=failedOf st
 pend:pendingOf au=pendingOf st
theorem GS.refl(st:SortSt):GS st st:=⟨rfl,rfl,rfl,rfl⟩
theorem GS.trans(x:GS a b)(y:GS b c):GS a c:=⟨y.arr.trans x.arr,y.kind.trans x.kind,y.failed.trans x.failed,y.pend.trans x.pend⟩
theorem tR(g:Nat):setMinGallop' g=modify λs=>SortSt.mk' (kindOf s) (arrOf s) (pendingOf s) g (failedOf s):=rfl
theorem ext_toList(a:Array Keyed)(i j:Nat):(a.extract i j).toList=(a.toList.drop i).take (j-i):=by
 rw[Array.toList_extract]
theorem lV(a:Array Keyed)(i:Nat):(a.extract i a.size).toList=a.toList.drop i:=by
 rw[ext_toList,yW (by simp)]
theorem drop_cons{xs:Array Keyed}(h:xs[i]? =some x):xs.toList.drop i=x::xs.toList.drop (i+1):=by
 have a:xs.toList[i]? =some x:=by rw[<-h];simp
 obtain⟨b,e⟩:=dQ.mp a;rw[mH b,e]
theorem oK(l:List Keyed)(i k:Nat):l.drop i=(l.drop i).take k++l.drop (i+k):=by
 rw[<-abu,hV]
theorem eY{l:List Keyed}{i k:Nat}{x:Keyed}(h:x∈(l.drop i).take k):∃j,j<k/\i+j<l.length/\l[i+j]? =some x:=by
 obtain⟨j,a⟩:=t5 h;rw[List.getElem?_take] at a
 split at a
 ·rename_i c
  rw[rf] at a;exact⟨j,c,(dQ.mp a).1,a⟩
 ·cases a
theorem gF{l:List Keyed}{i:Nat}{x:Keyed}(h:x∈l.drop i):∃j,i+j<l.length/\l[i+j]? =some x:=by
 obtain⟨j,a⟩:=t5 h;rw[rf] at a;exact⟨j,(dQ.mp a).1,a⟩
section
variable {O:KeyOrd} {key:Keyed->O.α} {S:Keyed->Prop} {k0:SortKind} {M:Model} {A:Around} {E:Value->Shared->Prop} {s:Shared} {st bS:SortSt}
theorem qE(h:∀a,GS st a->Q () a):wpS M A E s (setMinGallop' g) Q st:=by
 rw[tR];exact aaT (h _ ⟨rfl,rfl,rfl,rfl⟩)
structure n9 (O:KeyOrd) (key:Keyed->O.α) (S:Keyed->Prop) (a b:Array Keyed):Prop where
 ma:∀x∈a.toList,S x
 mb:∀x∈b.toList,S x
 sa:a.toList.Pairwise (LE O key)
 sb:b.toList.Pairwise (LE O key)
 na:1<=a.size
 nb:1<=b.size
 first:∀y,b[0]? =some y->∀x∈a.toList,LE O key y x
 last:∀x,a[a.size-1]? =some x->∀y∈b.toList,LE O key y x
theorem n9.Be(T:n9 O key S a b)(h:c+1=a.size):∀y∈b.toList.drop d,∀x∈a.toList.drop c,LE O key y x:=λy f x g=>by
 obtain⟨j,i,e⟩:=gF g;rw[eN] at i
 have:c+j=a.size-1:=by lia
 rw[this] at e;exact T.last x (by rw[<-e];simp) y (List.mem_of_mem_drop f)
theorem fZ{l:List Keyed}(h:l.Pairwise (LE O key)){i j:Nat}{x y:Keyed}(k:i<=j)(b:l[i]? =some x)(a:l[j]? =some y):LE O key x y:=by
 by_cases e:i=j
 ·subst e
  rw[b] at a;cases a;exact SZ _
 ·obtain⟨c,d⟩:=dQ.mp b
  obtain⟨f,g⟩:=dQ.mp a;rw[<-d,<-g];exact D8.mp h i j c f (by lia)
theorem qC(m:∀x∈a.toList,S x){i n:Nat}(h:i+n<=a.size):Seg S a i n (λj=>a[i+j]?.getD (.none, .none)):=
 ⟨λj b=>by
  have:i+j<a.size:=by lia
  rw[aaF a (i+j) this];rfl,λj b=>by
  have:i+j<a.size:=by lia
  rw[aaF a (i+j) this];exact m _ (by simp)⟩
theorem bO{xs:Array Keyed}{i:Nat}(h:i<xs.size):∃x,xs[i]? =some x/\x∈xs.toList/\xs.toList[i]? =some x:=by
 refine⟨xs[i],aaF xs i h,by simp,?_⟩
 rw[fi];exact aaF xs i h
theorem lY{a:Array Keyed}{i:Nat}{x:Keyed}(h:a[i]? =some x):a.toList[i]? =some x:=by rw[fi];exact h
theorem kn{a:Array Keyed}{i:Nat}{x:Keyed}(h:a.toList[i]? =some x):a[i]? =some x:=by rw[<-fi];exact h
structure IV (O:KeyOrd) (key:Keyed->O.α) (a b out:Array Keyed) (ia ib:Nat):Prop where
 mi:MI O key (a.toList++b.toList) out.toList (a.toList.drop ia) (b.toList.drop ib)
 ha:ia<a.size
 hb:ib<b.size
theorem IV.uG{a b out:Array Keyed}(v:MI O key (a.toList++b.toList) out.toList (a.toList.drop c) (b.toList.drop d))(e:b[d]? =some y)(h:∀x∈a.toList.drop c,LE O key y x):
  MI O key (a.toList++b.toList) (out.push y).toList (a.toList.drop c) (b.toList.drop (d+1)):=by
 rw[drop_cons e] at v;rw[vA];exact MI.m8 (xs:= [y]) v λx f=>by rw[e7.mp f];exact h
theorem IV.uF{a b out:Array Keyed}(v:MI O key (a.toList++b.toList) out.toList (a.toList.drop c) (b.toList.drop d))(e:a[c]? =some x)(h:∀y∈b.toList.drop d,LE O key x y):
  MI O key (a.toList++b.toList) (out.push x).toList (a.toList.drop (c+1)) (b.toList.drop d):=by
 rw[drop_cons e] at v;rw[vA];exact MI.m7 (xs:= [x]) v λx e=>by rw[e7.mp e];exact h
theorem IV.m8{a b out:Array Keyed}(v:MI O key (a.toList++b.toList) out.toList (a.toList.drop d) (b.toList.drop c))(h:∀y∈(b.toList.drop c).take k,∀x∈a.toList.drop d,LE O key y x):
  MI O key (a.toList++b.toList) (out++b.extract c (c+k)).toList (a.toList.drop d) (b.toList.drop (c+k)):=by
 rw[oK b.toList c k] at v;rw[jh,ext_toList,show c+k-c=k by lia]
 exact MI.m8 v h
theorem IV.m7{a b out:Array Keyed}(v:MI O key (a.toList++b.toList) out.toList (a.toList.drop c) (b.toList.drop d))(h:∀x∈(a.toList.drop c).take k,∀y∈b.toList.drop d,LE O key x y):
  MI O key (a.toList++b.toList) (out++a.extract c (c+k)).toList (a.toList.drop (c+k)) (b.toList.drop d):=by
 rw[oK a.toList c k] at v;rw[jh,ext_toList,show c+k-c=k by lia]
 exact MI.m7 v h
theorem IV.ue{a b out:Array Keyed}(v:MI O key (a.toList++b.toList) out.toList (a.toList.drop d) (b.toList.drop c))(h:c=b.size):Res O key (a.toList++b.toList) (out++a.extract d a.size++b.extract c b.size).toList:=by
 have e:b.toList.drop c= []:=Eb (by rw[eN];lia)
 rw[jh,jh,lV,lV,e,j7];rw[e] at v;exact v.CA
theorem IV.ud{a b out:Array Keyed}(v:MI O key (a.toList++b.toList) out.toList (a.toList.drop c) (b.toList.drop d))(h:c=a.size):Res O key (a.toList++b.toList) (out++a.extract c a.size++b.extract d b.size).toList:=by
 have e:a.toList.drop c= []:=Eb (by rw[eN];lia)
 rw[jh,jh,lV,lV,e,j7];rw[e] at v;exact v.swap.CA
theorem IV.last(T:n9 O key S a b)(v:MI O key (a.toList++b.toList) out.toList (a.toList.drop c) (b.toList.drop d))(h:c+1=a.size):Res O key (a.toList++b.toList) (out++b.extract d b.size++a.extract c a.size).toList:=by
 rw[jh,jh,lV,lV];exact v.Be (T.Be h)
end
section
variable {O:KeyOrd} {key:Keyed->O.α} {S:Keyed->Prop} {k0:SortKind} {M:Model} {A:Around} {E:Value->Shared->Prop} {s:Shared} {st bS:SortSt} {a b:Array Keyed}
def Inv(O:KeyOrd)(key:Keyed->O.α)(a b:Array Keyed)(n:Nat)(out:Array Keyed)(c d:Nat):Prop:=MI O key (a.toList++b.toList) out.toList (a.toList.drop c) (b.toList.drop d)/\c+1<a.size/\d<b.size/\n<=c+d
def Fin{d:Type}(O:KeyOrd)(key:Keyed->O.α)(a b:Array Keyed)(n:Nat)(c:Option (Array Keyed)×Array Keyed×Nat×Nat×d):Prop:=
 (∃r,c.1=some r/\Res O key (a.toList++b.toList) r.toList)\/(c.1=none/\Inv O key a b n c.2.1 c.2.2.1 c.2.2.2.1)
def Out{d:Type}(O:KeyOrd)(key:Keyed->O.α)(a b:Array Keyed)(n:Nat)(r:ForInStep (Option (Array Keyed)×Array Keyed×Nat×Nat×d)):Prop:=match r with
 | .done c=>Fin O key a b n c
 | .yield c=>c.1=none/\Inv O key a b n c.2.1 c.2.2.1 c.2.2.2.1
def SU{d:Type}(O:KeyOrd)(key:Keyed->O.α)(a b:Array Keyed)(n:Nat)(r:ForInStep (Option (Array Keyed)×Array Keyed×Nat×Nat×d)):Prop:=match r with
 | .done c=>∃r,c.1=some r/\Res O key (a.toList++b.toList) r.toList
 | .yield c=>c.1=none/\Inv O key a b n c.2.1 c.2.2.1 c.2.2.2.1
theorem yG(T:n9 O key S a b)(g:GS bS st)(v:MI O key (a.toList++b.toList) out.toList (a.toList.drop c) (b.toList.drop d))(w:c+1<a.size)(p:d<b.size)(z:n<=c+d)
  (q:∀x,a[c]? =some x->∀y∈b.toList.drop d,LE O key x y):wpS M A E s (Bj a b o h j c out d) (λr t=>GS bS t/\Out O key a b n r) st:=by
 unfold Bj;rfl';obtain⟨x,e,C,_⟩:=bO (xs:=a) (i:=c) (by lia)
 ac_rfl;refine Da (bC e ?_);have k:=IV.uF v e (q x e);dsimp only
 by_cases f:c+1+1=a.size
 ·rw[tz (by simpa using f)]
  exact Do ⟨g, .inl ⟨_,rfl,IV.last T k f⟩⟩
 ·rw[ir (by simpa using f)]
  have l:Inv O key a b n (out.push x) (c+1) d:=⟨k,by lia,p,by lia⟩
  by_cases m:(decide (h<7)&&decide (j<7))=true
  ·rw[tz m]
   exact Do ⟨g, .inr ⟨rfl,l⟩⟩
  ·rw[ir m]
   exact Do ⟨g,rfl,l⟩
theorem yF(C:gN O key S f M A E s)(R:kindOf st=f)(T:n9 O key S a b)(g:GS bS st)(v:MI O key (a.toList++b.toList) out.toList (a.toList.drop d) (b.toList.drop c))(H:d+1<a.size)(Z:c<b.size)(hn:n<=d+c)
  (hy:∀y,b[c]? =some y->∀x∈a.toList.drop d,LE O key y x):wpS M A E s (ux a b U X Y c out d) (λr au=>GS bS au/\Out O key a b n r) st:=by
 unfold ux;refine ah λG0 f=>?_;obtain⟨y,o,my,_⟩:=bO (xs:=b) (i:=c) Z;refine f ?_;refine Da (bC o ?_);have q:=IV.uG v o (hy y o);dsimp only
 by_cases t:c+1=b.size
 ·rw[tz (by simpa using t)]
  exact Do ⟨g, .inl ⟨_,rfl,IV.ue q t⟩⟩
 ·rw[ir (by simpa using t)]
  refine ah λG0 f=>?_;obtain⟨x,I,mx,lx⟩:=bO (xs:=a) (i:=d) (by lia)
  refine f ?_;refine Da (bC I ?_)
  have w:∀z∈a.toList.drop d,LE O key x z:=λz k=>by
   obtain⟨j,_,l⟩:=gF k;exact fZ T.sa (by lia) lx l
  have J:∀j z,c+1+j<b.size->b.toList[c+1+j]? =some z->b[c+1+j]?.getD (Value.none,Value.none)=z:=λj z B e=>by rw[kn e];rfl
  refine Da (gM C (qC T.mb (i:=c+1) (n:=b.size-(c+1)) (by lia)) (T.ma x mx) R (by lia) (λi j cW B h=>?_) λp hp pt pf=>?_)
  ·obtain⟨yi,e1,_,l1⟩:=bO (xs:=b) (i:=c+1+i) (by lia)
   obtain⟨yj,e2,_,l2⟩:=bO (xs:=b) (i:=c+1+j) (by lia)
   unfold eu at h ⊢;rw[tz rfl] at h ⊢;rw[e2] at h;rw[e1];exact aaP (fZ T.sb (by lia) l1 l2) h
  ·have lo:∀y∈(b.toList.drop (c+1)).take p,∀x∈a.toList.drop d,LE O key y x:=λz k u hu=>by
    obtain⟨j,B,m,l⟩:=eY k;rw[eN] at m
    have:=pt j B
    unfold eu at this;rw[tz rfl,J j z m l] at this;exact IR (On this) (w u hu)
   have L:∀F,a[d]? =some F->∀y∈b.toList.drop (c+1+p),LE O key F y:=λF N z k=>by
    rw[I] at N;cases N;obtain⟨j,m,l⟩:=gF k;rw[eN] at m
    have:=pf (p+j) (by lia) (by lia)
    unfold eu at this;rw[tz rfl,J (p+j) z (by lia) (by rw[<-l];congr 1;lia)] at this
    exact this
   dsimp only
   by_cases P:p>0
   ·rw[tz P]
    have Q:=IV.m8 q lo
    by_cases G:c+1+p=b.size
    ·rw[tz (by simpa using G)]
     exact Do ⟨g, .inl ⟨_,rfl,IV.ue Q G⟩⟩
    ·rw[ir (by simpa using G)]
     exact yG T g Q H (by lia) (by lia) L
   ·rw[ir P]
    have:p=0:=by lia
    subst this;exact yG T g q H (by lia) (by lia) L
theorem yE(C:gN O key S l M A E s)(X:kindOf st=l)(T:n9 O key S a b)(g:GS bS st)(iv:Inv O key a b n out c d):wpS M A E s (rR a b bc Z c d out Y) (λr au=>GS bS au/\Out O key a b n r) st:=by
 obtain⟨v,ha,q,hn⟩:=iv;unfold rR;refine Da (qE λBN L=>?_);have t:kindOf BN=l:=L.kind.trans X;have m:=g.trans L;refine ah λG0 l=>?_;obtain⟨y,N,my,ly⟩:=bO (xs:=b) (i:=d) q;refine l ?_;refine Da (bC N ?_)
 have w:∀z∈b.toList.drop d,LE O key y z:=λz f=>by
  obtain⟨j,_,k⟩:=gF f;exact fZ T.sb (by lia) ly k
 have P:∀j z,c+j<a.size->a.toList[c+j]? =some z->a[c+j]?.getD (Value.none,Value.none)=z:=λj z B e=>by rw[kn e];rfl
 refine Da (gM C (qC T.ma (i:=c) (n:=a.size-c) (by lia)) (T.mb y my) t (by lia) (λi j cW B h=>?_) λp hp pt pf=>?_)
 ·obtain⟨xi,e1,_,l1⟩:=bO (xs:=a) (i:=c+i) (by lia)
  obtain⟨xj,e2,_,l2⟩:=bO (xs:=a) (i:=c+j) (by lia)
  unfold eu at h ⊢;rw[ir (by decide)] at h ⊢
  rw[e2] at h;rw[e1];have F:O.kle (key xj) (key y):=by unfold KeyOrd.kle;simpa using h
  have:=IR (fZ T.sa (by lia) l1 l2) F
  unfold KeyOrd.kle at this;simpa using this
 ·have lo:∀x∈(a.toList.drop c).take p,∀y∈b.toList.drop d,LE O key x y:=λz f u hu=>by
   obtain⟨j,B,o,k⟩:=eY f;rw[eN] at o
   have:=pt j B
   unfold eu at this;rw[ir (by decide),P j z o k] at this
   have F:O.kle (key z) (key y):=by unfold KeyOrd.kle;simpa using this
   exact IR F (w u hu)
  have Q:∀G,b[d]? =some G->∀x∈a.toList.drop (c+p),LE O key G x:=λG R z f=>by
   rw[N] at R;cases R;obtain⟨j,o,k⟩:=gF f;rw[eN] at o
   have:=pf (p+j) (by lia) (by lia)
   unfold eu at this;rw[ir (by decide),P (p+j) z (by lia) (by rw[<-k];congr 1;lia)] at this
   exact On (show O.blt _ _=true by simpa using this)
  dsimp only
  by_cases U:p>0
  ·rw[tz U]
   have H:=IV.m7 v lo
   by_cases I:c+p+1=a.size
   ·rw[tz (by simpa using I)]
    exact Do ⟨m, .inl ⟨_,rfl,IV.last T H I⟩⟩
   ·rw[ir (by simpa using I)]
    by_cases J:c+p=a.size
    ·rw[tz (by simpa using J)]
     exact Do ⟨m, .inl ⟨_,rfl,IV.ud H J⟩⟩
    ·rw[ir (by simpa using J)]
     exact yF C t T m H (by lia) q (by lia) Q
  ·rw[ir U]
   have:p=0:=by lia
   subst this;exact yF C t T m v ha q hn Q
theorem F8(C:gN O key S k0 M A E s)(d:kindOf st=k0)(T:n9 O key S a b)(g:GS bS st)(c:Option (Array Keyed)×Array Keyed×Nat×Nat×Nat×Nat×Nat)(e:Inv O key a b n c.2.1 c.2.2.1 c.2.2.2.1):
  wpS M A E s (Bl a b c) (λr f=>GS bS f/\Out O key a b n r) st:=by
 unfold Bl
 by_cases h:c.2.2.2.2.1>1
 ·rw[tz h];exact yE C d T g e
 ·rw[ir h];exact yE C d T g e
theorem F7(C:gN O key S o M A E s)(F:kindOf st=o)(T:n9 O key S a b)(g:GS bS st)(c:Option (Array Keyed)×Array Keyed×Nat×Nat×Nat×Nat)(d:Inv O key a b n c.2.1 c.2.2.1 c.2.2.2.1):
  wpS M A E s (Bk a b p c) (λr G=>GS bS G/\Out O key a b (n+1) r) st:=by
 obtain⟨U,out,l,m,H,I⟩:=c;obtain⟨v,J,B,L⟩:=d;dsimp only at v J B L;unfold Bk;dsimp only;refine ah λX o=>?_;obtain⟨y,q,N,P⟩:=bO (xs:=b) (i:=m) B;obtain⟨x,t,Q,R⟩:=bO (xs:=a) (i:=l) (by lia)
 refine o ?_;refine Da (bC q (Da (bC t (Da (C _ _ _ _ (T.mb y N) (T.ma x Q) F ?_)))));cases e:O.blt (key y) (key x) with
 |true=>
  dsimp only;rw[tz rfl];refine Da (bC q ?_)
  have h:=IV.uG v q λz u=>by
   obtain⟨j,_,w⟩:=gF u;exact IR (On e) (fZ T.sa (by lia) R w)
  by_cases f:m+1=b.size
  ·rw[tz (by simpa using f)]
   exact Do ⟨g, .inl ⟨_,rfl,IV.ue h f⟩⟩
  ·rw[ir (by simpa using f)]
   have d:Inv O key a b (n+1) (out.push y) l (m+1):=⟨h,by lia,by lia,by lia⟩
   by_cases k:I+1>=p
   ·rw[tz k];exact Do ⟨g, .inr ⟨rfl,d⟩⟩
   ·rw[ir k];exact Do ⟨g,rfl,d⟩
 |false=>
  dsimp only;rw[ir (by decide)]
  refine Da (bC t ?_)
  have h:=IV.uF v t λz u=>by
   obtain⟨j,_,w⟩:=gF u;exact IR e (fZ T.sb (by lia) P w)
  by_cases f:l+1+1=a.size
  ·rw[tz (by simpa using f)]
   exact Do ⟨g, .inl ⟨_,rfl,IV.last T h f⟩⟩
  ·rw[ir (by simpa using f)]
   have d:Inv O key a b (n+1) (out.push x) (l+1) m:=⟨h,by lia,by lia,by lia⟩
   by_cases k:H+1>=p
   ·rw[tz k];exact Do ⟨g, .inr ⟨rfl,d⟩⟩
   ·rw[ir k];exact Do ⟨g,rfl,d⟩
theorem Inv.le(h:Inv O key a b n out c d)(e:m<=n):Inv O key a b m out c d:=⟨h.1,h.2.1,h.2.2.1,mM e h.2.2.2⟩
theorem BV(C:gN O key S l M A E s)(H:kindOf st=l)(T:n9 O key S a b)(g:GS bS st)(t:kindOf bS=l)(c:Option (Array Keyed)×Array Keyed×Nat×Nat×Nat)(u:Inv O key a b n c.2.1 c.2.2.1 c.2.2.2.1):
  wpS M A E s (tu a b c) (λr h=>GS bS h/\SU O key a b (n+1) r) st:=by
 have J:0<a.size+b.size:=by have:=T.na;lia
 unfold tu;refine Da (Os (Pi (I:=λ(x:Nat)(f:Option (Array Keyed)×Array Keyed×Nat×Nat×Nat×Nat)(h:SortSt)=>GS bS h/\f.1=none/\Inv O key a b (n+min x 1) f.2.1 f.2.2.1 f.2.2.2.1) (Q:=λf h=>GS bS h/\Fin O key a b (n+1) f) ?step ?fin ⟨g,rfl,u.le (by lia)⟩) ?post)
 case fin=>
  rintro f h ⟨i,m,j⟩;exact⟨i, .inr ⟨m,j.le (by lia)⟩⟩
 case step=>
  rintro x f h _ _ ⟨i,m,j⟩;refine Os (F7 C (i.kind.trans t) T i f j) λr v q=>?_;refine ah λw l=>?_;obtain⟨p,o⟩:=q;refine l ?_;cases r with
  |done d=>
   refine⟨p,?_⟩
   rcases o with o| ⟨y,z⟩
   ·exact .inl o
   ·exact .inr ⟨y,z.le (by lia)⟩
  |yield d=>exact⟨p,o.1,o.2.le (by lia)⟩
 case post=>
  rintro⟨L,N⟩ h ⟨i,o⟩
  rcases o with ⟨r,e,k⟩ | ⟨e,B⟩
  ·dsimp only at e
   subst e;exact Do ⟨i,r,rfl,k⟩
  ·dsimp only at e
   subst e;dsimp only;refine Da (aa8 (aau ⟨rfl,?_⟩));refine Da (Os (Pi (I:=λ(x:Nat)(f:Option (Array Keyed)×Array Keyed×Nat×Nat×Nat×Nat×Nat)(h:SortSt)=>GS bS h/\f.1=none/\Inv O key a b (n+1) f.2.1 f.2.2.1 f.2.2.2.1) (Q:=λf h=>GS bS h/\Fin O key a b (n+1) f) ?step2 ?fin2 ⟨i,rfl,B⟩) ?post2)
   case fin2=>
    rintro f h ⟨i,m,j⟩;exact⟨i, .inr ⟨m,j⟩⟩
   case step2=>
    rintro x f h _ _ ⟨i,m,j⟩;refine Os (F8 C (i.kind.trans t) T i f j) λr v q=>?_;refine ah λw l=>?_;obtain⟨p,o⟩:=q;refine l ?_;cases r with
    |done d=>exact⟨p,o⟩
    |yield d=>exact⟨p,o⟩
   case post2=>
    rintro⟨P,R⟩ h ⟨i,o⟩
    rcases o with ⟨r,e,k⟩ | ⟨e,F⟩
    ·dsimp only at e
     subst e;exact Do ⟨i,r,rfl,k⟩
    ·dsimp only at e
     subst e;refine Da (qE λU G=>Do ⟨i.trans G,rfl,F⟩)
theorem BY(C:gN O key S h M A E s)(p:kindOf st=h)(T:n9 O key S a b)(q:∀r c,GS st c->Res O key (a.toList++b.toList) r.toList->Q r c):wpS M A E s (qw a b) Q st:=by
 rw[Bp];refine Da (aa8 (aau ⟨rfl,?_⟩));refine ah λu h=>?_;obtain⟨y,m,B,F⟩:=bO (xs:=b) (i:=0) T.nb;refine h ?_;refine Da (bC m ?_);have v:MI O key (a.toList++b.toList) (#[]:Array Keyed).toList (a.toList.drop 0) (b.toList.drop 0):=⟨by simp,by simp,by simpa using T.sa,by simpa using T.sb,by simp⟩
 have l:=IV.uG v m (T.first y m);have w:(#[]:Array Keyed).push y= #[y]:=rfl;rw[w] at l
 by_cases j:1=b.size
 ·rw[tz (by simpa using j)]
  exact Do (q _ _ (GS.refl _) (IV.ue l j))
 ·rw[ir (by simpa using j)]
  by_cases f:0+1=a.size
  ·rw[tz (by simpa using f)]
   exact Do (q _ _ (GS.refl _) (IV.last T l f))
  ·rw[ir (by simpa using f)]
   refine Da (aaJ ?_);have G:=T.na;have H:=T.nb;refine Da (Os (Pi (I:=λ(x:Nat)(g:Option (Array Keyed)×Array Keyed×Nat×Nat×Nat)(c:SortSt)=>GS st c/\g.1=none/\Inv O key a b (x+1) g.2.1 g.2.2.1 g.2.2.2.1) (Q:=λg c=>GS st c/\∃r,g.1=some r/\Res O key (a.toList++b.toList) r.toList) ?step ?fin ⟨GS.refl _,rfl,l,by show 0+1<a.size;lia,by show 1<b.size;lia,by show 0+1<=0+1;lia⟩) ?post)
   case fin=>
    rintro g c ⟨k,j,f⟩
    have:=f.2.2.2
    have:=f.2.1
    have:=f.2.2.1
    lia
   case step=>
    rintro x g c _ _ ⟨k,j,f⟩;refine Os (BV C (k.kind.trans p) T k p g f) λr J z=>?_;refine ah λu h=>?_;obtain⟨t,o⟩:=z;refine h ?_;cases r with
    |done d=>exact⟨t,o⟩
    |yield d=>exact⟨t,o⟩
   case post=>
    rintro⟨L,N⟩ c ⟨k,r,e,n⟩;dsimp only at e;subst e;exact Do (q r c k n)
end
theorem zp(a b:Array Keyed):qv a b=(do
 rule "list.sort.merge-hi"
 let total:=a.size+b.size
 let done (out:Array Keyed) (na nb:Nat):=a.extract 0 na++b.extract 0 nb++out.reverse
 let c (out:Array Keyed) (na nb:Nat):=b.extract 0 nb++a.extract 0 na++out.reverse
 let mut na:=a.size-1
 let mut nb:=b.size
 let mut out:Array Keyed:= #[<-elem' a na]
 if na==0 then return done out na nb
 if nb==1 then return c out na nb
 let mut minGallop:=gallopOf (<-get)
 for _ in [0:total] do
  let mut acount:=0
  let mut bcount:=0
  for _ in [0:total] do
   let some Eh <-lt' (<-elem' b (nb-1)) (<-elem' a (na-1)) |return done out na nb
   if Eh then
    na:=na-1;out:=out.push (<-elem' a na);acount:=acount+1;bcount:=0
    if na==0 then return done out na nb
    if acount>=minGallop then break
   else
    nb:=nb-1;out:=out.push (<-elem' b nb);bcount:=bcount+1;acount:=0
    if nb==1 then return c out na nb
    if bcount>=minGallop then break
  rule "list.sort.gallop"
  minGallop:=minGallop+1
  for _ in [0:total] do
   if minGallop>1 then minGallop:=minGallop-1
   setMinGallop' minGallop
   let some at_ <-fc false (<-elem' b (nb-1)) a 0 na (na-1) |return done out na nb
   let k:=na-at_
   acount:=k
   if k>0 then
    out:=out++(a.extract at_ na).reverse;na:=at_
    if na==0 then return done out na nb
   nb:=nb-1;out:=out.push (<-elem' b nb)
   if nb==1 then return c out na nb
   let some at_ <-fc true (<-elem' a (na-1)) b 0 nb (nb-1) |return done out na nb
   let k:=nb-at_
   bcount:=k
   if k>0 then
    out:=out++(b.extract at_ nb).reverse;nb:=at_
    if nb==1 then return c out na nb
    if nb==0 then return done out na nb
   na:=na-1;out:=out.push (<-elem' a na)
   if na==0 then return done out na nb
   if acount<7&&bcount<7 then break
  minGallop:=minGallop+1
  setMinGallop' minGallop
 unsupported "internal:list.sort.merge-bound"):=rfl
abbrev S7:=Option (Array Keyed)×Nat×Nat×Array Keyed×Nat×Nat×Nat
abbrev S6:=Option (Array Keyed)×Nat×Nat×Array Keyed×Nat×Nat
abbrev S5:=Option (Array Keyed)×Nat×Nat×Array Keyed×Nat
def iU(a b out:Array Keyed)(c d:Nat):Array Keyed:=a.extract 0 c++b.extract 0 d++out.reverse
def qs(a b out:Array Keyed)(c d:Nat):Array Keyed:=b.extract 0 d++a.extract 0 c++out.reverse
def AX(a b:Array Keyed)(g d e c:Nat)(out:Array Keyed)(f:Nat):StateT SortSt Sem (ForInStep S7):=do
 let x <-elem' a (c-1)
 if (c-1==0)=true then pure (ForInStep.done (some (iU a b (out.push x) (c-1) f),c-1,f,out.push x,g,d,e))
 else if (decide (d<7)&&decide (e<7))=true then pure (ForInStep.done (none,c-1,f,out.push x,g,d,e))
 else pure (ForInStep.yield (none,c-1,f,out.push x,g,d,e))
def ui(a b:Array Keyed)(e f h c:Nat)(out:Array Keyed)(d:Nat):StateT SortSt Sem (ForInStep S7):=do
 let y <-elem' b (c-1)
 if (c-1==1)=true then pure (ForInStep.done (some (qs a b (out.push y) d (c-1)),d,c-1,out.push y,e,f,h))
 else do
  let x <-elem' a (d-1)
  let g <-fc true x b 0 (c-1) (c-1-1)
  match g with
  |some p=>
   if c-1-p>0 then
    if (p==1)=true then pure (ForInStep.done (some (qs a b (out.push y++(b.extract p (c-1)).reverse) d p),d,p,out.push y++(b.extract p (c-1)).reverse,e,f,c-1-p))
    else if (p==0)=true then pure (ForInStep.done (some (iU a b (out.push y++(b.extract p (c-1)).reverse) d p),d,p,out.push y++(b.extract p (c-1)).reverse,e,f,c-1-p))
    else AX a b e f (c-1-p) d (out.push y++(b.extract p (c-1)).reverse) p
   else AX a b e f (c-1-p) d (out.push y) (c-1)
  |_=>pure (ForInStep.done (some (iU a b (out.push y) d (c-1)),d,c-1,out.push y,e,f,h))
def xf(a b:Array Keyed)(f h c d:Nat)(out:Array Keyed)(e:Nat):StateT SortSt Sem (ForInStep S7):=do
 setMinGallop' e
 let y <-elem' b (d-1)
 let g <-fc false y a 0 c (c-1)
 match g with
 |some p=>
  if c-p>0 then
   if (p==0)=true then pure (ForInStep.done (some (iU a b (out++(a.extract p c).reverse) p d),p,d,out++(a.extract p c).reverse,e,c-p,f))
   else ui a b e (c-p) f d (out++(a.extract p c).reverse) p
  else ui a b e (c-p) f d out c
 |_=>pure (ForInStep.done (some (iU a b out c d),c,d,out,e,h,f))
def AZ(a b:Array Keyed)(c:S7):StateT SortSt Sem (ForInStep S7):=
 if c.2.2.2.2.1>1 then xf a b c.2.2.2.2.2.2 c.2.2.2.2.2.1 c.2.1 c.2.2.1 c.2.2.2.1 (c.2.2.2.2.1-1) else xf a b c.2.2.2.2.2.2 c.2.2.2.2.2.1 c.2.1 c.2.2.1 c.2.2.2.1 c.2.2.2.2.1
def AY(a b:Array Keyed)(e:Nat)(c:S6):StateT SortSt Sem (ForInStep S6):=do
 let y <-elem' b (c.2.2.1-1)
 let x <-elem' a (c.2.1-1)
 let d <-lt' y x
 match d with
 |some f=>
  if f=true then do
   let x <-elem' a (c.2.1-1)
   if (c.2.1-1==0)=true then pure (ForInStep.done (some (iU a b (c.2.2.2.1.push x) (c.2.1-1) c.2.2.1),c.2.1-1,c.2.2.1,c.2.2.2.1.push x,c.2.2.2.2.1+1,0))
   else if c.2.2.2.2.1+1>=e then pure (ForInStep.done (none,c.2.1-1,c.2.2.1,c.2.2.2.1.push x,c.2.2.2.2.1+1,0))
   else pure (ForInStep.yield (none,c.2.1-1,c.2.2.1,c.2.2.2.1.push x,c.2.2.2.2.1+1,0))
  else do
   let y <-elem' b (c.2.2.1-1)
   if (c.2.2.1-1==1)=true then pure (ForInStep.done (some (qs a b (c.2.2.2.1.push y) c.2.1 (c.2.2.1-1)),c.2.1,c.2.2.1-1,c.2.2.2.1.push y,0,c.2.2.2.2.2+1))
   else if c.2.2.2.2.2+1>=e then pure (ForInStep.done (none,c.2.1,c.2.2.1-1,c.2.2.2.1.push y,0,c.2.2.2.2.2+1))
   else pure (ForInStep.yield (none,c.2.1,c.2.2.1-1,c.2.2.2.1.push y,0,c.2.2.2.2.2+1))
 |_=>pure (ForInStep.done (some (iU a b c.2.2.2.1 c.2.1 c.2.2.1),c.2.1,c.2.2.1,c.2.2.2.1,c.2.2.2.2.1,c.2.2.2.2.2))
def sV(a b:Array Keyed)(f:S5):StateT SortSt Sem (ForInStep S5):=do
 let e <-forIn [0:a.size+b.size] ((none,f.2.1,f.2.2.1,f.2.2.2.1,0,0):S6) λ_ c=>AY a b f.2.2.2.2 c
 match e.1 with
 |some r=>pure (ForInStep.done (some r,e.2.1,e.2.2.1,e.2.2.2.1,f.2.2.2.2))
 |none=>do
  liftM (rule "list.sort.gallop")
  let d <-forIn [0:a.size+b.size] ((none,e.2.1,e.2.2.1,e.2.2.2.1,f.2.2.2.2+1,e.2.2.2.2.1,e.2.2.2.2.2):S7) λ_ c=>AZ a b c
  match d.1 with
  |some r=>pure (ForInStep.done (some r,d.2.1,d.2.2.1,d.2.2.2.1,d.2.2.2.2.1))
  |none=>do
   setMinGallop' (d.2.2.2.2.1+1)
   pure (ForInStep.yield (none,d.2.1,d.2.2.1,d.2.2.2.1,d.2.2.2.2.1+1))
theorem Bo(a b:Array Keyed):qv a b=(do
 liftM (rule "list.sort.merge-hi")
 let x <-elem' a (a.size-1)
 if (a.size-1==0)=true then pure (iU a b #[x] (a.size-1) b.size)
 else if (b.size==1)=true then pure (qs a b #[x] (a.size-1) b.size)
 else do
  let d <-get
  let e <-forIn [0:a.size+b.size] ((none,a.size-1,b.size, #[x],gallopOf d):S5) λ_ c=>sV a b c
  match e.1 with
  |some r=>pure r
  |none=>liftM (unsupported (α:=Array Keyed) "internal:list.sort.merge-bound")):=by
 rw[zp];dsimp only;refine bnd rfl λ_=>bnd rfl λy=>?_;refine Gc (ite _ _) (Gc (ite _ _) ?_);refine bnd rfl λg=>bnd (AQ λ_ c=>?_) λu=>?_
 ·unfold sV
  refine bnd (AQ λ_ t=>?_) λt=>?_
  ·unfold AY
   refine bnd rfl λ_=>bnd rfl λ_=>bnd rfl λz=>?_;cases z<;>rfl
  ·obtain⟨h,j⟩:=t
   cases h with
   |some r=>rfl
   |none=>
    dsimp only;refine bnd rfl λ_=>bnd (AQ λ_ u=>?_) λu=>?_
    ·unfold AZ
     refine fC (λ_=>?_) (λ_=>?_)
     all_goals
      unfold xf;refine bnd rfl λ_=>bnd rfl λ_=>bnd rfl λz=>?_;cases z with
      |none=>rfl
      |some k=>
       dsimp only;refine fC (λ_=>?_) (λ_=>?_)
       ·refine fC (λ_=>rfl) (λ_=>?_)
        unfold ui;refine bnd rfl λ_=>fC (λ_=>rfl) (λ_=>bnd rfl λ_=>bnd rfl λz=>?_);cases z with
        |none=>rfl
        |some k=>rfl
       ·unfold ui
        refine bnd rfl λ_=>fC (λ_=>rfl) (λ_=>bnd rfl λ_=>bnd rfl λz=>?_);cases z with
        |none=>rfl
        |some k=>rfl
    ·obtain⟨f,i⟩:=u
     cases f<;>rfl
 ·obtain⟨f,i⟩:=u
  cases f<;>rfl
def Pb(O:KeyOrd):KeyOrd:={α:=O.α,blt:=λa b=>O.blt b a,irrefl:=O.irrefl,trans:=λa b c d e=>O.trans _ _ _ e d,negTrans:=λa b c h=>(O.negTrans c b a h).symm,total:=λa b d e=>O.total a b e d}
section
variable {O:KeyOrd} {key:Keyed->O.α} {S:Keyed->Prop} {k0:SortKind} {M:Model} {A:Around} {E:Value->Shared->Prop} {s:Shared} {st bS:SortSt} {a b:Array Keyed}
abbrev MJ(O:KeyOrd)(key:Keyed->O.α)(a b out:Array Keyed)(c d:Nat):Prop:=MI (Pb O) key (a.toList++b.toList) out.toList (a.toList.take c).reverse (b.toList.take d).reverse
theorem uH(h:Res (Pb O) key l r.reverse):Res O key l r:=
 ⟨(aaV r).symm.trans h.1,by
   have:=abc.mp h.2
   exact this.imp λh=>h⟩
theorem zK(c:Array Keyed)(n:Nat):(c.extract 0 n).toList=c.toList.take n:=by rw[ext_toList];simp
theorem Ai{xs:Array Keyed}(f:1<=n)(h:xs[n-1]? =some x):(xs.toList.take n).reverse=x::(xs.toList.take (n-1)).reverse:=by
 have c:=lY h;obtain⟨d,e⟩:=dQ.mp c
 have:xs.toList.take n=xs.toList.take (n-1)++ [x]:=by
  have:=List.take_succ_eq_append_getElem d
  rw[show n-1+1=n by lia,e] at this
  exact this
 rw[this,y1];rfl
theorem qc(l:List Keyed)(h:p<=n):l.take n=l.take p++(l.drop p).take (n-p):=by
 conv=>lhs;rw[<-hV p (l.take n)]
 rw[List.take_take,show min p n=p by lia,acr]
theorem gG{l:List Keyed}{n:Nat}{x:Keyed}(h:x∈l.take n):∃j,j<n/\j<l.length/\l[j]? =some x:=by
 have:=eY (l:=l) (i:=0) (k:=n) (x:=x) (by simpa using h)
 obtain⟨j,c,d,e⟩:=this;exact⟨j,c,by simpa using d,by simpa using e⟩
theorem MJ.uF(v:MJ O key a b out c d)(e:1<=c)(f:a[c-1]? =some x)(h:∀y∈b.toList.take d,LE O key y x):MJ O key a b (out.push x) (c-1) d:=by
 unfold MJ at v ⊢;rw[Ai e f] at v;rw[vA];exact MI.m7 (xs:= [x]) v λz g y i=>by rw[e7.mp g];exact h y (rh.mp i)
theorem MJ.uG(v:MJ O key a b out d c)(e:1<=c)(f:b[c-1]? =some y)(h:∀x∈a.toList.take d,LE O key x y):MJ O key a b (out.push y) d (c-1):=by
 unfold MJ at v ⊢;rw[Ai e f] at v;rw[vA];exact MI.m8 (xs:= [y]) v λz g x i=>by rw[e7.mp g];exact h x (rh.mp i)
theorem MJ.m7(v:MJ O key a b out c d)(e:p<=c)(h:∀x∈(a.toList.drop p).take (c-p),∀y∈b.toList.take d,LE O key y x):MJ O key a b (out++(a.extract p c).reverse) p d:=by
 unfold MJ at v ⊢;rw[qc a.toList e,y1] at v;rw[jh,yM,ext_toList];exact MI.m7 v λx f y g=>h x (rh.mp f) y (rh.mp g)
theorem MJ.m8(v:MJ O key a b out d c)(e:p<=c)(h:∀y∈(b.toList.drop p).take (c-p),∀x∈a.toList.take d,LE O key x y):MJ O key a b (out++(b.extract p c).reverse) d p:=by
 unfold MJ at v ⊢;rw[qc b.toList e,y1] at v;rw[jh,yM,ext_toList];exact MI.m8 v λx f y g=>h x (rh.mp f) y (rh.mp g)
theorem MJ.ud(v:MJ O key a b out 0 c):Res O key (a.toList++b.toList) (iU a b out 0 c).toList:=by
 refine uH ?_;unfold iU MJ at*;rw[jh,jh,zK,zK,yM,uU,n5,y1,abl];rw[uU,List.reverse_nil] at v;exact v.swap.CA
theorem MJ.ue(v:MJ O key a b out c 0):Res O key (a.toList++b.toList) (iU a b out c 0).toList:=by
 refine uH ?_;unfold iU MJ at*;rw[jh,jh,zK,zK,yM,uU,j7,y1,abl];rw[uU,List.reverse_nil] at v;exact v.CA
theorem MJ.first(T:n9 O key S a b)(v:MJ O key a b out c 1):Res O key (a.toList++b.toList) (qs a b out c 1).toList:=by
 refine uH ?_;have h:=v.swap.Be λx d y f=>?_
 ·unfold qs
  rw[jh,jh,zK,zK,yM,y1,abl,y1,<-nZ];exact h
 ·obtain⟨j,g,_,e⟩:=gG (rh.mp f)
  have:j=0:=by lia
  subst this;exact T.first y (kn e) x (abm (rh.mp d))
def qF(O:KeyOrd)(key:Keyed->O.α)(a b:Array Keyed)(n:Nat)(c d:Nat)(out:Array Keyed):Prop:=MJ O key a b out c d/\1<=c/\c<=a.size/\2<=d/\d<=b.size/\n+c+d<=a.size+b.size
def P1{d:Type}(O:KeyOrd)(key:Keyed->O.α)(a b:Array Keyed)(n:Nat)(c:Option (Array Keyed)×Nat×Nat×Array Keyed×d):Prop:=
 (∃r,c.1=some r/\Res O key (a.toList++b.toList) r.toList)\/(c.1=none/\qF O key a b n c.2.1 c.2.2.1 c.2.2.2.1)
def Jk{d:Type}(O:KeyOrd)(key:Keyed->O.α)(a b:Array Keyed)(n:Nat)(r:ForInStep (Option (Array Keyed)×Nat×Nat×Array Keyed×d)):Prop:=match r with
 | .done c=>P1 O key a b n c
 | .yield c=>c.1=none/\qF O key a b n c.2.1 c.2.2.1 c.2.2.2.1
def SS{d:Type}(O:KeyOrd)(key:Keyed->O.α)(a b:Array Keyed)(n:Nat)(r:ForInStep (Option (Array Keyed)×Nat×Nat×Array Keyed×d)):Prop:=match r with
 | .done c=>∃r,c.1=some r/\Res O key (a.toList++b.toList) r.toList
 | .yield c=>c.1=none/\qF O key a b n c.2.1 c.2.2.1 c.2.2.2.1
theorem yD(g:GS bS st)(v:MJ O key a b out c d)(p:1<=c)(f:c<=a.size)(q:2<=d)(t:d<=b.size)(B:n+c+d<=a.size+b.size)
  (u:∀x,a[c-1]? =some x->∀y∈b.toList.take d,LE O key y x):wpS M A E s (AX a b o k l c out d) (λr w=>GS bS w/\Jk O key a b n r) st:=by
 unfold AX;rfl';obtain⟨x,h,F,_⟩:=bO (xs:=a) (i:=c-1) (by lia)
 ac_rfl;refine Da (bC h ?_);have j:=MJ.uF v p h (u x h)
 by_cases e:c-1=0
 ·rw[tz (by simpa using e)]
  rw[e] at j ⊢;exact Do ⟨g, .inl ⟨_,rfl,j.ud⟩⟩
 ·rw[ir (by simpa using e)]
  have m:qF O key a b n (c-1) d (out.push x):=⟨j,by lia,by lia,q,t,by lia⟩
  by_cases f:(decide (k<7)&&decide (l<7))=true
  ·rw[tz f]
   exact Do ⟨g, .inr ⟨rfl,m⟩⟩
  ·rw[ir f]
   exact Do ⟨g,rfl,m⟩
theorem yC(C:gN O key S f M A E s)(Q:kindOf st=f)(T:n9 O key S a b)(g:GS bS st)(v:MJ O key a b out d c)(H:1<=d)(I:d<=a.size)(h3:2<=c)(h4:c<=b.size)(hn:n+d+c<=a.size+b.size)
  (Y:∀y,b[c-1]? =some y->∀x∈a.toList.take d,LE O key x y):wpS M A E s (ui a b R U X c out d) (λr Z=>GS bS Z/\Jk O key a b n r) st:=by
 unfold ui;refine ah λG0 f=>?_;obtain⟨y,w,my,_⟩:=bO (xs:=b) (i:=c-1) (by lia)
 refine f ?_;refine Da (bC w ?_);have q:=MJ.uG v (by lia) w (Y y w)
 by_cases e:c-1=1
 ·rw[tz (by simpa using e)]
  rw[e] at q ⊢;exact Do ⟨g, .inl ⟨_,rfl,MJ.first T q⟩⟩
 ·rw[ir (by simpa using e)]
  refine ah λG0 f=>?_;obtain⟨x,J,mx,lx⟩:=bO (xs:=a) (i:=d-1) (by lia)
  refine f ?_;refine Da (bC J ?_)
  have B:∀z∈a.toList.take d,LE O key z x:=λz k=>by
   obtain⟨j,t,_,l⟩:=gG k;exact fZ T.sa (by lia) l lx
  have L:∀j z,b.toList[j]? =some z->b[0+j]?.getD (Value.none,Value.none)=z:=λj z e=>by rw[n6,kn e];rfl
  refine Da (gM C (qC T.mb (i:=0) (n:=c-1) (by lia)) (T.ma x mx) Q (by lia) (λi j cW t h=>?_) λp hp pt pf=>?_)
  ·obtain⟨yi,m,_,l1⟩:=bO (xs:=b) (i:=0+i) (by lia)
   obtain⟨yj,o,_,l2⟩:=bO (xs:=b) (i:=0+j) (by lia)
   unfold eu at h ⊢;rw[tz rfl] at h ⊢;rw[o] at h;rw[m];exact aaP (fZ T.sb (by lia) l1 l2) h
  ·have hi:∀y∈(b.toList.drop p).take (c-1-p),∀x∈a.toList.take d,LE O key x y:=λz k u hu=>by
    obtain⟨j,t,hl,l⟩:=eY k
    have:=pf (p+j) (by lia) (by lia)
    unfold eu at this;rw[tz rfl,L (p+j) z l] at this;exact IR (B u hu) this
   have lo:∀F,a[d-1]? =some F->∀y∈b.toList.take p,LE O key y F:=λF N z k=>by
    rw[J] at N;cases N;obtain⟨j,t,_,l⟩:=gG k
    have:=pt j t
    unfold eu at this;rw[tz rfl,L j z l] at this;exact On this
   dsimp only
   by_cases P:c-1-p>0
   ·rw[tz P]
    have G:=MJ.m8 q hp hi
    by_cases m:p=1
    ·rw[tz (by simpa using m)]
     subst m;exact Do ⟨g, .inl ⟨_,rfl,MJ.first T G⟩⟩
    ·rw[ir (by simpa using m)]
     by_cases o:p=0
     ·rw[tz (by simpa using o)]
      subst o;exact Do ⟨g, .inl ⟨_,rfl,G.ue⟩⟩
     ·rw[ir (by simpa using o)]
      exact yD g G H I (by lia) (by lia) (by lia) lo
   ·rw[ir P]
    have:p=c-1:=by lia
    subst this;exact yD g q H I (by lia) (by lia) (by lia) lo
theorem yB(C:gN O key S k0 M A E s)(P:kindOf st=k0)(T:n9 O key S a b)(g:GS bS st)(X:qF O key a b n c d out):wpS M A E s (xf a b U R c d out Q) (λr Y=>GS bS Y/\Jk O key a b n r) st:=by
 obtain⟨v,Z,h2,B,F,hn⟩:=X;unfold xf;refine Da (qE λBN G=>?_);have o:kindOf BN=k0:=G.kind.trans P;have q:=g.trans G;obtain⟨y,H,my,ly⟩:=bO (xs:=b) (i:=d-1) (by lia)
 refine Da (bC H ?_)
 have t:∀z∈b.toList.take d,LE O key z y:=λz f=>by
  obtain⟨j,m,_,k⟩:=gG f;exact fZ T.sb (by lia) k ly
 have I:∀j z,a.toList[j]? =some z->a[0+j]?.getD (Value.none,Value.none)=z:=λj z e=>by rw[n6,kn e];rfl
 refine Da (gM C (qC T.ma (i:=0) (n:=c) (by lia)) (T.mb y my) o (by lia) (λi j cW m h=>?_) λp hp pt pf=>?_)
 ·obtain⟨xi,l,_,l1⟩:=bO (xs:=a) (i:=0+i) (by lia)
  obtain⟨xj,e2,_,l2⟩:=bO (xs:=a) (i:=0+j) (by lia)
  unfold eu at h ⊢;rw[ir (by decide)] at h ⊢
  rw[e2] at h;rw[l];have h':O.kle (key xj) (key y):=by unfold KeyOrd.kle;simpa using h
  have:=IR (fZ T.sa (by lia) l1 l2) h'
  unfold KeyOrd.kle at this;simpa using this
 ·have hi:∀x∈(a.toList.drop p).take (c-p),∀y∈b.toList.take d,LE O key y x:=λz f u hu=>by
   obtain⟨j,m,hl,k⟩:=eY f
   have:=pf (p+j) (by lia) (by lia)
   unfold eu at this;rw[ir (by decide),I (p+j) z k] at this
   exact IR (t u hu) (On (show O.blt _ _=true by simpa using this))
  have lo:∀w,b[d-1]? =some w->∀x∈a.toList.take p,LE O key x w:=λw J z f=>by
   rw[H] at J;cases J;obtain⟨j,m,_,k⟩:=gG f
   have:=pt j m
   unfold eu at this;rw[ir (by decide),I j z k] at this
   show O.blt _ _=false;simpa using this
  dsimp only
  by_cases L:c-p>0
  ·rw[tz L]
   have N:=MJ.m7 v hp hi
   by_cases l:p=0
   ·rw[tz (by simpa using l)]
    subst l;exact Do ⟨q, .inl ⟨_,rfl,N.ud⟩⟩
   ·rw[ir (by simpa using l)]
    exact yC C o T q N (by lia) (by lia) B F (by lia) lo
  ·rw[ir L]
   have:p=c:=by lia
   subst this;exact yC C o T q v Z h2 B F hn lo
theorem F6(C:gN O key S k0 M A E s)(d:kindOf st=k0)(T:n9 O key S a b)(g:GS bS st)(c:S7)(e:qF O key a b n c.2.1 c.2.2.1 c.2.2.2.1):
  wpS M A E s (AZ a b c) (λr f=>GS bS f/\Jk O key a b n r) st:=by
 unfold AZ
 by_cases h:c.2.2.2.2.1>1
 ·rw[tz h];exact yB C d T g e
 ·rw[ir h];exact yB C d T g e
theorem F5(C:gN O key S o M A E s)(H:kindOf st=o)(T:n9 O key S a b)(g:GS bS st)(c:S6)(d:qF O key a b n c.2.1 c.2.2.1 c.2.2.2.1):
  wpS M A E s (AY a b p c) (λr I=>GS bS I/\Jk O key a b (n+1) r) st:=by
 obtain⟨Y,l,m,out,J,L⟩:=c;obtain⟨v,B,f,F,G,N⟩:=d;dsimp only at v B f F G N;unfold AY;dsimp only;refine ah λZ o=>?_;obtain⟨y,q,P,Q⟩:=bO (xs:=b) (i:=m-1) (by lia)
 obtain⟨x,t,R,U⟩:=bO (xs:=a) (i:=l-1) (by lia)
 refine o ?_;refine Da (bC q (Da (bC t (Da (C _ _ _ _ (T.mb y P) (T.ma x R) H ?_)))));cases e:O.blt (key y) (key x) with
 |true=>
  dsimp only;rw[tz rfl];refine Da (bC t ?_)
  have h:=MJ.uF v B t λz u=>by
   obtain⟨j,X,_,w⟩:=gG u;exact IR (fZ T.sb (by lia) w Q) (On e)
  by_cases k:l-1=0
  ·rw[tz (by simpa using k)]
   rw[k] at h ⊢;exact Do ⟨g, .inl ⟨_,rfl,h.ud⟩⟩
  ·rw[ir (by simpa using k)]
   have d:qF O key a b (n+1) (l-1) m (out.push x):=⟨h,by lia,by lia,F,G,by lia⟩
   by_cases f:J+1>=p
   ·rw[tz f];exact Do ⟨g, .inr ⟨rfl,d⟩⟩
   ·rw[ir f];exact Do ⟨g,rfl,d⟩
 |false=>
  dsimp only;rw[ir (by decide)]
  refine Da (bC q ?_)
  have h:=MJ.uG v (by lia) q λz u=>by
   obtain⟨j,X,_,w⟩:=gG u;exact IR (fZ T.sa (by lia) w U) e
  by_cases k:m-1=1
  ·rw[tz (by simpa using k)]
   rw[k] at h ⊢;exact Do ⟨g, .inl ⟨_,rfl,MJ.first T h⟩⟩
  ·rw[ir (by simpa using k)]
   have d:qF O key a b (n+1) l (m-1) (out.push y):=⟨h,by lia,by lia,by lia,by lia,by lia⟩
   by_cases f:L+1>=p
   ·rw[tz f];exact Do ⟨g, .inr ⟨rfl,d⟩⟩
   ·rw[ir f];exact Do ⟨g,rfl,d⟩
theorem qF.le(h:qF O key a b n c d out)(e:m<=n):qF O key a b m c d out:=⟨h.1,h.2.1,h.2.2.1,h.2.2.2.1,h.2.2.2.2.1,by have:=h.2.2.2.2.2;lia⟩
theorem BU(C:gN O key S l M A E s)(T:n9 O key S a b)(g:GS bS st)(t:kindOf bS=l)(c:S5)(u:qF O key a b n c.2.1 c.2.2.1 c.2.2.2.1):
  wpS M A E s (sV a b c) (λr h=>GS bS h/\SS O key a b (n+1) r) st:=by
 have H:0<a.size+b.size:=by have:=T.na;lia
 unfold sV;refine Da (Os (Pi (I:=λ(x:Nat)(f:S6)(h:SortSt)=>GS bS h/\f.1=none/\qF O key a b (n+min x 1) f.2.1 f.2.2.1 f.2.2.2.1) (Q:=λf h=>GS bS h/\P1 O key a b (n+1) f) ?step ?fin ⟨g,rfl,u.le (by lia)⟩) ?post)
 case fin=>
  rintro f h ⟨i,m,j⟩;exact⟨i, .inr ⟨m,j.le (by lia)⟩⟩
 case step=>
  rintro x f h _ _ ⟨i,m,j⟩;refine Os (F5 C (i.kind.trans t) T i f j) λr v q=>?_;refine ah λw l=>?_;obtain⟨p,o⟩:=q;refine l ?_;cases r with
  |done d=>
   refine⟨p,?_⟩
   rcases o with o| ⟨y,z⟩
   ·exact .inl o
   ·exact .inr ⟨y,z.le (by lia)⟩
  |yield d=>exact⟨p,o.1,o.2.le (by lia)⟩
 case post=>
  rintro⟨J,L⟩ h ⟨i,o⟩
  rcases o with ⟨r,e,k⟩ | ⟨e,B⟩
  ·dsimp only at e
   subst e;exact Do ⟨i,r,rfl,k⟩
  ·dsimp only at e
   subst e;dsimp only;refine Da (aa8 (aau ⟨rfl,?_⟩));refine Da (Os (Pi (I:=λ(x:Nat)(f:S7)(h:SortSt)=>GS bS h/\f.1=none/\qF O key a b (n+1) f.2.1 f.2.2.1 f.2.2.2.1) (Q:=λf h=>GS bS h/\P1 O key a b (n+1) f) ?step2 ?fin2 ⟨i,rfl,B⟩) ?post2)
   case fin2=>
    rintro f h ⟨i,m,j⟩;exact⟨i, .inr ⟨m,j⟩⟩
   case step2=>
    rintro x f h _ _ ⟨i,m,j⟩;refine Os (F6 C (i.kind.trans t) T i f j) λr v q=>?_;refine ah λw l=>?_;obtain⟨p,o⟩:=q;refine l ?_;cases r with
    |done d=>exact⟨p,o⟩
    |yield d=>exact⟨p,o⟩
   case post2=>
    rintro⟨N,P⟩ h ⟨i,o⟩
    rcases o with ⟨r,e,k⟩ | ⟨e,F⟩
    ·dsimp only at e
     subst e;exact Do ⟨i,r,rfl,k⟩
    ·dsimp only at e
     subst e;refine Da (qE λR G=>Do ⟨i.trans G,rfl,F⟩)
theorem BX(C:gN O key S k M A E s)(u:kindOf st=k)(T:n9 O key S a b)(q:∀r c,GS st c->Res O key (a.toList++b.toList) r.toList->Q r c):wpS M A E s (qv a b) Q st:=by
 rw[Bo];refine Da (aa8 (aau ⟨rfl,?_⟩));refine ah λv k=>?_;have w:=T.na;have H:=T.nb;obtain⟨x,n,J,L⟩:=bO (xs:=a) (i:=a.size-1) (by lia)
 refine k ?_;refine Da (bC n ?_)
 have z:MJ O key a b #[] a.size b.size:=by
  refine⟨?_,by simp,?_,?_,by simp⟩
  ·rw[yW (by simp),yW (by simp)]
   simpa using(aaV a.toList).append (aaV b.toList)
  ·rw[yW (by simp)]
   exact abc.mpr (T.sa.imp λh=>h)
  ·rw[yW (by simp)]
   exact abc.mpr (T.sb.imp λh=>h)
 have j:=MJ.uF z w n λy B=>T.last x n y (abm B);have F:(#[]:Array Keyed).push x= #[x]:=rfl;rw[F] at j
 by_cases l:a.size-1=0
 ·rw[tz (by simpa using l)]
  rw[l] at j ⊢;exact Do (q _ _ (GS.refl _) j.ud)
 ·rw[ir (by simpa using l)]
  by_cases g:b.size=1
  ·rw[tz (by simpa using g)]
   rw[g] at j ⊢;exact Do (q _ _ (GS.refl _) (MJ.first T j))
  ·rw[ir (by simpa using g)]
   refine Da (aaJ ?_);refine Da (Os (Pi (I:=λ(x:Nat)(f:S5)(c:SortSt)=>GS st c/\f.1=none/\qF O key a b (x+1) f.2.1 f.2.2.1 f.2.2.2.1) (Q:=λf c=>GS st c/\∃r,f.1=some r/\Res O key (a.toList++b.toList) r.toList) ?step ?fin ⟨GS.refl _,rfl,j,by show 1<=a.size-1;lia,by show a.size-1<=a.size;lia,by show 2<=b.size;lia,bJ _,by show 0+1+(a.size-1)+b.size<=a.size+b.size;lia⟩) ?post)
   case fin=>
    rintro f c ⟨m,l,g⟩
    have:=g.2.2.2.2.2
    have:=g.2.1
    lia
   case step=>
    rintro x f c _ _ ⟨m,l,g⟩;refine Os (BU C T m u f g) λr N G=>?_;refine ah λv k=>?_;obtain⟨t,o⟩:=G;refine k ?_;cases r with
    |done d=>exact⟨t,o⟩
    |yield d=>exact⟨t,o⟩
   case post=>
    rintro⟨P,R⟩ c ⟨m,r,e,p⟩;dsimp only at e;subst e;exact Do (q r c m p)
end
theorem Bn(i:Nat):mergeAt' i=(do
 let s <-get
 let (some (sa,na,power),some (sb,nb,_)):=((pendingOf s)[i]?,(pendingOf s)[i+1]?) |unsupported "internal:list.sort.pending"
 set (setPending s (((pendingOf s).setIfInBounds i (sa,na+nb,power)).eraseIdxIfInBounds (i+1)))
 let some k <-fc false (<-elem' (arrOf s) sb) (arrOf s) sa na 0|return false
 let (sa,na):=(sa+k,na-k)
 if na==0 then return true
 let some nb <-fc true (<-elem' (arrOf s) (sa+na-1)) (arrOf s) sb nb (nb-1) |return false
 if nb==0 then return true
 let x:=(arrOf s).extract sa sb
 let y:=(arrOf s).extract sb (sb+nb)
 let merged <-if na<=nb then qw x y else qv x y
 modify λs=>setArr s (merged.toList.zipIdx.foldl (λa (p,j)=>a.setIfInBounds (sa+j) p) (arrOf s))
 return (failedOf (<-get)).isNone):=rfl
theorem rG:∀(m:List Keyed)(off b:Nat)(c:Array Keyed),b+off+m.length<=c.size->
  ((m.zipIdx off).foldl (λa (p:Keyed×Nat)=>a.setIfInBounds (b+p.2) p.1) c).size=c.size/\∀i,((m.zipIdx off).foldl (λa (p:Keyed×Nat)=>a.setIfInBounds (b+p.2) p.1) c)[i]? =if b+off<=i/\i<b+off+m.length then m[i-(b+off)]? else c[i]?
 | [],off,b,c,_=>⟨rfl,λi=>by rw[ir (by simp)];rfl⟩
 |x::m,off,b,c,h=>by
  rw[dM] at h;have e:=rG m (off+1) b (c.setIfInBounds (b+off) x) (by rw[aaQ];lia)
  rw[List.zipIdx_cons,aca];refine⟨by rw[e.1,aaQ],λi=>?_⟩
  rw[e.2 i]
  by_cases f:b+(off+1)<=i/\i<b+(off+1)+m.length
  ·rw[tz f,tz (by rw[dM];lia),show i-(b+off)=(i-(b+(off+1)))+1 by lia,vz]
  ·rw[ir f,abv]
   by_cases d:b+off=i
   ·rw[tz d,tz (by lia),tz (by rw[dM];lia),<-d,kO];rfl
   ·rw[ir d,ir (by rw[dM];lia)]
def putAt(c m:Array Keyed)(b:Nat):Array Keyed:=m.toList.zipIdx.foldl (λa (p:Keyed×Nat)=>a.setIfInBounds (b+p.2) p.1) c
theorem x9(h:b+m.size<=a.size)(i:Nat):(putAt a m b)[i]? =if b<=i/\i<b+m.size then m[i-b]? else a[i]? :=by
 have:=(rG m.toList 0 b a (by simpa using h)).2 i
 unfold putAt;rw[this];simp
theorem Dt(h:b+m.size<=a.size):(putAt a m b).size=a.size:=(rG m.toList 0 b a (by simpa using h)).1
theorem Ds(h:b+m.size<=a.size)(p:m.toList.Perm ((a.toList.drop b).take m.size)):(putAt a m b).Perm a:=by
 rw[B2]
 have e:(putAt a m b).toList=a.toList.take b++(m.toList++a.toList.drop (b+m.size)):=by
  apply uO;intro i;rw[fi,x9 h,abn,abn,cm,eN,eN,List.getElem?_take,rf,fi,fi,fi]
  repeat' split
  all_goals first|rfl| (exfalso;lia) | (congr 1;lia)
 have c:a.toList=a.toList.take b++((a.toList.drop b).take m.size++a.toList.drop (b+m.size)):=by
  conv=>lhs;rw[<-hV b a.toList,oK a.toList b m.size]
 rw[e]
 conv=>rhs;rw[c]
 exact abb _ (p.append_right _)
section
variable {O:KeyOrd} {key:Keyed->O.α} {S:Keyed->Prop} {k0:SortKind} {prog:Program} {w:World} {A:Around} {E:Value->Shared->Prop} {s:Shared} {st bS:SortSt}
theorem Mh(h:Q ⟨⟩ a):wpS M A E s (set a:StateT SortSt Sem PUnit) Q st:=by
 unfold wpS;rw[StateT.run_set];exact mo ⟨rfl,h⟩
theorem fE{xs:Array Keyed}{a b:Nat}(h:jn O key xs a b){i j:Nat}(c:a<=i)(d:i<=j)(e:j<b)(f:xs[i]? =some x)(g:xs[j]? =some y):LE O key x y:=by
 have:=h i j c d e
 unfold ky at this;rw[f,g] at this;exact this
theorem BM(k:b<=xs.size)(h:∀i j x y,a<=i->i<=j->j<b->xs[i]? =some x->xs[j]? =some y->LE O key x y):jn O key xs a b:=λi j e f g=>by
 obtain⟨x,c,_,_⟩:=bO (xs:=xs) (i:=i) (by lia)
 obtain⟨y,d,_,_⟩:=bO (xs:=xs) (i:=j) (by lia)
 unfold ky;rw[c,d];exact h i j x y e f g c d
theorem ext_get{xs:Array Keyed}{a b i:Nat}(c:b<=xs.size)(d:i<b-a):(xs.extract a b)[i]? =xs[a+i]? :=by
 rw[Array.getElem?_extract,tz (by lia)]
theorem ext_mem{c:Array Keyed}{a b:Nat}{x:Keyed}(h:x∈(c.extract a b).toList):∃i,a<=i/\i<b/\i<c.size/\c[i]? =some x:=by
 rw[ext_toList] at h;obtain⟨j,f,d,e⟩:=eY h;rw[eN] at d;exact⟨a+j,by lia,by lia,d,kn e⟩
theorem Gv(h:jn O key xs a b)(c:b<=xs.size):(xs.extract a b).toList.Pairwise (LE O key):=by
 rw[D8];intro i j d e l;have f:(xs.extract a b).toList.length=b-a:=by rw[eN,Ar];lia
 rw[f] at d e;have g:=ext_get (xs:=xs) (a:=a) c d;have k:=ext_get (xs:=xs) (a:=a) c e;refine fE h (i:=a+i) (j:=a+j) (by lia) (by lia) (by lia) ?_ ?_
 ·rw[<-g,<-fi];exact bB _
 ·rw[<-k,<-fi];exact bB _
theorem BW(C:gN O key S k0 (model prog w) A E s)(o:Ok S k0 st)(hf:failedOf st=none)(p1:(pendingOf st)[i]? =some (b,d,pw))(p2:(pendingOf st)[i+1]? =some (b+d,v,YA))(hna:1<=d)(MX:1<=v)(fz:b+d+v<=(arrOf st).size)
  (N:jn O key (arrOf st) b (b+d)) (P:jn O key (arrOf st) (b+d) (b+d+v))
  (q:∀l,(arrOf l).Perm (arrOf st)->kindOf l=kindOf st->failedOf l=none->pendingOf l=((pendingOf st).setIfInBounds i (b,d+v,pw)).eraseIdxIfInBounds (i+1)->(∀j,j<b\/b+d+v<=j->(arrOf l)[j]? =(arrOf st)[j]?)->jn O key (arrOf l) b (b+(d+v))->Q true l):
  wpS (model prog w) A E s (mergeAt' i) Q st:=by
 rw[Bn];refine Da (aaJ ?_);rw[p1,p2];dsimp only;refine Da (Mh ?_);generalize ((pendingOf st).setIfInBounds i (b,d+v,pw)).eraseIdxIfInBounds (i+1)=pn at q;have o':Ok S k0 (setPending st pn):=⟨o.mem,o.kind⟩;have mem:∀x∈(arrOf st).toList,S x:=o.mem;obtain⟨X,QN,mb0,lb0⟩:=bO (xs:=arrOf st) (i:=b+d) (by lia)
 refine Da (bC QN ?_);have qN:∀(j:Nat)(z:Keyed),(arrOf st)[j]? =some z->(arrOf st)[j]?.getD (Value.none,Value.none)=z:=λj z e=>by rw[e];rfl
 refine Da (gM C (qC mem (i:=b) (n:=d) (by lia)) (mem X mb0) o'.kind (by lia) (λi j G Y h=>?_) λk hk kt kf=>?_)
 ·obtain⟨xi,M,_,_⟩:=bO (xs:=arrOf st) (i:=b+i) (by lia)
  obtain⟨xj,Z,_,_⟩:=bO (xs:=arrOf st) (i:=b+j) (by lia)
  unfold eu at h ⊢;rw[ir (by decide)] at h ⊢
  rw[Z] at h;rw[M];have h':O.kle (key xj) (key X):=by unfold KeyOrd.kle;simpa using h
  have:=IR (fE N (by lia) (by lia) (by lia) M Z) h'
  unfold KeyOrd.kle at this;simpa using this
 have W3:∀j x,b<=j->j<b+k->(arrOf st)[j]? =some x->LE O key x X:=λj x f B e=>by
  have:=kt (j-b) (by lia)
  unfold eu at this;rw[ir (by decide),show b+(j-b)=j by lia,qN j x e] at this
  show O.blt _ _=false;simpa using this
 have khi:∀j x,b+k<=j->j<b+d->(arrOf st)[j]? =some x->LE O key X x:=λj x f B e=>by
  have:=kf (j-b) (by lia) (by lia)
  unfold eu at this;rw[ir (by decide),show b+(j-b)=j by lia,qN j x e] at this
  exact On (show O.blt _ _=true by simpa using this)
 dsimp only;have OF:∀j y,b+d<=j->j<b+d+v->(arrOf st)[j]? =some y->LE O key X y:=λj y f B e=>fE P (by lia) f B QN e
 by_cases e0:d-k=0
 ·rw[tz (by simpa using e0)]
  refine Do (q _ (.refl _) rfl hf rfl (λ_ _=>rfl) ?_);refine BM (by show b+(d+v)<=(arrOf st).size;lia) λi j x y f G Y H I=>?_
  by_cases c1:j<b+d
  ·exact fE N f G c1 H I
  ·by_cases c2:i<b+d
   ·exact IR (W3 i x f (by lia) H) (OF j y (by lia) (by lia) I)
   ·exact fE P (by lia) G (by lia) H I
 rw[ir (by simpa using e0)]
 have Vu:b+k+(d-k)-1=b+d-1:=by lia
 obtain⟨al,ML,mal,lal⟩:=bO (xs:=arrOf st) (i:=b+k+(d-k)-1) (by lia)
 refine Da (bC ML ?_);rw[Vu] at ML;refine Da (gM C (qC mem (i:=b+d) (n:=v) (by lia)) (mem al mal) o'.kind (by lia) (λi j G Y h=>?_) λm hm mt mf=>?_)
 ·obtain⟨yi,M,_,_⟩:=bO (xs:=arrOf st) (i:=b+d+i) (by lia)
  obtain⟨yj,Z,_,_⟩:=bO (xs:=arrOf st) (i:=b+d+j) (by lia)
  unfold eu at h ⊢;rw[tz rfl] at h ⊢;rw[Z] at h;rw[M];exact aaP (fE P (by lia) (by lia) (by lia) M Z) h
 have mlo:∀j y,b+d<=j->j<b+d+m->(arrOf st)[j]? =some y->LE O key y al:=λj y f B e=>by
  have:=mt (j-(b+d)) (by lia)
  unfold eu at this;rw[tz rfl,show b+d+(j-(b+d))=j by lia,qN j y e] at this
  exact On this
 have W8:∀j y,b+d+m<=j->j<b+d+v->(arrOf st)[j]? =some y->LE O key al y:=λj y f B e=>by
  have:=mf (j-(b+d)) (by lia) (by lia)
  unfold eu at this;rw[tz rfl,show b+d+(j-(b+d))=j by lia,qN j y e] at this
  exact this
 have ZG:∀j x,b<=j->j<b+d->(arrOf st)[j]? =some x->LE O key x al:=λj x f B e=>fE N f (by lia) (by lia) e ML
 dsimp only
 by_cases M:m=0
 ·rw[tz (by simpa using M)]
  refine Do (q _ (.refl _) rfl hf rfl (λ_ _=>rfl) ?_);refine BM (by show b+(d+v)<=(arrOf st).size;lia) λi j x y f G Y H I=>?_
  by_cases c1:j<b+d
  ·exact fE N f G c1 H I
  ·by_cases c2:i<b+d
   ·exact IR (ZG i x f c2 H) (W8 j y (by lia) (by lia) I)
   ·exact fE P (by lia) G (by lia) H I
 rw[ir (by simpa using M)]
 have T:n9 O key S ((arrOf st).extract (b+k) (b+d)) ((arrOf st).extract (b+d) (b+d+m)):=by
  refine⟨λx J=>?_,λx J=>?_,Gv (λi j f B h3=>N i j (by lia) B h3) (by lia),Gv (λi j f B h3=>P i j f B (by lia)) (by lia),by rw[Ar];lia,by rw[Ar];lia,λy hy x J=>?_,λx J y hy=>?_⟩
  ·obtain⟨i,_,_,_,e⟩:=ext_mem J
   exact mem x (fH (lY e))
  ·obtain⟨i,_,_,_,e⟩:=ext_mem J
   exact mem x (fH (lY e))
  ·rw[ext_get (by lia) (by lia)] at hy
   have Ia:(arrOf st)[b+d]? =some y:=hy;rw[QN] at Ia;cases Ia;obtain⟨i,f,B,_,e⟩:=ext_mem J;exact khi i x f B e
  ·have hsz2:((arrOf st).extract (b+k) (b+d)).size=d-k:=by rw[Ar];lia
   rw[hsz2,ext_get (by lia) (by lia)] at J
   rw[show b+k+(d-k-1)=b+d-1 by lia,ML] at J;cases J
   obtain⟨i,f,B,_,e⟩:=ext_mem hy;exact mlo i y f B e
 have szx:((arrOf st).extract (b+k) (b+d)).size=d-k:=by rw[Ar];lia
 have szy:((arrOf st).extract (b+d) (b+d+m)).size=m:=by rw[Ar];lia
 have fin:∀(r:Array Keyed)(l:SortSt),GS (setPending st pn) l->Res O key (((arrOf st).extract (b+k) (b+d)).toList++((arrOf st).extract (b+d) (b+d+m)).toList) r.toList->
   wpS (model prog w) A E s (do
    modify λs=>setArr s (r.toList.zipIdx.foldl (λa (p,j)=>a.setIfInBounds (b+k+j) p) (arrOf s))
    return (failedOf (<-get)).isNone) Q l:=by
  intro r l g u;refine Da (aaT (Da (aaJ ?_)));have MU:failedOf l=none:=g.failed.trans hf
  have hr:r.size=d-k+m:=by
   have:=u.1.length_eq
   rw[b7,eN,eN,eN,szx,szy] at this;exact this
  have hb:b+k+r.size<=(arrOf l).size:=by rw[g.arr];show _<=(arrOf st).size;lia
  have aac:(r.toList.zipIdx.foldl (λa (x:Keyed×Nat)=>match x with| (p,j)=>a.setIfInBounds (b+k+j) p) (arrOf l))=putAt (arrOf l) r (b+k):=rfl
  show wpS _ _ _ _ (pure (failedOf l).isNone) Q (setArr l (putAt (arrOf l) r (b+k)));rw[MU];have ga:arrOf l=arrOf st:=g.arr;rw[ga] at hb ⊢;have Gy:=λi=>x9 hb i;rw[hr] at Gy
  have Pt:∀j x,b+k<=j->j<b+d+m->(putAt (arrOf st) r (b+k))[j]? =some x->∃i,b+k<=i/\i<b+d+m/\(arrOf st)[i]? =some x:=λj x f B e=>by
   rw[Gy,tz (by lia)] at e
   have hm:=u.1.mem_iff.mp (fH (lY e))
   rcases cV.mp hm with z|z
   ·obtain⟨i,R,a2,_,U⟩:=ext_mem z
    exact⟨i,R,by lia,U⟩
   ·obtain⟨i,R,a2,_,U⟩:=ext_mem z
    exact⟨i,by lia,a2,U⟩
  have t:∀j,j<b+k\/b+d+m<=j->(putAt (arrOf st) r (b+k))[j]? =(arrOf st)[j]? :=λj h=>by rw[Gy,ir (by lia)]
  have KR:∀i x j y,b<=i->i<b+k->(arrOf st)[i]? =some x->b+k<=j->j<b+d+v->(arrOf st)[j]? =some y->LE O key x y:=λi x j y R a2 a3 U a5 a6=>by
   by_cases c:j<b+d
   ·exact fE N R (by lia) c a3 a6
   ·exact IR (W3 i x R a2 a3) (OF j y (by lia) a5 a6)
  have MW:∀i x j y,b<=i->i<b+d+m->(arrOf st)[i]? =some x->b+d+m<=j->j<b+d+v->(arrOf st)[j]? =some y->LE O key x y:=λi x j y R a2 a3 U a5 a6=>by
   by_cases c:i<b+d
   ·exact IR (ZG i x R c a3) (W8 j y U a5 a6)
   ·exact fE P (by lia) (by lia) a5 a3 a6
  refine Do (q _ ?_ g.kind MU g.pend (λj Y=>t j (by lia)) ?_)
  ·refine Ds hb ?_
   rw[hr];refine u.1.trans ?_;rw[ext_toList,ext_toList,show b+d-(b+k)=d-k by lia,show b+d+m-(b+d)=m by lia]
   have:((arrOf st).toList.drop (b+k)).take (d-k+m)=((arrOf st).toList.drop (b+k)).take (d-k)++((arrOf st).toList.drop (b+d)).take m:=by
    rw[qc _ (show d-k<=d-k+m by lia),abu,show b+k+(d-k)=b+d by lia,show d-k+m-(d-k)=m by lia]
   rw[this]
  ·refine BM (by show b+(d+v)<=(putAt (arrOf st) r (b+k)).size;rw[Dt hb];lia) λi j x y f G Y H I=>?_
   have L:(putAt (arrOf st) r (b+k))[i]? =some x:=H;have F:(putAt (arrOf st) r (b+k))[j]? =some y:=I
   by_cases ci:i<b+k
   ·rw[t i (.inl ci)] at L
    by_cases cj:j<b+k
    ·rw[t j (.inl cj)] at F
     exact fE N f G (by lia) L F
    ·by_cases T5:j<b+d+m
     ·obtain⟨j',b1,b2,b3⟩:=Pt j y (by lia) T5 F
      exact KR i x j' y f ci L b1 (by lia) b3
     ·rw[t j (.inr (by lia))] at F
      exact KR i x j y f ci L (by lia) (by lia) F
   ·by_cases ci2:i<b+d+m
    ·by_cases T5:j<b+d+m
     ·rw[Gy,tz (by lia)] at L F
      exact fZ u.2 (by lia) (lY L) (lY F)
     ·obtain⟨i',b1,b2,b3⟩:=Pt i x (by lia) ci2 L
      rw[t j (.inr (by lia))] at F
      exact MW i' x j y (by lia) b2 b3 (by lia) (by lia) F
    ·rw[t i (.inr (by lia))] at L
     rw[t j (.inr (by lia))] at F
     exact fE P (by lia) G (by lia) L F
 by_cases c:d-k<=m
 ·rw[tz c]
  exact Da (BY C o'.kind T λr l g u=>fin r l g u)
 ·rw[ir c]
  exact Da (BX C o'.kind T λr l g u=>fin r l g u)
end
abbrev U1:=Option Unit×Unit
def Hi(a:Nat):StateT SortSt Sem (ForInStep U1):=do
 let st <-get
 match (if (pendingOf st).size>1 then(pendingOf st)[(pendingOf st).size-2]? else none) with
 |some (_,_,b)=>
  if b<=a then pure (ForInStep.done (none,()))
  else do
   let ok <-mergeAt' ((pendingOf st).size-2)
   if (!ok)=true then pure (ForInStep.done (some (),())) else pure (ForInStep.yield (none,()))
 |_=>pure (ForInStep.done (none,()))
def nk(size lo n:Nat):StateT SortSt Sem (ForInStep (Option Unit×Nat)):=do
 let st <-get
 match (pendingOf st).back? with
 |some (b,a,_)=>do
  let t <-forIn [0:size] ((none,()):U1) λ_ _=>Hi (power' size (2*b+a) (2*b+a+a+n) size)
  match t.1 with
  |some r=>pure (ForInStep.done (some r,lo))
  |none=>do
   modify λs=>setPending s ((pendingOf s).modify ((pendingOf s).size-1) λx=>(x.1,x.2.1,power' size (2*b+a) (2*b+a+a+n) size))
   modify λs=>setPending s ((pendingOf s).push (lo,n,0))
   pure (ForInStep.yield (none,lo+n))
 |_=>do
  modify λs=>setPending s ((pendingOf s).push (lo,n,0))
  pure (ForInStep.yield (none,lo+n))
def BL(size lo:Nat):StateT SortSt Sem (ForInStep (Option Unit×Nat)):=
 if lo>=size then pure (ForInStep.done (none,lo))
 else do
  let x <-countRun' lo (size-lo)
  match x with
  |some a=>
   if a<minRun' size size 0 then do
    liftM (rule "list.sort.binary-insertion")
    let ok <-binarySort' lo (min (size-lo) (minRun' size size 0)) a
    if (!ok)=true then pure (ForInStep.done (some (),lo)) else nk size lo (min (size-lo) (minRun' size size 0))
   else nk size lo a
  |_=>pure (ForInStep.done (some (),lo))
def FU:StateT SortSt Sem (ForInStep U1):=do
 let st <-get
 if (pendingOf st).size<=1 then pure (ForInStep.done (none,()))
 else do
  let ok <-mergeAt' (if (if (pendingOf st).size-2>0 then(pendingOf st)[(pendingOf st).size-2-1]?.map (·.2.1) else none).any (·<((pendingOf st)[(pendingOf st).size-2+1]?.elim 0 (·.2.1))) then(pendingOf st).size-2-1 else(pendingOf st).size-2)
  if (!ok)=true then pure (ForInStep.done (some (),())) else pure (ForInStep.yield (none,()))
theorem yp:sortRuns'=(do
 let st <-get
 let c <-forIn [0:(arrOf st).size] ((none,0):Option Unit×Nat) λ_ c=>BL (arrOf st).size c.2
 match c.1 with
 |some r=>pure r
 |none=>do
  let t <-forIn [0:(arrOf st).size] ((none,()):U1) λ_ _=>FU
  match t.1 with
  |some r=>pure r
  |none=>pure ()):=by
 rw[sortRuns'_eq];dsimp only;refine bnd rfl λst=>bnd (AQ λ_ c=>?_) λc=>?_
 ·unfold BL
  refine fC (λ_=>rfl) (λ_=>bnd rfl λx=>?_);cases x with
  |none=>rfl
  |some f=>
   dsimp only;have i:∀n:Nat,nk (arrOf st).size c.2 n=nk (arrOf st).size c.2 n:=λ_=>rfl;refine fC (λ_=>bnd rfl λ_=>bnd rfl λok=>fC (λ_=>rfl) (λ_=>?_)) (λ_=>?_)
   all_goals
    unfold nk;refine bnd rfl λd=>?_;cases(pendingOf d).back? with
    |none=>rfl
    |some e=>
     obtain⟨j,k,l⟩:=e;dsimp only;refine bnd (AQ λ_ c=>?_) λt=>?_
     ·unfold Hi
      refine bnd rfl λa=>?_;cases(if (pendingOf a).size>1 then(pendingOf a)[(pendingOf a).size-2]? else none) with
      |none=>rfl
      |some e=>rfl
     ·obtain⟨b,g⟩:=t
      cases b<;>rfl
 ·obtain⟨h,m⟩:=c
  cases h with
  |some r=>rfl
  |none=>
   dsimp only;refine bnd (AQ λ_ c=>?_) λt=>?_
   ·rfl
   ·obtain⟨b,g⟩:=t
    cases b<;>rfl
section
variable {O:KeyOrd} {key:Keyed->O.α} {S:Keyed->Prop} {k0:SortKind} {prog:Program} {w:World} {A:Around} {E:Value->Shared->Prop} {s:Shared} {st bS:SortSt}
def jD(O:KeyOrd)(key:Keyed->O.α)(c:Array Keyed):Nat->List (Nat×Nat)->Nat->Prop
 |a,[],b=>a=b
 |a,e::r,b=>e.1=a/\1<=e.2/\jn O key c a (a+e.2)/\jD O key c (a+e.2) r b
theorem jD.app:∀{j g:List (Nat×Nat)}{a b:Nat},jD O key i a (j++g) b↔∃c,jD O key i a j c/\jD O key i c g b
 | [],g,a,b=>⟨λh=>⟨a,rfl,h⟩,λ⟨c,d,f⟩=>by cases d;exact f⟩
 |e::j,g,a,b=>by
  constructor
  ·rintro⟨d,f,k,n⟩
   obtain⟨c,l,m⟩:=jD.app.mp n;exact⟨c,⟨d,f,k,l⟩,m⟩
  ·rintro⟨c,⟨d,f,k,l⟩,m⟩
   exact⟨d,f,k,jD.app.mpr ⟨c,l,m⟩⟩
theorem jD.le:∀{l:List (Nat×Nat)}{a b:Nat},jD O key c a l b->a+l.length<=b
 | [],a,b,h=>by cases h;simp
 |e::l,a,b,⟨_,f,_,d⟩=>by
  have:=jD.le d
  rw[dM];lia
theorem yr(h:∀i,a<=i->i<b->d[i]? =c[i]?)(g:jn O key c a b):jn O key d a b:=λi j e k f=>by
 rw[iu (h i e (by lia)),iu (h j (by lia) f)];exact g i j e k f
theorem jD.congr:∀{l:List (Nat×Nat)}{a b:Nat},(∀i,a<=i->i<b->d[i]? =c[i]?)->jD O key c a l b->jD O key d a l b
 | [],a,b,_,h=>h
 |e::l,a,b,f,⟨m,n,o,g⟩=>by
  have:=jD.le g
  exact⟨m,n,yr (λi j k=>f i j (by lia)) o,jD.congr (λi j k=>f i (by lia) k) g⟩
def pl(st:SortSt):List (Nat×Nat):=(pendingOf st).toList.map λe=>(e.1,e.2.1)
structure SI (O:KeyOrd) (key:Keyed->O.α) (S:Keyed->Prop) (k0:SortKind) (a0:Array Keyed) (st:SortSt) (lo:Nat):Prop where
 ok:Ok S k0 st
 failed:failedOf st=none
 perm:(arrOf st).Perm a0
 cov:jD O key (arrOf st) 0 (pl st) lo
 le:lo<=a0.size
theorem SI.size{a:Array Keyed}{lo:Nat}(h:SI O key S k0 a st lo):(arrOf st).size=a.size:=h.perm.size_eq
theorem D5(C:gN O key S k0 (model prog w) A E s){m:Array Keyed}{lo i:Nat}{Q:Bool->SortSt->Prop}(h:SI O key S k0 m st lo)(I:i+1<(pendingOf st).size)
  (q:∀a,SI O key S k0 m a lo->(pendingOf a).size=(pendingOf st).size-1->(∀j,lo<=j->(arrOf a)[j]? =(arrOf st)[j]?)->Q true a):wpS (model prog w) A E s (mergeAt' i) Q st:=by
 have J:(pendingOf st)[i]? =some (pendingOf st)[i]:=aaF _ i (by lia)
 have L:(pendingOf st)[i+1]? =some (pendingOf st)[i+1]:=aaF _ (i+1) I
 have n:(pendingOf st).toList=(pendingOf st).toList.take i++((pendingOf st)[i]::(pendingOf st)[i+1]::(pendingOf st).toList.drop (i+2)):=by
  conv=>lhs;rw[<-hV i (pendingOf st).toList]
  congr 1
  rw[mH (by rw[eN];lia),mH (by rw[eN];lia)]
  rfl
 generalize hx:(pendingOf st)[i]=x at*;generalize hy:(pendingOf st)[i+1]=y at*;obtain⟨d,e,M⟩:=x;obtain⟨sb,f,YA⟩:=y;have g:=h.cov;unfold pl at g;rw[n,cJ,h7,h7] at g;obtain⟨c,N,P⟩:=jD.app.mp g;obtain⟨o,r,t,u,v,z,k⟩:=P;dsimp only at o r t u v z k;subst o;subst u;have R:=k.le;have fz:=h.size;have CL:=h.le;refine BW C h.ok h.failed J L r v (by lia) t z λa B T U X l Y=>?_
 have F:(pendingOf a).toList=(pendingOf st).toList.take i++((d,e+f,M)::(pendingOf st).toList.drop (i+2)):=by
  rw[X,Array.toList_eraseIdxIfInBounds,Array.toList_setIfInBounds]
  conv=>lhs;rw[n]
  have b:((pendingOf st).toList.take i).length=i:=by rw[cm,eN];lia
  rw[List.set_append_right _ _ (by lia),List.eraseIdx_append_of_length_le (by lia),b,kO,show i+1-i=1 by lia]
  rfl
 refine q a ⟨⟨λp Z=>h.ok.mem p ((B2.mp B).mem_iff.mp Z),T.trans h.ok.kind⟩,U,B.trans h.perm,?_,h.le⟩ ?_ λj hj=>l j (.inr (by lia))
 ·unfold pl
  rw[F,cJ,h7];refine jD.app.mpr ⟨d,jD.congr (λj G H=>l j (.inl H)) N,rfl,?_,Y,?_⟩
  ·show 1<=e+f;lia
  ·show jD O key (arrOf a) (d+(e+f)) _ lo
   rw[<-Nat.add_assoc];exact jD.congr (λj G H=>l j (.inr G)) k
 ·rw[<-eN,F,b7,dM,cm,fR,eN];lia
def Kp(bS st:SortSt)(lo:Nat):Prop:=∀j,lo<=j->(arrOf st)[j]? =(arrOf bS)[j]?
theorem Jd(C:gN O key S k0 (model prog w) A E s){f:Array Keyed}{lo g:Nat}(h:SI O key S k0 f st lo)(d:Kp bS st lo):wpS (model prog w) A E s (Hi g) (λr a=>match r with| .done c=>c=(none,())/\SI O key S k0 f a lo/\Kp bS a lo| .yield c=>c=(none,())/\SI O key S k0 f a lo/\Kp bS a lo) st:=by
 unfold Hi;refine Da (aaJ ?_)
 by_cases i:(pendingOf st).size>1
 ·rw[tz i]
  cases e:(pendingOf st)[(pendingOf st).size-2]? with
  |none=>exact Do ⟨rfl,h,d⟩
  |some x=>
   obtain⟨o,p,l⟩:=x;dsimp only
   by_cases b:l<=g
   ·rw[tz b];exact Do ⟨rfl,h,d⟩
   ·rw[ir b]
    refine Da (D5 C h (by lia) λa m _ n=>?_)
    exact Do ⟨rfl,m,λj k=>(n j k).trans (d j k)⟩
 ·rw[ir i]
  exact Do ⟨rfl,h,d⟩
theorem Lo{lo n:Nat}:pl (setPending st ((pendingOf st).push (lo,n,0)))=pl st++ [(lo,n)]:=by
 unfold pl;show((pendingOf st).push (lo,n,0)).toList.map _=_;rw[vA,cJ];rfl
theorem FC:pl (setPending st ((pendingOf st).modify i λx=>(x.1,x.2.1,a)))=pl st:=by
 unfold pl;show((pendingOf st).modify i λx=>(x.1,x.2.1,a)).toList.map _=_;apply uO;intro j;rw[dF,dF,fi,fi,Array.getElem?_modify]
 by_cases e:i=j
 ·rw[tz e]
  cases(pendingOf st)[j]? <;>rfl
 ·rw[ir e]
theorem SI.GY{a:Array Keyed}{lo n:Nat}(h:SI O key S k0 a st lo)(b:1<=n)(c:lo+n<=a.size)(d:jn O key (arrOf st) lo (lo+n)):SI O key S k0 a (setPending st ((pendingOf st).push (lo,n,0))) (lo+n):=by
 refine⟨⟨h.ok.mem,h.ok.kind⟩,h.failed,h.perm,?_,c⟩;rw[Lo];exact jD.app.mpr ⟨lo,h.cov,rfl,b,d,rfl⟩
theorem vy(C:gN O key S k0 (model prog w) A E s){b:Array Keyed}{lo n:Nat}(h:SI O key S k0 b st lo)(k:1<=n)(l:lo+n<=b.size)(m:jn O key (arrOf st) lo (lo+n)):
  wpS (model prog w) A E s (nk b.size lo n) (λr a=>match r with| .done c=>False| .yield c=>c=(none,lo+n)/\SI O key S k0 b a (lo+n)) st:=by
 unfold nk;refine Da (aaJ ?_);cases(pendingOf st).back? with
 |none=>exact Da (aaT (Do ⟨rfl,h.GY k l m⟩))
 |some e=>
  obtain⟨p,j,v⟩:=e;dsimp only;refine Da (Os (Pi (I:=λ(x:Nat)(c:U1)(a:SortSt)=>c=(none,())/\SI O key S k0 b a lo/\Kp st a lo) (Q:=λc a=>c=(none,())/\SI O key S k0 b a lo/\Kp st a lo) (λx c a _ _ g=>?_) (λc a g=>g) ⟨rfl,h,λ_ _=>rfl⟩) ?_)
  ·refine Os (Jd C g.2.1 g.2.2) λr y o=>?_
   cases r with
   |done d=>exact o
   |yield d=>exact o
  ·rintro c a ⟨rfl,f,q⟩
   dsimp only;refine Da (aaT (Da (aaT (Do ⟨rfl,?_⟩))))
   have t:SI O key S k0 b (setPending a ((pendingOf a).modify ((pendingOf a).size-1) λx=>(x.1,x.2.1,power' b.size (2*p+j) (2*p+j+j+n) b.size))) lo:=
    ⟨⟨f.ok.mem,f.ok.kind⟩,f.failed,f.perm,by rw[FC];exact f.cov,f.le⟩
   exact t.GY k l (yr (λi u z=>q i u) m)
theorem SI.Zk{b:Array Keyed}{lo c:Nat}{a:SortSt}(h:SI O key S k0 b st lo)(t:gP st a lo c):SI O key S k0 b a lo:=
 ⟨h.ok.step t,t.failed.trans h.failed,t.perm.trans h.perm,by
  have:pl a=pl st:=by unfold pl;rw[t.pend]
  rw[this];exact jD.congr (λi _ d=>t.out i (.inl d)) h.cov,h.le⟩
theorem Ga(C:gN O key S k0 (model prog w) A E s){a:Array Keyed}{lo:Nat}(h:SI O key S k0 a st lo):
  wpS (model prog w) A E s (BL a.size lo) (λr b=>match r with| .done c=>c=(none,lo)/\a.size<=lo/\SI O key S k0 a b lo| .yield c=>∃n,1<=n/\c=(none,lo+n)/\SI O key S k0 a b (lo+n)) st:=by
 unfold BL;have u:=h.size;have k:=h.le
 by_cases f:lo>=a.size
 ·rw[tz f];exact Do ⟨rfl,f,h⟩
 ·rw[ir f]
  refine Da (wpS_countRun C h.ok (by lia) (by lia) λm v l g x i=>?_)
  dsimp only;have e:=h.Zk l;have p:=e.size
  by_cases j:m<minRun' a.size a.size 0
  ·rw[tz j]
   refine Da (aa8 (aau ⟨rfl,?_⟩));refine Da (wpS_binarySort C e.ok (by lia) (by lia) i λy q t=>?_)
   rw[ir (by decide)]
   refine Os (vy C (e.Zk q) (by lia) (by lia) t) λr b o=>?_
   cases r with
   |done d=>exact o.elim
   |yield d=>exact⟨_,by lia,o.1,o.2⟩
  ·rw[ir j]
   refine Os (vy C e g (by lia) i) λr b o=>?_
   cases r with
   |done d=>exact o.elim
   |yield d=>exact⟨_,g,o.1,o.2⟩
theorem ite_le [Decidable c]:(if c then p-1 else p)<=p:=by split<;>lia
theorem F9(C:gN O key S k0 (model prog w) A E s)(h:SI O key S k0 a st a.size)(g:(pendingOf st).size<=max 1 (a.size-x)):
  wpS (model prog w) A E s FU (λr b=>match r with| .done c=>c=(none,())/\SI O key S k0 a b a.size/\(pendingOf b).size<=1| .yield c=>c=(none,())/\SI O key S k0 a b a.size/\(pendingOf b).size<=max 1 (a.size-(x+1))) st:=by
 unfold FU;refine Da (aaJ ?_)
 by_cases d:(pendingOf st).size<=1
 ·rw[tz d];exact Do ⟨rfl,h,d⟩
 ·rw[ir d]
  refine Da (D5 C h (Nat.lt_of_le_of_lt (Nat.succ_le_succ ite_le) (by lia)) λb f e _=>?_)
  exact Do ⟨rfl,f,by lia⟩
theorem wpS_sortRuns(C:gN O key S k0 (model prog w) A E s)(o:Ok S k0 st)(p:failedOf st=none)(t:pendingOf st= #[])(F:1<=(arrOf st).size)
  (q:∀a,(arrOf a).Perm (arrOf st)->failedOf a=none->jn O key (arrOf a) 0 (arrOf st).size->Q () a):wpS (model prog w) A E s sortRuns' Q st:=by
 rw[yp];refine Da (aaJ ?_);have u:SI O key S k0 (arrOf st) st 0:=⟨o,p, .refl _,by unfold pl;rw[t];rfl,cF _⟩
 refine Da (Os (Pi (I:=λ(x:Nat)(c:Option Unit×Nat)(a:SortSt)=>∃lo,c=(none,lo)/\min x (arrOf st).size<=lo/\SI O key S k0 (arrOf st) a lo) (Q:=λc a=>c=(none,(arrOf st).size)/\SI O key S k0 (arrOf st) a (arrOf st).size) (λx c a _ _ b=>?_) (λc a b=>?_) ⟨0,rfl,by lia,u⟩) ?_)
 ·obtain⟨lo,rfl,v,f⟩:=b
  refine Os (Ga C f) λr g o=>?_;cases r with
  |done d=>
   obtain⟨e,G,h⟩:=o
   have:=h.le
   have j:lo=(arrOf st).size:=by lia
   rw[j] at e h;exact⟨e,h⟩
  |yield d=>
   obtain⟨n,H,e,h⟩:=o;exact⟨lo+n,e,by lia,h⟩
 ·obtain⟨lo,rfl,v,f⟩:=b
  have:=f.le
  have j:lo=(arrOf st).size:=by lia
  rw[j] at f ⊢;exact⟨rfl,f⟩
 ·rintro c a ⟨rfl,f⟩
  dsimp only
  have m:(pendingOf a).size<=(arrOf st).size:=by
   have:=f.cov.le
   unfold pl at this;rw[aD,eN] at this;lia
  refine Da (Os (Pi (I:=λ(x:Nat)(c:U1)(a:SortSt)=>c=(none,())/\SI O key S k0 (arrOf st) a (arrOf st).size/\(pendingOf a).size<=max 1 ((arrOf st).size-x)) (Q:=λc a=>c=(none,())/\SI O key S k0 (arrOf st) a (arrOf st).size/\(pendingOf a).size<=1) (λx c a _ _ b=>?_) (λc a b=>?_) ⟨rfl,f,by lia⟩) ?_)
  ·refine Os (F9 C b.2.1 b.2.2) λr g o=>?_
   cases r with
   |done d=>exact o
   |yield d=>exact o
  ·exact⟨b.1,b.2.1,by have:=b.2.2;lia⟩
  ·rintro c g ⟨rfl,k,y⟩
   refine Do (q g k.perm k.failed ?_);have i:=k.cov;have l:(pl g).length<=1:=by unfold pl;rw[aD,eN];exact y
   match eM:pl g,l with
   | [],_=>rw[eM] at i;exact absurd i (by show ¬(0=(arrOf st).size);lia)
   | [e],_=>
    rw[eM] at i;obtain⟨J,L,z,B⟩:=i
    have:0+e.2=(arrOf st).size:=B
    rw[<-this];exact z
end
section
variable {O:KeyOrd} {key:Keyed->O.α} {S:Keyed->Prop} {k0:SortKind} {prog:Program} {w:World} {A:Around} {E:Value->Shared->Prop} {s:Shared}
def Keeps(s a:Shared):Prop:=∀b o,s.heap.get? b=some o->a.heap.get? b=some o
theorem uN(a:List Value):(a.toArray.zip a.toArray).toList=a.map λv=>(v,v):=by
 rw[Array.toList_zip];show List.zip a a=_
 induction a with
 |nil=>rfl
 |cons v r b=>rw[List.zip_cons_cons,h7,b]
theorem Oi(h:jn O key a 0 a.size):a.toList.Pairwise (LE O key):=by
 rw[D8];intro i j c b d;rw[eN] at c b;exact fE h (cF _) (sD d) b (kn (bB _)) (kn (bB _))
theorem xG(j:s.heap.get? a=some (seqObj "list" c.toArray n))(R:2<=c.length)(T:c.length<=1000)(ne:∀b o,s.heap.get? b=some o->b≠a->True)
  {s0:Shared} (k:∀b o,s0.heap.get? b=some o->b≠a/\s.heap.get? b=some o)
  (z:∀(E:Value->Shared->Prop)(d:Shared)(m:SortKind->Shared->Prop),Keeps s0 d->m k0 d->wpAny (model prog w) A (keyKind' c.toArray) m E d)
  (C:∀(E:Value->Shared->Prop)(d:Shared),Keeps s0 d->gN O key S k0 (model prog w) A E d) (mem:∀v∈c,S (v,v))
  (h:∀out:Array Keyed,out.toList.Perm (c.map λv=>(v,v))->out.toList.Pairwise (LE O key)->P (.done (.ret .none)) {s with heap:=sortedHeap s.heap a c (out.map (·.2))}):
  wpAny (model prog w) A (Builtin.«list.sort» ⟨[.ref a],[]⟩) P E s:=by
 rw[list_sort_plain];have q:a<s.heap.objs.size:=Fk j;have U:1000<sizeLine:=by decide
 refine be (listItems_at j rfl ?_);refine be (abH j rfl ?_ (by rw[cT];lia) (cF _))
 obtain⟨l,r⟩:∃l,(s.heap.update a (Obj.mapSeq λ_=> #[])).get? a=some (seqObj "list" #[] l):=⟨_,abk j (λ_=> #[])⟩;refine be (acm r rfl ?_);refine be (wpAny_newTuple ?_ (by show c.length<=_;lia))
 refine be (aa4 ?_ (cF _));refine KF ?_
 have t:(((s.heap.update a (Obj.mapSeq λ_=> #[])).push (seqObj "tuple" c.toArray 0)).push (seqObj "list" #[] 0)).get? a=some (seqObj "list" #[] l):=by
  rw[aaW _ _ _ (by rw[abS,aaH];exact cn (uP q)),aaW _ _ _ (by rw[aaH];exact cn q)]
  exact r
 show wpAny (model prog w) A _ P E {s with heap:=((s.heap.update a (Obj.mapSeq λ_=> #[])).push (seqObj "tuple" c.toArray 0)).push (seqObj "list" #[] 0)}
 have u:Keeps s0 {s with heap:=((s.heap.update a (Obj.mapSeq λ_=> #[])).push (seqObj "tuple" c.toArray 0)).push (seqObj "list" #[] 0)}:=λb o e=>by
  obtain⟨B,F⟩:=k b o e;refine AC _ (AC _ ?_);rw[aaK _ _ _ _ B];exact F
 dsimp only;have X:c.toArray.size=c.length:=by simp
 have x:¬c.toArray.size<2:=by lia
 rw[ir x,ir x];refine be (z _ _ _ u ?_);have g:(c.toArray.zip c.toArray).size=c.length:=by rw[<-eN,uN,aD]
 refine be (wpAny_mono (wpS_sortRuns (C _ _ u) (st:=SortSt.mk' k0 (c.toArray.zip c.toArray) #[] 7 none)
   (Q:=λ_ f=>(arrOf f).Perm (c.toArray.zip c.toArray)/\failedOf f=none/\jn O key (arrOf f) 0 (c.toArray.zip c.toArray).size)
   ⟨λp i=>?_,rfl⟩ rfl rfl (by show 1<=(c.toArray.zip c.toArray).size;lia) λf G H I=>⟨G,H,I⟩) ?_ λ_ _ e=>e)
 ·have y:p∈(c.toArray.zip c.toArray).toList:=i
  rw[uN] at y;obtain⟨v,J,rfl⟩:=bY.mp y;exact mem v J
 rintro⟨⟨⟩,f⟩ d ⟨rfl,i,L,M⟩;dsimp only;have N:(arrOf f).size=c.length:=by rw[i.size_eq,g]
 refine be (acm t rfl ?_);refine be (abH t rfl ?_ (cF _) (by rw[Array.size_map];lia))
 rw[L];simp only[abQ,fj,M2];refine mo (h (arrOf f) ?_ ?_)
 ·rw[<-uN];exact B2.mp i
 ·refine Oi ?_
  rw[i.size_eq];exact M
theorem vq(j:s.heap.IsList l a.toArray)(k:2<=a.length)(n:a.length<=1000)
  (p:∀(E:Value->Shared->Prop)(c:Shared)(g:SortKind->Shared->Prop),Keeps s c->g k0 c->wpAny (model prog w) A.in1.in1 (keyKind' a.toArray) g E c)
  (C:∀(E:Value->Shared->Prop)(c:Shared),Keeps s c->gN O key S k0 (model prog w) A.in1.in1 E c) (mem:∀v∈a,S (v,v))
  (h:∀out:Array Keyed,out.toList.Perm (a.map λv=>(v,v))->out.toList.Pairwise (LE O key)->Q (.ref (s.heap.objs.size+1)) {s with heap:=sortedAll s.heap a (out.map (·.2))}):
  wpAny (model prog w) A (call (.builtin "sorted") [.ref l]) Q E s:=by
 have u:1000<sizeLine:=by decide
 refine aaL kind_sorted acB acC (acD _) ?_;unfold Builtin.«sorted»;refine be (m:=checkCount "sorted" 1 1 _) (mo ?_);refine be (collect_list j ?_ (by lia))
 refine be (aa4 ?_ (by show a.length<=_;lia))
 have d:((s.heap.push (seqObj "list" #[] 0)).update s.heap.objs.size (Obj.mapSeq (·++a.toArray))).objs.size=s.heap.objs.size+1:=by
  rw[aaH,abS]
 have i:(((s.heap.push (seqObj "list" #[] 0)).update s.heap.objs.size (Obj.mapSeq (·++a.toArray))).push (seqObj "list" a.toArray 0)).get? (s.heap.objs.size+1)=some (seqObj "list" a.toArray 0):=by
  rw[<-d];exact GM _ rfl
 have keep:∀b o,s.heap.get? b=some o->(((s.heap.push (seqObj "list" #[] 0)).update s.heap.objs.size (Obj.mapSeq (·++a.toArray))).push (seqObj "list" a.toArray 0)).get? b=some o:=λb o q=>by
  have f:b<s.heap.objs.size:=Fk q;rw[aaW _ _ _ (by rw[d];exact cn (uP f)),aaK _ _ _ _ (cn f),aaW _ _ _ (cn f)]
  exact q
 show wpAny _ _ _ _ _ {s with heap:=((s.heap.push (seqObj "list" #[] 0)).update s.heap.objs.size (Obj.mapSeq (·++a.toArray))).push (seqObj "list" a.toArray 0)}
 rw[d];refine be (KF (Re slot_list_sort ⟨_,i,rfl⟩ entry_list_sort (xG (s0:=s) i k n (λ_ _ _ _=>trivial) (λb o e=>⟨cn (uP (Fk e)),keep b o e⟩) p C mem λout r t=>⟨_,rfl,?_⟩) (acq _)));exact mo ⟨_,rfl,h out r t⟩
end
end TS
namespace L2
open PySem PySem.Spec PyProof.Rows
def lexOrd:KeyOrd where
 α:=Nat×Nat
 blt:=jP
 irrefl:=λa=>by unfold jP;rw[tz rfl];simp
 trans:=λa b c d e=>KN _ _ _ d e
 negTrans:=λa b c h=>Ik _ _ _ h
 total:=λa b d e=>Wb.qu (xw e) (xw d)
def keyOf(L:List (Addr×(Nat×Nat)))(v:Keyed):Nat×Nat:=match v.1 with
 | .ref a=>((L.find? λe=>e.1==a).map (·.2)).getD (0,0)
 |_=>(0,0)
theorem Fy(h:uC k=uC b):k=b:=by
 unfold uC at h
 injection h with c a
 injection a with a _
 injection c with c
 injection a with a
 exact aaC (by lia) (by lia)
theorem mZ(c:Aw H L)(d:e∈L)(v:Value):keyOf L (.ref e.1,v)=e.2:=by
 unfold keyOf;dsimp only;cases b:L.find? λx=>x.1==e.1 with
 |none=>exact absurd (abE.mp b e d) (by simp)
 |some x=>
  have f:=abT b;have g:=List.find?_some b;have h:x.1=e.1:=by simpa using g
  have a:=c x f;have i:=c e d;rw[h,i] at a
  injection a with a
  injection a with a
  exact(Fy a).symm
theorem jr [DecidableEq a] (f:a->b):∀(l:List b)(L:List a),l.Perm (L.map f)->∃M:List a,M.Perm L/\l=M.map f
 | [],L,h=>by
  have:=h.length_eq
  rw[aD] at this
  have:L= []:=D9.mp this.symm
  subst this;exact⟨[], .refl _,rfl⟩
 |x::r,L,h=>by
  obtain⟨e,d,rfl⟩:=bY.mp (h.mem_iff.mp cg);have c:=List.perm_cons_erase d;have g:(f e::r).Perm (f e::(L.erase e).map f):=h.trans (c.map f);obtain⟨M,i,rfl⟩:=jr f r (L.erase e) ((List.perm_cons _).mp g);exact⟨e::M,(i.cons e).trans c.symm,rfl⟩
section
variable {X:Cx}
theorem qO:dZ X (.builtin "sorted") (λxs H Q=>∃(p:Addr)(L:List (Addr×(Nat×Nat))),xs= [.ref p]/\cM X.K H p (L.map λe=>V.ref e.1)/\Aw H L/\L.length<=1000/\
  ∀(q:Addr)(M:List (Addr×(Nat×Nat))),H q=none->M.Perm L->(M.map (·.2)).Pairwise Wb.lexLe->Q (.ref q) (upd H q (.lst (M.map λe=>V.ref e.1)))):=by
 intro pins s σ H xs us Q I rv h;refine ah λJ k0=>?_;obtain⟨p,L,rfl,hp,w,hz,q⟩:=h;obtain⟨u,rfl,ru⟩:=rv.one;subst ru;obtain⟨d,r,pl,_⟩:=I.list hp;have hl:=r.length;rw[aD] at hl;have cy:1000<sizeLine:=by decide
 refine k0 ?_
 have N:d=L.map λe=>Value.ref e.1:=by
  have:=sh (as:=L.map (·.1)) (us:=d) (by rw[dN];exact r)
  rw[this,dN];rfl
 by_cases h2:L.length<2
 ·refine KS.qV pl.isList (by lia) ?_
  obtain⟨e,A⟩:=abj s.heap d d.toArray;have P:H (s.heap.objs.size+1)=none:=I.hok.fresh (j9 _);refine⟨.ref (s.heap.objs.size+1),_,I.laid (t':=s.toks) (λb o B=>aa3 B) (j9 _) (o:= .lst (L.map λe=>V.ref e.1)) ⟨by rw[aD];lia,d,e,r,A⟩,rfl,q _ L P (.refl _) ?_⟩
  match L,h2 with
  | [],_=>exact .nil
  | [_],_=>exact ab6 _ _
 ·have l:∀e∈L,∀j:Shared,TS.Keeps s j->∃t u,IsTup j.heap e.1 [.int (e.2.1:Nat) t, .int (e.2.2:Nat) u].toArray:=λe A j m=>by
   refine ah λJ k0=>?_;obtain⟨t,u,o,R,C,n,U⟩:=Iv I (w e A);refine k0 ?_;exact⟨t,u,o,m _ _ R,C,n,U⟩
  refine TS.vq (O:=lexOrd) (key:=keyOf L) (S:=λp=>∃e∈L,p=(Value.ref e.1,Value.ref e.1)) (k0:=tuples' true) pl.isList (by lia) (by lia) (λE' j Q' m Y=>?_) (λE' j m x y st Q' sx sy hk Y=>?_) (λv k=>?_) λout o9 ER=>?_
  ·have go:∀(M:List (Addr×(Nat×Nat))),(∀e∈M,e∈L)->∃fs:List Value,PySem.W.KatTups j.heap (M.map λe=>Value.ref e.1) fs/\fs.length=M.length/\∀v∈fs,∃i t,v= .int i t:=by
    intro M
    induction M with
    |nil=>exact λ_=>⟨[],PySem.W.KatTups.nil,rfl,λv k=>by cases k⟩
    |cons e M ih=>
     intro hM;refine ah λJ k0=>?_;obtain⟨fs,a,b,c⟩:=ih λx hx=>hM x (cG _ hx);obtain⟨t,u,o,R,C,n,U⟩:=l e (hM e cg) j m;refine k0 ?_;refine⟨.int (e.2.1:Nat) t::fs,PySem.W.KatTups.cons R C U rfl a,by simp[b],λv k=>?_⟩
     rcases cC.mp k with z|z
     ·exact⟨_,_,z⟩
     ·exact c v z
   obtain⟨fs,kt,kl,ki⟩:=go L λ_ h=>h;rw[N];refine PySem.W.kat_kind (T:= .type "int") kt (by lia) (λv k=>by obtain⟨i,t,rfl⟩:=ki v k;exact .now) (by decide) ?_
   have B:(Value.type "int" !=Value.type "tuple")=true:=by decide
   rw[B];exact Y
  ·obtain⟨f,E,rfl⟩:=sx
   obtain⟨g,F,rfl⟩:=sy;rw[lt'_eq];refine Da (aaJ ?_);rw[hk];refine ah λJ k0=>?_;obtain⟨t1,t2,k1⟩:=l f E j m;obtain⟨u1,u2,k2⟩:=l g F j m;refine k0 ?_;refine Da (aa8 (abI (M8 k1 k2 ⟨rfl,?_⟩)))
   have eb:(if ((f.2.1:Nat):Int)=((g.2.1:Nat):Int) then decide (((f.2.2:Nat):Int)<((g.2.2:Nat):Int)) else decide (((f.2.1:Nat):Int)<((g.2.1:Nat):Int)))=lexOrd.blt (keyOf L (.ref f.1, .ref f.1)) (keyOf L (.ref g.1, .ref g.1)):=by
    rw[mZ w E,mZ w F];show _=jP f.2 g.2;unfold jP;simp only[Int.ofNat_inj,Int.ofNat_lt]
   rw[eb];exact Do Y
  ·rw[N] at k
   obtain⟨e,A,rfl⟩:=bY.mp k;exact⟨e,A,rfl⟩
  ·rw[N,dN] at o9
   obtain⟨M,G,em⟩:=jr (λe:Addr×(Nat×Nat)=>((Value.ref e.1,Value.ref e.1):Keyed)) out.toList L o9
   have Ks:(out.map (·.2)).toList=M.map λe=>Value.ref e.1:=by
    rw[Array.toList_map,em,dN];rfl
   obtain⟨c,C⟩:=abj s.heap d (out.map (·.2));have P:H (s.heap.objs.size+1)=none:=I.hok.fresh (j9 _);have EN:=G.length_eq;refine⟨.ref (s.heap.objs.size+1),_,I.laid (t':=s.toks) (λb o B=>aa3 B) (j9 _) (o:= .lst (M.map λe=>V.ref e.1)) ⟨by rw[aD];lia,(out.map (·.2)).toList,c,?_,by rw[Array.toArray_toList];exact C⟩,rfl,q _ M P G ?_⟩
   ·rw[Ks,show(λe:Addr×(Nat×Nat)=>V.ref e.1)=V.ref∘(·.1) from rfl,show(λe:Addr×(Nat×Nat)=>Value.ref e.1)=Value.ref∘(·.1) from rfl,<-dN,<-dN]
    exact rZ _
   ·rw[em,hZ] at ER
    rw[hZ];refine Wp ?_ ER;intro f g E F Z;have CK:jP (keyOf L (.ref g.1, .ref g.1)) (keyOf L (.ref f.1, .ref f.1))=false:=Z;rw[mZ w (G.mem_iff.mp E),mZ w (G.mem_iff.mp F)] at CK;exact xw CK
end
section
open PySem.SeqAt
open PySem.AutoSeq1 (wpAny_loadPart')
open PySem.MeetsSeq PySem.MeetsSeq2 PySem.MeetsSeq3
theorem CU{c:List Value}{d:List Int}(h:IntsAre c d){i:Nat}{a:Int}(e:d[i]? =some a):∃t,c[i]? =some (.int a t):=by
 induction h generalizing i with
 |nil=>simp at e
 |cons b t _ f=>
  cases i with
  |zero=>simp at e;subst e;exact⟨t,rfl⟩
  |succ i=>simp at e;obtain⟨u,g⟩:=f e;exact⟨u,by simpa using g⟩
theorem KU(l b:Addr)(a j:Array Value)(n G:Nat)(H I:Option Addr)(J L:Array (Option Value))(m f:List Int)(C:IntsAre a.toList m)(E:IntsAre j.toList f)(k:Nat):
  ∀i:Nat,a.size-i=k->i<=a.size->i<=j.size->Meets (Builtin.«list.__eq__.loop» ⟨[.ref l, .ref b,rawInt i,rawInt 0],[]⟩)
   (λA R s=>s.heap.get? l=some {cls:= .type "list",dict:=H,data:= .seq a n,slots:=J}/\s.heap.get? b=some {cls:= .type "list",dict:=I,data:= .seq j G,slots:=L}/\
    R (.ok (.ret (.bool (HT.lexLt (m.drop i) (f.drop i))))) s):=by
 have Z:a.size=m.length:=by rw[<-C.length];simp
 have z2:j.size=f.length:=by rw[<-E.length];simp
 induction k with
 |zero=>
  intro i M N O prog w A R s h;obtain⟨x,g,d,y,os⟩:=s;obtain⟨o,p,h⟩:=h
  wp_walk using wpAny_loadPart' o,wpAny_loadPart' p
  have r:a[((i:Nat):Int).toNat]? =none:=by simp;lia
  rw[r];have P:m.drop i= []:=Eb (by lia)
  rw[P] at h
  have Q:HT.lexLt [] (f.drop i)=decide (a.size<j.size):=by
   by_cases c:i<f.length
   ·rw[mH c,HT.vQ]
    exact(FS (by lia)).symm
   ·rw[Eb (by lia),HT.xB]
    exact(FM (by lia)).symm
  rw[Q] at h
  wp_walk using wpAny_loadPart' o,wpAny_loadPart' p
  exact h
 |succ k S=>
  intro i M N O prog w A R s h;obtain⟨x,g,d,y,os⟩:=s;obtain⟨o,p,h⟩:=h
  wp_walk using wpAny_loadPart' o,wpAny_loadPart' p
  have z:i<m.length:=by lia
  obtain⟨t,T⟩:=CU C (bB z);have r:a[((i:Nat):Int).toNat]? =some (.int m[i] t):=by rw[vB,<-fi];exact T
  have U:((i:Int)+1)=((i+1:Nat):Int):=by push_cast;rfl
  rw[r]
  by_cases c:i<f.length
  ·obtain⟨u,X⟩:=CU E (bB c)
   have v:j[((i:Nat):Int).toNat]? =some (.int f[i] u):=by rw[vB,<-fi];exact X
   rw[v];rw[mH z,mH c,HT.kB] at h;obtain⟨e,Y,F⟩:=HT.HL A.in1 ⟨x,g,d,y,os⟩ m[i] t f[i] u;refine be (Y prog w _ _ ?_);cases e with
   |true=>
    rw[tz (F.mp rfl)] at h
    wp_walk
    rw[U]
    exact⟨aaI abJ _,aaB entry_eq_loop (by
     rw[aaw abJ _];exact S (i+1) (by lia) (by lia) (by lia) prog w A R _ ⟨o,p,h⟩)⟩
   |false=>
    rw[ir (λq=>absurd (F.mpr q) di)] at h
    wp_walk using wpAny_loadPart' o,wpAny_loadPart' p
    rw[r,v];have B:=HT.IF A.in1 ⟨x,g,d,y,os⟩ m[i] t f[i] u prog w
    wp_walk using B
    exact h
  ·have v:j[((i:Nat):Int).toNat]? =none:=by simp;lia
   rw[v];rw[mH z,Eb (show f.length<=i by lia),HT.vP] at h
   wp_walk using wpAny_loadPart' o,wpAny_loadPart' p
   show R (.ok (.ret (.bool (decide (a.size<j.size))))) _;rw[FM (by lia)]
   exact h
end
section
open PySem.SeqAt
open PySem.AutoSeq1 (wpAny_loadPart')
open PySem.MeetsSeq PySem.MeetsSeq2 PySem.MeetsSeq3
theorem zo(l b:Addr)(a c:Array Value)(n i:Nat)(j k:Option Addr)(m o:Array (Option Value))(e f:List Int)(r:IntsAre a.toList e)(t:IntsAre c.toList f):
  Meets (Builtin.«list.__lt__» ⟨[.ref l, .ref b],[]⟩)
   (λ_ R s=>s.heap.get? l=some {cls:= .type "list",dict:=j,data:= .seq a n,slots:=m}/\s.heap.get? b=some {cls:= .type "list",dict:=k,data:= .seq c i,slots:=o}/\
    R (.ok (.ret (.bool (HT.lexLt e f)))) s):=by
 intro prog w A R s h;obtain⟨u,g,d,v,os⟩:=s;obtain⟨p,q,h⟩:=h;have x:=AutoSeq1.sub_list_list
 wp_walk using wpAny_loadPart' p,wpAny_loadPart' q
 exact⟨aaI abJ _,aaB entry_eq_loop (by
  rw[aaw abJ _];exact KU l b a c n i j k m o e f r t _ 0 rfl (cF _) (cF _) prog w A R _ ⟨p,q,h⟩)⟩
end
section
variable {prog:Program} {w:World} {A:Around} {E:Value->Shared->Prop} {s:Shared}
theorem Dd(o:s.heap.IsList l a)(p:s.heap.IsList b d)(q:IntsAre a.toList e)(r:IntsAre d.toList f)(t:A.units<cLine)
  (h:Q (HT.lexLt e f) s):wpAny (model prog w) A (oneLt' true (.ref l) (.ref b)) Q E s:=by
 rfl';obtain⟨⟨v,x,i,y⟩,g,j,n,k⟩:=id o;obtain⟨⟨I,z,data2,B⟩,C,m,G,c⟩:=id p;ac_rfl;simp only at j k m c;subst j k m c;rw[oneLt'_eq];simp only[aaq];refine be (wpAny_cRoomFor t ?_);refine be (wpAny_callSpecialIfBound?_slot ⟨_,g,rfl⟩ PySem.F.slot_list_lt (aaA PySem.F.slot_list_lt ⟨_,g,rfl⟩ PySem.F.entry_list_lt (PySem.F.args_list_lt_2 _ _) (zo l b a d n G x z y B e f q r) ⟨g,C,?_⟩));exact Pv h
end
theorem C2:∀a:List Int,HT.lexLt a a=false
 | []=>rfl
 |x::b=>by rw[HT.kB,tz rfl];exact C2 b
theorem Bg:∀a b c:List Int,HT.lexLt a b=true->HT.lexLt b c=true->HT.lexLt a c=true
 | [],[],_,h,_=>by cases h
 | [],_::_,[],_,h=>by cases h
 | [],_::_,_::_,_,_=>rfl
 |_::_,[],_,h,_=>by cases h
 |_::_,_::_,[],_,h=>by cases h
 |x::i,y::j,z::k,g,e=>by
  rw[HT.kB] at*
  by_cases f:x=y
  ·rw[tz f] at g
   by_cases d:y=z
   ·rw[tz d] at e
    rw[tz (f.trans d)];exact Bg i j k g e
   ·rw[ir d] at e
    rw[ir (by rw[f];exact d),f];exact e
  ·rw[ir f] at g
   have l:=KM g
   by_cases d:y=z
   ·rw[ir (by rw[<-d];exact f),<-d];exact g
   ·rw[ir d] at e
    have m:=KM e;rw[ir (by lia)]
    exact FS (by lia)
theorem tm:∀a b:List Int,HT.lexLt a b=false->HT.lexLt b a=false->a=b
 | [],[],_,_=>rfl
 | [],_::_,h,_=>by cases h
 |_::_,[],_,h=>by cases h
 |x::f,y::g,c,d=>by
  rw[HT.kB] at*
  by_cases e:x=y
  ·rw[tz e] at c
   rw[tz e.symm] at d;rw[e,tm f g c d]
  ·rw[ir e] at c
   rw[ir (λz=>e z.symm)] at d
   have:=aak c
   have:=aak d
   lia
theorem KO(a b c:List Int)(h:HT.lexLt a c=true):HT.lexLt a b=true\/HT.lexLt b c=true:=by
 cases e:HT.lexLt a b with
 |true=>exact .inl rfl
 |false=>
  right
  cases d:HT.lexLt b a with
  |true=>exact Bg _ _ _ d h
  |false=>rw[<-tm a b e d];exact h
def KQ:KeyOrd where
 α:=List Int
 blt:=HT.lexLt
 irrefl:=C2
 trans:=Bg
 negTrans:=KO
 total:=tm
def kj(r:List Nat):List Int:=r.map λ(n:Nat)=>(n:Int)
def tq(a b:List Nat):Prop:=HT.lexLt (kj b) (kj a)=false
def Ed(H:Hp)(L:List (Addr×List Nat)):Prop:=∀p∈L,H p.1=some (.lst ((kj p.2).map V.int))
theorem DS(h:(kj a).map V.int=(kj b).map V.int):a=b:=by
 unfold kj at h;rw[dN,dN] at h
 induction a generalizing b with
 |nil=>cases b with
  |nil=>rfl
  |cons y b=>simp at h
 |cons x a d=>
  cases b with
  |nil=>simp at h
  |cons y b=>
   rw[h7,h7] at h
   injection h with e f
   have c:V.int (x:Int)=V.int (y:Int):=e
   injection c with c
   rw[d f,show x=y by lia]
def rL(L:List (Addr×List Nat))(v:Keyed):List Int:=match v.1 with
 | .ref a=>((L.find? λe=>e.1==a).map λe=>kj e.2).getD []
 |_=> []
theorem mY(c:Ed H L)(d:e∈L)(v:Value):rL L (.ref e.1,v)=kj e.2:=by
 unfold rL;dsimp only;cases b:L.find? λx=>x.1==e.1 with
 |none=>exact absurd (abE.mp b e d) (by simp)
 |some x=>
  have f:=abT b;have g:=List.find?_some b;have h:x.1=e.1:=by simpa using g
  have a:=c x f;have i:=c e d;rw[h,i] at a
  injection a with a
  injection a with a
  show kj x.2=kj e.2;rw[DS a]
section
variable {X:Cx}
theorem wF(hu:X.A.units+64<cLine):dZ X (.builtin "sorted") (λR H Q=>∃(p:Addr)(L:List (Addr×List Nat)),R= [.ref p]/\cM X.K H p (L.map λe=>V.ref e.1)/\Ed H L/\L.length<=1000/\
  ∀(q:Addr)(M:List (Addr×List Nat)),H q=none->M.Perm L->(M.map (·.2)).Pairwise tq->Q (.ref q) (upd H q (.lst (M.map λe=>V.ref e.1)))):=by
 intro U s σ H R us Q I rv h;refine ah λY k0=>?_;obtain⟨p,L,rfl,hp,l,hz,q⟩:=h;obtain⟨u,rfl,ru⟩:=rv.one;subst ru;obtain⟨d,r,pl,_⟩:=I.list hp;have hl:=r.length;rw[aD] at hl;have cy:1000<sizeLine:=by decide
 refine k0 ?_
 have C:d=L.map λe=>Value.ref e.1:=by
  have:=sh (as:=L.map (·.1)) (us:=d) (by rw[dN];exact r)
  rw[this,dN];rfl
 by_cases h2:L.length<2
 ·refine KS.qV pl.isList (by lia) ?_
  obtain⟨e,g⟩:=abj s.heap d d.toArray;have E:H (s.heap.objs.size+1)=none:=I.hok.fresh (j9 _);refine⟨.ref (s.heap.objs.size+1),_,I.laid (t':=s.toks) (λb o F=>aa3 F) (j9 _) (o:= .lst (L.map λe=>V.ref e.1)) ⟨by rw[aD];lia,d,e,r,g⟩,rfl,q _ L E (.refl _) ?_⟩
  match L,h2 with
  | [],_=>exact .nil
  | [_],_=>exact ab6 _ _
 ·have lst:∀e∈L,∀f:Shared,TS.Keeps s f->∃a:Array Value,f.heap.IsList e.1 a/\IntsAre a.toList (kj e.2):=λe g f k=>by
   refine ah λY k0=>?_;obtain⟨G,r2,p2,_⟩:=I.list (cM.of (l e g));obtain⟨o,J,m,n,hd⟩:=p2.isList;refine k0 ?_;exact⟨G.toArray,⟨o,k _ _ J,m,n,hd⟩,by simpa using intsAre_of r2⟩
  refine TS.vq (O:=KQ) (key:=rL L) (S:=λp=>∃e∈L,p=(Value.ref e.1,Value.ref e.1)) (k0:=oneType') pl.isList (by lia) (by lia) (λE' f Q' k N=>?_) (λE' f k x y st Q' sx sy hk N=>?_) (λv t=>?_) λout Z ER=>?_
  ·refine PySem.W.kas_kind (T:= .type "list") (by lia) (λv t=>?_) (by decide) (by decide) N
   rw[C] at t;obtain⟨e,g,rfl⟩:=bY.mp t;obtain⟨a,⟨o,J,m,_⟩,_⟩:=lst e g f k;rw[<-m];exact(PySem.W.Looks.ld J).andThen .now
  ·obtain⟨i,w,rfl⟩:=sx
   obtain⟨j,z,rfl⟩:=sy;rw[lt'_eq];refine Da (aaJ ?_);rw[hk,keyLt'_oneType];refine ah λY k0=>?_;obtain⟨i1,l1,n1⟩:=lst i w f k;obtain⟨i2,l2,n2⟩:=lst j z f k;refine k0 ?_;refine Da (aa8 (abI (Dd l1 l2 n1 n2 ?_ ⟨rfl,?_⟩)))
   ·rw[abX,abX];lia
   ·have eb:HT.lexLt (kj i.2) (kj j.2)=KQ.blt (rL L (.ref i.1, .ref i.1)) (rL L (.ref j.1, .ref j.1)):=by
     rw[mY l w,mY l z];rfl
    rw[eb];exact Do N
  ·rw[C] at t
   obtain⟨e,g,rfl⟩:=bY.mp t;exact⟨e,g,rfl⟩
  ·rw[C,dN] at Z
   obtain⟨M,B,em⟩:=jr (λe:Addr×List Nat=>((Value.ref e.1,Value.ref e.1):Keyed)) out.toList L Z
   have Ks:(out.map (·.2)).toList=M.map λe=>Value.ref e.1:=by
    rw[Array.toList_map,em,dN];rfl
   obtain⟨c,m⟩:=abj s.heap d (out.map (·.2));have E:H (s.heap.objs.size+1)=none:=I.hok.fresh (j9 _);have EN:=B.length_eq;refine⟨.ref (s.heap.objs.size+1),_,I.laid (t':=s.toks) (λb o F=>aa3 F) (j9 _) (o:= .lst (M.map λe=>V.ref e.1)) ⟨by rw[aD];lia,(out.map (·.2)).toList,c,?_,by rw[Array.toArray_toList];exact m⟩,rfl,q _ M E B ?_⟩
   ·rw[Ks,show(λe:Addr×List Nat=>V.ref e.1)=V.ref∘(·.1) from rfl,show(λe:Addr×List Nat=>Value.ref e.1)=Value.ref∘(·.1) from rfl,<-dN,<-dN]
    exact rZ _
   ·rw[em,hZ] at ER
    rw[hZ];refine Wp ?_ ER;intro i j w z P;have CK:HT.lexLt (rL L (.ref j.1, .ref j.1)) (rL L (.ref i.1, .ref i.1))=false:=P;rw[mY l (B.mem_iff.mp w),mY l (B.mem_iff.mp z)] at CK;exact CK
end
end L2
namespace PySem.SetTable
def oF(a:Array Nat):Prop:=∀i j (b:j<a.size),i<j->a[i]! <a[j]!
theorem J8{a:Array Nat}{i d:Nat}(h:i<a.size):a.getD i d=a[i]! :=by
 simp[Array.getD,h]
theorem w9(R:oF h)(j:Nat):∀(f lo g:Nat),g-lo<=f->lo<=g->g<=h.size->(∀i,i<lo->h[i]! <j)->(∀i,g<=i->i<h.size->j<=h[i]!)->
  lo<=below.go h j f lo g/\below.go h j f lo g<=g/\(∀i,i<below.go h j f lo g->h[i]! <j)/\∀i,below.go h j f lo g<=i->i<h.size->j<=h[i]!
 |0,lo,g,m,n,k,a,b=>by
  have:lo=g:=by lia
  subst this;rw[below.go];exact⟨bJ _,bJ _,a,b⟩
 |f+1,lo,g,m,n,k,a,b=>by
  rw[below.go]
  by_cases c:lo<g
  ·rw[tz c]
   have l:(lo+g) / 2<h.size:=by lia
   dsimp only;rw[J8 l]
   by_cases d:h[(lo+g) / 2]! <j
   ·rw[tz d]
    have:=w9 R j f ((lo+g) / 2+1) g (by lia) (by lia) k (λi p=>by
     by_cases e:i=(lo+g) / 2
     ·rw[e];exact d
     ·have:=R i ((lo+g) / 2) l (by lia);lia) b
    exact⟨by lia,this.2.1,this.2.2⟩
   ·rw[ir d]
    have:=w9 R j f lo ((lo+g) / 2) (by lia) (by lia) (by lia) a (λi q o=>by
     by_cases e:i=(lo+g) / 2
     ·rw[e];lia
     ·have:=R ((lo+g) / 2) i o (by lia);lia)
    exact⟨this.1,by lia,this.2.2⟩
  ·rw[ir c]
   have:lo=g:=by lia
   subst this;exact⟨bJ _,bJ _,a,b⟩
theorem iJ{xs:Array Nat}(R:oF xs)(j:Nat):below xs j<=xs.size/\(∀i,i<below xs j->xs[i]! <j)/\∀i,below xs j<=i->i<xs.size->j<=xs[i]! :=by
 have:=w9 R j xs.size 0 xs.size (by lia) (cF _) (bJ _) (λi h=>by lia) (λi a b=>by lia)
 exact⟨this.2.1,this.2.2⟩
theorem below_at(R:oF a)(h:a[i]? =some j):below a j=i:=by
 obtain⟨b,e⟩:=Al.mp h;have g:a[i]! =j:=by simp[b,e]
 obtain⟨k,d,f⟩:=iJ R j;apply Nat.le_antisymm
 ·apply GE
  intro c
  have:=d i (by lia)
  lia
 ·apply GE
  intro c;have l:=f (below a j) (bJ _) (by lia)
  have m:=R (below a j) i b (by lia)
  lia
theorem r6{t:SetTable}(R:oF t.place)(h:t.place[i]? =some j):t.slot j= .live i:=by
 unfold slot;rw[below_at R h];simp[h]
theorem DD{t:SetTable}(R:oF t.place)(a:t.dummies= #[])(h:∀i:Nat,t.place[i]? ≠some j):t.slot j= .empty:=by
 unfold slot
 have b:(t.place[below t.place j]? ==some j)=false:=by
  rw[aao];exact h _
 dsimp only;rw[ir (by rw[b];exact di)]
 unfold has;rw[a];rfl
def og(mask:Nat)(p:Probe):Probe:=
 if p.more>0 then {p with j:=p.j+1,more:=p.more-1} else
 let (i,perturb):=leap mask p.i p.perturb
 {p with j:=i,more:=runEnd mask i-i,i,perturb}
def bS(mask:Nat)(h:Int):Probe:={j:=bits h%(mask+1),more:=runEnd mask (bits h%(mask+1))-bits h%(mask+1),i:=bits h%(mask+1),perturb:=bits h,dummy:=none}
theorem IY(t:SetTable)(h:Int):t.probeStart h=bS t.mask h:=rfl
def qK(mask:Nat)(h:Int):Nat->Probe
 |0=>bS mask h
 |k+1=>og mask (qK mask h k)
def bN(mask:Nat)(h:Int)(k:Nat):Nat:=(qK mask h k).j
theorem Jx(h:Int):bits h<2^64:=by
 unfold bits;have a:0<=h%(2^64:Int):=Int.emod_nonneg _ (by decide)
 have b:h%(2^64:Int)<2^64:=Int.emod_lt_of_pos _ (by decide)
 lia
def eJ(mask:Nat)(i p:Nat):Nat->Nat×Nat
 |0=>(i,p)
 |r+1=>leap mask (eJ mask i p r).1 (eJ mask i p r).2
theorem lq(mask i p:Nat):∀r,(eJ mask i p r).2=p / 32^r
 |0=>by simp[eJ]
 |r+1=>by
  show(eJ mask i p r).2 / 32=_;rw[lq mask i p r,Nat.div_div_eq_div_mul,Nat.pow_succ]
def Nf(mask:Nat)(i:Nat):Nat:=(i*5+1)%(mask+1)
def kA(mask:Nat)(i:Nat):Nat->Nat
 |0=>i
 |r+1=>Nf mask (kA mask i r)
theorem lX(mask i:Nat)(a:Nat):∀b,kA mask i (a+b)=kA mask (kA mask i a) b
 |0=>rfl
 |b+1=>by
  show Nf mask (kA mask i (a+b))=_;rw[lX mask i a b];rfl
theorem uJ{mask i p a:Nat}(h:(eJ mask i p a).2=0):∀r,eJ mask i p (a+r)=(kA mask (eJ mask i p a).1 r,0)
 |0=>by rw[Nat.add_zero,kA];exact aaC rfl h
 |r+1=>by
  show leap mask (eJ mask i p (a+r)).1 (eJ mask i p (a+r)).2=_;rw[uJ h r];unfold leap;simp[kA,Nf]
def vF(mask:Nat):Prop:=mask=7\/mask=31\/mask=127\/mask=511
def RW(mask:Nat):Nat->Nat->List Nat
 |_,0=> []
 |i,n+1=>i::RW mask (Nf mask i) n
theorem C8{mask s:Nat}:∀{i n:Nat},s∈RW mask i n->∃r,r<n/\kA mask i r=s
 |i,0,h=>by cases h
 |i,n+1,h=>by
  rcases cC.mp h with rfl|h
  ·exact⟨0,by lia,rfl⟩
  ·obtain⟨r,a,e⟩:=C8 h
   refine⟨r+1,by lia,?_⟩
   have:=lX mask i 1 r
   rw[show 1+r=r+1 by lia] at this
   rw[this];exact e
theorem RX{mask:Nat}(h:vF mask):(∀s,s<=mask->∃r,r<=mask/\kA mask 0 r=s)/\kA mask 0 (mask+1)=0:=by
 have key:∀m,(bb (m+1)).all (λs=>(RW m 0 (m+1)).contains s)=true->∀s,s<=m->∃r,r<=m/\kA m 0 r=s:=λm a s b=>by
  have:=yR.mp a s (bV.mpr (by lia))
  obtain⟨r,c,e⟩:=C8 (List.contains_iff_mem.mp this);exact⟨r,by lia,e⟩
 rcases h with rfl|rfl|rfl|rfl
 ·exact⟨key 7 (by decide+kernel),by decide+kernel⟩
 ·exact⟨key 31 (by decide+kernel),by decide+kernel⟩
 ·exact⟨key 127 (by decide+kernel),by decide+kernel⟩
 ·exact⟨key 511 (by decide+kernel),by decide+kernel⟩
theorem cover{mask:Nat}(h:vF mask){i s:Nat}(d:i<=mask)(e:s<=mask):∃r,r<=mask/\kA mask i r=s:=by
 obtain⟨o,per⟩:=RX h;obtain⟨a,f,rfl⟩:=o i d;obtain⟨b,g,rfl⟩:=o s e
 by_cases c:a<=b
 ·refine⟨b-a,by lia,?_⟩
  rw[<-lX,show a+(b-a)=b by lia]
 ·refine⟨mask+1-a+b,by lia,?_⟩
  rw[<-lX,show a+(mask+1-a+b)=mask+1+b by lia,lX,per]
def cQ(mask:Nat)(p:Probe):Nat->Probe
 |0=>p
 |k+1=>og mask (cQ mask p k)
theorem lP(mask:Nat)(p:Probe)(a:Nat):∀b,cQ mask p (a+b)=cQ mask (cQ mask p a) b
 |0=>rfl
 |b+1=>by
  show og mask (cQ mask p (a+b))=_;rw[lP mask p a b];rfl
theorem nu(mask:Nat)(h:Int):∀k,qK mask h k=cQ mask (bS mask h) k
 |0=>rfl
 |k+1=>by
  show og mask _=og mask _;rw[nu mask h k]
theorem uc(mask:Nat)(p:Probe):∀c,c<=p.more->cQ mask p c={p with j:=p.j+c,more:=p.more-c}
 |0,_=>rfl
 |c+1,a=>by
  show og mask (cQ mask p c)=_;rw[uc mask p c (by lia)]
  unfold og;rw[tz (by show p.more-c>0;lia)]
  show({p with j:=p.j+c+1,more:=p.more-c-1}:Probe)={p with j:=p.j+(c+1),more:=p.more-(c+1)}
  rw[show p.more-c-1=p.more-(c+1) by lia,show p.j+c+1=p.j+(c+1) by lia]
def Oj(mask:Nat)(p:Probe)(a:Nat×Nat):Probe:={p with j:=a.1,more:=runEnd mask a.1-a.1,i:=a.1,perturb:=a.2}
theorem more_le(mask i:Nat):runEnd mask i-i<=9:=by
 unfold runEnd
 split<;>lia
theorem rm(mask:Nat)(p:Probe):cQ mask p (p.more+1)=Oj mask p (leap mask p.i p.perturb):=by
 show og mask (cQ mask p p.more)=_;rw[uc mask p p.more (bJ _)];unfold og;rw[ir (by show ¬p.more-p.more>0;lia)]
 rfl
theorem wy(mask:Nat)(p:Probe):∀r,∃k,k<=p.more+1+10*r/\cQ mask p k=Oj mask p (eJ mask p.i p.perturb (r+1))
 |0=>⟨p.more+1,by lia,rm mask p⟩
 |r+1=>by
  obtain⟨k,a,e⟩:=wy mask p r;have b:=more_le mask (eJ mask p.i p.perturb (r+1)).1;refine⟨k+((runEnd mask (eJ mask p.i p.perturb (r+1)).1-(eJ mask p.i p.perturb (r+1)).1)+1),by lia,?_⟩
  rw[lP,e];exact rm mask (Oj mask p (eJ mask p.i p.perturb (r+1)))
theorem Dy(mask i p:Nat)(r:Nat):(eJ mask i p (r+1)).1<=mask:=by
 show(((eJ mask i p r).1*5+1+(eJ mask i p r).2 / 32)%(mask+1))<=mask
 have:=lN ((eJ mask i p r).1*5+1+(eJ mask i p r).2 / 32) (show 0<mask+1 by lia)
 lia
theorem Hc{mask i:Nat}(h:i<=mask):i+(runEnd mask i-i)<=mask:=by
 unfold runEnd
 split<;>lia
structure ua (mask:Nat) (p:Probe):Prop where
 le:p.j+p.more<=mask
 more:p.more<=9
 per:p.perturb<2^64
 dum:p.dummy=none
theorem ua.og{mask:Nat}{p:Probe}(o:ua mask p):ua mask (og mask p):=by
 unfold SetTable.og
 split
 ·next h=>exact⟨by show p.j+1+(p.more-1)<=mask;have:=o.le;lia,by show p.more-1<=9;have:=o.more;lia,o.per,o.dum⟩
 ·refine⟨Hc (by have:=lN (p.i*5+1+p.perturb / 32) (show 0<mask+1 by lia);show(p.i*5+1+p.perturb / 32)%(mask+1)<=mask;lia),more_le _ _,?_,o.dum⟩
  show p.perturb / 32<2^64
  have:=o.per
  lia
theorem ua.start(mask:Nat)(h:Int):ua mask (bS mask h):=⟨Hc (mask:=mask) (i:=bits h%(mask+1)) (by have:=lN (bits h) (show 0<mask+1 by lia);lia),more_le _ _,Jx h,rfl⟩
theorem ua.cQ{mask:Nat}{p:Probe}(o:ua mask p):∀k,ua mask (cQ mask p k)
 |0=>o
 |k+1=>(o.cQ k).og
theorem meets{mask:Nat}(f:vF mask){p:Probe}(o:ua mask p){s:Nat}(a:s<=mask):∃k,k<10*turns mask/\(cQ mask p k).j=s:=by
 have z:(eJ mask p.i p.perturb 13).2=0:=by
  rw[lq];exact Nat.div_eq_of_lt (ic o.per (by decide))
 obtain⟨r,c,e⟩:=cover f (Dy mask p.i p.perturb 12) a;obtain⟨k,d,b⟩:=wy mask p (12+r);refine⟨k,?_,?_⟩
 ·have:=o.more
  unfold turns;lia
 ·rw[b]
  show(eJ mask p.i p.perturb (12+r+1)).1=s;rw[show 12+r+1=13+r by lia,uJ z]
  exact e
theorem Ac(R:oF t.place)(o:t.dummies= #[])(hashAt:Nat->Int)(h:Int):∀(K d:Nat)(p:Probe),p.dummy=none->K<d->(∀i:Nat,t.place[i]? ≠some (cQ t.mask p K).j)->
  ∃e,e<=K/\(∀f,f<e->∃i:Nat,t.place[i]? =some (cQ t.mask p f).j/\hashAt i≠h)/\
   (((∀i:Nat,t.place[i]? ≠some (cQ t.mask p e).j)/\probe.go t hashAt h d p=some (.empty (cQ t.mask p e).j none))\/
    (∃i:Nat,t.place[i]? =some (cQ t.mask p e).j/\hashAt i=h/\probe.go t hashAt h d p=some (.candidate (cQ t.mask p e).j i (cQ t.mask p (e+1)))))
 |K,0,p,_,v,_=>by lia
 |K,d+1,p,q,v,r=>by
  by_cases c:∃i:Nat,t.place[i]? =some p.j
  ·obtain⟨i,g⟩:=c
   have s:=r6 R g
   by_cases l:hashAt i=h
   ·refine⟨0,cF _,λf u=>by lia, .inr ⟨i,g,l,?_⟩⟩
    rw[probe.go,s];dsimp only;rw[tz (by simpa using l)]
    rfl
   ·cases K with
    |zero=>exact absurd g (r i)
    |succ K=>
     have n:(og t.mask p).dummy=none:=by
      unfold og
      split<;>exact q
     have m:∀k,cQ t.mask (og t.mask p) k=cQ t.mask p (k+1):=λk=>by
      have:=lP t.mask p 1 k
      rw[show 1+k=k+1 by lia] at this
      exact this.symm
     obtain⟨e,x,a,b⟩:=Ac R o hashAt h K d (og t.mask p) n (by lia) (by rw[m];exact r)
     have w:probe.go t hashAt h (d+1) p=probe.go t hashAt h d (og t.mask p):=by
      rw[probe.go,s];dsimp only;rw[ir (by simpa using l)]
      rfl
     refine⟨e+1,by lia,λf u=>?_,?_⟩
     ·cases f with
      |zero=>exact⟨i,g,l⟩
      |succ f=>
       have:=a f (by lia)
       rw[m] at this;exact this
     ·rw[m,m] at b
      rw[w];exact b
  ·have c:∀i:Nat,t.place[i]? ≠some p.j:=λi g=>c ⟨i,g⟩
   refine⟨0,cF _,λf u=>by lia, .inl ⟨c,?_⟩⟩
   rw[probe.go,DD R o c];dsimp only;rw[q];rfl
structure TOk (t:SetTable) (hs:List Int):Prop where
 few:vF t.mask
 dum:t.dummies= #[]
 rise:oF t.place
 size:t.place.size=hs.length
 le:∀(i j:Nat),t.place[i]? =some j->j<=t.mask
 room:t.place.size<=t.mask
 path:∀(i:Nat)(h:Int),hs[i]? =some h->∃k,t.place[i]? =some (bN t.mask h k)/\∀k',k'<k->∃i':Nat,t.place[i']? =some (bN t.mask h k')
theorem BK(mask:Nat)(h:Int)(k:Nat):bN mask h k<=mask:=by
 unfold bN;rw[nu]
 have:=((ua.start mask h).cQ k).le
 lia
theorem TOk.empty(T:TOk t a):∃s,s<=t.mask/\∀i:Nat,t.place[i]? ≠some s:=by
 apply GE;intro c
 have all:∀s∈bb (t.mask+1),s∈t.place.toList:=λs a=>by
  apply GE;intro n;refine c ⟨s,by have:=bV.mp a;lia,λi b=>n ?_⟩
  rw[<-fi] at b;exact fH b
 have:=Wb.aI sC all
 rw[iR,eN] at this
 have:=T.room
 lia
theorem TOk.probe(T:TOk t g)(hashAt:Nat->Int)(h:Int)(k:Nat):
  ∃d,k<=d/\(∀e,k<=e->e<d->∃i:Nat,t.place[i]? =some (bN t.mask h e)/\hashAt i≠h)/\
   (((∀i:Nat,t.place[i]? ≠some (bN t.mask h d))/\t.probe hashAt h (qK t.mask h k)=some (.empty (bN t.mask h d) none))\/
    (∃i:Nat,t.place[i]? =some (bN t.mask h d)/\hashAt i=h/\t.probe hashAt h (qK t.mask h k)=some (.candidate (bN t.mask h d) i (qK t.mask h (d+1))))):=by
 obtain⟨s,j,l⟩:=T.empty;have o:=(ua.start t.mask h).cQ k;rw[<-nu] at o;obtain⟨K,m,n⟩:=meets T.few o j;have f:∀c,cQ t.mask (qK t.mask h k) c=qK t.mask h (k+c):=λc=>by rw[nu,nu,<-lP]
 obtain⟨d,p,a,b⟩:=Ac T.rise T.dum hashAt h K (10*turns t.mask) (qK t.mask h k) o.dum m (by rw[n];exact l)
 refine⟨k+d,by lia,λe q r=>?_,?_⟩
 ·have:=a (e-k) (by lia)
  rw[f,show k+(e-k)=e by lia] at this
  exact this
 ·rw[f,f] at b
  exact b
theorem kX{xs:Array a}(x:a)(e:p<=xs.size)(i:Nat):(insertAt xs p x)[i]? =if i<p then xs[i]? else if i=p then some x else xs[i-1]? :=by
 rw[<-fi,aaR];have lt:(xs.toList.take p).length=p:=by rw[cm,eN];lia
 by_cases c:i<p
 ·rw[tz c,fF (by lia),t4 c,fi]
 ·rw[ir c]
  by_cases d:i=p
  ·subst d
   rw[tz rfl,hU (by lia),lt,kO];rfl
  ·rw[ir d,hU (by lia),lt]
   obtain⟨m,b⟩:∃m,i-p=m+1:=⟨i-p-1,by lia⟩
   rw[b,vz,rf,fi]
   congr 1;lia
theorem fL(xs:Array a)(p:Nat)(x:a):(insertAt xs p x).size=xs.size+1:=by
 rw[<-eN,(aa1 xs p x).length_eq];simp
theorem ju{a:Array Nat}{i j:Nat}(h:a[i]? =some j):a[i]! =j:=by
 obtain⟨b,e⟩:=Al.mp h;simp[b,e]
theorem IG{xs:Array Nat}(R:oF xs){j:Nat}(h:∀i:Nat,xs[i]? ≠some j):oF (insertAt xs (below xs j) j):=by
 obtain⟨t,w,x⟩:=iJ R j;have g:=kX (xs:=xs) j t;intro a b y A;rw[fL] at y
 have m:∀i,i<xs.size+1->∃v,(insertAt xs (below xs j) j)[i]? =some v/\((i<below xs j/\xs[i]? =some v)\/(i=below xs j/\v=j)\/(below xs j<i/\xs[i-1]? =some v)):=λi r=>by
  rw[g i]
  by_cases c:i<below xs j
  ·rw[tz c,qi (by lia)]
   exact⟨_,rfl, .inl ⟨c,rfl⟩⟩
  ·rw[ir c]
   by_cases d:i=below xs j
   ·rw[tz d];exact⟨j,rfl, .inr (.inl ⟨d,rfl⟩)⟩
   ·rw[ir d,qi (by lia)]
    exact⟨_,rfl, .inr (.inr ⟨by lia,rfl⟩)⟩
 obtain⟨G,B,C⟩:=m a (by lia)
 obtain⟨H,E,s⟩:=m b (by lia)
 rw[ju B,ju E];have lo:∀i v,i<below xs j->xs[i]? =some v->v<j:=λi v n f=>by have:=w i n;rw[ju f] at this;exact this
 have r:∀i v,below xs j<=i->xs[i]? =some v->j<v:=λi v n f=>by
  have:=x i n (Al.mp f).1
  rw[ju f] at this
  have:v≠j:=λz=>h i (by rw[f,z])
  lia
 have o:∀i k v u,xs[i]? =some v->xs[k]? =some u->i<k->v<u:=λi k v u n f F=>by
  have:=R i k (Al.mp f).1 F
  rw[ju n,ju f] at this;exact this
 rcases C with ⟨q,p⟩ | ⟨q,rfl⟩ | ⟨q,p⟩
 ·rcases s with ⟨l,e⟩ | ⟨l,rfl⟩ | ⟨l,e⟩
  ·exact o _ _ _ _ p e A
  ·exact lo _ _ q p
  ·have:=lo _ _ q p;have:=r (b-1) _ (by lia) e;lia
 ·rcases s with ⟨l,e⟩ | ⟨l,rfl⟩ | ⟨l,e⟩
  ·lia
  ·lia
  ·exact r (b-1) _ (by lia) e
 ·rcases s with ⟨l,e⟩ | ⟨l,rfl⟩ | ⟨l,e⟩
  ·lia
  ·lia
  ·exact o _ _ _ _ p e (by lia)
theorem Ly{xs:Array Nat}(R:oF xs){j s:Nat}:(∃i:Nat,(insertAt xs (below xs j) j)[i]? =some s)↔s=j\/∃i:Nat,xs[i]? =some s:=by
 obtain⟨a,_,_⟩:=iJ R j;have g:=kX (xs:=xs) j a
 constructor
 ·rintro⟨i,h⟩
  rw[g i] at h
  split at h
  ·exact .inr ⟨i,h⟩
  ·split at h
   ·exact .inl (FB h).symm
   ·exact .inr ⟨_,h⟩
 ·rintro(rfl| ⟨i,h⟩)
  ·exact⟨below xs s,by rw[g,ir (by lia),tz rfl]⟩
  ·by_cases c:i<below xs j
   ·exact⟨i,by rw[g,tz c];exact h⟩
   ·exact⟨i+1,by rw[g,ir (by lia),ir (by lia)];exact h⟩
theorem TOk.put(T:TOk t l){h:Int}{k:Nat}(v:∀i:Nat,t.place[i]? ≠some (bN t.mask h k))(w:∀a,a<k->∃i:Nat,t.place[i]? =some (bN t.mask h a))(room:t.place.size+1<=t.mask):
  (t.put (bN t.mask h k)).2=below t.place (bN t.mask h k)/\below t.place (bN t.mask h k)<=l.length/\
  TOk (t.put (bN t.mask h k)).1 (l.take (below t.place (bN t.mask h k))++h::l.drop (below t.place (bN t.mask h k))):=by
 obtain⟨x,z,A⟩:=iJ T.rise (bN t.mask h k);have g:=kX (xs:=t.place) (bN t.mask h k) x;have sz:=T.size;have o:=λs=>Ly (s:=s) (j:=bN t.mask h k) T.rise;refine⟨rfl,by lia,T.few,?_,IG T.rise v,?_,?_,?_,?_⟩
 ·show(if has t.dummies _=true then _ else t.dummies)= #[]
  rw[T.dum];rfl
 ·show(insertAt t.place _ _).size=_
  rw[fL,b7,cm,dM,fR];lia
 ·intro i j p
  have p:(insertAt t.place (below t.place (bN t.mask h k)) (bN t.mask h k))[i]? =some j:=p
  rcases(o j).mp ⟨i,p⟩ with rfl| ⟨u,e⟩
  ·exact BK _ _ _
  ·exact T.le _ _ e
 ·show(insertAt t.place _ _).size<=_
  rw[fL];exact room
 ·intro i e b
  show ∃f,(insertAt t.place (below t.place (bN t.mask h k)) (bN t.mask h k))[i]? =some (bN t.mask e f)/\∀a,a<f->∃u:Nat,(insertAt t.place (below t.place (bN t.mask h k)) (bN t.mask h k))[u]? =some (bN t.mask e a);have lt:(l.take (below t.place (bN t.mask h k))).length=below t.place (bN t.mask h k):=by rw[cm];lia
  by_cases c:i<below t.place (bN t.mask h k)
  ·rw[fF (by lia),t4 c] at b
   obtain⟨f,q,r⟩:=T.path i e b;exact⟨f,by rw[g,tz c];exact q,λa n=>(o _).mpr (.inr (r a n))⟩
  ·rw[hU (by lia),lt] at b
   by_cases d:i=below t.place (bN t.mask h k)
   ·rw[d,kO] at b
    cases(FB b);exact⟨k,by rw[d,g,ir (by lia),tz rfl],λa n=>(o _).mpr (.inr (w a n))⟩
   ·obtain⟨m,y⟩:∃m,i-below t.place (bN t.mask h k)=m+1:=⟨i-below t.place (bN t.mask h k)-1,by lia⟩
    rw[y,vz,rf] at b;obtain⟨f,q,r⟩:=T.path _ e b;refine⟨f,?_,λa n=>(o _).mpr (.inr (r a n))⟩;rw[g,ir c,ir d,show i-1=below t.place (bN t.mask h k)+m by lia]
    exact q
theorem vo(mask i p:Nat):∀r,eJ mask i p (r+1)=eJ mask (leap mask i p).1 (leap mask i p).2 r
 |0=>rfl
 |r+1=>by
  show leap mask (eJ mask i p (r+1)).1 (eJ mask i p (r+1)).2=_;rw[vo mask i p r];rfl
def Own(o:Array (Option Nat))(s:Nat):Prop:=(o.getD s (some 0)).isNone=false
theorem w4{mask:Nat}(e:Array (Option Nat)):∀(f:Nat)(p:Probe),p.j=p.i->p.more=runEnd mask p.i-p.i->p.i<=runEnd mask p.i->(∃r,r<f/\¬Own e (eJ mask p.i p.perturb r).1)->
  ∃h,layClean.free mask e f p.i p.perturb=some (cQ mask p h).j/\¬Own e (cQ mask p h).j/\∀g,g<h->Own e (cQ mask p g).j
 |0,p,_,_,_,⟨r,v,_⟩=>by lia
 |f+1,p,w,E,F,⟨r,v,q⟩=>by
  have run:∀c,c<=p.more->(cQ mask p c).j=p.i+c:=λc t=>by rw[uc mask p c t];show p.j+c=_;rw[w]
  cases l:(bb (runEnd mask p.i+1-p.i)).find? λk=>(e.getD (p.i+k) (some 0)).isNone with
  |some k=>
   obtain⟨x,m,bs,o,y⟩:=List.find?_eq_some_iff_append.mp l;have G:k<runEnd mask p.i+1-p.i:=bV.mp (by rw[o];simp)
   have z:m.length=k:=by
    have A:m.length<(bb (runEnd mask p.i+1-p.i)).length:=by rw[o];simp
    have:=Ap (n:=runEnd mask p.i+1-p.i) (i:=m.length) (by simpa using A)
    rw[o,hU (bJ _),kO] at this;exact(FB this).symm
   refine⟨k,?_,?_,λg B=>?_⟩
   ·rw[layClean.free,l,run k (by lia)]
   ·rw[run k (by lia)]
    unfold Own;rw[x];exact Bool.noConfusion
   ·rw[run g (by lia)]
    have C:g∈m:=by
     have:=Ap (n:=runEnd mask p.i+1-p.i) (i:=g) (by lia)
     rw[o,fF (by lia)] at this
     exact fH this
    have:=y g C
    unfold Own;exact Bool.not_eq_true' _▸this
  |none=>
   have all:=abE.mp l
   have own:∀c,c<=p.more->Own e (p.i+c):=λc t=>by
    have:=all c (bV.mpr (by lia))
    unfold Own;exact y2.mpr this
   cases r with
   |zero=>exact absurd (own 0 (cF _)) q
   |succ r=>
    have u:=rm mask p
    obtain⟨h,a,b,c⟩:=w4 e f (Oj mask p (leap mask p.i p.perturb)) rfl rfl (by
     show(leap mask p.i p.perturb).1<=runEnd mask (leap mask p.i p.perturb).1;unfold runEnd;split<;>lia) ⟨r,by lia,by rw[vo] at q;exact q⟩
    rw[<-u] at a b c;have s:∀k,cQ mask (cQ mask p (p.more+1)) k=cQ mask p (p.more+1+k):=λk=>(lP mask p (p.more+1) k).symm;refine⟨p.more+1+h,?_,?_,λg B=>?_⟩
    ·rw[layClean.free,l,<-s,<-a,u];rfl
    ·rw[<-s];exact b
    ·by_cases d:g<=p.more
     ·rw[run g d];exact own g d
     ·have:=c (g-(p.more+1)) (by lia)
      rw[s,show p.more+1+(g-(p.more+1))=g by lia] at this
      exact this
structure Laid (mask:Nat) (hs:List Int) (owner:Array (Option Nat)) (ss:List Nat):Prop where
 size:owner.size=mask+1
 len:ss.length=hs.length
 nd:ss.Nodup
 le:∀s∈ss,s<=mask
 get:∀s,s<=mask->∀k,owner.getD s (some 0)=some k↔ss[k]? =some s
 path:∀(k:Nat)(h:Int),hs[k]? =some h->∃c,ss[k]? =some (bN mask h c)/\∀c',c'<c->bN mask h c'∈ss
theorem Laid.own{mask:Nat}{c:List Int}{a:Array (Option Nat)}{b:List Nat}(L:Laid mask c a b){s:Nat}(h:s<=mask):Own a s↔s∈b:=by
 unfold Own
 constructor
 ·intro e
  cases o:a.getD s (some 0) with
  |none=>rw[o] at e;cases e
  |some k=>exact fH ((L.get s h k).mp o)
 ·intro e
  obtain⟨k,d⟩:=t5 e;rw[(L.get s h k).mpr d];rfl
theorem E3{mask:Nat}(f:vF mask){l:List Int}{g:Array (Option Nat)}{m:List Nat}(L:Laid mask l g m)(room:l.length<=mask)(h:Int):
  ∃j,layClean.free mask g (turns mask) (bits h%(mask+1)) (bits h)=some j/\Laid mask (l++ [h]) (g.setIfInBounds j (some l.length)) (m++ [j]):=by
 have o:=ua.start mask h
 obtain⟨s,C,F⟩:∃s,s<=mask/\s∉m:=by
  apply GE;intro c
  have all:∀s∈bb (mask+1),s∈m:=λs l=>by
   apply GE;intro n;exact c ⟨s,by have:=bV.mp l;lia,n⟩
  have:=Wb.aI sC all
  rw[iR,L.len] at this;lia
 have z:(eJ mask (bS mask h).i (bS mask h).perturb 13).2=0:=by
  rw[lq];exact Nat.div_eq_of_lt (ic o.per (by decide))
 obtain⟨r,N,e⟩:=cover f (Dy mask (bS mask h).i (bS mask h).perturb 12) C
 have O:(bS mask h).i<=mask:=by
  have:=lN (bits h) (show 0<mask+1 by lia)
  show bits h%(mask+1)<=mask;lia
 obtain⟨p,a,b,c⟩:=w4 g (turns mask) (bS mask h) rfl rfl (by unfold runEnd;split<;>lia) ⟨13+r,by unfold turns;lia,by
  rw[uJ z];show ¬Own g (kA mask _ r);rw[e,L.own C];exact F⟩
 have E:∀k,(cQ mask (bS mask h) k).j=bN mask h k:=λk=>by unfold bN;rw[nu]
 rw[E] at a b;have u:=BK mask h p;rw[L.own u] at b;refine⟨bN mask h p,a,?_,?_,?_,?_,?_,?_⟩
 ·rw[aaQ];exact L.size
 ·rw[b7,b7,L.len];rfl
 ·exact fI.mpr ⟨L.nd,by simp,λx t y G z=>b (by rw[<-e7.mp G,<-z];exact t)⟩
 ·intro x t
  rcases cV.mp t with t|t
  ·exact L.le x t
  ·rw[e7.mp t];exact u
 ·intro x t k
  have w:(g.setIfInBounds (bN mask h p) (some l.length)).getD x (some 0)=if bN mask h p=x then some l.length else g.getD x (some 0):=by
   rw[D7,D7,abv]
   by_cases d:bN mask h p=x
   ·rw[tz d,tz d,tz (by rw[L.size];lia)];rfl
   ·rw[ir d,ir d]
  rw[w]
  by_cases d:bN mask h p=x
  ·rw[tz d]
   constructor
   ·intro e
    cases(FB e);rw[<-L.len,hU (bJ _),kO,<-d];rfl
   ·intro e
    by_cases q:k<m.length
    ·rw[fF q] at e
     exact absurd (by rw[d];exact fH e) b
    ·have:k<(m++ [bN mask h p]).length:=(dQ.mp e).1
     rw[b7] at this
     have:k<m.length+1:=this
     rw[show k=m.length by lia,L.len]
  ·rw[ir d,L.get x t k]
   constructor
   ·intro e
    rw[fF (dQ.mp e).1];exact e
   ·intro e
    by_cases q:k<m.length
    ·rw[fF q] at e;exact e
    ·have:k<(m++ [bN mask h p]).length:=(dQ.mp e).1
     rw[b7] at this
     have:k<m.length+1:=this
     rw[show k=m.length by lia,hU (bJ _),kO] at e
     exact absurd (FB e) d
 ·intro k H v
  by_cases q:k<l.length
  ·rw[fF q] at v
   obtain⟨I,w,J⟩:=L.path k H v;exact⟨I,by rw[fF (by rw[L.len];exact q)];exact w,λA B=>fG _ (J A B)⟩
  ·have:k<(l++ [h]).length:=(dQ.mp v).1
   rw[b7] at this
   have:k<l.length+1:=this
   have M:k=l.length:=by lia
   subst M;rw[hU (bJ _),kO] at v;cases(FB v);refine⟨p,by rw[<-L.len,hU (bJ _),kO];rfl,λA B=>fG _ ?_⟩
   have:=c A B
   rw[E] at this;exact(L.own (BK _ _ _)).mp this
theorem E4(mask:Nat):Laid mask [] (dm (mask+1) none) [] where
 size:=by simp
 len:=rfl
 nd:=jj
 le:=λs h=>by cases h
 get:=λs a k=>by
  rw[D7,Array.getElem?_replicate,tz (by lia)]
  simp
 path:=λk h e=>by cases e
def zX(mask:Nat)(a:Option (Array (Option Nat)×Nat))(h:Int):Option (Array (Option Nat)×Nat):=do
 let (owner,k) <-a
 let j <-layClean.free mask owner (turns mask) (bits h%(mask+1)) (bits h)
 pure (owner.setIfInBounds j (some k),k+1)
theorem zY{mask:Nat}(f:vF mask):∀(b done:List Int)(a:Array (Option Nat))(d:List Nat),Laid mask done a d->done.length+b.length<=mask+1->
  ∃c i,b.foldl (zX mask) (some (a,done.length))=some (c,done.length+b.length)/\Laid mask (done++b) c i
 | [],done,a,d,L,_=>⟨a,d,rfl,by rw[j7];exact L⟩
 |h::b,done,a,d,L,l=>by
  rw[dM] at l;obtain⟨j,e,m⟩:=E3 f L (by lia) h
  have n:zX mask (some (a,done.length)) h=some (a.setIfInBounds j (some done.length),done.length+1):=by
   unfold zX;simp[e]
  obtain⟨c,i,g,k⟩:=zY f b (done++ [h]) _ _ m (by rw[b7];show done.length+1+b.length<=_;lia)
  refine⟨c,i,?_,by rw[nZ] at k;exact k⟩
  rw[aca,n];rw[b7] at g;have g:b.foldl (zX mask) (some (a.setIfInBounds j (some done.length),done.length+1))=some (c,done.length+1+b.length):=g;rw[g,dM]
  congr 2;lia
theorem Bf{mask:Nat}(f:vF mask)(b:List Int)(room:b.length<=mask+1):∃a c,layClean mask b.toArray=some a/\Laid mask b a c:=by
 rfl';obtain⟨a,c,e,L⟩:=zY f b [] _ _ (E4 mask) (by simpa using room)
 ac_rfl;refine⟨a,c,?_,by simpa using L⟩
 have:layClean mask b.toArray=(b.foldl (zX mask) (some (dm (mask+1) none,0))).map (·.1):=by
  unfold layClean;rw[List.foldl_toArray];rfl
 have e:b.foldl (zX mask) (some (dm (mask+1) none,0))=some (a,[].length+b.length):=e;rw[this,e];rfl
def eD(mask:Nat)(a:Array (Option Nat)):List (Nat×Nat):=(bb (mask+1)).filterMap λj=>(a.getD j none).map (j,·)
theorem Im{mask:Nat}{b:List Int}{a:Array (Option Nat)}{c:List Nat}(L:Laid mask b a c){j k:Nat}:(j,k)∈eD mask a↔c[k]? =some j:=by
 unfold eD;rw[abC]
 have dflt:∀s,s<=mask->a.getD s none=a.getD s (some 0):=λs b=>by
  rw[D7,D7,qi (by rw[L.size];lia)];rfl
 constructor
 ·rintro⟨s,d,e⟩
  have d:=bV.mp d;rw[dflt s (by lia)] at e
  cases o:a.getD s (some 0) with
  |none=>rw[o] at e;cases e
  |some f=>
   rw[o] at e;have e:=FB e;have h:s=j:=(aal e).1;have i:f=k:=(aal e).2;rw[<-h,<-i];exact(L.get s (by lia) f).mp o
 ·intro e
  have g:=L.le j (fH e);refine⟨j,bV.mpr (by lia),?_⟩
  rw[dflt j g,(L.get j g k).mpr e];rfl
theorem Fb(mask:Nat)(c:Array (Option Nat)):((eD mask c).map (·.1)).Pairwise (·<·):=by
 unfold eD;rw[hZ,List.pairwise_filterMap];refine yO.imp λ {a b} h x d y e=>?_;cases f:c.getD a none with
 |none=>rw[f] at d;cases d
 |some i=>
  cases g:c.getD b none with
  |none=>rw[g] at e;cases e
  |some j=>
   rw[f] at d;rw[g] at e;cases(FB d);cases(FB e);exact h
theorem KI{mask:Nat}(f:vF mask)(l:List Int)(room:l.length<=mask)(finger moves:Nat)(led plain:Bool):
  ∃t g,laid mask finger moves led plain l.toArray=some (t,g)/\t.mask=mask/\t.led=led/\t.plain=plain/\t.moves=moves/\g.toList.Perm (bb l.length)/\TOk t (g.toList.map λk=>l.getD k 0):=by
 rfl';obtain⟨d,u,e,L⟩:=Bf f l (by lia)
 have m:=λ {j k:Nat}=>Im (j:=j) (k:=k) L;have v:=Fb mask d;ac_rfl
 have F:((eD mask d).map (·.2)).Nodup:=by
  rw[yV,hZ];rw[hZ] at v;refine v.imp_of_mem λ {a b} G q r z=>?_;obtain⟨H,I⟩:=a;obtain⟨J,bk⟩:=b;have y:=m.mp G;have M:=m.mp q;have z:I=bk:=z;rw[z,M] at y
  have:=FB y
  have r:H<J:=r;lia
 have perm:((eD mask d).map (·.2)).Perm (bb l.length):=by
  refine(Am F sC).mpr λk=>?_;rw[bY,bV]
  constructor
  ·rintro⟨⟨j,Z⟩,h,rfl⟩
   have:=(dQ.mp (m.mp h)).1
   rw[L.len] at this;exact this
  ·intro n
   have N:k<u.length:=by rw[L.len];exact n
   exact⟨(u[k],k),m.mpr (bB N),rfl⟩
 have O:(eD mask d).length=l.length:=by
  have:=perm.length_eq
  simpa using this
 refine⟨{mask,place:=((eD mask d).map (·.1)).toArray,dummies:= #[],finger,led,moves,plain},((eD mask d).map (·.2)).toArray,?_,rfl,rfl,rfl,rfl,by simpa using perm,?_⟩
 ·unfold laid
  rw[e];rfl
 have w:∀(i j:Nat),((eD mask d).map (·.1)).toArray[i]? =some j↔∃k,(eD mask d)[i]? =some (j,k):=λi j=>by
  rw[List.getElem?_toArray,dF];cases o:(eD mask d)[i]? with
  |none=>simp
  |some x=>
   obtain⟨a,b⟩:=x;simp
 have P:∀s,s∈u->∃i:Nat,((eD mask d).map (·.1)).toArray[i]? =some s:=λs Q=>by
  obtain⟨k,n⟩:=t5 Q;obtain⟨i,p⟩:=t5 (m.mpr n);exact⟨i,(w i s).mpr ⟨k,p⟩⟩
 refine⟨f,rfl,?_,?_,?_,?_,?_⟩
 ·intro a b q r
  have q:b<((eD mask d).map (·.1)).length:=q
  have:=D8.mp v a b (by lia) q r
  simp[show a<(eD mask d).length by simpa using(show a<((eD mask d).map (·.1)).length by lia),show b<(eD mask d).length by simpa using q]
  simpa using this
 ·simp
 ·intro i j h
  obtain⟨k,n⟩:=(w i j).mp h;exact L.le j (fH (m.mp (fH n)))
 ·show((eD mask d).map (·.1)).toArray.size<=mask
  simp[O];exact room
 ·intro i A p
  rw[dF] at p;cases o:(eD mask d)[i]? with
  |none=>
   have:(((eD mask d).map (·.2)).toArray.toList)[i]? =none:=by simp[o]
   rw[this] at p;cases p
  |some x=>
   obtain⟨j,k⟩:=x;have R:(((eD mask d).map (·.2)).toArray.toList)[i]? =some k:=by simp[o]
   rw[R] at p;have B:=m.mp (fH o);have n:k<l.length:=by rw[<-L.len];exact(dQ.mp B).1
   have S:l[k]? =some A:=by
    rw[<-FB p];show _=some (l.getD k 0);rw[aU,bB n];rfl
   obtain⟨c,C,T⟩:=L.path k A S;rw[B] at C;refine⟨c,(w i _).mpr ⟨k,by rw[o,FB C]⟩,λU X=>P _ (T U X)⟩
end PySem.SetTable
namespace PySem
open SetTable PyProof.Rows
def cD(w:World):Bool:=w.params.followText "set-order"
structure fB (bt:Bool) (o:Obj) (es:Array (Int×Value)) (ep:Nat) (t:SetTable):Prop where
 ex:o.ExactSet
 dat:o.data= .set es ep t
 tok:TOk t (es.toList.map (·.1))
 pl:t.plain=true
 ld:t.led= !bt
 few:5*es.size<3*t.mask
theorem TOk.fits(T:TOk t a):t.fits a.length=true:=by
 simp only[SetTable.fits,SetTable.fill,T.dum,T.size,y3,aav,aaE,true_and]
 have:=T.room
 rw[T.size] at this;simpa using this
theorem fB.fits(S:fB w o a b t):t.fits a.size=true:=by
 have:=TOk.fits S.tok
 simpa using this
theorem zL{mask n:Nat}(f:vF mask)(h:5*n<3*mask):n+1<=mask:=by
 rcases f with rfl|rfl|rfl|rfl<;>lia
theorem E8(T:TOk t (f.toList.map (·.1)))(few:5*f.size<3*t.mask)(h:Int)(x:Value):
  ∃p g,layNew t f h x=(SetTable.insertAt f p (h,x),g,false,false)/\TOk g ((SetTable.insertAt f p (h,x)).toList.map (·.1))/\g.mask=t.mask/\g.plain=t.plain/\g.led=t.led:=by
 obtain⟨d,_,a,b⟩:=TOk.probe T (λ_=>h+1) h 0;obtain⟨m,n⟩:=b.resolve_right (λ⟨i,_,c,_⟩=>by have c:h+1=h:=c;lia)
 have fs:t.freeSlot h=some (bN t.mask h d,false):=by
  unfold SetTable.freeSlot;rw[IY,show bS t.mask h=qK t.mask h 0 from rfl,n];rfl
 have sz:t.place.size=f.size:=by rw[T.size];simp
 obtain⟨o,u,j⟩:=TOk.put T (h:=h) (k:=d) m (λq r=>let ⟨i,s,_⟩:=a q (cF _) r;⟨i,s⟩) (by rw[sz];exact zL T.few few)
 have e:(SetTable.insertAt f (below t.place (bN t.mask h d)) (h,x)).toList.map (·.1)=(f.toList.map (·.1)).take (below t.place (bN t.mask h d))++h::(f.toList.map (·.1)).drop (below t.place (bN t.mask h d)):=by
  rw[aaR];simp
 rw[<-e] at j;refine⟨below t.place (bN t.mask h d),(t.put (bN t.mask h d)).1,?_,j,rfl,rfl,rfl⟩
 have l:(t.put (bN t.mask h d)).1.fits (SetTable.insertAt f (below t.place (bN t.mask h d)) (h,x)).size=true:=by
  have:=TOk.fits j
  rw[aD,eN] at this;exact this
 unfold layNew;rw[fs];show(SetTable.insertAt f (t.put (bN t.mask h d)).2 (h,x),(t.put (bN t.mask h d)).1.orStandIn (SetTable.insertAt f (t.put (bN t.mask h d)).2 (h,x)).size,false,!(t.put (bN t.mask h d)).1.fits (SetTable.insertAt f (t.put (bN t.mask h d)).2 (h,x)).size)=_;rw[o];unfold SetTable.orStandIn;rw[tz l,l];rfl
theorem EB{mask n:Nat}(f:vF mask)(a:3*mask<=5*n)(b:5*(n-1)<3*mask)(c:n<=306):vF (sizeAbove (grown n)-1)/\5*n<3*(sizeAbove (grown n)-1)/\n<=sizeAbove (grown n)-1/\sizeAbove (grown n)<=512:=by
 rcases f with rfl|rfl|rfl|rfl
 ·have:n=5:=by lia
  subst this;exact⟨.inr (.inl rfl),by decide,by decide,by decide⟩
 ·have:n=19:=by lia
  subst this;exact⟨.inr (.inr (.inl rfl)),by decide,by decide,by decide⟩
 ·have:n=77:=by lia
  subst this;exact⟨.inr (.inr (.inr rfl)),by decide,by decide,by decide⟩
 ·lia
theorem ya{t:SetTable}{c:Array (Int×Value)}(T:TOk t (c.toList.map (·.1)))(full:t.tooFull=true)(near:5*(c.size-1)<3*t.mask)(small:c.size<=306):
  ∃d a,t.relaid (c.map (·.1)) (grown c.size)=some (d,a)/\a.toList.Perm (bb c.size)/\(a.filterMap (c[·]?)).toList.Perm c.toList/\(a.filterMap (c[·]?)).size=c.size/\
   TOk d ((a.filterMap (c[·]?)).toList.map (·.1))/\d.plain=t.plain/\d.led=t.led/\5*c.size<3*d.mask/\sizeAbove (grown c.size)<=512:=by
 have sz:t.place.size=c.size:=by rw[T.size];simp
 have i:3*t.mask<=5*c.size:=by
  unfold SetTable.tooFull SetTable.fill at full;rw[T.dum,sz] at full;simp at full;lia
 rfl';obtain⟨n,o,p,q⟩:=EB T.few i near small;obtain⟨d,a,e,em,r,s,_,f,u⟩:=KI n (c.toList.map (·.1)) (by simpa using p) t.finger (t.movedTo (sizeAbove (grown c.size)-1)) t.led t.plain
 rw[aD,eN] at f;ac_rfl
 have h:(a.filterMap (c[·]?)).toList.Perm c.toList:=by
  rw[acn];exact(f.filterMap _).trans (by rw[filterMap_getElem?_range])
 have v:(a.filterMap (c[·]?)).size=c.size:=by rw[<-eN,h.length_eq,eN]
 refine⟨d,a,?_,f,h,v,?_,s,r,by rw[em];exact o,q⟩
 ·unfold SetTable.relaid
  rw[show c.map (·.1)=(c.toList.map (·.1)).toArray by apply abW.mp;simp]
  exact e
 ·have:(a.filterMap (c[·]?)).toList.map (·.1)=a.toList.map λk=>(c.toList.map (·.1)).getD k 0:=by
   rw[acn];have lt:∀k∈a.toList,k<c.size:=λk g=>bV.mp (f.mem_iff.mp g);generalize a.toList=l at lt
   induction l with
   |nil=>rfl
   |cons k l w=>
    have g:=lt k (cg ..);rw[List.filterMap_cons_some (b:=c[k]) (by simp[g]),h7,h7,w λj x=>lt j (cG _ x)]
    simp[g]
  rw[this];exact u
theorem BH(T:TOk t (b.toList.map (·.1)))(full:t.tooFull=true)(near:5*(b.size-1)<3*t.mask)(small:b.size<=306):
  ∃f d,relayAll t b (grown b.size)=(f,d,false)/\f.toList.Perm b.toList/\TOk d (f.toList.map (·.1))/\d.plain=t.plain/\d.led=t.led/\5*b.size<3*d.mask:=by
 rfl';obtain⟨d,a,e,i,j,p,g,k,l,m,_⟩:=ya T full near small;ac_rfl;refine⟨_,d,?_,j,g,k,l,m⟩;unfold relayAll;rw[e];dsimp only;have c:coversAll a b.size=true:=List.isPerm_iff.mpr i
 have n:d.fits (a.filterMap (b[·]?)).size=true:=by
  have:=TOk.fits g
  rw[aD,eN] at this;exact this
 rw[c,n];rfl
end PySem
set_option maxHeartbeats 1000000
namespace PySem
open SetTable PyProof.Rows
section
variable {prog:Program} {w:World} {A:Around} {E:Value->Shared->Prop} {s:Shared}
theorem kH{h:Heap}(g:h.get? a=some o)(e:o.data= .set f d t)(b:Array (Int×Value))(c:SetTable):
  (h.update a (Obj.putSet b c)).get? a=some {o with data:= .set b (d+1) c}:=by
 have:=UF (Obj.putSet b c) g (by rw[putSet_of b c e];rfl)
 rw[putSet_of b c e] at this;exact this
theorem BR(g:s.heap.get? a=some o)(S:fB (cD w) o b U t)(z:ElemsOf (intKind prog w) b.toList)
  (B:(intKind prog w).is k x=true) (room:b.size<=305)
  (X:(∃e∈b.toList,(intKind prog w).is k e.2=true)->Q false s)
  (C:¬(∃e∈b.toList,(intKind prog w).is k e.2=true)->∀m F G Y Z,Heap.SameBut a s.heap m->m.get? a=some F->fB (cD w) F G Y Z->G.toList.Perm (b.toList++ [((intKind prog w).hash k,x)])->Q true {s with heap:=m}):
  wpAny (model prog w) A (setAddHashed a x ((intKind prog w).hash k)) Q E s:=by
 have h:=S.dat;have H:=S.fits;obtain⟨c,rfl⟩:=abN B;have I:(Value.int k c).scannable=true:=rfl;have hb:b.size<scanBound:=by show b.size<4096;lia
 unfold setAddHashed setAddHashedIn;refine KF (be (P3 g h H ?_));dsimp only;rw[byScan_of I hb z];simp only[↓reduceIte];unfold setAddByScan;refine be ?_;refine be (aau ?_);refine be (wpAny_setScan_of B g h H z ?_);cases J:List.findIdx? (λe=>(intKind prog w).is k e.2) b.toList with
 |some j=>
  dsimp only;obtain⟨hj,n,_⟩:=List.findIdx?_eq_some_iff_getElem.mp J;exact mo (mo (X ⟨b.toList[j],n0 hj,n⟩))
 |none=>
  dsimp only
  have L:¬∃e∈b.toList,(intKind prog w).is k e.2=true:=by
   rintro⟨e,he,hp⟩
   have:=List.findIdx?_eq_none_iff.mp J e he
   rw[hp] at this;exact Bool.noConfusion this
  rfl';obtain⟨p,d,eL,i,m1,r,M⟩:=E8 S.tok S.few ((intKind prog w).hash k) (.int k c);ac_rfl;rw[eL];dsimp only;refine be (mo ?_);rw[show d.plain=true by rw[r];exact S.pl]
  simp only[↓reduceIte];refine be ?_;rw[hashByValue_scannable 8 I];refine mo ?_;simp only[plainKind, ↓reduceIte];have f:(SetTable.insertAt b p ((intKind prog w).hash k,Value.int k c)).size=b.size+1:=SetTable.fL ..;have u:=aa1 b p ((intKind prog w).hash k,Value.int k c);rw[vA] at u;refine be (aaX g h ?_ (by rw[f];refine aaY ?_;show b.size+1<4096;lia))
  have v:=kH g h (SetTable.insertAt b p ((intKind prog w).hash k,Value.int k c)) d;have N:=aaj s.heap a (Obj.putSet (SetTable.insertAt b p ((intKind prog w).hash k,Value.int k c)) d)
  by_cases full:d.tooFull=true
  ·rw[full]
   simp only[acs,Bool.and_true, ↓reduceIte];rfl';obtain⟨y,O,eR,P,T2,p2,l2,R⟩:=BH i full (by rw[f,m1];have:=S.few;lia) (by rw[f];lia)
   ac_rfl;rw[eR];dsimp only;have T:y.size=b.size+1:=by rw[<-eN,P.length_eq,eN,f]
   refine be (mo ?_);refine be (aaX v rfl ?_ (by rw[T];refine aaY ?_;show b.size+1<4096;lia))
   have vO:=kH v rfl y O;refine mo (mo (C L _ _ y _ O (N.trans (aaj _ a _)) vO ⟨S.ex,rfl,T2,by rw[p2,r];exact S.pl,by rw[l2,M];exact S.ld,by rw[T];rw[f] at R;exact R⟩ (P.trans u)))
  ·have l:d.tooFull=false:=by simpa using full
   rw[l];simp only[acs,yT,fj, ↓reduceIte];refine mo (mo (C L _ _ _ _ d N v ⟨S.ex,rfl,i,by rw[r];exact S.pl,by rw[M];exact S.ld,?_⟩ u))
   unfold SetTable.tooFull SetTable.fill at l;rw[i.dum,i.size] at l;simp at l;lia
theorem wH{Q₁:Value->Shared->Prop}
  (h:Q₁ (.ref s.heap.objs.size) {s with heap:=s.heap.push {cls:= .type "set",dict:=none,data:= .set #[] 0 (.fresh 0 0 (!cD w))}}):
  codeAny (model prog w) A (.call (.builtin "set.__new__") ⟨[.type "set"],[]⟩) (wants Q₁ E) s:=by
 refine acb ?_;refine be (aa0 F.newCall_set_0 (mo ⟨aaI F.plain_set_new _,aaB F.entry_set_new ?_⟩));rw[aaw F.plain_set_new _];unfold Builtin.«set.__new__» Builtin.Frozenset.newClass;have a:=sub_set_self;obtain⟨b,g,d,c,os⟩:=s;dsimp only
 wp_walk
 refine aay (mo ?_);dsimp only;simp only[newObj];refine be (wpAny_alloc (mo ?_));exact mo h
theorem sE 
  (h:Q (.ref s.heap.objs.size) {s with heap:=s.heap.push {cls:= .type "set",dict:=none,data:= .set #[] 0 (.fresh 0 0 (!cD w))}}):
  wpAny (model prog w) A (call (.type "set") []) Q E s:=by
 obtain⟨c,t,g⟩:=F.called_set.mro;have i:=F.called_set.made;have u:=F.called_set.sub;refine wpAny_call (acb ?_);show wpAny _ _ (callAny (.type "set") _) _ _ _;refine mo ⟨Code.quiet_builtin _ (by decide+kernel),aaB F.entry_type_call ?_⟩
 rw[Around.under_plain (weight_type_call_type "set" [] []) rfl];have v:=F.called_set.notType;have x:=F.called_set.canCreate;have j:=F.typeCall_set_0
 repeat (any_goals (first|assumption|wp_step))
 refine aaN (wH (E:=E) (Q₁:=λobj a=>obj= .ref s.heap.objs.size/\a={s with heap:=s.heap.push {cls:= .type "set",dict:=none,data:= .set #[] 0 (.fresh 0 0 (!cD w))}}) ⟨rfl,rfl⟩) λr a b=>?_
 cases r with
 |error e=>exact b
 |ok k=>
  cases k with
  |ret obj=>
   obtain⟨rfl,rfl⟩:=b;have l:(s.heap.push {cls:= .type "set",dict:=none,data:= .set #[] 0 (.fresh 0 0 (!cD w))}).get? s.heap.objs.size=some {cls:= .type "set",dict:=none,data:= .set #[] 0 (.fresh 0 0 (!cD w))}:=GM _ rfl;have m:Shared.TypeIs {s with heap:=s.heap.push {cls:= .type "set",dict:=none,data:= .set #[] 0 (.fresh 0 0 (!cD w))}} (.ref s.heap.objs.size) "set":=⟨_,l,rfl⟩
   have n:=F.called_set.init.lookup;have o:=F.called_set.init.bind (.ref s.heap.objs.size)
   repeat (any_goals (first|assumption|wp_step))
   refine aaN (codeAny_call_builtin (R:=wants (λr f=>r= .none/\Q (.ref s.heap.objs.size) f) E) F.called_set.init.plain F.entry_set_init (check_set_init m ?_)) λp f d=>?_
   ·unfold Builtin.«set.__init__» noKeywords
    wp_walk
    exact⟨rfl,h⟩
   ·cases p with
    |error e=>exact d
    |ok q=>
     cases q with
     |ret r=>
      obtain⟨rfl,y⟩:=d
      repeat (any_goals (first|assumption|wp_step))
     |_=>exact d.elim
  |_=>exact b.elim
theorem fB.new(w:World):fB (cD w) {cls:= .type "set",dict:=none,data:= .set #[] 0 (.fresh 0 0 (!cD w))} #[] 0 (.fresh 0 0 (!cD w)) where
 ex:=⟨rfl,rfl,rfl⟩
 dat:=rfl
 tok:=⟨.inl rfl,rfl,λi j a=>by simp[SetTable.fresh] at a,rfl,λi j h=>by simp[SetTable.fresh] at h,by simp[SetTable.fresh],λi h e=>by simp at e⟩
 pl:=rfl
 ld:=rfl
 few:=by simp[SetTable.fresh]
end
namespace F
theorem vK:entryFor table "set.__iter__"=some Builtin.«frozenset.__iter__»:=
 entryFor_alias (id':="frozenset.__iter__") (by kernel_rfl) rfl (by decide+kernel) (by kernel_rfl)
theorem jf:Manifest.owners.lookup (String.ofList ['r','o','t','a','r','e','t','i','_','t','e','s'].reverse)=some Manifest.sig_set_iterator:=by kernel_rfl
theorem bQ:Slot "set_iterator" "__next__" "set_iterator.__next__":=
 .of (owner:="set_iterator") (n:="__next__") (by rw[typeLookup_type,builtinLookup_eq_fast];kernel_rfl) (by decide+kernel) (by decide+kernel) (by decide+kernel)
  (by first|exact .inl (by decide+kernel) |exact .inr (by decide+kernel)) (by rw[isSubtype_type];kernel_rfl)
theorem gv:entryFor table "set_iterator.__next__"=some Builtin.«set_iterator.__next__»:=entryFor_of_tree (by kernel_rfl)
theorem gf(a:Value):argsOk "set_iterator.__next__" ⟨[a],[]⟩:=by
 unfold argsOk;rw[signature?_of (id:="set_iterator.__next__") (n:= ['_','_','t','x','e','n','_','_']) (o:= ['r','o','t','a','r','e','t','i','_','t','e','s']) (by kernel_rfl) jf];kernel_rfl
theorem gL:Slot "set_iterator" "__iter__" "set_iterator.__iter__":=
 .of (owner:="set_iterator") (n:="__iter__") (by rw[typeLookup_type,builtinLookup_eq_fast];kernel_rfl) (by decide+kernel) (by decide+kernel) (by decide+kernel)
  (by first|exact .inl (by decide+kernel) |exact .inr (by decide+kernel)) (by rw[isSubtype_type];kernel_rfl)
theorem kR:entryFor table "set_iterator.__iter__"=some Builtin.«dict_keyiterator.__iter__»:=
 entryFor_alias (id':="dict_keyiterator.__iter__") (by kernel_rfl) rfl (by decide+kernel) (by kernel_rfl)
theorem kc(a:Value):argsOk "set_iterator.__iter__" ⟨[a],[]⟩:=by
 unfold argsOk;rw[signature?_of (id:="set_iterator.__iter__") (n:= ['_','_','r','e','t','i','_','_']) (o:= ['r','o','t','a','r','e','t','i','_','t','e','s']) (by kernel_rfl) jf];kernel_rfl
end F
theorem vj:∀(l:List a)(i:Nat)(h:i<l.length),(l[i]::l.eraseIdx i).Perm l
 |y::l,0,_=> .refl _
 |y::l,i+1,h=>by
  have:=vj l i (by simpa using h)
  simp only[List.getElem_cons_succ,ab5];exact(List.Perm.swap ..).trans (this.cons y)
theorem Dk(next:Nat->Nat):∀(a k:Nat)(left:List b)(out:Array b),left.length<=a->(pickOrder.go next a k left out).toList.Perm (out.toList++left)
 |0,k,left,out,h=>by
  have:left= []:=D9.mp (by lia)
  subst this;simp[pickOrder.go]
 |a+1,k,[],out,h=>by
  simp[pickOrder.go]
 |a+1,k,y::left,out,h=>by
  have lt:next k%(y::left).length<(y::left).length:=lN _ (by simp)
  unfold pickOrder.go;rw[bB lt];dsimp only;refine(Dk next a (k+1) _ _ (by rw[List.length_eraseIdx_of_lt lt];simp at h ⊢;lia)).trans ?_
  rw[vA,nZ];refine abb _ ?_;exact vj _ _ lt
def fM(w:World)(a:Addr)(c:Nat)(b:Array (Int×Value)):Array (Int×Value):=if cD w=true then pickOrder (w.params.setOrder a c) b else b
theorem xU(w:World)(a:Addr)(c:Nat)(b:Array (Int×Value)):(fM w a c b).toList.Perm b.toList:=by
 unfold fM
 split
 ·unfold pickOrder
  simpa using Dk (w.params.setOrder a c) b.size 0 b.toList #[] (by simp)
 ·exact .refl _
theorem jT(w:World)(a:Addr)(c:Nat)(b:Array (Int×Value)):(fM w a c b).size=b.size:=by
 rw[<-eN,(xU w a c b).length_eq,eN]
def eF(w:World)(t:SetTable)(i:Nat):Nat:=if cD w=true then 0 else if i=0 then 0 else t.place[i-1]! +1
section
variable {prog:Program} {w:World} {A:Around} {E:Value->Shared->Prop} {s:Shared}
theorem Co(T:TOk t a)(d:cD w=false){i:Nat}(f:i<=a.length):below t.place (eF w t i)=i:=by
 have sz:=T.size;obtain⟨g,c,e⟩:=iJ T.rise (eF w t i);unfold eF at*;rw[ir (by rw[d];exact di)] at*
 by_cases z:i=0
 ·rw[tz z] at*
  rcases Nat.eq_zero_or_pos (below t.place 0) with h|h
  ·rw[h,z]
  ·exact absurd (c 0 h) (Nat.not_lt_zero _)
 ·rw[ir z] at*
  generalize below t.place (t.place[i-1]! +1)=b at*
  rcases Nat.lt_trichotomy b i with h|h|h
  ·have:=e (i-1) (by lia) (by lia)
   lia
  ·exact h
  ·have:=c i h
   have:=T.rise (i-1) i (by lia) (by lia)
   lia
theorem mG(f:s.heap.get? a=some o)(S:fB (cD w) o c d t)(l:i<=c.size)
  (h:Q (((fM w a d c)[i]?).map λe=>(e.2,eF w t (i+1))) s):wpAny (model prog w) A (setNext a (eF w t i) i d) Q E s:=by
 have g:=S.dat;have j:=S.fits;unfold setNext;refine be (P3 f g j ?_);dsimp only;unfold setsByText;refine be (be (aay (mo ?_)));cases b:cD w with
 |true=>
  refine abw (FS (show w.params.followText "set-order"=true from b)) ?_;rw[ir (by simp)]
  unfold setWalk setsByText;refine be (be (P3 f g j ?_));dsimp only;refine be (be (aay (mo ?_)));refine abw (FS (show w.params.followText "set-order"=true from b)) ?_;refine be (aay (mo (mo ?_)));unfold fM eF at h;rw[tz b,tz b] at h;unfold eF;rw[tz b];exact h
 |false=>
  refine abp (FM (show ¬w.params.followText "set-order"=true from by rw[show w.params.followText "set-order"=false from b];exact di)) ?_
  refine abp ?_ ?_
  ·refine FM ?_
   show ¬((!t.plain&&decide (c.size>1))=true);rw[S.pl];simp
  refine be ?_;show wpAny _ _ (if (!t.led&& !c.isEmpty)=true then _ else _) _ _ _;rw[ir (by rw[S.ld,b];simp)]
  refine mo ?_;have m:=Co (w:=w) S.tok b (i:=i) (by simpa using l)
  rw[m];refine mo ?_;have sz:t.place.size=c.size:=by rw[S.tok.size];simp
  unfold fM at h;rw[ir (by rw[b];exact di)] at h
  by_cases lt:i<c.size
  ·have k:i<t.place.size:=by lia
   rw[qi lt] at h ⊢;rw[qi k];dsimp only
   have e:eF w t (i+1)=t.place[i]+1:=by
    unfold eF;rw[ir (by rw[b];exact di),ir (by lia)]
    simp[k]
   rw[Option.map_some,e] at h;exact h
  ·rw[B4 (by lia)] at h ⊢
   exact h
end
def ig(w:World)(h:Heap)(I a:Addr)(t:SetTable)(i n b:Nat):Prop:=
 ∃o,h.get? I=some o/\o.cls= .type "set_iterator"/\o.data= .fields #[.int (eF w t i:Nat) 0, .int i 0, .ref a, .int n 0, .int b 0]
section
variable {prog:Program} {w:World} {A:Around} {E:Value->Shared->Prop} {s:Shared}
theorem ig.typeIs(x:ig w s.heap I a t i n b):s.TypeIs (.ref I) "set_iterator":=let ⟨o,c,d,_⟩:=x;⟨o,c,d⟩
theorem tX(b:s.heap.get? a=some o)(S:fB (cD w) o c g t)
  (h:Q (.ref s.heap.objs.size) {s with heap:=s.heap.push {cls:= .type "set_iterator",data:= .fields #[.int (eF w t 0:Nat) 0, .int (0:Nat) 0, .ref a, .int c.size 0, .int g 0]}}):
  wpAny (model prog w) A (pyIter (.ref a)) Q E s:=by
 have d:=S.dat;have f:=S.fits;have i:s.TypeIs (.ref a) "set":=⟨o,b,S.ex.1⟩;refine wpAny_pyIter_slot i F.slot_set_iter (Re F.slot_set_iter i F.vK ?_ (F.args_set_iter_1 _));unfold Builtin.«frozenset.__iter__» Builtin.Frozenset.slot0 slotArgs;simp only[aa9,aa5,fj, ↓reduceIte,bind_assoc,mK,abQ];unfold Builtin.Frozenset.addrOf Builtin.Frozenset.sizeOf;refine be (mo ?_)
 try dsimp only
 refine be (mo ?_);refine be (be (abt b d f (mo ?_)));unfold setDrawn setsByText;refine be (be (P3 b d f ?_));dsimp only;refine be (be (aay (mo ?_)));refine mo ?_;refine abp ?_ ?_
 ·refine FM ?_
  show ¬((!w.params.followText "set-order"&&(!t.plain&&decide (c.size>1)))=true);rw[S.pl];simp
 refine be (mo ?_);refine be ?_;unfold setEpoch;refine be (P3 b d f (mo ?_));refine be (PP (mo ⟨_,rfl,"set_iterator",_,⟨_,GM _ rfl,rfl⟩,F.bQ.lookup,?_⟩));have e:eF w t 0=0:=by unfold eF;simp
 rw[e] at h;exact h
theorem tY(b:ig w s.heap I a t i c.size d)(j:s.heap.get? a=some o)(S:fB (cD w) o c d t)
  (k:(fM w a d c)[i]? =some x) (n:∀f,ig w f I a t (i+1) c.size d->Heap.SameBut I s.heap f->Q (some x.2) {s with heap:=f}):wpAny (model prog w) A (pyNext (.ref I)) Q E s:=by
 obtain⟨u,g,p,e⟩:=id b
 have q:i<c.size:=by
  have:=(Al.mp k).1
  rwa [jT] at this
 unfold pyNext
 refine be (abI (aaU (name:=Str.ofString "__next__") b.typeIs F.bQ
  (Re F.bQ b.typeIs F.gv ?_ (F.gf _))))
 unfold Builtin.«set_iterator.__next__»;refine be (m:=slotArgs "__next__" 0 _) (mo ?_);refine be (wpAny_fieldsOf g e ?_);dsimp only;refine be (abt j S.dat S.fits ?_);rw[ir (by simp)]
 refine be ?_;rw[vB,vB,vB];refine mG j S (sD q) ?_;rw[k];dsimp only[Option.map_some];refine be (acv g e (by simp) ?_)
 have l:=UF (Obj.mapFields (·.setIfInBounds 0 (rawInt (eF w t (i+1):Nat)))) g (Obj.isFreed_of_fields (aaS e _));have h:=aaS e (·.setIfInBounds 0 (rawInt (eF w t (i+1):Nat)));refine be (acv l h (by simp) ?_)
 have r:=UF (Obj.mapFields (·.setIfInBounds 1 (rawInt ((i:Int)+1)))) l (Obj.isFreed_of_fields (aaS h _));refine mo ⟨_,rfl,mo (n _ ⟨_,r,?_,?_⟩ ((aaj ..).trans (aaj ..)))⟩
 ·exact(Obj.cls_mapFields ..).trans ((Obj.cls_mapFields ..).trans p)
 ·rw[aaS h];simp[rawInt]
theorem ot(j:A.handled=none)(c:ig w s.heap I a t d.size d.size e)(f:s.heap.get? a=some o)(S:fB (cD w) o d e t)
  (k:∀g,Heap.ExtBut I s.heap g->Q none {s with heap:=g}):wpAny (model prog w) A (pyNext (.ref I)) Q E s:=by
 obtain⟨l,h,n,i⟩:=id c;unfold pyNext
 refine be (abI (aaU (name:=Str.ofString "__next__") c.typeIs F.bQ
  (Re F.bQ c.typeIs F.gv ?_ (F.gf _))))
 unfold Builtin.«set_iterator.__next__»;refine be (m:=slotArgs "__next__" 0 _) (mo ?_);refine be (wpAny_fieldsOf h i ?_);dsimp only;refine be (abt f S.dat S.fits ?_);rw[ir (by simp)]
 refine be ?_;rw[vB,vB,vB];refine mG f S (bJ _) ?_;rw[B4 (by rw[jT];exact bJ _)]
 dsimp only[Option.map_none];refine be (acv h i (by simp) ?_)
 show wpAny _ _ (newExc (.type "StopIteration") []>>=_) _ _ _;refine be ?_;simp only[newExc,newTuple];refine be (PP ?_ (by size_fits))
 refine be (m:=firstArgMember _ _) (aa0 (a:=Value.none) (by first|rfl| (simp only[firstArgMember];rfl)) ?_)
 refine PP ?_ (by size_fits)
 simp only[raiseNew];refine be (wpAny_handled ?_);rw[show A.in1.handled=none from j];refine be (mo (wpAny_throw ?_));refine be (abY (T:="StopIteration") (b:=true) ⟨_,GM _ rfl,rfl⟩ isSubtype_stop ?_);exact mo (k _ (((aaj ..).extBut.push _).push _))
theorem Walks.sets(p:A.handled=none)(I a:Addr)(q:a≠I)(S:fB (cD w) o c f t):
  Walks prog w A I [I,a] [I] c.size (λi v=>∃x,(fM w a f c)[i]? =some x/\v=x.2) (λi h=>ig w h I a t i c.size f/\h.get? a=some o) where
 sub:=λb d=>by simp at d;simp[d]
 frame:=λi h j st k=>⟨let ⟨u,y,r⟩:=st.1;⟨u,k I (by simp) _ y,r⟩,k a (by simp) _ st.2⟩
 item:=λi s Q E z st g=>by
  have l:(fM w a f c)[i]? =some ((fM w a f c)[i]'(by rw[jT];exact z)):=qi _
  refine tY st.1 st.2 S l λj B n=>?_;exact g _ j s.toks ⟨_,l,rfl⟩ ⟨B,(n.2 a q).trans st.2⟩ λb o d e=>n.extBut b o (λh=>d (by simp[h])) e
 done:=λs Q E st g=>ot p st.1 st.2 S λj C=>g j s.toks λb o d e=>C b o (λh=>d (by simp[h])) e
 self:=λi s Q E st g=>by
  refine wpAny_pyIter_slot st.1.typeIs F.gL (Re F.gL st.1.typeIs F.kR ?_ (F.kc _));unfold Builtin.«dict_keyiterator.__iter__»;refine be (m:=slotArgs "__iter__" 0 _) (mo ?_);exact mo ⟨_,rfl,"set_iterator",_,st.1.typeIs,F.bQ.lookup,g⟩
end
section
variable {prog:Program} {w:World} {A:Around} {E:Value->Shared->Prop} {s:Shared}
theorem su(hh:A.handled=none)(J:s.heap.get? a=some o)(S:fB (cD w) o c d t)
  (hQ:∀k tk,s.heap.objs.size<k.objs.size->(∀b o,s.heap.get? b=some o->k.get? b=some o)->Q ((fM w a d c).toList.map (·.2)) {s with heap:=k,toks:=tk}) (hn:c.size<=sizeLine:=by size_fits):
  wpAny (model prog w) A (collect (.ref a)) Q E s:=by
 have m:a<s.heap.objs.size:=Fk J;unfold collect;refine be (wpAny_runValue (aaB F.entry_proto_collect ?_));rw[aaw F.plain_proto_collect _];show wpAny _ A.in1 (newList []>>=λl=>again (.builtin "list.__iadd__" ⟨[l, .ref a],[]⟩)) _ _ s;refine be (PP ?_);refine mo ⟨aaI F.plain_list_iadd _,aaB F.entry_list_iadd ?_⟩;rw[aaw F.plain_list_iadd _];have n:(s.heap.push {cls:= .type "list",data:= .seq ([]:List Value).toArray}).get? a=some o:=AC _ J;show wpAny _ A.in1 (Builtin.List.listExtendWith (.ref s.heap.objs.size) (.ref a) (.ref s.heap.objs.size)) _ _ {s with heap:=s.heap.push {cls:= .type "list",data:= .seq ([]:List Value).toArray}}
 unfold Builtin.List.listExtendWith;have hT:Shared.TypeIs {s with heap:=s.heap.push {cls:= .type "list",data:= .seq ([]:List Value).toArray}} (.ref a) "set":=⟨o,n,S.ex.1⟩
 refine be (abh hT ?_);have h1:Builtin.List.listSameRef (.ref s.heap.objs.size) (.ref a)=false:=by simp[Builtin.List.listSameRef,abg m]
 have f:(Value.type "set"==Value.type "list")=false:=by decide
 have h3:(Value.type "set"==Value.type "tuple")=false:=by decide
 simp only[h1,f,h3,acx,fj,M2];refine be (tX n S ?_);generalize L:(s.heap.push {cls:= .type "list",data:= .seq ([]:List Value).toArray}).objs.size=I;have p:I=s.heap.objs.size+1:=by rw[<-L,abS]
 have q:a≠I:=by rw[p];exact cn (uP m)
 have M:s.heap.objs.size≠I:=by rw[p];exact cn (aa7 _)
 have N:s.heap.objs.size≠a:=abg m;have r:((s.heap.push {cls:= .type "list",data:= .seq ([]:List Value).toArray}).push {cls:= .type "set_iterator",data:= .fields #[.int (eF w t 0:Nat) 0, .int (0:Nat) 0, .ref a, .int c.size 0, .int d 0]}).get? s.heap.objs.size=some {cls:= .type "list",data:= .seq ([]:List Value).toArray}:=AC _ (GM _ rfl);have O:((s.heap.push {cls:= .type "list",data:= .seq ([]:List Value).toArray}).push {cls:= .type "set_iterator",data:= .fields #[.int (eF w t 0:Nat) 0, .int (0:Nat) 0, .ref a, .int c.size 0, .int d 0]}).get? I=some {cls:= .type "set_iterator",data:= .fields #[.int (eF w t 0:Nat) 0, .int (0:Nat) 0, .ref a, .int c.size 0, .int d 0]}:=by rw[<-L];exact GM _ rfl
 have u:((s.heap.push {cls:= .type "list",data:= .seq ([]:List Value).toArray}).push {cls:= .type "set_iterator",data:= .fields #[.int (eF w t 0:Nat) 0, .int (0:Nat) 0, .ref a, .int c.size 0, .int d 0]}).get? a=some o:=AC _ n;have P:∀b o,s.heap.get? b=some o->((s.heap.push {cls:= .type "list",data:= .seq ([]:List Value).toArray}).push {cls:= .type "set_iterator",data:= .fields #[.int (eF w t 0:Nat) 0, .int (0:Nat) 0, .ref a, .int c.size 0, .int d 0]}).get? b=some o:=λb o e=>AC _ (AC _ e);generalize ((s.heap.push {cls:= .type "list",data:= .seq ([]:List Value).toArray}).push {cls:= .type "set_iterator",data:= .fields #[.int (eF w t 0:Nat) 0, .int (0:Nat) 0, .ref a, .int c.size 0, .int d 0]})=f at r O u P ⊢;have v:Shared.TypeIs {s with heap:=f} (.ref a) "set":=⟨o,u,S.ex.1⟩
 refine be (KF ?_);unfold Builtin.List.listLengthHint;refine be (aaM v F.slot_set_len.lookup ?_)
 (generalize y:("set.__len__":String)=R;(fail_if_success (clear y R));wp_delta;rw[show splitId R=some ("set","__len__") from by subst y;decide+kernel];subst y)
 refine be (abY (b:=true) v sub_set_self ?_);dsimp only;refine abp (by decide) ?_
 refine abw (by decide+kernel) ?_
 refine be (abh v ?_);refine mo ?_;refine abw (by decide+kernel) ?_
 refine be (aau ?_);refine be ?_;show wpAny _ A.in1 (updateSeq s.heap.objs.size (·.push .none)>>=λ_=>updateSeq s.heap.objs.size (·.pop)) _ _ _;refine be (acd r rfl ?_);have T:=UF (Obj.mapSeq (·.push Value.none)) r rfl;refine acd T rfl ?_;have Q6:=UF (Obj.mapSeq (·.pop)) T rfl
 have z:∀b o,b≠s.heap.objs.size->f.get? b=some o->
   ((f.update s.heap.objs.size (Obj.mapSeq (·.push Value.none))).update s.heap.objs.size (Obj.mapSeq (·.pop))).get? b=some o:=
  λb o g e=>(aas _ _ (Ne.symm g)).trans ((aas _ _ (Ne.symm g)).trans e)
 have W:=(Walks.sets (prog:=prog) (A:=A.in1) hh I a q S).toS;have B:s.heap.objs.size∉ [I,a]:=by simp[M,N]
 refine mo ⟨aaI F.plain_extend_loop _,codeAny_extend_loopS W hn _ B _ c.size 0 _ _ _ rfl (cF _)
  ⟨⟨_,z _ _ (Ne.symm M) O,rfl,rfl⟩,z _ _ (Ne.symm N) u⟩ Q6 (ItemsOf.nil _) λh i c' U X Y=>?_⟩
 show wpAny _ A (load s.heap.objs.size>>=_) _ _ h;refine be (wpAny_load X ?_)
 have gW:h={s with heap:=h.heap,toks:=h.toks}:=by
  obtain⟨gw,g',d',tk',RY⟩:=h;obtain⟨_,C,G,H,_⟩:=U;have C:g'=s.gens:=C;have G:d'=s.drawn:=G;have H:RY=s.os:=H;subst C G H;rfl
 have ea:i.toList=(fM w a d c).toList.map (·.2):=by
  refine uO λj=>?_;rw[fi,dF,fi];have sz:i.size=(fM w a d c).size:=by rw[Y.1,jT]
  by_cases lt:j<i.size
  ·obtain⟨x,hx,hv⟩:=Y.2 j i[j] (qi lt)
   rw[hx,qi lt,hv];rfl
  ·rw[B4 (by lia),B4 (by lia)];rfl
 rw[gW];show wpAny _ _ (pure i.toList) Q E _;rw[ea];refine mo (hQ _ _ (Fk X) λb o e=>?_);have g:=Fk e;have Z:b≠s.heap.objs.size:=cn g;have b2:b≠I:=by rw[p];exact cn (uP g)
 exact U.heap b o (by simp[Z,b2]) (z b o Z (P b o e))
theorem xo(p:k.Perm j):∀{e:List Int},IntsAre j e->∃f,IntsAre k f/\f.Perm e:=by
 induction p with
 |nil=>intro e h;exact⟨e,h, .refl _⟩
 |cons x _ o=>
  intro e h;cases h with
  |cons n t h=>
   obtain⟨f,a,b⟩:=o h;exact⟨n::f, .cons n t a,b.cons n⟩
 |swap x y l=>
  intro e h;cases h with
  |cons n t h=>
   cases h with
   |cons m u h=>exact⟨_, .cons m u (.cons n t h), .swap ..⟩
 |trans _ _ g i=>
  intro e h;obtain⟨f,a,b⟩:=i h;obtain⟨q,c,d⟩:=g a;exact⟨q,c,d.trans b⟩
theorem DJ(x:A.handled=none)(y:s.heap.get? a=some o)(S:fB (cD w) o d f t)(z:IntsAre (d.toList.map (·.2)) i)(j:d.size<64)
  (h:∀k B q (out:Array Value) (e:Nat) (g:List Int),(∀b o,s.heap.get? b=some o->k.get? b=some o)->s.heap.objs.size<=q->k.get? q=some {cls:= .type "list",data:= .seq out e}->IntsAre out.toList g->g.Perm i->g.Pairwise (·<=·)->Q (.ref q) {s with heap:=k,toks:=B}):
  wpAny (model prog w) A (call (.builtin "sorted") [.ref a]) Q E s:=by
 have C:=(xU w a f d).map (λe:Int×Value=>e.2);obtain⟨l,F,G⟩:∃l,IntsAre ((fM w a f d).toList.map (·.2)) l/\l.Perm i:=xo C z;have sz:((fM w a f d).toList.map (·.2)).length=d.size:=by rw[aD,eN,jT]
 refine aaL kind_sorted acB acC (acD _) ?_;unfold Builtin.«sorted»;refine be (m:=checkCount "sorted" 1 1 _) (mo ?_);have r:64<=sizeLine:=by decide
 refine be (su x y S (λc R H I=>?_) (by lia))
 refine be (aa4 ?_ (by rw[sz];lia))
 have n:(c.push (seqObj "list" ((fM w a f d).toList.map (·.2)).toArray 0)).get? c.objs.size=some (seqObj "list" ((fM w a f d).toList.map (·.2)).toArray 0):=GM _ rfl;refine be (KF (Re slot_list_sort ⟨_,n,rfl⟩ entry_list_sort (list_sort_tree n F (by rw[sz];exact j) λout g J L M=>⟨_,rfl,?_⟩) (acq _)))
 obtain⟨p,N⟩:∃p,((c.push (seqObj "list" ((fM w a f d).toList.map (·.2)).toArray 0)).update c.objs.size (Obj.mapSeq λ_=> #[])).get? c.objs.size=some (seqObj "list" #[] p):=⟨_,abk n (λ_=> #[])⟩;have T:((c.push (seqObj "list" ((fM w a f d).toList.map (·.2)).toArray 0)).update c.objs.size (Obj.mapSeq λ_=> #[])).objs.size=c.objs.size+1:=by rw[aaH,abS]
 have O:((((c.push (seqObj "list" ((fM w a f d).toList.map (·.2)).toArray 0)).update c.objs.size (Obj.mapSeq λ_=> #[])).push (seqObj "tuple" ((fM w a f d).toList.map (·.2)).toArray 0)).push (seqObj "list" #[] 0)).get? c.objs.size=some (seqObj "list" #[] p):=
  AC _ (AC _ N)
 have P:=abk O (λ_=>out);refine mo ⟨_,rfl,h _ _ c.objs.size out _ g (λb o e=>?_) (sD H) P J (L.trans G) M⟩;have u:=I b o e;have v:b≠c.objs.size:=cn (Fk u);show((((((c.push (seqObj "list" ((fM w a f d).toList.map (·.2)).toArray 0)).update c.objs.size (Obj.mapSeq λ_=> #[])).push (seqObj "tuple" ((fM w a f d).toList.map (·.2)).toArray 0)).push (seqObj "list" #[] 0)).update c.objs.size (Obj.mapSeq λ_=>out))).get? b=some o;rw[aaK _ _ _ _ v];refine AC _ (AC _ ?_);rw[aaK _ _ _ _ v];exact AC _ u
end
section
variable {prog:Program} {w:World} {A:Around} {E:Value->Shared->Prop} {s:Shared}
theorem ItemsAre.ints(h:ItemsAre (intKind prog w) c b):∀v∈b,∃i t,v= .int i t:=by
 induction h with
 |nil=>intro v a;simp at a
 | @cons k f c b d _ e=>
  intro v a
  rcases cC.mp a with rfl|a
  ·obtain⟨t,rfl⟩:=abN d
   exact⟨k,t,rfl⟩
  ·exact e v a
theorem qg(f:IsTupleKey (intKind prog w) s.heap j a)(h:Q false s):wpAny (model prog w) A (ofAClassStatement 8 (.ref a)) Q E s:=by
 have k:=f.typeIs;obtain⟨o,c,n,l,_,m,p⟩:=f;unfold ofAClassStatement;refine be (abh k ?_);dsimp only;simp only[beq_self_eq_true, ↓reduceIte];refine be (mo ?_);simp only[aa5,fj, ↓reduceIte];refine be (acw l m ?_);dsimp only;refine be ?_;rw[<-Array.forIn_toList];refine abZ _ (λb r d=>r.1=none/\d=s/\∀v∈b,∃i t,v=Value.int i t) _ ?_ ?_ _ _ ⟨rfl,rfl,p.ints⟩
 ·rintro v b r d ⟨e,rfl,g⟩
  obtain⟨i,t,rfl⟩:=g v cg;refine be (aa0 (show ofAClassStatement 7 (.int i t)=pure false from by unfold ofAClassStatement;rfl) ?_)
  simp only[fj,M2];exact mo ⟨rfl,rfl,λu q=>g u (cG _ q)⟩
 ·rintro⟨x,y⟩ d ⟨e,rfl,_⟩
  simp only at e;subst e;exact mo h
theorem D4(j:IsTupleKey (intKind prog w) s.heap n b)(stored:List Value)(o:∀y∈stored,∃f a,y=Value.ref a/\IsTupleKey (intKind prog w) s.heap f a)(h:Q false s):
  wpAny (model prog w) A (searchCouldBeSeen (.ref b) stored) Q E s:=by
 unfold searchCouldBeSeen;refine be ?_;refine abZ _ (λd r g=>r.1=none/\g=s/\∀y∈d,∃f a,y=Value.ref a/\IsTupleKey (intKind prog w) s.heap f a) _ ?_ ?_ _ _ ⟨rfl,rfl,o⟩
 ·rintro y d r g ⟨i,rfl,k⟩
  obtain⟨f,a,rfl,l⟩:=k y cg;have m:∀y∈d,∃f a,y=Value.ref a/\IsTupleKey (intKind prog w) g.heap f a:=λy p=>k y (cG _ p);have e:(carriedByValue (Value.ref b)&&carriedByValue (Value.ref a))=false:=by simp[carriedByValue]
  dsimp only;rw[e,acx]
  by_cases c:(b==a)=true
  ·rw[tz c]
   exact mo ⟨rfl,rfl,m⟩
  ·rw[ir c]
   refine be (wpAny_eqIsQuiet_tuple j ?_);simp only[aa5,fj,M2];refine be (wpAny_eqIsQuiet_tuple l ?_);simp only[aa5,fj,M2];refine be (qg j ?_);simp only[fj,M2];refine be (qg l ?_);simp only[fj,M2];exact mo ⟨rfl,rfl,m⟩
 ·rintro⟨q,t⟩ g ⟨i,rfl,_⟩
  simp only at i;subst i;exact mo h
theorem zx(f:IsTupleKey (intKind prog w) s.heap j a)(h:Q true s):wpAny (model prog w) A (hashByValue 8 (.ref a)) Q E s:=by
 rfl';have l:=f.typeIs;obtain⟨o,c,n,m,_,p,q⟩:=f;ac_rfl;unfold hashByValue;refine be (aaM l F.slot_tuple_hash.lookup ?_);dsimp only;refine be (acw m p ?_);refine be ?_;show wpAny _ _ (forIn c _ _) _ _ s;rw[<-Array.forIn_toList];refine abZ _ (λb r d=>r.1=none/\d=s/\∀v∈b,∃i t,v=Value.int i t) _ ?_ ?_ _ _ ⟨rfl,rfl,q.ints⟩
 ·rintro v b r d ⟨e,rfl,g⟩
  obtain⟨i,t,rfl⟩:=g v cg;refine be (aa0 (show hashByValue 7 (.int i t)=pure true from by unfold hashByValue;rfl) ?_)
  simp only[aa5,fj,M2];exact mo ⟨rfl,rfl,λu x=>g u (cG _ x)⟩
 ·rintro⟨z,B⟩ d ⟨e,rfl,_⟩
  simp only at e;subst e;exact mo h
def Jn(prog:Program)(w:World)(h:Heap)(b:Array (Int×Value)):Prop:=∀(i:Nat)(e:Int×Value),b[i]? =some e->∃k a,e=(tupleKeyHash (intKind prog w) k, .ref a)/\IsTupleKey (intKind prog w) h k a
def L6(a:Array (Int×Value))(i:Nat):Int:=(a[i]?.map (·.1)).getD 0
theorem J2(h:vF m):m%2=1:=by rcases h with rfl|rfl|rfl|rfl<;>rfl
theorem Ag{a:Array Nat}(R:oF a){i j v:Nat}(b:a[i]? =some v)(c:a[j]? =some v):i=j:=by
 rw[<-below_at R b,<-below_at R c]
theorem qY(hu:A.units<cLine)(ho:s.heap.get? a=some o)(S:fB (cD w) o q M t)(P:Jn prog w s.heap q)(hk:IsTupleKey (intKind prog w) s.heap u b)
  (MV:(∃(i:Nat)(c:Addr),q[i]? =some (tupleKeyHash (intKind prog w) u, .ref c)/\IsTupleKey (intKind prog w) s.heap u c)->∀r:Option Nat,(B=false->r.isSome=true)->Q (.there r) s)
  (AW:(∀(i:Nat)(e:Int×Value),q[i]? =some e->∀c,e.2= .ref c->¬IsTupleKey (intKind prog w) s.heap u c)->∀g,(∀i:Nat,t.place[i]? ≠some (bN t.mask (tupleKeyHash (intKind prog w) u) g))->(∀j,j<g->∃i:Nat,t.place[i]? =some (bN t.mask (tupleKeyHash (intKind prog w) u) j))->
   Q (.free (bN t.mask (tupleKeyHash (intKind prog w) u) g) false) s):
  wpAny (model prog w) A (setSearch a (.ref b) (tupleKeyHash (intKind prog w) u) B) Q E s:=by
 generalize hh:tupleKeyHash (intKind prog w) u=h at*;have T:=S.tok;obtain⟨s0,hs0,VQ⟩:=T.empty;obtain⟨K,hK,Z⟩:=meets T.few (ua.start t.mask h) hs0;have Z:bN t.mask h K=s0:=by unfold bN;rw[nu];exact Z
 have kb:K<6000:=by
  have:10*turns t.mask<=5260:=by
   rcases T.few with e|e|e|e<;>rw[e]<;>decide
  lia
 have sz:t.place.size=q.size:=by rw[T.size];simp
 have hN:(t.mask%2==0)=false:=by rw[J2 T.few];rfl
 have N:∀(n:Nat)(k:Nat)(l:Nat)(O:Option Probe),K+1-k<=n->n<l->k<=K->O.getD (t.probeStart h)=qK t.mask h k->(∀j,j<k->∃i:Nat,t.place[i]? =some (bN t.mask h j))->
   (∀(i:Nat) c,q[i]? =some (h, .ref c)->IsTupleKey (intKind prog w) s.heap u c->∀C,t.place[i]? =some (bN t.mask h C)->k<=C)->
   wpAny (model prog w) A (setSearchFrom a (.ref b) h B l O) Q E s:=by
  intro n
  induction n with
  |zero=>intro k l O h1 h2 h3;lia
  |succ n ih=>
   intro k l O h1 h2 h3 h4 h5 h6;obtain⟨f,rfl⟩:∃f,l=f+1:=⟨l-1,by lia⟩
   unfold setSearchFrom;refine be (P3 ho S.dat S.fits ?_);dsimp only;unfold SetTable.gaveWay;rw[hN];simp only[fj,M2]
   have VE:∀(i:Nat)(e:Int×Value),q[i]? =some e->L6 q i=e.1:=λi e d=>by
    show(q[i]?.map (·.1)).getD 0=e.1;rw[d];rfl
   generalize I:t.probe _ h (O.getD (t.probeStart h))=r;have I:t.probe (L6 q) h (qK t.mask h k)=r:=by rw[<-h4];exact I
   generalize L6 q=hA at VE I;obtain⟨g,xg,hp,alt⟩:=TOk.probe T hA h k
   have k0K:g<=K:=by
    apply GE;intro c;obtain⟨i,d,_⟩:=hp K h3 (by lia)
    rw[Z] at d;exact VQ i d
   have Nu:∀j,j<g->∃i:Nat,t.place[i]? =some (bN t.mask h j):=λj h'=>by
    by_cases c:j<k
    ·exact h5 j c
    ·obtain⟨i,d,_⟩:=hp j (by lia) h'
     exact⟨i,d⟩
   have F:∀(i:Nat) c,q[i]? =some (h, .ref c)->IsTupleKey (intKind prog w) s.heap u c->∀C,t.place[i]? =some (bN t.mask h C)->g<=C:=λi c d hc C R=>by
    have hkx:=h6 i c d hc C R;apply GE;intro z;obtain⟨p,G,uj⟩:=hp C hkx (by lia)
    have:i=p:=Ag T.rise R G
    subst this;exact uj (VE i _ d)
   rcases alt with ⟨Kh,M⟩ | ⟨i,d,EJ,M⟩
   ·rw[M] at I
    subst I;dsimp only;refine mo (AW (λi e d c hc V0=>?_) g Kh Nu);obtain⟨j,a',U,X⟩:=P i e d;subst U;cases hc
    have:j=u:=X.inj V0
    subst this;rw[hh] at d;obtain⟨ky,Wm,hy2⟩:=T.path i h (by rw[dF,fi,d];rfl)
    have lt:=F i _ d V0 ky Wm
    by_cases c1:g<ky
    ·obtain⟨p,G⟩:=hy2 g c1
     exact Kh p G
    ·have:ky=g:=by lia
     subst this;exact Kh i Wm
   ·rw[M] at I
    subst I;dsimp only
    have Wq:i<q.size:=by
     have:=(Al.mp d).1
     lia
    obtain⟨j,c,U,X⟩:=P i q[i] (qi Wq);have L:q[i]? =some (tupleKeyHash (intKind prog w) j, .ref c):=by rw[qi Wq,U]
    have H:wpAny (model prog w) A (match q[i]? with
      |some (fst,y)=>do
       let m <-holding [y] (eqBool y (Value.ref b))
       let J <-setState a
       if (B&&m)=true then pure (SetFound.there none)
        else
         match J.2.snd.sameMemory t.moves t.mask with
         |some same=>
          match if same=true then J.2.snd.slot (bN t.mask h g) else Slot.empty with
          |Slot.live p=>
           match J.fst[p]? with
           |some (fst,y')=>do
            let v <-isSame y' y
            let Y <-pure (if v=true then some p else none)
            match Y with
             |none=>do
              rule "set.search.anew"
              setSearchFrom a (Value.ref b) h B f none
             |some p=>
              if m=true then pure (SetFound.there (some p))
              else setSearchFrom a (Value.ref b) h B f (some (qK t.mask h (g+1)))
           |none=>do
            let Y <-pure none
            match Y with
             |none=>do
              rule "set.search.anew"
              setSearchFrom a (Value.ref b) h B f none
             |some p=>
              if m=true then pure (SetFound.there (some p))
              else setSearchFrom a (Value.ref b) h B f (some (qK t.mask h (g+1)))
          |x=>do
           let Y <-pure none
           match Y with
            |none=>do
             rule "set.search.anew"
             setSearchFrom a (Value.ref b) h B f none
            |some p=>
             if m=true then pure (SetFound.there (some p))
             else setSearchFrom a (Value.ref b) h B f (some (qK t.mask h (g+1)))
         |x=>unsupported "set.changed-during-lookup:is-the-new-block-at-the-old-address"
      |x=>unsupported "internal:set-entry") Q E s:=by
     rw[L];dsimp only;refine be (KF (wpAny_eqBool_tuple hu X hk ?_));refine be (P3 ho S.dat S.fits ?_);dsimp only;have sm:t.sameMemory t.moves t.mask=some true:=by unfold SetTable.sameMemory;simp
     have uj:j≠u->wpAny (model prog w) A (setSearchFrom a (Value.ref b) h B f (some (qK t.mask h (g+1)))) Q E s:=λne=>by
      by_cases kk:g=K
      ·subst kk
       rw[Z] at d;exact absurd d (VQ i)
      refine ih (g+1) f _ (by lia) (by lia) (by lia) rfl (λM5 h''=>?_) λp c' G qI C R=>?_
      ·by_cases z:M5=g
       ·subst z;exact⟨i,d⟩
       ·exact Nu M5 (by lia)
      ·have l1:=F p c' G qI C R
       have:C≠g:=λz=>by
        subst z
        have:p=i:=Ag T.rise R d
        subst this;rw[L] at G;cases G;exact ne (X.inj qI)
       lia
     have there:j=u->∀r:Option Nat,(B=false->r.isSome=true)->Q (.there r) s:=λe=>by
      subst e;rw[hh] at L;exact MV ⟨i,c,L,X⟩
     by_cases e:j=u
     ·rw[FS e,Bool.and_true]
      cases B with
      |true=>exact mo (there e none λz=>absurd z (by decide))
      |false=>
       simp only[fj,M2];rw[sm];dsimp only;rw[tz rfl,r6 T.rise d];dsimp only;rw[L];dsimp only;refine be (wpAny_isSame_ref_self ?_);refine be (mo ?_);simp only[aaq];exact mo (there e (some i) λ_=>rfl)
     ·rw[FM e,yT]
      simp only[fj,M2];rw[sm];dsimp only;rw[tz rfl,r6 T.rise d];dsimp only;rw[L];dsimp only;refine be (wpAny_isSame_ref_self ?_);refine be (mo ?_);simp only[aaq];exact uj e
    by_cases led:(!t.led)=true
    ·rw[tz led]
     refine be (D4 hk _ (λy hy=>?_) ?_)
     ·obtain⟨e,he,rfl⟩:=bY.mp hy
      have he:=(Array.mem_filter.mp (Array.mem_toList_iff.mp he)).1;obtain⟨p,G,rfl⟩:=Array.mem_iff_getElem.mp he;obtain⟨M5,c',U,VZ⟩:=P p q[p] (qi G);exact⟨M5,c',by rw[U],VZ⟩
     ·simp only[fj,M2]
      exact H
    ·rw[ir led]
     exact H
 refine N (K+1) 0 100000 none (bJ _) (by lia) (cF _) rfl (λj h'=>by lia) λi c d hc C _=>cF _
end
section
variable {prog:Program} {w:World} {A:Around} {E:Value->Shared->Prop} {s:Shared}
theorem uZ(b:Addr)(a:Array (Int×Value)):byScan (.ref b) a=false:=rfl
theorem zw(k:A.units<cLine)(g:s.heap.get? a=some o)(S:fB (cD w) o f j t)(P:Jn prog w s.heap f)(l:IsTupleKey (intKind prog w) s.heap d b)
  (m:(∃(i:Nat)(c:Addr),f[i]? =some (tupleKeyHash (intKind prog w) d, .ref c)/\IsTupleKey (intKind prog w) s.heap d c)->∀r:Option Nat,r.isSome=true->Q r s)
  (n:(∀(i:Nat)(e:Int×Value),f[i]? =some e->∀c,e.2= .ref c->¬IsTupleKey (intKind prog w) s.heap d c)->Q none s):
  wpAny (model prog w) A (setFind a (.ref b) (tupleKeyHash (intKind prog w) d)) Q E s:=by
 unfold setFind setFindIn;refine be (P3 g S.dat S.fits ?_);dsimp only;rw[uZ];simp only[fj,M2];refine be (qY k g S P l (λh r p=>?_) λh q _ _=>?_)
 ·exact mo (m h r (p rfl))
 ·exact mo (n h)
theorem BS(Z:A.units<cLine)(m:s.heap.get? a=some o)(S:fB (cD w) o d Y t)(P:Jn prog w s.heap d)(H:IsTupleKey (intKind prog w) s.heap g b)(room:d.size<=305)
  (hy:(∃(i:Nat)(c:Addr),d[i]? =some (tupleKeyHash (intKind prog w) g, .ref c)/\IsTupleKey (intKind prog w) s.heap g c)->Q false s)
  (I:(∀(i:Nat)(e:Int×Value),d[i]? =some e->∀c,e.2= .ref c->¬IsTupleKey (intKind prog w) s.heap g c)->∀y J L wW t',Heap.SameBut a s.heap y->y.get? a=some J->fB (cD w) J L wW t'->L.toList.Perm (d.toList++ [(tupleKeyHash (intKind prog w) g, .ref b)])->Q true {s with heap:=y}):
  wpAny (model prog w) A (setAddHashed a (.ref b) (tupleKeyHash (intKind prog w) g)) Q E s:=by
 have q:=S.dat;have M:=S.fits;have T:=S.tok;have sz:t.place.size=d.size:=by rw[T.size];simp
 unfold setAddHashed setAddHashedIn;refine KF (be (P3 m q M ?_));dsimp only;rw[uZ];simp only[fj,M2];refine be (qY Z m S P H (λh r hr=>?_) λh j z Nu=>?_)
 ·exact mo (hy h)
 ·dsimp only
  refine be (P3 m q M ?_);dsimp only;obtain⟨p1,p2,k⟩:=TOk.put T z Nu (by rw[sz];exact zL T.few S.few)
  rw[p1]
  have e:(SetTable.insertAt d (below t.place (bN t.mask (tupleKeyHash (intKind prog w) g) j)) (tupleKeyHash (intKind prog w) g,Value.ref b)).toList.map (·.1)=(d.toList.map (·.1)).take (below t.place (bN t.mask (tupleKeyHash (intKind prog w) g) j))++tupleKeyHash (intKind prog w) g::(d.toList.map (·.1)).drop (below t.place (bN t.mask (tupleKeyHash (intKind prog w) g) j)):=by
   rw[aaR];simp
  rw[<-e] at k;have pl:(t.put (bN t.mask (tupleKeyHash (intKind prog w) g) j)).1.plain=true:=S.pl;have ld:(t.put (bN t.mask (tupleKeyHash (intKind prog w) g) j)).1.led= !cD w:=S.ld;have mk:(t.put (bN t.mask (tupleKeyHash (intKind prog w) g) j)).1.mask=t.mask:=rfl;generalize hx:((tupleKeyHash (intKind prog w) g,Value.ref b):Int×Value)=x at*;generalize hp:below t.place (bN t.mask (tupleKeyHash (intKind prog w) g) j)=p at*;generalize (t.put (bN t.mask (tupleKeyHash (intKind prog w) g) j)).1=l at*;rw[tz pl];refine be (zx H ?_);simp only[aaq,acs,Bool.true_and];have n:(SetTable.insertAt d p x).size=d.size+1:=SetTable.fL ..;have B:=aa1 d p x;rw[vA] at B;refine be (aaX m q ?_ (by rw[n];refine aaY ?_;show d.size+1<4096;lia))
  have u:=kH m q (SetTable.insertAt d p x) l;have N:=aaj s.heap a (Obj.putSet (SetTable.insertAt d p x) l)
  have C:l.fits (SetTable.insertAt d p x).size=true:=by
   have:=TOk.fits k
   rw[aD,eN] at this;exact this
  by_cases full:l.tooFull=true
  ·rw[tz full]
   refine ah λG0 j=>?_;obtain⟨v,f,O,_,pf,R,T2,F,l2,U,YO⟩:=ya k full (by rw[n,mk];have:=S.few;lia) (by rw[n];lia)
   refine j ?_;rw[n] at O U YO;refine be ?_;unfold setRelay;refine be (P3 u rfl C ?_);dsimp only;have big:512<=sizeLine:=by decide
   rw[ir (by lia),O]
   have X:(f.filterMap ((SetTable.insertAt d p x)[·]?)).size=d.size+1:=by rw[R,n]
   refine be (aa0 (a:=(f.filterMap ((SetTable.insertAt d p x)[·]?),v)) ?_ ?_)
   ·show(if ((f.filterMap ((SetTable.insertAt d p x)[·]?)).size !=(SetTable.insertAt d p x).size)=true then _ else pure (f.filterMap ((SetTable.insertAt d p x)[·]?),v))=_
    rw[ir (by rw[R];simp)]
   ·dsimp only
    refine aaX u rfl ?_ (by rw[X];refine aaY ?_;show d.size+1<4096;lia)
    have vO:=kH u rfl (f.filterMap ((SetTable.insertAt d p x)[·]?)) v;exact mo (I h _ _ _ _ v (N.trans (aaj _ a _)) vO ⟨S.ex,rfl,T2,by rw[F];exact pl,by rw[l2];exact ld,by rw[X];exact U⟩ (pf.trans B))
  ·rw[ir full]
   refine mo (I h _ _ _ _ l N u ⟨S.ex,rfl,k,pl,ld,?_⟩ B);have G:l.tooFull=false:=by simpa using full
   unfold SetTable.tooFull SetTable.fill at G;rw[k.dum,k.size] at G;simp at G;lia
variable {a b:Addr} {o:Obj} {es:Array (Int×Value)} {ep:Nat} {t:SetTable} {ks:List Int}
open Classical in
noncomputable def oW(prog:Program)(w:World)(h:Heap)(es:Array (Int×Value))(ks:List Int):Bool:=decide (∃(i:Nat)(c:Addr),es[i]? =some (tupleKeyHash (intKind prog w) ks, .ref c)/\IsTupleKey (intKind prog w) h ks c)
theorem Kc(h:∀(i:Nat)(e:Int×Value),es[i]? =some e->∀c,e.2= .ref c->¬IsTupleKey (intKind prog w) s.heap ks c):oW prog w s.heap es ks=false:=by
 classical
 unfold oW;exact FM λ⟨i,c,d,f⟩=>h i _ d c rfl f
theorem HR(h:∃(i:Nat)(c:Addr),es[i]? =some (tupleKeyHash (intKind prog w) ks, .ref c)/\IsTupleKey (intKind prog w) s.heap ks c):oW prog w s.heap es ks=true:=by
 classical
 unfold oW;exact FS h
theorem tW(k:A.units+64<cLine)(d:s.heap.get? a=some o)(S:fB (cD w) o es ep t)(P:Jn prog w s.heap es)(e:IsTupleKey (intKind prog w) s.heap ks b)
  (h:∀f,Q (oW prog w s.heap es ks) {s with toks:=f}):wpAny (model prog w) A (contains (.ref a) (.ref b)) Q E s:=by
 have c:s.TypeIs (.ref a) "set":=⟨o,d,S.ex.1⟩;unfold contains
 try with_reducible refine KF ?_
 refine be (aaM c F.slot_set_contains.lookup ?_);show wpAny _ _ (if (some (Value.builtin "set.__contains__")==some Value.none)=true then _ else _) _ E s;rw[ir (by rw[beq_builtin_none];exact di)]
 refine be (wpAny_callSpecialUnlessNone?_slot (name:=Str.ofString "__contains__") c F.slot_set_contains
  (Re F.slot_set_contains c entry_set_contains ?_ (F.args_set_contains_2 _ _)))
 unfold Builtin.«frozenset.__contains__» Builtin.Frozenset.oneOther;simp only[aa9,bind_assoc];unfold Builtin.Frozenset.addrOf Builtin.Frozenset.withSetAsKey setContains;refine be (mo ?_)
 try dsimp only
 refine be (mo ?_)
 try dsimp only
 refine be (wpAny_tryCatch ?_);refine KF ?_;refine be (wpAny_pyHash_tuple ?_ e ?_)
 ·show A.units+1<cLine;lia
 refine be (zw (s:={s with toks:=s.toks+(ks.length+1)}) ?_ d S P e (λg r i=>?_) λj=>?_)
 ·show A.units+1<cLine;lia
 ·refine mo ?_
  show wpAny _ _ (ret (Value.bool r.isSome)) _ _ _;rw[i]
  have:=h (s.toks+(ks.length+1))
  rw[HR g] at this;exact mo ⟨_,rfl,Pv this⟩
 ·refine mo ?_
  have:=h (s.toks+(ks.length+1))
  rw[Kc j] at this;exact mo ⟨_,rfl,Pv this⟩
end
end PySem
set_option maxHeartbeats 4000000
namespace L2
open PySem PySem.Spec PyProof.Rows
inductive FV where
 |int (i:Int) |bl (b:Bool)
inductive XD where
 |tJ (b:Bool) (ps:List (Int×Int)) |PC (ks:List (Int×Int)) (vs:List FV)
inductive D where
 |bA|bl (b:Bool) |int (i:Int) |str (x:Str) |lst (l:List D) |tup (l:List D) |qa (ns:List Int) |rng (lo hi:Int) |obj (a:Addr) |dY (w:List (List Nat)) |set (b:Bool) (l:List Int) |x (k:XD) |err (C:Addr) (ks:List Str) (l:List D)
structure DC where
 K:ac
 C:Addr
def ae(n:Nat):D:= .int n
def aq(r:List Nat):D:= .lst (r.map ae)
def aM(w:List (List Nat)):D:= .lst (w.map aq)
def uY(a:Array (Int×Value))(b:List Int):Prop:=(∀e∈a.toList,∃k t,e=(hashInt k,Value.int k t))/\b.Nodup/\∃c,IntsAre (a.toList.map (·.2)) c/\c.Perm b
def gd(b:Bool)(a:Addr)(d:List Int)(h:Heap):Prop:=∃o c e t,h.get? a=some o/\fB b o c e t/\uY c d
def gK(p:Int×Int):Int:=reduceHash (Builtin.Tuple.tupleHashOf [hashInt p.1,hashInt p.2])
inductive jE (H:Hp):List (Int×Addr)->List (Int×Int)->Prop
 |nil:jE H [] []
 |cons {a:Addr} {p:Int×Int} {es:List (Int×Addr)} {ps:List (Int×Int)}:H a=some (.tup [.int p.1, .int p.2])->jE H es ps->jE H ((gK p,a)::es) (p::ps)
theorem jE.mono{H a:Hp}(s:aP H a):∀{b:List (Int×Addr)}{c:List (Int×Int)},jE H b c->jE a b c
 |_,_, .nil=> .nil
 |_,_, .cons h t=> .cons (s _ _ h) (t.mono s)
def fK(b:Bool)(a:Addr)(d:List (Int×Addr))(h:Heap):Prop:=∃o c f t,h.get? a=some o/\fB b o c f t/\c.toList.Perm (d.map λe=>(e.1,Value.ref e.2))
def ZR:FV->Value->Prop
 | .int i,v=>∃t,v= .int i t
 | .bl b,v=>v= .bool b
inductive Mm:List DictEntry->List (Int×Addr)->List FV->Prop
 |nil:Mm [] [] []
 |cons {e:DictEntry} {l:List DictEntry} {h:Int} {a:Addr} {v:FV} {es:List (Int×Addr)} {vs:List FV}:e.hash=h->e.key= .ref a->ZR v e.val->Mm l es vs->Mm (e::l) ((h,a)::es) (v::vs)
def P2(a:Addr)(c:List (Int×Addr))(d:List FV)(h:Heap):Prop:=(a==sysModules)=false/\∃o b e,h.get? a=some o/\o.ExactDict/\o.data= .dict b e/\Mm b.toList c d
def Hs(H:Hp)(a:Addr)(d:Heap->Prop):XD->Prop
 | .tJ b e=>e.Nodup/\∃c,d=fK b a c/\jE H c e
 | .PC ks f=>ks.Nodup/\∃c,d=P2 a c f/\jE H c ks
theorem Hs.mono{H c:Hp}(s:aP H c):∀{k:XD},Hs H a d k->Hs c a d k
 | .tJ _ _,⟨n,b,e,p⟩=>⟨n,b,e,p.mono s⟩
 | .PC _ _,⟨n,b,e,p⟩=>⟨n,b,e,p.mono s⟩
def Mp(H:Hp)(d:Option Addr)(a:List Str)(b:List V):Prop:=(d=none/\a= []/\b= [])\/∃c,d=some c/\H c=some (ZU c (a.zip b))/\a.length=b.length
theorem Mp.mono{H d:Hp}(s:aP H d)(h:Mp H e f g):Mp d e f g:=h.imp id λ⟨i,a,b,c⟩=>⟨i,a,s _ _ b,c⟩
mutual
inductive Dv (Z:DC) (H:Hp):V->D->Prop
 |bA:Dv Z H .bA .bA
 |bl (b:Bool):Dv Z H (.bl b) (.bl b)
 |int (i:Int):Dv Z H (.int i) (.int i)
 |str (x:Str) (h:PyData.strOk x=true):Dv Z H (.str x) (.str x)
 |lst {a:Addr} {xs:List V} {ds:List D}:H a=some (.lst xs)->DvAll Z H xs ds->Dv Z H (.ref a) (.lst ds)
 |tup {a:Addr} {xs:List V} {ds:List D}:H a=some (.tup xs)->DvAll Z H xs ds->Dv Z H (.ref a) (.tup ds)
 |obj (a:Addr):Dv Z H (.ref a) (.obj a)
 |rng {a:Addr} {lo hi:Int}:H a=some (.rng lo hi)->Dv Z H (.ref a) (.rng lo hi)
 |qa {a:Addr} {ns:List Int}:cM Z.K H a (ns.map V.int)->ns.length<=63->Dv Z H (.ref a) (.qa ns)
 |dY {p dx R:Addr} {w:List (List Nat)}:H p=some (.ins Z.C dx [("rows", .ref R)])->Dv Z H (.ref R) (aM w)->Wb.Good w->1<=w.length->w.length<=14->Dv Z H (.ref p) (.dY w)
 |set {a:Addr} {b:Bool} {ns:List Int}:H a=some (.ext (gd b a ns))->Dv Z H (.ref a) (.set b ns)
 |x {a:Addr} {φ:Heap->Prop} {k:XD}:H a=some (.ext φ)->Hs H a φ k->Dv Z H (.ref a) (.x k)
 |err {a C:Addr} {od:Option Addr} {ks:List Str} {xs:List V} {ds:List D}:H a=some (SQ C a od)->Mp H od ks xs->DvAll Z H xs ds->Dv Z H (.ref a) (.err C ks ds)
inductive DvAll (Z:DC) (H:Hp):List V->List D->Prop
 |nil:DvAll Z H [] []
 |cons {v:V} {vs:List V} {d:D} {ds:List D}:Dv Z H v d->DvAll Z H vs ds->DvAll Z H (v::vs) (d::ds)
end
theorem cM.mono{K:ac}{H b:Hp}(s:aP H b)(h:cM K H a c):cM K b a c:=by
 rcases h with (h| ⟨o,h⟩) |h
 ·exact .inl (.inl (s _ _ h))
 ·exact .inl (.inr ⟨o,s _ _ h⟩)
 ·exact .inr h
section
variable {Z:DC} {H H' G G':Hp}
theorem Dv.ofInt(h:Dv Z H v (.int i)):v= .int i:=by cases h;rfl
theorem Dv.GL(h:Dv Z H v (.bl b)):v= .bl b:=by cases h;rfl
theorem Dv.iw(h:Dv Z H v (.lst b)):∃a c,v= .ref a/\H a=some (.lst c)/\DvAll Z H c b:=by cases h with|lst h e=>exact⟨_,_,rfl,h,e⟩
theorem Dv.uA{v:V}{ds:List D}(h:Dv Z H v (.tup ds)):∃a xs,v= .ref a/\H a=some (.tup xs)/\DvAll Z H xs ds:=by cases h with|tup h e=>exact⟨_,_,rfl,h,e⟩
theorem Dv.K6{v:V}{ns:List Int}(h:Dv Z H v (.qa ns)):∃a,v= .ref a/\cM Z.K H a (ns.map V.int)/\ns.length<=63:=by cases h with|qa h z=>exact⟨_,rfl,h,z⟩
theorem DvAll.RO(h:DvAll Z H a []):a= []:=by cases h;rfl
theorem DvAll.GN(h:DvAll Z H c (d::e)):∃v f,c=v::f/\Dv Z H v d/\DvAll Z H f e:=by cases h with|cons a b=>exact⟨_,_,rfl,a,b⟩
theorem DvAll.ofOne(h:DvAll Z H c [d]):∃v,c= [v]/\Dv Z H v d:=by
 obtain⟨v,e,rfl,a,b⟩:=h.GN;rw[b.RO];exact⟨v,rfl,a⟩
theorem DvAll.Bw(h:DvAll Z H f [d,e]):∃v u,f= [v,u]/\Dv Z H v d/\Dv Z H u e:=by
 obtain⟨v,g,rfl,a,b⟩:=h.GN;obtain⟨u,rfl,c⟩:=b.ofOne;exact⟨v,u,rfl,a,c⟩
theorem Dv.mono(s:aP H H')(h:Dv Z H v d):Dv Z H' v d:=
 Dv.rec (motive_1:=λv d _=>Dv Z H' v d) (motive_2:=λc e _=>DvAll Z H' c e) .bA .bl .int .str (λh _ a=> .lst (s _ _ h) a) (λh _ a=> .tup (s _ _ h) a) .obj (λh=> .rng (s _ _ h)) (λh z=> .qa (h.mono s) z) (λh _ g a b r=> .dY (s _ _ h) r g a b) (λh=> .set (s _ _ h)) (λh k=> .x (s _ _ h) (k.mono s)) (λh k _ a=> .err (s _ _ h) (k.mono s) a) .nil (λ_ _ a b=> .cons a b) h
theorem DvAll.ind{p:List V->List D->Prop}(n:p [] [])(c:∀{v:V}{e:List V}{d:D}{f:List D},Dv Z H v d->DvAll Z H e f->p e f->p (v::e) (d::f)){f:List D}(h:DvAll Z H e f):p e f:=
 DvAll.rec (motive_1:=λ_ _ _=>True) (motive_2:=λe f _=>p e f) trivial (λ_=>trivial) (λ_=>trivial) (λ_ _=>trivial) (λ_ _ _=>trivial) (λ_ _ _=>trivial) (λ_=>trivial) (λ_=>trivial) (λ_ _=>trivial) (λ_ _ _ _ _ _=>trivial) (λ_=>trivial) (λ_ _=>trivial) (λ_ _ _ _=>trivial) n (λa b _ q=>c a b q) h
theorem DvAll.mono(s:aP H H')(h:DvAll Z H c d):DvAll Z H' c d:=h.ind .nil λa _ b=> .cons (a.mono s) b
theorem DvAll.length{a:List V}{b:List D}(h:DvAll Z H a b):a.length=b.length:=h.ind (p:=λa b=>a.length=b.length) rfl λ_ _ e=>Gc (·+1) e
theorem DvAll.get{b:List V}{i:Nat}{d:D}(h:DvAll Z H b c)(e:c[i]? =some d):∃v,b[i]? =some v/\Dv Z H v d:=by
 revert i
 refine h.ind (p:=λb c=>∀{i:Nat},c[i]? =some d->∃v,b[i]? =some v/\Dv Z H v d) (λe=>by cases e) λa _ f i e=>?_
 cases i with
 |zero=>cases e;exact⟨_,rfl,a⟩
 |succ i=>exact f e
theorem DvAll.J9{b:List V}{c:List D}{i:Nat}{v:V}(h:DvAll Z H b c)(e:b[i]? =some v):∃d,c[i]? =some d/\Dv Z H v d:=by
 revert i
 refine h.ind (p:=λb c=>∀{i:Nat},b[i]? =some v->∃d,c[i]? =some d/\Dv Z H v d) (λe=>by cases e) λa _ f i e=>?_
 cases i with
 |zero=>cases e;exact⟨_,rfl,a⟩
 |succ i=>exact f e
theorem DvAll.append(h:DvAll Z H c d)(k:DvAll Z H e f):DvAll Z H (c++e) (d++f):=h.ind (p:=λc d=>DvAll Z H (c++e) (d++f)) k λa _ b=> .cons a b
theorem DvAll.take:∀{b:List V}{c:List D}(n:Nat),DvAll Z H b c->DvAll Z H (b.take n) (c.take n)
 |_,_,0,_=>DvAll.nil
 |_,_,n+1, .nil=>DvAll.nil
 |_,_,n+1, .cons a d=>DvAll.cons a (d.take n)
theorem DvAll.drop:∀{b:List V}{c:List D}(n:Nat),DvAll Z H b c->DvAll Z H (b.drop n) (c.drop n)
 |_,_,0,h=>h
 |_,_,n+1, .nil=>by simpa using DvAll.nil
 |_,_,n+1, .cons a d=>by simpa using d.drop n
theorem DvAll.set{v:V}(h:Dv Z H v d):∀{c:List V}{e:List D}(n:Nat),DvAll Z H c e->DvAll Z H (c.set n v) (e.set n d)
 |_,_,_, .nil=> .nil
 |_,_,0, .cons a b=> .cons h b
 |_,_,n+1, .cons a b=> .cons a (DvAll.set h n b)
theorem DvAll.rev:∀{b:List V}{c:List D},DvAll Z H b c->DvAll Z H b.reverse c.reverse
 |_,_, .nil=> .nil
 |_,_, .cons a d=>by
  rw[abR,abR];exact d.rev.append (.cons a .nil)
theorem DvAll.ints:∀(a:List Int),DvAll Z H (a.map V.int) (a.map D.int)
 | []=> .nil
 |n::a=> .cons (.int n) (DvAll.ints a)
theorem DvAll.snoc(a:DvAll Z H c e)(b:Dv Z H v d):DvAll Z H (c++ [v]) (e++ [d]):=a.append (.cons b .nil)
structure Ext (G H G' H':Hp):Prop where
 gg:aP G G'
 sub:aP G' H'
 hh:aP H H'
 off:∀b,H b≠none->G b=none->G' b=none
theorem Ext.refl(s:aP G H):Ext G H G H:=⟨.refl _,s, .refl _,λ_ _ h=>h⟩
theorem Ext.trans{c d f i:Hp}(a:Ext G H c d)(b:Ext c d f i):Ext G H f i:=
 ⟨a.gg.trans b.gg,b.sub,a.hh.trans b.hh,λx h g=>b.off x (λz=>by
  cases e:H x with
  |none=>exact h e
  |some o=>rw[a.hh x o e] at z;cases z) (a.off x h g)⟩
theorem Ext.new{o:HO}(s:aP G H)(h:H p=none):Ext G H (upd G p o) (upd H p o):=by
 have a:G p=none:=s.free h;refine⟨aY a o,λb u e=>?_,aY h o,λb c a=>?_⟩
 ·by_cases z:b=p
  ·subst z;rw[aB] at e ⊢;exact e
  ·rw[aN z] at e ⊢;exact s b u e
 ·have:b≠p:=λz=>c (by rw[z];exact h)
  rw[aN this];exact a
end
abbrev DN:=List (Option D)
structure dR (Z:DC) (G:Hp) (σ:St) (ρ:DN):Prop where
 len:ρ.length=σ.length
 at_:∀(i:Nat)(d:D),ρ[i]? =some (some d)->∃v,σ[i]? =some (some v)/\Dv Z G v d
section
variable {Z:DC} {G G' H H':Hp} {σ:St} {ρ:DN}
theorem dR.mono(e:dR Z G σ ρ)(s:aP G G'):dR Z G' σ ρ:=⟨e.len,λi d h=>let ⟨v,a,b⟩:=e.at_ i d h;⟨v,a,b.mono s⟩⟩
theorem dR.set{v:V}(e:dR Z G σ ρ)(h:Dv Z G v d):dR Z G (σ.set i (some v)) (ρ.set i (some d)):=by
 refine⟨by rw[mJ,mJ];exact e.len,λj c a=>?_⟩
 by_cases z:i=j
 ·subst z
  by_cases b:i<ρ.length
  ·rw[qZ b] at a
   cases FB a;exact⟨v,by rw[qZ (e.len▸b)],h⟩
  ·rw[B3 (rg b)] at a
   rw[nX (rg b)] at a;cases a
 ·rw[yY z] at a ⊢
  exact e.at_ j c a
end
abbrev bh:=DN->(D->Prop)->Prop
abbrev eo:=DN->(Bool->Prop)->Prop
abbrev iH:=DN->(List D->Prop)->Prop
abbrev gz:=D->D->(D->Prop)->Prop
abbrev eV:=D->DN->(DN->Prop)->Prop
abbrev iI:=DN->(List D->Prop)->Prop
def eC(Z:DC)(t:bh):TE:=λe H Q=>∃(G:Hp)(a:DN)(P:D->Prop),aP G H/\dR Z G e a/\t a P/\∀d,P d->∀v b c,Ext G H b c->Dv Z b v d->Q v c
def liftT(Z:DC)(t:eo):TT:=λd H Q=>∃(G:Hp)(a:DN)(P:Bool->Prop),aP G H/\dR Z G d a/\t a P/\∀b,P b->∀e c,Ext G H e c->Q b c
def E9(Z:DC)(t:iH):TA:=λf H Q=>∃(G:Hp)(a:DN)(P:List D->Prop),aP G H/\dR Z G f a/\t a P/\∀b,P b->∀c d e,Ext G H d e->DvAll Z d c b->Q c e
def bW(Z:DC)(r:gz):R2:=λx y H Q=>∃(G:Hp)(a b:D)(P:D->Prop),aP G H/\Dv Z G x a/\Dv Z G y b/\r a b P/\∀d,P d->∀v c e,Ext G H c e->Dv Z c v d->Q v e
def kY(Z:DC)(r:List D->(D->Prop)->Prop):List V->Hp->VK->Prop:=λe H Q=>∃(G:Hp)(a:List D)(P:D->Prop),aP G H/\DvAll Z G e a/\r a P/\∀d,P d->∀v b c,Ext G H b c->Dv Z b v d->Q v c
abbrev cK:=List D->(D->Prop)->Prop
def aR(Z:DC)(a:cK):Sp:=λb H Q _=>kY Z a b H Q
def DE(Z:DC)(X:Cx)(e:Expr)(t:bh):Prop:=PE X e (eC Z t)
def DT(Z:DC)(X:Cx)(e:Expr)(t:eo):Prop:=PT X e (liftT Z t)
def DA(Z:DC)(X:Cx)(a:List Expr)(t:iH):Prop:=PA X a (E9 Z t)
theorem PE.imp(h:PE X e t)(f:∀b H Q,c b H Q->t b H Q):PE X e c:=λa s b H Q I q=>h a s b H Q I (f _ _ _ q)
theorem PT.imp(h:PT X e t)(f:∀b H Q,c b H Q->t b H Q):PT X e c:=λa s b H Q I q=>h a s b H Q I (f _ _ _ q)
theorem PW.imp(h:PW X e t)(f:∀b H Q,c b H Q->t b H Q):PW X e c:=λd a s b H Q I q=>h d a s b H Q I (f _ _ _ q)
theorem PA.imp(h:PA X c t)(f:∀b H Q,d b H Q->t b H Q):PA X c d:=λpos a s b H Q I q=>h pos a s b H Q I (f _ _ _ q)
theorem OpR.imp{f:Value->Value->Sem Value}(h:OpR X f r)(g:∀x y H Q,d x y H Q->r x y H Q):OpR X f d:=λc s e H x y v u Q I a b q=>h c s e H x y v u Q I a b (g _ _ _ _ q)
theorem dZ.imp{f:Value}(h:dZ X f r)(g:∀c H Q,d c H Q->r c H Q):dZ X f d:=λb s e H c i Q I a q=>h b s e H c i Q I a (g _ _ _ q)
def UZ(i:Nat):bh:=λa P=>∃d,a[i]? =some (some d)/\P d
def dC(d:D):bh:=λ_ P=>P d
section
variable {Z:DC} {X:Cx}
theorem aa(i:Nat)(c:X.N[i]? =some x:=by rfl)(a:ub X.env.scope x:=by first|exact Or.inl rfl|exact Or.inr (Or.inl rfl) |exact Or.inr (Or.inr rfl))(b:(x==("__debug__":Str))=false:=by decide)
  (f:(x==("__classdict__":Str))=false:=by decide):DE Z X (.Name x pos) (UZ i):=by
 refine(GQ c a b f).imp λj H Q g=>?_;rfl';obtain⟨G,l,P,s,e,⟨d,b,p⟩,q⟩:=g;ac_rfl;exact let ⟨v,a,dv⟩:=e.at_ i d b;⟨v,a,q d p v G H (.refl s) dv⟩
theorem aw{i j pos}:DE Z X (.Constant (.int i) j pos) (dC (.int i)):=by
 refine NP.imp λc H Q a=>?_;rfl';obtain⟨G,f,P,s,e,p,q⟩:=a;ac_rfl;exact q _ p _ G H (.refl s) (.int i)
theorem jH{b j pos}:DE Z X (.Constant (.bool b) j pos) (dC (.bl b)):=by
 refine RZ.imp λd H Q a=>?_;rfl';obtain⟨G,g,P,s,e,p,q⟩:=a;ac_rfl;exact q _ p _ G H (.refl s) (.bl b)
theorem iB{j pos}:DE Z X (.Constant .none j pos) (dC .bA):=by
 refine NS.imp λc H Q a=>?_;rfl';obtain⟨G,f,P,s,e,p,q⟩:=a;ac_rfl;exact q _ p _ G H (.refl s) .bA
theorem sI{x j pos}(h:PyData.strOk x=true:=by decide+kernel):DE Z X (.Constant (.str x) j pos) (dC (.str x)):=by
 refine NV.imp λc H Q a=>?_;rfl';obtain⟨G,f,P,s,e,p,q⟩:=a;ac_rfl;exact q _ p _ G H (.refl s) (.str x h)
theorem HC(c:Gl X x)(a:∃b,X.mg x=some (.int i b))(d:(x==("__debug__":Str))=false:=by decide):DE Z X (.Name x pos) (dC (.int i)):=by
 obtain⟨b,a⟩:=a;exact(Lg c a (v:= .int i) ⟨b,rfl⟩ d).imp λf H Q ⟨G,g,P,s,e,p,q⟩=>q _ p _ G H (.refl s) (.int i)
def JH(r:gz)(d e:bh):bh:=λc P=>d c λa=>e c λb=>r a b P
variable {a b c:Expr} {ta tb tc:bh} {pos:Pos}
theorem Bh:∀f H Q,eC Z (JH r ta tb) f H Q->Mb (bW Z r) (eC Z ta) (eC Z tb) f H Q:=by
 intro f H Q k;rfl';obtain⟨G,j,P,s,e,h,q⟩:=k;ac_rfl;refine⟨G,j,_,s,e,h,λa m v n E g dv=>?_⟩;refine⟨n,j,_,g.sub,e.mono g.gg,m,λb o u p F i t=>?_⟩;exact⟨p,a,b,P,i.sub,dv.mono i.gg,t,o,λd w x y z A B=>q d w x y z ((g.trans i).trans A) B⟩
theorem ay(e:OpR X (binaryOp d) (bW Z r))(f:DE Z X a ta)(g:DE Z X b tb):DE Z X (.BinOp a d b pos) (JH r ta tb):=(FA e f g).imp Bh
theorem v8(e:OpR X (compareOp d) (bW Z r))(f:DE Z X a ta)(g:DE Z X b tb)(h:behindInMarks d b=false):DE Z X (.Compare a [d] [b] pos) (JH r ta tb):=(Lf e f g h).imp Bh
def Ep(t:bh):eo:=λe P=>t e λd=>∃k,d= .bl k/\P k
theorem z3:∀d H Q,liftT Z (Ep t) d H Q->FY (eC Z t) d H Q:=by
 intro d H Q f;rfl';obtain⟨G,i,P,s,e,h,q⟩:=f;ac_rfl;refine⟨G,i,_,s,e,h,?_⟩;rintro _ ⟨k,rfl,p⟩ v j l m dv;cases dv.GL;exact⟨k,rfl,q k p j l m⟩
theorem bf(f:OpR X (compareOp d) (bW Z r))(g:DE Z X a ta)(i:DE Z X b tb)(j:behindInMarks d b=false):DT Z X (.Compare a [d] [b] pos) (Ep (JH r ta tb)):=
 (Lv f g i j).imp λe H Q h=>by
  obtain h:=z3 e H Q h;exact Bh e H _ h
def AF(r e:gz)(f g h:bh):bh:=λd P=>f d λx=>g d λy=>r x y λz=>∃k,z= .bl k/\(if k=true then h d λi=>e y i P else P (.bl false))
theorem xC:∀f H Q,eC Z (AF r o ta tb tc) f H Q->BQ (bW Z r) (bW Z o) (eC Z ta) (eC Z tb) (eC Z tc) f H Q:=by
 intro f H Q y;rfl';obtain⟨G,g,P,s,e,h,q⟩:=y;ac_rfl;refine⟨G,g,_,s,e,h,λa A v B Y i dv=>?_⟩;refine⟨B,g,_,i.sub,e.mono i.gg,A,λb C u E X j p=>?_⟩;refine⟨E,a,b,_,j.sub,dv.mono j.gg,p,C,?_⟩;rintro _ ⟨k,rfl,t⟩ v' w F l I;cases I.GL;refine⟨k,rfl,?_⟩;have x:=(i.trans j).trans l;cases k with
 |false=>exact ck (q _ t _ w F x (.bl false))
 |true=>
  refine dJ ⟨w,g,_,l.sub,e.mono x.gg,t,λc J w' L H4 m M=>?_⟩;exact⟨L,b,c,P,m.sub,(p.mono l.gg).mono m.gg,M,J,λd N n O R S T=>q d N n O R ((x.trans m).trans S) T⟩
theorem HB(g:OpR X (compareOp d) (bW Z r))(h:OpR X (compareOp e) (bW Z f))(i:DE Z X a ta)(j:DE Z X b tb)(k:DE Z X c tc)
  (l:lastMarks [d,e] [b,c]=false:=by with_unfolding_all rfl):DE Z X (.Compare a [d,e] [b,c] pos) (AF r f ta tb tc):=(Iw g h i j k l).imp xC
theorem HK(i:OpR X (compareOp d) (bW Z r))(j:OpR X (compareOp e) (bW Z f))(k:DE Z X a ta)(l:DE Z X b tb)(m:DE Z X c tc)
  (n:lastMarks [d,e] [b,c]=false:=by with_unfolding_all rfl):DT Z X (.Compare a [d,e] [b,c] pos) (Ep (AF r f ta tb tc)):=
 (ID i j k l m n).imp λg H Q h=>by
  obtain h:=z3 g H Q h;exact xC g H _ h
def Aj:D->Bool
 | .bA=>false
 | .bl b=>b
 | .int i=>i !=0
 | .str x=>x.length !=0
 | .lst l=>!l.isEmpty
 | .tup l=>!l.isEmpty
 | .qa l=>!l.isEmpty
 | .rng lo d=>decide (lo<d)
 | .obj _=>true
 | .dY _=>true
 | .set _ l=>!l.isEmpty
 | .x _=>true
 | .err _ _ _=>true
def Wu:D->Bool
 | .bl _=>true
 | .int _=>true
 | .lst _=>true
 | .tup _=>true
 | .bA=>true
 |_=>false
def UX(t:bh):eo:=λe P=>t e λd=>Wu d=true/\P (Aj d)
theorem ve(h:DvAll Z G d e):d.isEmpty=e.isEmpty:=by cases h<;>rfl
theorem dG(ha:DE Z X a ta)(he:∀whole,isTrue a X.env whole=(do let v <-whole;standAt a.pos;holding [v] (truthy v)):=by intro _;rfl):DT Z X a (UX ta):=by
 refine(IE ha he).imp ?_;intro σ H Q aO;rfl';obtain⟨G,ρ,P,s,e,h,q⟩:=aO;ac_rfl;refine⟨G,ρ,_,s,e,h,?_⟩;rintro d ⟨hd,p⟩ v G1 H1 x1 dv;refine⟨Aj d,?_,q _ p G1 H1 x1⟩;cases dv with
 |bA=>rfl
 |bl b=>rfl
 |int i=>rfl
 |lst h a=>exact .inl ⟨_,cM.of (x1.sub _ _ h),by rw[ve a];rfl⟩
 |tup h a=>exact .inr (.inl ⟨_,gO.of (x1.sub _ _ h),by rw[ve a];rfl⟩)
 |_=>cases hd
def UB(t u:eo):eo:=λd P=>t d λc=>if c=true then u d P else P false
def dOr(t u:eo):eo:=λd P=>t d λc=>if c=true then P true else u d P
def UQ(t:eo):eo:=λd P=>t d λc=>P (!c)
variable {tA BP:eo} {rest:List Expr}
def DW(Z:DC)(X:Cx)(e:Expr)(t:eo):Prop:=PW X e (liftT Z t)
theorem DW.dt(h:DW Z X e t):DT Z X e t:=PW.pt h
theorem oP(d:DT Z X a tA):DW Z X (.BoolOp .And [a] pos) tA:=Lz d
theorem jq(d:DT Z X a tA):DW Z X (.BoolOp .Or [a] pos) tA:=N3 d
theorem sN(k:DT Z X a tA)(f:DW Z X (.BoolOp .And (b::rest) pos) BP):DW Z X (.BoolOp .And (a::b::rest) pos) (UB tA BP):=by
 refine(N2 k f).imp ?_;intro t H Q l;rfl';obtain⟨G,g,P,s,e,h,q⟩:=l;ac_rfl;refine⟨G,g,_,s,e,h,λc i j n d=>?_⟩;cases c with
 |true=>exact dJ ⟨j,g,P,d.sub,e.mono d.gg,i,λb f o p r=>q b f o p (d.trans r)⟩
 |false=>exact ck (q _ i j n d)
theorem mV(k:DT Z X a tA)(f:DW Z X (.BoolOp .Or (b::rest) pos) BP):DW Z X (.BoolOp .Or (a::b::rest) pos) (dOr tA BP):=by
 refine(R6 k f).imp ?_;intro t H Q l;rfl';obtain⟨G,g,P,s,e,h,q⟩:=l;ac_rfl;refine⟨G,g,_,s,e,h,λc i j n d=>?_⟩;cases c with
 |false=>exact ck ⟨j,g,P,d.sub,e.mono d.gg,i,λb f o p r=>q b f o p (d.trans r)⟩
 |true=>exact dJ (q _ i j n d)
theorem eQ(d:DT Z X a tA):DT Z X (.UnaryOp .Not a pos) (UQ tA):=by
 refine(N0 d).imp ?_;rintro l H Q ⟨G,f,P,s,e,h,q⟩;exact⟨G,f,_,s,e,h,λc g i j k=>q _ g i j k⟩
def Qy(e f:bh):bh:=λd P=>e d λx=>∃c,x= .bl c/\if c=true then f d P else P (.bl false)
def QE(d:bh):bh:=λe P=>d e λx=>∃c,x= .bl c/\P (.bl (!c))
theorem v9{op}(h:DE Z X a ta):DE Z X (.BoolOp op [a] pos) ta:=NU h
theorem mT(k:DE Z X a ta)(f:DE Z X (.BoolOp .And (b::rest) pos) tb):DE Z X (.BoolOp .And (a::b::rest) pos) (Qy ta tb):=by
 refine(NK k f).imp ?_;intro u H Q l;rfl';obtain⟨G,g,P,s,e,h,q⟩:=l;ac_rfl;refine⟨G,g,_,s,e,h,?_⟩;rintro _ ⟨c,rfl,i⟩ v j n d dv;cases dv.GL;refine⟨c,rfl,?_⟩;cases c with
 |true=>exact dJ ⟨j,g,P,d.sub,e.mono d.gg,i,λb f v o p r t=>q b f v o p (d.trans r) t⟩
 |false=>exact ck (q _ i _ j n d (.bl false))
theorem Gm(d:DE Z X a ta):DE Z X (.UnaryOp .Not a pos) (QE ta):=by
 refine(NT d).imp ?_;intro n H Q f;rfl';obtain⟨G,i,P,s,e,h,q⟩:=f;ac_rfl;refine⟨G,i,_,s,e,h,?_⟩;rintro _ ⟨c,rfl,j⟩ v k l m dv;cases dv.GL;exact⟨c,rfl,q _ j _ k l m (.bl _)⟩
def wN:iH:=λ_ P=>P []
def Qz(e:bh)(t:iH):iH:=λd P=>e d λx=>t d λf=>P (x::f)
variable {es:List Expr} {t:iH} {e:Expr}
theorem ag:DA Z X [] wN:=by
 refine g6.imp λg H Q d=>?_;rfl';obtain⟨G,i,P,s,e,p,q⟩:=d;ac_rfl;exact q _ p _ G H (.refl s) .nil
theorem ab(d:DE Z X e ta)(j:DA Z X es t)(k:starEach (e::es) X.env=(false,eval e X.env)::starEach es X.env:=by rfl):DA Z X (e::es) (Qz ta t):=by
 refine(eZ d j k).imp ?_;intro w H Q l;rfl';obtain⟨G,g,P,s,e,h,q⟩:=l;ac_rfl;refine⟨G,g,_,s,e,h,λa d v n y f dv=>?_⟩;exact⟨n,g,_,f.sub,e.mono f.gg,d,λz o A p r i u=>q _ o _ p r (f.trans i) (.cons (dv.mono i.gg) u)⟩
def UY(t:iH):bh:=λf P=>t f λd=>d.length<=sizeLine/\P (.tup d)
def UN(t:iH):bh:=λf P=>t f λd=>d.length<=sizeLine/\P (.lst d)
theorem e9{d}(h:DA Z X es t):DE Z X (.Tuple es d pos) (UY t):=by
 refine(NW h).imp ?_;intro n H Q i;rfl';obtain⟨G,k,P,s,e,h,q⟩:=i;ac_rfl;refine⟨G,k,_,s,e,h,?_⟩;rintro r ⟨l,m⟩ u v w d f;exact⟨by rw[f.length];exact l,λp g=>q _ m _ _ _ (d.trans (.new d.sub g)) (.tup aB (f.mono (aY (d.sub.free g) _)))⟩
theorem dS(h:DA Z X es t):DE Z X (.List es pos) (UN t):=by
 refine(GP h).imp ?_;intro n H Q i;rfl';obtain⟨G,k,P,s,e,h,q⟩:=i;ac_rfl;refine⟨G,k,_,s,e,h,?_⟩;rintro r ⟨l,m⟩ u v w d f;exact⟨by rw[f.length];exact l,λp g=>q _ m _ _ _ (d.trans (.new d.sub g)) (.lst aB (f.mono (aY (d.sub.free g) _)))⟩
def wL(r:List D->(D->Prop)->Prop)(t:iH):bh:=λd P=>t d λf=>r f P
theorem uw:∀f H Q,eC Z (wL r t) f H Q->E9 Z t f H λg i=>kY Z r g i Q:=by
 intro f H Q k;rfl';obtain⟨G,m,P,s,e,h,q⟩:=k;ac_rfl;exact⟨G,m,_,s,e,h,λn o g p i j u=>⟨p,n,P,j.sub,u,o,λd w v x y z dv=>q d w v x y (j.trans z) dv⟩⟩
theorem JN(F:FnOk X.prog X.w X.K X.mg X.base cq k f g i (aR Z d))(m:cU k X.A)(n:Gl X x)(o:X.mg x=some (.ref f))(r:ai X.K (.ref f)=true)(u:Binds X.K g i [])
  (v:DA Z X (e::es) t) (y:(x==("__debug__":Str))=false:=by decide) (z:starEach (e::es) X.env=(false,eval e X.env)::starEach es X.env:=by rfl) (B:(backTo pos (starEach es X.env)).any (·.1)=false:=by rfl):
  DE Z X (.Call (.Name x p) (e::es) [] pos) (wL d t):=
 (Dg F m n o r u .nil uD v y z B).imp λC H Q h=>by
  rfl';have h:=uw C H Q h;obtain⟨G,I,P,s,e,h,q⟩:=h;ac_rfl;exact⟨G,I,P,s,e,h,λJ L j M l N O=>by show aR Z d (j++ []) l Q E0;rw[j7];exact q J L j M l N O⟩
theorem az{id:String}{x:Str}{p:Pos}{r:List D->(D->Prop)->Prop}(d:dZ X (.builtin id) (kY Z r))(f:Gl X x)(g:X.mg x=none)(h:bootBuiltins x=some (.builtin id))(i:DA Z X (e::es) t)(j:x≠"__name__":=by decide)(k:(x==("__debug__":Str))=false:=by decide)
  (l:starEach (e::es) X.env=(false,eval e X.env)::starEach es X.env:=by rfl) (m:(backTo pos (starEach es X.env)).any (·.1)=false:=by rfl):
  DE Z X (.Call (.Name x p) (e::es) [] pos) (wL r t):=(qx d f g h i j k l m).imp uw
theorem gD(d:dZ X (.type T) (kY Z r))(f:Gl X x)(g:X.mg x=none)(h:bootBuiltins x=some (.type T))(i:DA Z X (e::es) t)(j:x≠"__name__":=by decide)(k:(x==("__debug__":Str))=false:=by decide)
  (l:starEach (e::es) X.env=(false,eval e X.env)::starEach es X.env:=by rfl) (m:(backTo pos (starEach es X.env)).any (·.1)=false:=by rfl):
  DE Z X (.Call (.Name x p) (e::es) [] pos) (wL r t):=(Fz d f g h i j k l m).imp uw
end
end L2
namespace L2
open PySem PySem.Spec PyProof.Rows
section
variable {Z:DC} {X:Cx}
def O4:gz:=λx y P=>match x,y with
 | .int i, .int j=>P (.int (i+j))
 | .lst a, .lst b=>a.length+b.length<=sizeLine/\P (.lst (a++b))
 | .tup a, .tup b=>a≠ []/\a.length+b.length<=sizeLine/\b≠ []/\P (.tup (a++b))
 |_,_=>False
def dI(c:Int->Int->Prop)(g:Int->Int->Int):gz:=λx y P=>match x,y with
 | .int i, .int j=>c i j/\P (.int (g i j))
 |_,_=>False
def QA(g:Int->Int->Int):gz:=λx y P=>match x,y with
 | .int i, .int j=>P (.int (g i j))
 |_,_=>False
def UW:gz:=QA λi j=>i-j
def O8:gz:=λx y P=>match x,y with
 | .int i, .int j=>Gg i j/\P (.int (i*j))
 | .lst a, .int k=> -(2^63)<=k/\k<2^63/\a.length*k.toNat<=sizeLine/\P (.lst (bi k.toNat a).flatten)
 |_,_=>False
def UE:gz:=dI OB λi j=>i / j
def UO:gz:=dI (λ_ j=>0<j) λi j=>i%j
def UT:gz:=dI OC λi j=>i^j.toNat
theorem Bi(h:OpR X f (rI c λi j=> .int (g i j))):OpR X f (bW Z (dI c g)):=by
 refine h.imp ?_;intro x y H Q e;rfl';obtain⟨G,a,b,P,s,l,m,d,q⟩:=e;ac_rfl;unfold dI at d
 split at d
 ·exact⟨_,_,l.ofInt,m.ofInt,d.1,q _ d.2 _ G H (.refl s) (.int _)⟩
 ·exact d.elim
theorem Nh(h:OpR X f (BG λi j=> .int (g i j))):OpR X f (bW Z (QA g)):=by
 refine h.imp ?_;intro x y H Q d;rfl';obtain⟨G,a,b,P,s,k,l,c,q⟩:=d;ac_rfl;unfold QA at c
 split at c
 ·exact⟨_,_,k.ofInt,l.ofInt,q _ c _ G H (.refl s) (.int _)⟩
 ·exact c.elim
theorem iF:OpR X (binaryOp .Sub) (bW Z UW):=Nh NJ
theorem fW:OpR X (binaryOp .FloorDiv) (bW Z UE):=Bi Lb
theorem cP:OpR X (binaryOp .Mod) (bW Z UO):=Bi ND
theorem GK:OpR X (binaryOp .Pow) (bW Z UT):=Bi NH
theorem bH(e:X.K=Z.K:=by rfl):OpR X (binaryOp .Add) (bW Z O4):=by
 refine(Ny.or (BC.or (La))).imp ?_;rintro x y H Q ⟨G,a,b,P,s,h,i,c,q⟩;unfold O4 at c
 split at c
 ·exact .inl ⟨_,_,h.ofInt,i.ofInt,q _ c _ G H (.refl s) (.int _)⟩
 ·obtain⟨o,r,rfl,j,d⟩:=h.iw
  obtain⟨t,u,rfl,k,f⟩:=i.iw;obtain⟨l,m⟩:=c;refine .inr (.inl ⟨_,_,_,_,rfl,rfl,s _ _ j,s _ _ k,by rw[d.length,f.length];exact l,λp g=>?_⟩)
  exact q _ m _ _ _ (.new s g) (.lst aB ((d.append f).mono (aY (s.free g) _)))
 ·obtain⟨o,r,rfl,j,d⟩:=h.uA
  obtain⟨t,u,rfl,k,f⟩:=i.uA;obtain⟨v,l,n,m⟩:=c;refine .inr (.inr ⟨_,_,_,_,rfl,rfl,gO.of (s _ _ j),gO.of (s _ _ k),?_,by rw[d.length,f.length];exact l,?_⟩)
  ·rintro rfl;cases d;exact v rfl
  ·refine⟨?_,λ_ p g=>q _ m _ _ _ (.new s g) (.tup aB ((d.append f).mono (aY (s.free g) _)))⟩
   rintro rfl;cases f;exact(n rfl).elim
 ·exact c.elim
theorem DvAll.rep(h:DvAll Z G a b):∀k:Nat,DvAll Z G (bi k a).flatten (bi k b).flatten
 |0=> .nil
 |k+1=>by rw[yZ,yZ,t7,t7];exact h.append (DvAll.rep h k)
theorem Bv:OpR X (binaryOp .Mult) (bW Z O8):=by
 refine(NF.or NI).imp ?_;intro x y H Q h;rfl';obtain⟨G,a,b,P,s,d,e,c,q⟩:=h;ac_rfl;unfold O8 at c
 split at c
 ·exact .inl ⟨_,_,d.ofInt,e.ofInt,c.1,q _ c.2 _ G H (.refl s) (.int _)⟩
 ·obtain⟨r,t,rfl,j,f⟩:=d.iw
  obtain⟨k,l,m,n⟩:=c;refine .inr ⟨_,_,_,rfl,e.ofInt,s _ _ j,k,l,by rw[f.length];exact m,λp g=>?_⟩
  exact q _ n _ _ _ (.new s g) (.lst aB ((f.rep _).mono (aY (s.free g) _)))
 ·exact c.elim
mutual
def D.py:D->Option PyData
 | .bA=>some .none
 | .bl b=>some (.bool b)
 | .int i=>some (.int i)
 | .str x=>some (.str x)
 | .lst l=>(dA l).map PyData.list
 | .tup l=>(dA l).map PyData.tuple
 | .qa _=>none
 | .rng _ _=>none
 | .obj _=>none
 | .dY _=>none
 | .set _ _=>none
 | .x _=>none
 | .err _ _ _=>none
def dA:List D->Option (List PyData)
 | []=>some []
 |d::ds=>(D.py d).bind λa=>(dA ds).map λas=>a::as
end
theorem Dv.dp{K:ac}{G:Hp}{v:V}{d:D}(h:Dv Z G v d):∀{e:PyData},d.py=some e->Dp K G v e:=by
 refine Dv.rec (motive_1:=λv d _=>∀{e:PyData},d.py=some e->Dp K G v e) (motive_2:=λn f _=>∀{g:List PyData},dA f=some g->DpAll K G n g) ?_ ?_ ?_ ?_ ?_ ?_ ?_ ?_ ?_ ?_ ?_ ?_ ?_ ?_ ?_ h
 ·intro e h;rw[D.py] at h;cases h;exact .bA
 ·intro b e h;rw[D.py] at h;cases h;exact .bl b
 ·intro i e h;rw[D.py] at h;cases h;exact .int i
 ·intro x k e h;rw[D.py] at h;cases h;exact .str x k
 ·intro a o f q _ j e h
  rw[D.py] at h;cases c:dA f with
  |none=>rw[c] at h;cases h
  |some l=>rw[c] at h;cases h;exact .lst (cM.of q) (j c)
 ·intro a o f q _ j e h
  rw[D.py] at h;cases c:dA f with
  |none=>rw[c] at h;cases h
  |some l=>rw[c] at h;cases h;exact .tup (gO.of q) (j c)
 ·intro a e h;simp[D.py] at h
 ·intro a lo u _ e h;simp[D.py] at h
 ·intro a r _ _ e h;simp[D.py] at h
 ·intro p z R w _ _ _ _ _ _ e h;simp[D.py] at h
 ·intro a b r _ e h;simp[D.py] at h
 ·intro a A k _ _ e h;simp[D.py] at h
 ·intro a C B E o f _ _ _ _ e h;simp[D.py] at h
 ·intro g h;rw[dA] at h;cases h;exact .nil
 ·intro v n d f _ _ s t g h
  rw[dA] at h;cases c:d.py with
  |none=>rw[c] at h;cases h
  |some x=>
   rw[c] at h;cases m:dA f with
   |none=>rw[m] at h;cases h
   |some y=>rw[m] at h;cases h;exact .cons (s c) (t m)
theorem DvAll.dp{K:ac}{G:Hp}{e:List V}{c:List D}(h:DvAll Z G e c):∀{b:List PyData},dA c=some b->DpAll K G e b:=by
 refine h.ind (p:=λe c=>∀{b:List PyData},dA c=some b->DpAll K G e b) ?_ ?_
 ·intro b h;rw[dA] at h;cases h;exact .nil
 ·intro v e d c a _ i b h
  rw[dA] at h;cases f:d.py with
  |none=>rw[f] at h;cases h
  |some x=>
   rw[f] at h;cases g:dA c with
   |none=>rw[g] at h;cases h
   |some y=>rw[g] at h;cases h;exact .cons (a.dp f) (i g)
theorem gO.mono{K:ac}{H b:Hp}(s:aP H b)(h:gO K H a c):gO K b a c:=by
 rcases h with (h| ⟨o,h⟩) |h
 ·exact .inl (.inl (s _ _ h))
 ·exact .inl (.inr ⟨o,s _ _ h⟩)
 ·exact .inr h
theorem Dp.mono{K:ac}{G H:Hp}(s:aP G H)(h:Dp K G v d):Dp K H v d:=
 Dp.rec (motive_1:=λv d _=>Dp K H v d) (motive_2:=λc e _=>DpAll K H c e) .bA .bl .int .str (λh _ a=> .lst (h.mono s) a) (λh _ a=> .tup (h.mono s) a) .nil (λ_ _ a b=> .cons a b) h
theorem DpAll.mono{K:ac}{G H:Hp}(s:aP G H)(h:DpAll K G c e):DpAll K H c e:=
 DpAll.rec (motive_1:=λv d _=>Dp K H v d) (motive_2:=λc e _=>DpAll K H c e) .bA .bl .int .str (λh _ a=> .lst (h.mono s) a) (λh _ a=> .tup (h.mono s) a) .nil (λ_ _ a b=> .cons a b) h
def O5(neg:Bool):gz:=λx y P=>∃a b,x.py=some a/\y.py=some b/\a.depth<=64/\P (.bl (if neg then !PyData.eqv a b else PyData.eqv a b))
abbrev Hx:gz:=O5 false
abbrev Hz:gz:=O5 true
theorem lg(e:X.A.units+64<cLine):OpR X (compareOp .Eq) (bW Z Hx):=by
 refine(Nz e).imp ?_;intro x y H Q f;rfl';obtain⟨G,a,b,P,s,h,i,⟨c,d,j,k,l,m⟩,q⟩:=f;ac_rfl;exact⟨c,d,(h.dp j).mono s,(i.dp k).mono s,l,q _ m _ G H (.refl s) (.bl _)⟩
theorem uz(e:X.A.units+64<cLine):OpR X (compareOp .NotEq) (bW Z Hz):=by
 refine(NG e).imp ?_;intro x y H Q f;rfl';obtain⟨G,a,b,P,s,h,i,⟨c,d,j,k,l,m⟩,q⟩:=f;ac_rfl;exact⟨c,d,(h.dp j).mono s,(i.dp k).mono s,l,q _ m _ G H (.refl s) (.bl _)⟩
theorem wM(h:P (.bl (decide (i=j)))):Hx (.int i) (.int j) P:=⟨.int i, .int j,rfl,rfl,by simp[PyData.depth],by
 have:PyData.eqv (.int i) (.int j)=decide (i=j):=by
  rw[PyData.eqv]
  by_cases z:i=j<;>simp[z]
 simpa [this] using h⟩
def Cv(p:Int->Int->Bool):gz:=λx y P=>match x,y with
 | .int i, .int j=>P (.bl (p i j))
 |_,_=>False
theorem xD(h:OpR X f (BG λi j=> .bl (p i j))):OpR X f (bW Z (Cv p)):=by
 refine h.imp ?_;intro x y H Q d;rfl';obtain⟨G,a,b,P,s,g,k,c,q⟩:=d;ac_rfl;unfold Cv at c
 split at c
 ·exact⟨_,_,g.ofInt,k.ofInt,q _ c _ G H (.refl s) (.bl _)⟩
 ·exact c.elim
end
end L2
namespace L2
open PySem PySem.Spec PyProof.Rows
section
variable {Z:DC} {X:Cx}
abbrev dLt:gz:=Cv λi j=>decide (i<j)
abbrev dLe:gz:=Cv λi j=>decide (i<=j)
abbrev dGt:gz:=Cv λi j=>decide (j<i)
theorem Bu:OpR X (compareOp .Lt) (bW Z dLt):=xD RV
theorem Fp:OpR X (compareOp .LtE) (bW Z dLe):=xD RU
theorem Br:OpR X (compareOp .Gt) (bW Z dGt):=xD RT
def EY:D->Bool
 | .bA=>true
 |_=>false
def O7(neg:Bool):gz:=λx y P=>match y with
 | .bA=>P (.bl (if neg then !EY x else EY x))
 |_=>False
theorem zV(h:Dv Z G v d):decide (v= .bA)=EY d:=by cases h<;>rfl
theorem Bt:OpR X (compareOp .Is) (bW Z (O7 false)):=by
 refine NB.imp ?_;rintro x y H Q ⟨G,a,b,P,s,d,e,c,q⟩;cases e<;>first|exact c.elim|skip
 exact⟨rfl,by rw[zV d];exact q _ c _ G H (.refl s) (.bl _)⟩
theorem Ir:OpR X (compareOp .IsNot) (bW Z (O7 true)):=by
 refine Lc.imp ?_;rintro x y H Q ⟨G,a,b,P,s,d,e,c,q⟩;cases e<;>first|exact c.elim|skip
 exact⟨rfl,by rw[zV d];exact q _ c _ G H (.refl s) (.bl _)⟩
def fv:D->Bool
 | .bA=>true
 | .bl _=>true
 | .int _=>true
 | .str _=>true
 |_=>false
def kv:D->D->Bool
 | .bA, .bA=>true
 | .bl a, .bl b=>a==b
 | .bl a, .int b=>(if a then 1 else 0)==b
 | .int a, .bl b=>a==(if b then 1 else 0)
 | .int a, .int b=>a==b
 | .str a, .str b=>a==b
 |_,_=>false
def inD(x:D)(l:List D):Bool:=l.any λy=>kv y x
theorem sQ(h:Dv Z G v d):gX v=fv d:=by cases h<;>rfl
theorem oT(h:DvAll Z G b c):b.all gX=c.all fv:=h.ind (p:=λb c=>b.all gX=c.all fv) rfl λa _ e=>by rw[aa2,aa2,sQ a,e]
theorem AN(h:Dv Z G v d)(k:Dv Z G u e):wX v u=kv d e:=by cases h<;>first|rfl| (cases k<;>rfl)
theorem EV(h:Dv Z G v d):∀{b:List V}{c:List D},DvAll Z G b c->M3 v b=inD d c
 |_,_, .nil=>rfl
 |_,_, .cons a e=>by
  unfold M3 inD;rw[uW,uW,AN a h];exact Gc _ (EV h e)
def My(neg:Bool):gz:=λx y P=>match y with
 | .lst l=>fv x=true/\l.all fv=true/\P (.bl (if neg then !inD x l else inD x l))
 | .tup l=>fv x=true/\l.all fv=true/\P (.bl (if neg then !inD x l else inD x l))
 |_=>False
theorem LF:∀x y H Q,bW Z (My neg) x y H Q->Sd X.K neg x y H Q:=by
 rintro x y H Q ⟨G,a,b,P,s,c,k,d,q⟩;cases k<;>first|exact d.elim|skip
 ·rename_i p f l h e
  obtain⟨g,i,j⟩:=d;refine⟨p,f,rfl, .inl (cM.of (s _ _ h)),by rw[sQ c];exact g,by rw[oT e];exact i,?_⟩
  rw[EV c e];exact q _ j _ G H (.refl s) (.bl _)
 ·rename_i p f l h e
  obtain⟨g,i,j⟩:=d;refine⟨p,f,rfl, .inr (gO.of (s _ _ h)),by rw[sQ c];exact g,by rw[oT e];exact i,?_⟩
  rw[EV c e];exact q _ j _ G H (.refl s) (.bl _)
theorem xJ:OpR X (compareOp .In) (bW Z (My false)):=Fv.imp LF
theorem me:OpR X (compareOp .NotIn) (bW Z (My true)):=zt.imp LF
def UM:gz:=λx y P=>match x,y with
 | .lst l, .int i=>∃d,gn l i=some d/\P d
 | .tup l, .int i=>∃d,gn l i=some d/\P d
 | .qa l, .int i=>∃n,gn l i=some n/\P (.int n)
 |_,_=>False
theorem Gi(h:DvAll Z G b a)(e:gn a i=some d):∃v,gn b i=some v/\Dv Z G v d:=by
 unfold gn at e ⊢;rw[h.length];cases z:rK a.length i with
 |none=>rw[z] at e;cases e
 |some j=>rw[z] at e;exact h.get e
theorem Js(f:a->b)(l:List a)(i:Int):gn (l.map f) i=(gn l i).map f:=by
 unfold gn;rw[aD];cases rK l.length i with
 |none=>rfl
 |some j=>show(l.map f)[j]? =_;rw[dF];rfl
variable {a b c e:Expr} {ta tb tc te:bh} {pos:Pos}
theorem br(p:DE Z X a ta)(r:DE Z X b tb)(t:X.K=Z.K:=by rfl)(u:Cd b:=by exact λ_ _=>rfl):DE Z X (.Subscript a b pos) (JH UM ta tb):=by
 refine(R0 (KD.or M4) p r u).imp λw H Q h=>?_;rfl';obtain⟨G,x,P,s,e,h,q⟩:=Bh w H Q h;ac_rfl;refine⟨G,x,P,s,e,h,λd y v z A B dv=>?_⟩;rfl';obtain⟨C,E,F,I,J,L,M⟩:=q d y v z A B dv;ac_rfl;refine⟨C,E,F,I,J,L,λN k O R S T U=>?_⟩;obtain⟨G,a,b,P,s,l,m,f,q⟩:=M N k O R S T U;unfold UM at f
 split at f
 ·obtain⟨d,i,j⟩:=f
  obtain⟨_,_,rfl,h,e⟩:=l.iw;obtain⟨v,n,dv⟩:=Gi e i;exact .inl ⟨_,_,_,v,rfl,m.ofInt,cM.of (s _ _ h),n,q _ j _ G _ (.refl s) dv⟩
 ·obtain⟨d,i,j⟩:=f
  obtain⟨_,_,rfl,h,e⟩:=l.uA;obtain⟨v,n,dv⟩:=Gi e i;exact .inr ⟨_,_,_,v,rfl,m.ofInt,gO.of (s _ _ h),n,q _ j _ G _ (.refl s) dv⟩
 rotate_left
 ·exact f.elim
 ·obtain⟨d,i,j⟩:=f
  rfl';obtain⟨_,rfl,h,_⟩:=l.K6;ac_rfl;refine .inl ⟨_,_,_, .int d,rfl,m.ofInt,by rw[t];exact h.mono s,by rw[Js,i];rfl,q _ j _ G _ (.refl s) (.int d)⟩
def cutD{f:Type}(d:List f)(lo g:Option Int):List f:=(d.drop (HT.bU d.length 0 lo)).take (HT.bU d.length d.length g-HT.bU d.length 0 lo)
theorem AE(h:DvAll Z G d f)(lo g:Option Int):DvAll Z G (u5 d lo g) (cutD f lo g):=by
 unfold u5 cutD;rw[h.length];exact(h.drop _).take _
theorem zE(f:d->h)(l:List d)(lo g:Option Int):cutD (l.map f) lo g=(cutD l lo g).map f:=by
 unfold cutD;rw[aD,jk,j8]
abbrev Cb:=DN->(Option Int->Prop)->Prop
def JG:Cb:=λ_ P=>P none
def QF(t:bh):Cb:=λf P=>t f λd=>match d with
 | .int i=>P (some i)
 |_=>False
def RL(Z:DC)(t:Cb):TO:=λg H Q=>∃(G:Hp)(d:DN)(P:Option Int->Prop),aP G H/\dR Z G g d/\t d P/\∀o,P o->∀h f,Ext G H h f->Q o f
def DO(Z:DC)(X:Cx)(e:Option Expr)(t:Cb):Prop:=PO X e (RL Z t)
theorem PO.imp{e:Option Expr}(h:PO X e t)(f:∀g H Q,i g H Q->t g H Q):PO X e i:=λd s g H Q I q=>h d s g H Q I (f _ _ _ q)
theorem bE:DO Z X none JG:=by
 refine Lp.imp λg H Q d=>?_;rfl';obtain⟨G,i,P,s,e,p,q⟩:=d;ac_rfl;exact q _ p G H (.refl s)
theorem bo(h:DE Z X e te):DO Z X (some e) (QF te):=by
 refine(Lq h).imp ?_;intro n H Q g;rfl';obtain⟨G,j,P,s,e,h,q⟩:=g;ac_rfl;refine⟨G,j,_,s,e,h,λd f v k l m dv=>?_⟩;cases dv<;>first|exact f.elim|skip
 exact⟨_,rfl,q _ f k l m⟩
def dSl(g:bh)(h i:Cb):bh:=λf P=>g f λx=>h f λlo=>i f λd=>match x with
 | .lst l=>P (.lst (cutD l lo d))
 | .tup l=>¬(HT.bU l.length 0 lo=0/\HT.bU l.length l.length d=l.length)/\P (.tup (cutD l lo d))
 | .qa l=>P (.lst ((cutD l lo d).map D.int))
 |_=>False
variable {lo hi:Option Expr} {tl th:Cb} {p2:Pos}
theorem ba(r:DE Z X e te)(m:DO Z X lo tl)(g:DO Z X hi th)(t:X.K=Z.K:=by rfl):DE Z X (.Subscript e (.Slice lo hi none p2) pos) (dSl te tl th):=by
 refine(Aa (DB.or Oc) r m g).imp ?_;intro C H Q w;rfl';obtain⟨G,n,P,s,o,h,q⟩:=w;ac_rfl;refine⟨G,n,_,s,o,h,λd z v A F j dv=>?_⟩;refine⟨A,n,_,j.sub,o.mono j.gg,z,λl m B I k=>?_⟩;refine⟨B,n,_,k.sub,(o.mono j.gg).mono k.gg,m,λu g J L f=>?_⟩;have x:=(j.trans k).trans f;have dv:=(dv.mono k.gg).mono f.gg;cases dv<;>first|exact g.elim|skip
 ·rename_i h e
  exact .inl ⟨_,_,rfl,cM.of (f.sub _ _ h),λp i=>q _ g _ _ _ (x.trans (.new f.sub i)) (.lst aB ((AE e l u).mono (aY (f.sub.free i) _)))⟩
 ·rename_i h e
  refine .inr ⟨_,_,rfl,gO.of (f.sub _ _ h),by rw[e.length];exact g.1,λp i=>q _ g.2 _ _ _ (x.trans (.new f.sub i)) (.tup aB ((AE e l u).mono (aY (f.sub.free i) _)))⟩
 ·rename_i h _
  refine .inl ⟨_,_,rfl,by rw[t];exact h.mono f.sub,λp i=>q _ g _ _ _ (x.trans (.new f.sub i)) (.lst aB ?_)⟩
  show DvAll Z _ (cutD _ l u) _;rw[zE];exact .ints _
def Ck:cK:=λd P=>match d with
 | [.lst l]=>P (.int l.length)
 | [.tup l]=>P (.int l.length)
 | [.qa l]=>P (.int l.length)
 |_=>False
theorem aX(f:X.K=Z.K:=by rfl):dZ X (.builtin "len") (kY Z Ck):=by
 refine zb.imp ?_;rintro g H Q ⟨G,i,P,s,dv,d,q⟩;unfold Ck at d
 split at d
 ·obtain⟨_,rfl,a⟩:=dv.ofOne
  obtain⟨_,_,rfl,h,e⟩:=a.iw;exact⟨_,_,rfl, .inl (cM.of (s _ _ h)),by rw[e.length];exact q _ d _ G H (.refl s) (.int _)⟩
 ·obtain⟨_,rfl,a⟩:=dv.ofOne
  obtain⟨_,_,rfl,h,e⟩:=a.uA;exact⟨_,_,rfl, .inr (gO.of (s _ _ h)),by rw[e.length];exact q _ d _ G H (.refl s) (.int _)⟩
 ·obtain⟨_,rfl,a⟩:=dv.ofOne
  obtain⟨_,rfl,h,_⟩:=a.K6;exact⟨_,_,rfl, .inl (by rw[f];exact h.mono s),by rw[aD];exact q _ d _ G H (.refl s) (.int _)⟩
 ·exact d.elim
def Ju:cK:=λd P=>match d with
 | [.lst l]=>P (.lst l)
 | [.tup l]=>P (.lst l)
 |_=>False
theorem jG:dZ X (.type "list") (kY Z Ju):=by
 refine zc.imp ?_;rintro g H Q ⟨G,i,P,s,dv,d,q⟩;unfold Ju at d
 split at d
 ·obtain⟨_,rfl,a⟩:=dv.ofOne
  obtain⟨_,_,rfl,h,e⟩:=a.iw;exact⟨_,_,rfl, .inl (cM.of (s _ _ h)),λp f=>q _ d _ _ _ (.new s f) (.lst aB (e.mono (aY (s.free f) _)))⟩
 ·obtain⟨_,rfl,a⟩:=dv.ofOne
  obtain⟨_,_,rfl,h,e⟩:=a.uA;exact⟨_,_,rfl, .inr (gO.of (s _ _ h)),λp f=>q _ d _ _ _ (.new s f) (.lst aB (e.mono (aY (s.free f) _)))⟩
 ·exact d.elim
def Ws:String->D->Bool
 |"int", .int _=>true
 |"int", .bl _=>true
 |"bool", .bl _=>true
 |"list", .lst _=>true
 |"tuple", .tup _=>true
 |_,_=>false
def RQ(n:String):Bool:=n=="int"||n=="bool"||n=="list"||n=="tuple"
def Py:D->Bool
 | .bA=>true
 | .bl _=>true
 | .int _=>true
 | .str _=>true
 | .lst _=>true
 | .tup _=>true
 |_=>false
def UL(n:String)(t:bh):bh:=λf P=>t f λd=>Py d=true/\P (.bl (Ws n d))
theorem Nb{K:ac}{H:Hp}{v:V}{d:D}{n:String}(hn:RQ n=true)(hd:Py d=true)(h:Dv Z H v d):∃t,km K H v t/\du K t (.type n)=some (Ws n d):=by
 unfold RQ at hn;rw[Bool.or_eq_true,Bool.or_eq_true,Bool.or_eq_true,beq_iff_eq,beq_iff_eq,beq_iff_eq,beq_iff_eq] at hn;cases h with
 |bA=>refine⟨_, .bA,?_⟩;rcases hn with ((rfl|rfl) |rfl) |rfl<;>kernel_rfl
 |bl b=>refine⟨_, .bl b,?_⟩;rcases hn with ((rfl|rfl) |rfl) |rfl<;>kernel_rfl
 |int b=>refine⟨_, .int b,?_⟩;rcases hn with ((rfl|rfl) |rfl) |rfl<;>kernel_rfl
 |str b=>refine⟨_, .str b,?_⟩;rcases hn with ((rfl|rfl) |rfl) |rfl<;>kernel_rfl
 |lst h a=>refine⟨_, .lst h,?_⟩;rcases hn with ((rfl|rfl) |rfl) |rfl<;>kernel_rfl
 |tup h a=>refine⟨_, .tup h,?_⟩;rcases hn with ((rfl|rfl) |rfl) |rfl<;>kernel_rfl
 |_=>cases hd
end
section
variable {Z:DC} {X:Cx} {a b c e:Expr} {ta tb tc te:bh} {pos:Pos}
theorem mU(n:String)(l:DE Z X a ta)(m:Gl X "isinstance")(o:X.mg "isinstance"=none)(g:Gl X x)(r:X.mg x=none)(u:bootBuiltins x=some (.type n))(ok:RQ n=true:=by decide)
  (w:x≠"__name__":=by decide) (y:(x==("__debug__":Str))=false:=by decide) (i:starEach [a, .Name x f] X.env=(false,eval a X.env)::starEach [.Name x f] X.env:=by rfl)
  (z:(backTo pos (starEach [.Name x f] X.env)).any (·.1)=false:=by rfl) (A:starEach [.Name x f] X.env=(false,eval (.Name x f) X.env)::starEach [] X.env:=by rfl):
  DE Z X (.Call (.Name "isinstance" p) [a, .Name x f] [] pos) (UL n ta):=by
 have B:PE X (.Name x f) (tC (.ty n)):=Le g r u rfl w y;refine(qx AB m o (by decide+kernel) (eZ l (eZ B g6 A) i) (by decide) (by decide) i z).imp ?_
 intro O H Q C;rfl';obtain⟨G,F,P,s,e,h,q⟩:=C;ac_rfl;refine⟨G,F,_,s,e,h,?_⟩;rintro d ⟨I,J⟩ v L j k dv;obtain⟨t,M,N⟩:=Nb (K:=X.K) (H:=j) ok I (dv.mono k.sub);exact⟨v,n,t,_,rfl,M,N,q _ J _ L j k (.bl _)⟩
def pj(Z:DC)(g:eV):TG:=λv j H Q=>∃(G:Hp)(f:DN)(d:D)(P:DN->Prop),aP G H/\dR Z G j f/\Dv Z G v d/\g d f P/\∀h,P h->∀i,dR Z G i h->Q i H
def DG(Z:DC)(X:Cx)(e:Expr)(g:eV):Prop:=PG X e (pj Z g)
theorem PG.imp{e:Expr}(h:PG X e t)(f:∀v g H Q,i v g H Q->t v g H Q):PG X e i:=λd s g H v u Q I r q=>h d s g H v u Q I r (f _ _ _ _ q)
def wa(i:Nat):eV:=λd f P=>P (f.set i (some d))
theorem bK(i:Nat)(f:X.N.Nodup)(g:X.N[i]? =some x:=by rfl)(j:Loc X.env.scope x:=by exact Or.inl rfl)(k:X.fn x=true\/X.env.scope.names.lookup x=some .local:=by first|exact .inl rfl|exact .inr rfl|assumption):DG Z X (.Name x pos) (wa i):=by
 refine(Di f g j k).imp λv n H Q l=>?_;rfl';obtain⟨G,p,d,P,s,e,dv,h,q⟩:=l;ac_rfl;exact q _ h _ (e.set dv)
abbrev nB:=List D->DN->(DN->Prop)->Prop
def Ng(Z:DC)(g:nB):za:=λj k H Q=>∃(G:Hp)(d:DN)(f:List D)(P:DN->Prop),aP G H/\dR Z G k d/\DvAll Z G j f/\g f d P/\∀h,P h->∀i,dR Z G i h->Q i H
def Mn(Z:DC)(X:Cx)(d:List Expr)(g:nB):Prop:=Av X d (Ng Z g)
theorem Av.imp(h:Av X i t)(f:∀v g H Q,j v g H Q->t v g H Q):Av X i j:=λd s g H v u Q I r q=>h d s g H v u Q I r (f _ _ _ _ q)
def JQ:nB:=λd f P=>d= []/\P f
def Gn(g:eV)(f:nB):nB:=λh i P=>match h with
 |d::r=>g d i λj=>f r j P
 | []=>False
theorem sM:Mn Z X [] JQ:=by
 refine Dj.imp λv g H Q d=>?_;rfl';obtain⟨G,j,k,P,s,e,dv,⟨h,p⟩,q⟩:=d;subst h;cases dv;ac_rfl;exact⟨rfl,q _ p _ e⟩
theorem gJ(i:DG Z X e g)(j:Mn Z X d f)(k:(assignEach (e::d) X.env).map (·.2)=assign e X.env::(assignEach d X.env).map (·.2):=by rfl):Mn Z X (e::d) (Gn g f):=by
 refine(Ab i j k).imp ?_;intro v u H Q l;rfl';obtain⟨G,n,x,P,s,e,dv,h,q⟩:=l;ac_rfl;cases dv with
 |nil=>exact h.elim
 |cons a o=>
  refine⟨_,_,rfl,G,n,_,_,s,e,a,h,λp r y t=>?_⟩;exact⟨G,p,_,P,s,t,o,r,q⟩
def JR(n:Nat)(f:nB):eV:=λd g P=>match d with
 | .tup l=>l.length=n/\f l g P
 |_=>False
theorem wb(n:Nat)(i:X.calm=true)(h:Mn Z X f g)(j:(assignEach f X.env).length=n:=by rfl)(l:(assignEach f X.env).findIdx? (·.1)=none:=by rfl):DG Z X (.Tuple f k pos) (JR n g):=by
 refine(GU i h j l).imp ?_;rintro v r H Q ⟨G,m,d,P,s,e,dv,h,q⟩;cases dv<;>first|exact h.elim|skip
 rename_i a o t p f
 exact⟨a,o,rfl,gO.of (s _ _ p),by rw[f.length];exact h.1,G,m,_,P,s,e,f,h.2,q⟩
def wq(Z:DC)(G:Hp)(J:It)(g:List D):Prop:=∀h f,aP G h->aP h f->∀i:Nat,(i<g.length->J.go i f)/\(g.length<=i->J.stop i f)/\
 ∀x j,i<g.length->J.yld i f x j->∃k d,Ext h f k j/\g[i]? =some d/\Dv Z k x d
def rP(Z:DC)(i:iI):TI:=λj H R=>∃(G:Hp)(d:DN)(P:List D->Prop),aP G H/\dR Z G j d/\i d P/\∀f,P f->∀J g h,Ext G H g h->wq Z g J f->R J h
def DI(Z:DC)(X:Cx)(d e:Expr)(f:iI):Prop:=PI X d e (rP Z f)
theorem PI.imp{i e:Expr}(h:PI X i e t)(f:∀g H Q,j g H Q->t g H Q):PI X i e j:=λd s g H Q I q=>h d s g H Q I (f _ _ _ q)
def QK(t:bh):iI:=λf P=>t f λd=>match d with
 | .lst l=>P l
 |_=>False
theorem KA{K:ac}{G:Hp}{a:Addr}{f:List V}{j:List D}(h:G a=some (.lst f))(e:DvAll Z G f j):wq Z G (P0 K a) j:=by
 intro o r k m i;have g:=cM.of (K:=K) (m _ _ (k _ _ h));have l:=e.length;refine⟨λn=>⟨f,f[i],g,bB (by lia)⟩,λn=>⟨f,g,by lia⟩,?_⟩
 rintro x s n ⟨rfl,p⟩;obtain⟨d,q,dv⟩:=e.J9 (p _ g);exact⟨o,d, .refl m,q,dv.mono k⟩
theorem bL(h:DE Z X e te):DI Z X j e (QK te):=by
 refine(Ln h).imp ?_;intro r H Q k;rfl';obtain⟨G,m,P,s,n,h,q⟩:=k;ac_rfl;refine⟨G,m,_,s,n,h,λd f v o p g dv=>?_⟩;cases dv<;>first|exact f.elim|skip
 rename_i i e
 exact⟨_,rfl,⟨_,cM.of (g.sub _ _ i)⟩,q _ f _ o p g (KA i e)⟩
def eU(lo:Int)(n:Nat):List D:=(bb n).map λ(k:Nat)=>D.int (lo+(k:Int))
theorem vk{lo:Int}{n i:Nat}(h:i<n):(eU lo n)[i]? =some (.int (lo+i)):=by
 unfold eU;rw[dF,Ap h];rfl
theorem qt(lo:Int)(n:Nat):wq Z G (Jj lo n) (eU lo n):=by
 intro f h j g i;have l:(eU lo n).length=n:=by unfold eU;simp
 rw[l];refine⟨λd=>d,λd=>d,?_⟩;rintro x k d ⟨rfl,rfl⟩;exact⟨f,_, .refl g,vk d, .int _⟩
def O9(t:iH):iI:=λd P=>t d λf=>match f with
 | [.int j]=>(-(2^62)<=j/\j<2^62)/\P (eU 0 j.toNat)
 |_=>False
def Pa(t:iH):iI:=λd P=>t d λf=>match f with
 | [.int i, .int j]=>(-(2^62)<=i/\i<2^62/\-(2^62)<=j/\j<2^62)/\P (eU i (j-i).toNat)
 |_=>False
variable {t:iH}
theorem rB(g:Gl X "range")(i:X.mg "range"=none)(j:DA Z X [a] t)(k:starEach [a] X.env= [(false,eval a X.env)]:=by rfl):DI Z X f (.Call (.Name "range" p) [a] [] pos) (O9 t):=by
 refine(xW g i j k).imp ?_;intro w H Q l;rfl';obtain⟨G,n,P,s,o,h,q⟩:=l;ac_rfl;refine⟨G,n,_,s,o,h,λy d z r u v dv=>?_⟩
 split at d
 ·obtain⟨_,rfl,a⟩:=dv.ofOne
  exact⟨_,by rw[a.ofInt],d.1.1,d.1.2,q _ d.2 _ r u v (qt 0 _)⟩
 ·exact d.elim
theorem Es(g:Gl X "range")(i:X.mg "range"=none)(j:DA Z X [a,b] t)(k:starEach [a,b] X.env= [(false,eval a X.env),(false,eval b X.env)]:=by rfl)(l:starEach [b] X.env= [(false,eval b X.env)]:=by rfl):DI Z X f (.Call (.Name "range" p) [a,b] [] pos) (Pa t):=by
 refine(xX g i j k l).imp ?_;rintro x H Q ⟨G,m,P,s,n,h,q⟩;refine⟨G,m,_,s,n,h,λy d z o r u dv=>?_⟩
 split at d
 ·obtain⟨A,B,rfl,v,w⟩:=dv.Bw
  exact⟨_,_,by rw[v.ofInt,w.ofInt],d.1,q _ d.2 _ o r u (qt _ _)⟩
 ·exact d.elim
def gU(l:List D):List D:=l.mapIdx λi x=> .tup [.int (i:Int),x]
def MF(t:iH):iI:=λd P=>t d λf=>match f with
 | [.lst l]=>P (gU l)
 |_=>False
theorem Kz{K:ac}{G:Hp}{a:Addr}{f:List V}{g:List D}(h:G a=some (.lst f))(e:DvAll Z G f g):wq Z G (PZ K a) (gU g):=by
 intro r s m j i;have k:=cM.of (K:=K) (j _ _ (m _ _ h));have l:=e.length;rw[show(gU g).length=g.length by unfold gU;simp]
 refine⟨λn=>⟨f,f[i],k,bB (by lia)⟩,λn=>⟨f,k,by lia⟩,?_⟩
 rintro x u n ⟨t,y,rfl,o,rfl,p⟩;obtain⟨d,q,dv⟩:=e.J9 (p _ k);refine⟨_,_, .new j o,by unfold gU;rw[List.getElem?_mapIdx,q];rfl,?_⟩
 exact .tup aB (.cons (.int _) (.cons ((dv.mono m).mono (aY (j.free o) _)) .nil))
theorem iL{k1}(j:Gl X "enumerate")(k:X.mg "enumerate"=none)(l:DA Z X [a] t)(m:starEach [a] X.env= [(false,eval a X.env)]:=by rfl):DI Z X (.Tuple g k1 i) (.Call (.Name "enumerate" p) [a] [] pos) (MF t):=by
 refine(Lm j k l m).imp ?_;intro x H Q n;rfl';obtain⟨G,r,P,s,u,h,q⟩:=n;ac_rfl;refine⟨G,r,_,s,u,h,λz d A v w f dv=>?_⟩
 split at d
 ·obtain⟨_,rfl,a⟩:=dv.ofOne
  obtain⟨_,_,rfl,h,e⟩:=a.iw;exact⟨_,rfl,⟨_,f.sub _ _ h⟩,q _ d _ v w f (Kz h e)⟩
 ·exact d.elim
def yq(src:List (Option Nat))(d:DN):DN:=src.map λo=>o.bind λi=>(d[i]?).bind id
theorem dR.src(e:dR Z G l f)(src:List (Option Nat)):dR Z G (nW src l) (yq src f):=by
 refine⟨by unfold nW yq;simp,λi d h=>?_⟩
 unfold yq at h;unfold nW;rw[dF] at h ⊢;cases k:src[i]? with
 |none=>rw[k] at h;cases h
 |some o=>
  rw[k] at h;cases o with
  |none=>cases h
  |some j=>
   have g:(f[j]?).bind id=some d:=FB h;cases m:f[j]? with
   |none=>rw[m] at g;cases g
   |some z=>
    rw[m] at g;rfl';have p:z=some d:=g;subst p;obtain⟨v,q,dv⟩:=e.at_ j d m;ac_rfl;exact⟨v,by show some ((l[j]?).bind id)=_;rw[q];rfl,dv⟩
def lcW(g:eV)(i:eo)(j:bh):List D->DN->List D->(DN->List D->Prop)->Prop
 | [],k,f,N=>N k f
 |x::l,k,f,N=>g x k λh=>i h λb=>if b=true then j h λd=>f.length<sizeLine/\lcW g i j l h (f++ [d]) N else lcW g i j l h f N
def QB(f:iI)(g:eV)(h:eo)(i:bh)(src:List (Option Nat)):bh:=λd P=>f d λj=>lcW g h i j (yq src d) [] λ_ out=>P (.lst out)
def iM(g:eV)(h:eo)(i:iI)(j:eV)(k:eo)(l:bh):List D->DN->List D->(List D->Prop)->Prop
 | [],_,d,P=>P d
 |x::m,n,d,P=>g x n λf=>h f λb=>if b=true then i f λo=>lcW j k l o f d λp q=>iM g h i j k l m p q P else iM g h i j k l m f d P
def JD(f:iI)(g:eV)(h:eo)(i:iI)(j:eV)(k:eo)(l:bh)(src:List (Option Nat)):bh:=λd P=>f d λm=>iM g h i j k l m (yq src d) [] λout=>P (.lst out)
def nE:eo:=λ_ P=>P true
def vE(Z:DC)(X:Cx)(d:List Expr)(t:eo):Prop:=mQ X d (liftT Z t)
theorem mQ.imp{t j:TT}(h:mQ X d t)(f:∀i H Q,j i H Q->t i H Q):mQ X d j:=λg s i H Q I q=>h g s i H Q I (f _ _ _ q)
theorem df:vE Z X [] nE:=by
 refine Lw.imp λg H Q d=>?_;rfl';obtain⟨G,i,P,s,e,p,q⟩:=d;ac_rfl;exact q _ p G H (.refl s)
theorem oO(h:DT Z X c d):vE Z X [c] d:=Lx h
def CS(Z:DC)(f g:Hp)(h:Addr)(j:DN)(d:List D)(k:St)(H:Hp):Prop:=
 ∃(G:Hp)(i:List V),aP f G/\aP G H/\aP g H/\(∀b,g b≠none->f b=none->G b=none)/\G h=none/\H h=some (.lst i)/\DvAll Z G i d/\dR Z G k j
theorem fO(s:aP H d){b:Addr}(h:H b≠none):d b≠none:=λz=>by
 cases e:H b with
 |none=>exact h e
 |some o=>rw[s b o e] at z;cases z
theorem lQ{d:Type}{l:List d}{i:Nat}{x:d}(h:l[i]? =some x):l.drop i=x::l.drop (i+1):=by
 obtain⟨f,e⟩:=dQ.mp h;rw[mH f,e]
theorem zZ(hA:n f=none)(B:Hp)(it:wq Z B J p)(i:Nat)(M:DN)(k:List D)(σ:St)(H:Hp)
  (c:CS Z m n f M k σ H) (hG:∀G,aP m G->aP B G) (hi:i<p.length) (h:lcW g w A (p.drop i) M k N):
  J.go i H/\∀x C,J.yld i H x C->pj Z g x σ C λq H4=>liftT Z w q H4 λb O=>
   if b=true then eC Z A q O λv P=>∃l,P f=some (.lst l)/\l.length<sizeLine/\(∃r s,CS Z m n f r s q (upd P f (.lst (l++ [v])))/\lcW g w A (p.drop (i+1)) r s N)
   else ∃r s,CS Z m n f r s q O/\lcW g w A (p.drop (i+1)) r s N:=by
 rfl';obtain⟨R,l,S,s2,T,off,gA,U,Y,en⟩:=c;obtain⟨go,_,yld⟩:=it R H (hG _ S) s2 i;ac_rfl;refine⟨go hi,λx C y=>?_⟩;rfl';obtain⟨G3,d,E,hd,dv⟩:=yld x C hi y;rw[lQ hd] at h;ac_rfl;refine⟨G3,M,d,_,E.sub,en.mono E.gg,dv,h,λF I q L=>?_⟩;refine⟨G3,F,_,E.sub,L,I,λb hb G5 O u=>?_⟩;have j:=E.trans u;have a:∀{G t:Hp},Ext R H G t->G f=none:=λx=>x.off f (by rw[U];exact λz=>nomatch z) gA
 have mh:∀{G t:Hp},Ext R H G t->∀b,n b≠none->m b=none->G b=none:=λx b I h2=>x.off b (fO T I) (off b I h2);cases b with
 |false=>
  refine ck ⟨F,k,⟨G5,l,S.trans j.gg,j.sub,T.trans j.hh,mh j,a j,j.hh _ _ U,Y.mono j.gg,L.mono u.gg⟩,?_⟩;simpa using hb
 |true=>
  refine dJ ⟨G5,F,_,u.sub,L.mono u.gg,(by simpa using hb),λd' qJ v G6 P x6 X=>?_⟩
  have x:=j.trans x6;refine⟨l,x.hh _ _ U,by rw[Y.length];exact qJ.1,F,_,⟨G6,l++ [v],S.trans x.gg,λb o e=>?_,λb o e=>?_,mh x,a x,aB,(Y.mono x.gg).snoc X,(L.mono u.gg).mono x6.gg⟩,qJ.2⟩
  ·rw[aN (bu e (a x))];exact x.sub _ _ e
  ·rw[aN (bu e hA)];exact(T.trans x.hh) _ _ e
theorem CS.done(c:CS Z i h d p f q j)(g:Ext G H i h)(r:h d=none):∃k,Ext G H k j/\Dv Z k (.ref d) (.lst f):=by
 rfl';obtain⟨u,v,w,x,y,off,l,A,B,F⟩:=c;ac_rfl;refine⟨upd u d (.lst v),⟨(g.gg.trans w).trans (aY l _),λb o e=>?_,g.hh.trans y,λb m C=>?_⟩, .lst aB (B.mono (aY l _))⟩
 ·by_cases z:b=d
  ·subst z;rw[aB] at e;cases e;exact A
  ·rw[aN z] at e;exact x _ _ e
 ·have n:=fO g.hh m
  rw[aN (λz=>n (by rw[z];exact r))]
  exact off b n (g.off b m C)
theorem CS.begin(s:aP d f)(i:f g=none)(l:dR Z d k j):CS Z d f g j [] k (upd f g (.lst [])):=
 ⟨d,[], .refl _,λb o e=>by rw[aN (bu e (s.free i))];exact s _ _ e,aY i _,λ_ _ h=>h,s.free i,aB, .nil,l⟩
variable {tg iter elt:Expr} {ifs:List Expr} {scope:Scope} {NC:List Str} {src:List (Option Nat)} {wi:iI} {g:eV} {tt:eo}
theorem GD:∀p H Q,eC Z (QB wi g tt te src) p H Q->Oo (rP Z wi) (pj Z g) (liftT Z tt) (eC Z te) src p H Q:=by
 intro p H Q E;rfl';obtain⟨G,F,P,s,z,h,q⟩:=E;ac_rfl;refine⟨G,F,_,s,z,h,λf I J A L r B M u=>?_⟩;refine⟨λi m v k=>m=f.length-i/\i<=f.length/\∃o d,CS Z A L M o d v k/\lcW g tt te (f.drop i) o d λ_ out=>P (.lst out),⟨_,rfl,cF _,_,[], .begin r.sub u ((z.mono r.gg).src src),I⟩,?_⟩;intro i m v k N;rfl';obtain⟨rfl,Y,o,d,c,w⟩:=N;ac_rfl
 by_cases C:i<f.length
 ·obtain⟨O,l⟩:=zZ u A B i o d v k c (λ_ s=>s) C w
  exact .inr ⟨O,_,λa b n=>⟨f.length-(i+1),by lia,rfl,C,n⟩,l⟩
 ·have e:f.drop i= []:=yX (by lia)
  rfl';rw[e] at w;obtain⟨R,x,dv⟩:=c.done r u;obtain⟨S,t,T,U,_⟩:=c;ac_rfl;exact .inl ⟨(B S k T U i).2.1 (by lia),q _ w _ R k x dv⟩
theorem kQ(f:X.calm=true)(c:cu X scope)(h:dk scope X.N src NC)(i:DI Z X tg iter wi)
  (j:∀d s H,DG Z (b8 X scope NC d s H) tg g) (k:∀d s H,vE Z (b8 X scope NC d s H) ifs tt) (l:∀d s H,DE Z (b8 X scope NC d s H) elt te)
  (m:∀x,foldedSetIterable iter X.env x=pure x:=by intro _;rfl):DE Z X (.ListComp elt [⟨tg,iter,ifs,0⟩] scope pos) (QB wi g tt te src):=(Lh f c h i j k l m).imp GD
variable {t0 i0 t1 i1:Expr} {f0 f1:List Expr} {cY:iI} {g1:eV} {cI:eo}
theorem C4:∀σ H Q,eC Z (JD wi g tt cY g1 cI te src) σ H Q->Hk (rP Z wi) (pj Z g) (liftT Z tt) (rP Z cY) (pj Z g1) (liftT Z cI) (eC Z te) src σ H Q:=by
 intro σ H Q aO;rfl';obtain⟨G,ρ,P,s,en,h,q⟩:=aO;ac_rfl;refine⟨G,ρ,_,s,en,h,λp hd J F u x1 it l hA=>?_⟩;refine⟨λi m fA I=>m=p.length-i/\i<=p.length/\∃w j,CS Z F u l w j fA I/\iM g tt cY g1 cI te (p.drop i) w j λout=>P (.lst out),⟨_,rfl,cF _,_,[], .begin x1.sub hA ((en.mono x1.gg).src src),hd⟩,?_⟩;intro i m fA I gH;rfl';obtain⟨rfl,hi,w,j,c,hl⟩:=gH;ac_rfl
 by_cases bT:i<p.length
 ·have c0:=c
  rfl';obtain⟨S,r,T,s2,s3,off,gA,mX,bx,QO⟩:=c;obtain⟨go,_,yld⟩:=it S I T s2 i;ac_rfl;refine .inr ⟨go bT,λU L=>∃Y a,CS Z F u l Y a U L/\iM g tt cY g1 cI te (p.drop (i+1)) Y a λout=>P (.lst out),λU L n=>⟨p.length-(i+1),by lia,rfl,bT,n⟩,λx H3 y=>?_⟩
  rfl';obtain⟨G3,d,x3,Kg,dv⟩:=yld x H3 bT y;rw[lQ Kg] at hl;ac_rfl;refine⟨G3,w,d,_,x3.sub,QO.mono x3.gg,dv,hl,λt M fJ sO=>?_⟩;refine⟨G3,t,_,x3.sub,sO,M,λb X G5 H5 x5=>?_⟩;have A:=x3.trans x5;have tD:∀{G N:Hp},Ext S I G N->G l=none:=λx=>x.off l (by rw[mX];exact λz=>nomatch z) gA
  have mh:∀{G N:Hp},Ext S I G N->∀b,u b≠none->F b=none->G b=none:=λx b M h2=>x.off b (fO s3 M) (off b M h2);cases b with
  |false=>exact ck ⟨t,j,⟨G5,r,T.trans A.gg,A.sub,s3.trans A.hh,mh A,tD A,A.hh _ _ mX,bx.mono A.gg,sO.mono x5.gg⟩,by simpa using X⟩
  |true=>
   refine dJ ⟨G5,t,_,x5.sub,sO.mono x5.gg,(by simpa using X),λO Ri J1 G6 H6 x6 CY=>?_⟩
   have x:=A.trans x6;have c6:CS Z G6 H6 l t j fJ H6->True:=λ_=>trivial
   refine⟨λk m qk B=>m=O.length-k/\k<=O.length/\∃(y8:DN)(oG:List D),(∃(G:Hp)(r:List V),aP G6 G/\aP G B/\aP u B/\(∀b,u b≠none->F b=none->G b=none)/\G l=none/\B l=some (.lst r)/\DvAll Z G r oG/\dR Z G qk y8)/\
    lcW g1 cI te (O.drop k) y8 oG λw lO=>iM g tt cY g1 cI te (p.drop (i+1)) w lO λout=>P (.lst out),
    ⟨_,rfl,cF _,t,j,⟨G6,r, .refl _,x.sub,s3.trans x.hh,mh x,tD x,x.hh _ _ mX,bx.mono x.gg,(sO.mono x5.gg).mono x6.gg⟩,Ri⟩,?_⟩
   intro k m qk B gH;rfl';obtain⟨rfl,hk,y8,oG,⟨G7,BZ,a1,a2,a3,a4,a5,a6,a7,a8⟩,A2⟩:=gH;ac_rfl;have QV:aP F G6:=T.trans x.gg
   by_cases xh:k<O.length
   ·obtain⟨QY,_,Mj⟩:=CY G7 B a1 a2 k
    refine .inr ⟨QY xh,λU L=>∃(Y:DN)(a:List D),(∃(G:Hp)(r:List V),aP G6 G/\aP G L/\aP u L/\(∀b,u b≠none->F b=none->G b=none)/\G l=none/\L l=some (.lst r)/\DvAll Z G r a/\dR Z G U Y)/\
     lcW g1 cI te (O.drop (k+1)) Y a λw lO=>iM g tt cY g1 cI te (p.drop (i+1)) w lO λout=>P (.lst out),λU L n=>⟨O.length-(k+1),by lia,rfl,xh,n⟩,λy H8 hy=>?_⟩
    rfl';obtain⟨G8,d8,x8,Rg,QM⟩:=Mj y H8 xh hy;rw[lQ Rg] at A2;ac_rfl;refine⟨G8,y8,d8,_,x8.sub,a8.mono x8.gg,QM,A2,λCa h9 σ9 AM=>?_⟩;refine⟨G8,Ca,_,x8.sub,AM,h9,λb X Je Jf yJ=>?_⟩;have C:=x8.trans yJ;have oA:∀{G N:Hp},Ext G7 B G N->G l=none:=λx=>x.off l (by rw[a6];exact λz=>nomatch z) a5
    have oB:∀{G N:Hp},Ext G7 B G N->∀b,u b≠none->F b=none->G b=none:=λx b M h2=>x.off b (fO a3 M) (a4 b M h2);cases b with
    |false=>exact ck ⟨Ca,oG,⟨Je,BZ,a1.trans C.gg,C.sub,a3.trans C.hh,oB C,oA C,C.hh _ _ a6,a7.mono C.gg,AM.mono yJ.gg⟩,by simpa using X⟩
    |true=>
     refine dJ ⟨Je,Ca,_,yJ.sub,AM.mono yJ.gg,(by simpa using X),λd' qJ v PX Mq Mi JW=>?_⟩
     have E:=C.trans Mi;refine⟨BZ,E.hh _ _ a6,by rw[a7.length];exact qJ.1,Ca,_,⟨PX,BZ++ [v],a1.trans E.gg,λb o e=>?_,λb o e=>?_,oB E,oA E,aB,(a7.mono E.gg).snoc JW,(AM.mono yJ.gg).mono Mi.gg⟩,qJ.2⟩
     ·rw[aN (bu e (oA E))];exact E.sub _ _ e
     ·rw[aN (bu e hA)];exact(a3.trans E.hh) _ _ e
   ·have e:O.drop k= []:=yX (by lia)
    rw[e] at A2;exact .inl ⟨(CY G7 B a1 a2 k).2.1 (by lia),y8,oG,⟨G7,BZ,QV.trans a1,a2,a3,a4,a5,a6,a7,a8⟩,A2⟩
 ·have e:p.drop i= []:=yX (by lia)
  rfl';rw[e] at hl;obtain⟨G',x,dv⟩:=c.done x1 hA;obtain⟨S,r,T,s2,_⟩:=c;ac_rfl;exact .inl ⟨(it S I T s2 i).2.1 (by lia),q _ hl _ G' I x dv⟩
theorem MC(f:X.calm=true)(c:cu X scope)(h:dk scope X.N src NC)(i:DI Z X t0 i0 wi)
  (j:∀d s H,DG Z (b8 X scope NC d s H) t0 g) (k:∀d s H,vE Z (b8 X scope NC d s H) f0 tt) (l:∀d s H,DI Z (b8 X scope NC d s H) t1 i1 cY) (m:∀d s H,DG Z (b8 X scope NC d s H) t1 g1)
  (n:∀d s H,vE Z (b8 X scope NC d s H) f1 cI) (o:∀d s H,DE Z (b8 X scope NC d s H) elt te)
  (p:∀x,foldedSetIterable i0 X.env x=pure x:=by intro _;rfl) (q:∀env x,foldedSetIterable i1 env x=pure x:=by intro _ _;rfl):
  DE Z X (.ListComp elt [⟨t0,i0,f0,0⟩,⟨t1,i1,f1,0⟩] scope pos) (JD wi g tt cY g1 cI te src):=(NQ f c h i j k l m n o p q).imp C4
end
inductive jb (R:V->D->List Addr->Prop):List V->List D->List Addr->Prop
 |nil:jb R [] [] []
 |cons {v:V} {vs:List V} {d:D} {ds:List D} {f fs:List Addr}:R v d f->jb R vs ds fs->jb R (v::vs) (d::ds) (f++fs)
def Wt:D->Bool
 | .lst _=>true
 |_=>false
def Own(Z:DC)(G H:Hp):Nat->V->D->List Addr->Prop
 |0,v,d,c=>Dv Z G v d/\c= []
 |n+1,v,d,c=>(∃a e g i,v= .ref a/\d= .lst g/\H a=some (.lst e)/\c=a::i/\jb (Own Z G H n) e g i)\/(1<=n/\∃a e g,v= .ref a/\d= .tup g/\G a=some (.tup e)/\jb (λv d f=>(Wt d=true/\Own Z G H n v d f)\/(Wt d=false/\Dv Z G v d/\f= [])) e g c)\/(∃a h,v= .ref a/\H a=some (.ext h)/\c= [a]/\((n=98/\∃b j,d= .set b j/\h=gd b a j)\/(n=97/\∃k,d= .x k/\Hs G a h k)))
theorem Own.lst{Z:DC}{G H:Hp}{n:Nat}{v:V}{c:List D}{f:List Addr}(o:Own Z G H (n+1) v (.lst c) f):∃a d g h,v= .ref a/\D.lst c= .lst g/\H a=some (.lst d)/\f=a::h/\jb (Own Z G H n) d g h:=by
 rcases o with o| ⟨_,a,d,c,_,e,_⟩ | ⟨a,i,_,_,_,⟨_,b,j,e,_⟩ | ⟨_,k,e,_⟩⟩
 ·exact o
 ·cases e
 ·cases e
 ·cases e
theorem Own.PK{b:Bool}(o:Own Z G H 99 v (.set b c) d):∃a,v= .ref a/\H a=some (.ext (gd b a c))/\d= [a]:=by
 rcases o with ⟨_,_,_,_,_,e,_⟩ | ⟨_,a,j,l,_,e,_⟩ | ⟨a,m,f,g,h,⟨_,b,c,e,i⟩ | ⟨_,k,e,_⟩⟩
 ·cases e
 ·cases e
 ·cases e;subst i;exact⟨a,f,g,h⟩
 ·cases e
theorem Own.xA(o:Own Z G H 98 v (.x k) d):∃a c,v= .ref a/\H a=some (.ext c)/\d= [a]/\Hs G a c k:=by
 rcases o with ⟨_,_,_,_,_,e,_⟩ | ⟨_,a,j,l,_,e,_⟩ | ⟨a,c,f,g,h,⟨_,b,m,e,n⟩ | ⟨_,k,e,i⟩⟩
 ·cases e
 ·cases e
 ·cases e
 ·cases e;exact⟨a,c,f,g,h,i⟩
theorem Own.one(o:Own Z G H 1 v d b):∃a c e f,v= .ref a/\d= .lst e/\H a=some (.lst c)/\b=a::f/\jb (Own Z G H 0) c e f:=by
 rcases o with o| ⟨z,_⟩ | ⟨_,_,_,_,_,⟨z,_⟩ | ⟨z,_⟩⟩
 ·exact o
 ·exact absurd z (by decide)
 ·exact absurd z (by decide)
 ·exact absurd z (by decide)
theorem jb.imp(o:jb R i j c)(h:∀v d f,(∀b∈f,b∈c)->R v d f->g v d f):jb g i j c:=by
 induction o with
 |nil=>exact .nil
 |cons a _ k=>exact .cons (h _ _ _ (λb e=>fG _ e) a) (k λv d f l r=>h v d f (λb e=>gm _ (l b e)) r)
section
variable {Z:DC} {G G' H H':Hp}
theorem Own.keep:∀{v:V}{d:D}{g:List Addr},Own Z G H n v d g->aP G G'->(∀b∈g,H' b=H b)->Own Z G' H' n v d g:=by
 induction n with
 |zero=>exact λh s _=>⟨h.1.mono s,h.2⟩
 |succ n u=>
  intro v d g h s k
  rcases h with ⟨a,j,l,w,c,m,e,i,o⟩ | ⟨p,a,j,l,c,m,e,o⟩ | ⟨a,x,c,e,i,y⟩
  ·subst i
   exact .inl ⟨a,j,l,w,c,m,by rw[k a (cg ..)];exact e,rfl,o.imp λv d f t r=>u r s λb q=>k b (cG _ (t b q))⟩
  ·exact .inr (.inl ⟨p,a,j,l,c,m,s _ _ e,o.imp λv d f t r=>r.imp (λr=>⟨r.1,u r.2 s λb q=>k b (t b q)⟩) λr=>⟨r.1,r.2.1.mono s,r.2.2⟩⟩)
  ·exact .inr (.inr ⟨a,x,c,by rw[k a (by rw[i];exact cg ..)];exact e,i,y.imp id λ⟨p,k,z,A⟩=>⟨p,k,z,A.mono s⟩⟩)
theorem jb.Pd(o:jb R e g h)(k:∀v d f,(∀b∈f,b∈h)->R v d f->Dv Z G' v d):DvAll Z G' e g:=by
 induction o with
 |nil=>exact .nil
 |cons a _ i=>exact .cons (k _ _ _ (λb c=>fG _ c) a) (i λv d f j r=>k v d f (λb c=>gm _ (j b c)) r)
theorem Own.Pc(o:HO->Prop)(y:∀j,o (.lst j))(t:∀u,o (.ext u)):∀{v:V}{d:D}{l:List Addr},Own Z G H n v d l->aP G G'->(∀b∈l,∀x,o x->H b=some x->G' b=some x)->Dv Z G' v d:=by
 induction n with
 |zero=>exact λh s _=>h.1.mono s
 |succ n w=>
  intro v d l h s k
  rcases h with ⟨a,j,z,B,i,c,g,e,m⟩ | ⟨_,a,j,z,i,c,g,m⟩ | ⟨a,u,i,g,e,A⟩
  ·subst e i c
   exact .lst (k a (cg ..) _ (y _) g) (m.Pd λv d f e r=>w r s λb p=>k b (cG _ (e b p)))
  ·subst i c
   exact .tup (s _ _ g) (m.Pd λv d f e r=>r.elim (λr=>w r.2 s λb p=>k b (e b p)) λr=>r.2.1.mono s)
  ·subst i e
   rcases A with ⟨_,b,C,c,q⟩ | ⟨_,E,c,q⟩
   ·subst c q
    exact .set (k a (cg ..) _ (t _) g)
   ·subst c
    exact .x (k a (cg ..) _ (t _) g) (q.mono s)
theorem Own.dv{d:D}(h:Own Z G H n v d a)(s:aP G G')(k:∀b∈a,∀o,H b=some o->G' b=some o):Dv Z G' v d:=h.Pc (λ_=>True) (λ_=>trivial) (λ_=>trivial) s λb c x _ e=>k b c x e
theorem jb.flat(o:jb (Own Z G H 0) b c d):DvAll Z G b c/\d= []:=by
 induction o with
 |nil=>exact⟨.nil,rfl⟩
 |cons a _ e=>exact⟨.cons a.1 e.1,by rw[a.2,e.2];rfl⟩
theorem DvAll.own(h:DvAll Z G c d):jb (Own Z G H 0) c d []:=h.ind (p:=λc d=>jb (Own Z G H 0) c d []) .nil λa _ b=> .cons (f:= []) (fs:= []) ⟨a,rfl⟩ b
theorem Dv.flat{v:V}{d:D}(h:Dv Z G v d)(f:fv d=true):Dv Z G' v d:=by
 cases h with
 |bA=>exact .bA
 |bl b=>exact .bl b
 |int i=>exact .int i
 |str x k=>exact .str x k
 |_=>cases f
end
mutual
def pA:D->Bool
 | .bA=>true
 | .bl _=>true
 | .int _=>true
 | .str _=>true
 | .tup l=>GJ l
 |_=>false
def GJ:List D->Bool
 | []=>true
 |d::ds=>pA d&&GJ ds
end
theorem Dv.pA(k:∀b g,G b=some (.tup g)->e b=some (.tup g))(h:Dv Z G v d):L2.pA d=true->Dv Z e v d:=by
 have c:∀{p:Prop}{d:D},L2.pA d=false->L2.pA d=true->p:=λa b=>by rw[a] at b;cases b
 refine Dv.rec (motive_1:=λv d _=>L2.pA d=true->Dv Z e v d) (motive_2:=λl j _=>GJ j=true->DvAll Z e l j) (λ_=> .bA) (λb _=> .bl b) (λi _=> .int i) (λx h _=> .str x h) (λ_ _ _=>c (by rw[L2.pA]<;>simp)) (λh _ m f=> .tup (k _ _ h) (m (by rw[L2.pA] at f;exact f))) (λ_=>c (by rw[L2.pA]<;>simp)) (λ_=>c (by rw[L2.pA]<;>simp)) (λ_ _=>c (by rw[L2.pA]<;>simp)) (λ_ _ _ _ _ _=>c (by rw[L2.pA]<;>simp)) (λ_=>c (by rw[L2.pA]<;>simp)) (λ_ _=>c (by rw[L2.pA]<;>simp)) (λ_ _ _ _=>c (by rw[L2.pA]<;>simp)) (λ_=> .nil) (λ_ _ n o f=>?_) h
 rw[GJ,y3] at f;exact .cons (n f.1) (o f.2)
def Ld:HO->Bool
 | .lst _=>true
 | .ext _=>true
 |_=>false
theorem Own.dvL(h:Own Z G H n v d c)(s:aP G a)(k:∀b∈c,∀o,Ld o=true->H b=some o->a b=some o):Dv Z a v d:=h.Pc (λo=>Ld o=true) (λ_=>rfl) (λ_=>rfl) s k
structure Bs where
 G₀:Hp
 H₀:Hp
 Gf:Hp
structure SIx (Z:DC) (B:Bs) (md:List Nat) (ρ:DN) (σ:St) (H G:Hp) (fp:Nat->List Addr):Prop where
 ex:Ext B.G₀ B.H₀ G H
 fl:aP B.Gf G
 len:ρ.length=σ.length
 at_:∀(i:Nat)(d:D),ρ[i]? =some (some d)->∃v,σ[i]? =some (some v)/\Own Z G H (md.getD i 0) v d (fp i)
 nd:∀i,(fp i).Nodup
 ap:∀i j b,i≠j->b∈fp i->b∉fp j
 nw:∀i b,b∈fp i->B.H₀ b=none/\H b≠none/\G b=none
def SI(Z:DC)(B:Bs)(a:List Nat)(b:DN)(c:St)(H:Hp):Prop:=∃G d,SIx Z B a b c H G d
def eE:List Nat->DN->DN
 |_,[]=> []
 | [],o::a=>o::a
 |0::b,o::a=>o::eE b a
 | (_+1)::b,_::a=>none::eE b a
theorem rX:∀(a:List Nat)(b:DN),(eE a b).length=b.length
 |a,[]=>by cases a<;>rfl
 | [],o::b=>rfl
 |0::a,o::b=>by rw[eE,dM,rX a b,dM]
 | (_+1)::a,_::b=>by rw[eE,dM,rX a b,dM]
theorem uE:∀(c:List Nat)(e:DN)(i:Nat),(eE c e)[i]? =some (some d)->c.getD i 0=0/\e[i]? =some (some d)
 |c,[],i,h=>by cases c<;>simp[eE] at h
 | [],o::e,i,h=>⟨by simp,h⟩
 |0::c,o::e,0,h=>⟨rfl,by simpa [eE] using h⟩
 |0::c,o::e,i+1,h=>by
  rw[eE,vz] at h;obtain⟨a,b⟩:=uE c e i h;exact⟨by rw[nY];exact a,by rw[vz];exact b⟩
 | (_+1)::c,_::e,0,h=>by simp[eE] at h
 | (_+1)::c,_::e,i+1,h=>by
  rw[eE,vz] at h;obtain⟨a,b⟩:=uE c e i h;exact⟨by rw[nY];exact a,by rw[vz];exact b⟩
def DY(b:List Nat):Bool->DN->DN
 |true,a=>a
 |false,a=>eE b a
def sP:Bool->D->Prop
 |true,d=>pA d=true
 |false,_=>True
section
variable {Z:DC} {B:Bs} {md:List Nat} {ρ:DN} {σ:St} {H G:Hp} {fp:Nat->List Addr}
theorem FF(h:(eE md ρ)[i]? =some (some d)):md.getD i 0=0/\ρ[i]? =some (some d):=uE md ρ i h
theorem SIx.Gs(S:SIx Z B md ρ σ H G fp):dR Z G σ (eE md ρ):=by
 refine⟨by rw[rX];exact S.len,λi d h=>?_⟩
 obtain⟨z,h⟩:=FF h;obtain⟨v,a,o⟩:=S.at_ i d h;rw[z] at o;exact⟨v,a,o.1⟩
theorem SIx.JX(S:SIx Z B md ρ σ H G fp):dR Z H σ ρ:=by
 refine⟨S.len,λi d h=>?_⟩;obtain⟨v,a,o⟩:=S.at_ i d h;exact⟨v,a,o.dv S.ex.sub λb _ u e=>e⟩
theorem SIx.grow{c f:Hp}(S:SIx Z B md ρ σ H G fp)(x:Ext G H c f):SIx Z B md ρ σ f c fp where
 ex:=S.ex.trans x
 fl:=S.fl.trans x.gg
 len:=S.len
 at_:=λi d h=>by
  obtain⟨v,j,o⟩:=S.at_ i d h;refine⟨v,j,o.keep x.gg λb a=>?_⟩;cases e:H b with
  |none=>exact absurd e (S.nw i b a).2.1
  |some u=>exact x.hh _ _ e
 nd:=S.nd
 ap:=S.ap
 nw:=λi b a=>let ⟨k,g,l⟩:=S.nw i b a;⟨k,fO x.hh g,x.off b g l⟩
theorem Ext.all(s:aP G H)(x:Ext H H b a):Ext G H G a:=⟨.refl _,s.trans x.hh,x.hh,λ_ _ h=>h⟩
open Classical in
noncomputable def i8(G H:Hp)(fp:Nat->List Addr):Hp:=λb=>if ∃i,b∈fp i then(match H b with|some (.lst xs)=>some (.lst xs) |some (.ext φ)=>some (.ext φ) |_=>none) else G b
open Classical in
noncomputable def uq(G:Hp)(fp:Nat->List Addr):Hp:=λb=>if ∃i,b∈fp i then none else G b
theorem Jc(i:Nat)(h:b∈fp i)(a:Ld o=true)(e:H b=some o):i8 G H fp b=some o:=by
 unfold i8;rw[tz ⟨i,h⟩,e];cases o<;>first|rfl|cases a
theorem sj(h:¬∃i,b∈fp i):i8 G H fp b=G b:=ir h
theorem SIx.Pf(S:SIx Z B md ρ σ H G fp):aP G (i8 G H fp)/\aP (i8 G H fp) H/\dR Z (i8 G H fp) σ ρ:=by
 have c:aP G (i8 G H fp):=λb o e=>by
  by_cases h:∃i,b∈fp i
  ·obtain⟨i,f⟩:=h
   rw[(S.nw i b f).2.2] at e;cases e
  ·rw[sj h];exact e
 refine⟨c,λb o e=>?_,S.len,λi d h=>?_⟩
 ·by_cases h:∃i,b∈fp i
  ·unfold i8 at e
   rw[tz h] at e
   split at e
   ·next l a=>rw[a];exact e
   ·next m a=>rw[a];exact e
   ·cases e
  ·rw[sj h] at e;exact S.ex.sub _ _ e
 ·obtain⟨v,g,o⟩:=S.at_ i d h
  exact⟨v,g,o.dvL c λb j u k a=>Jc i j k a⟩
theorem SIx.X7(S:SIx Z B md ρ σ H G fp)(x:Ext (i8 G H fp) H a g):Ext G H (uq a fp) g/\∀b d,a b=some (.tup d)->uq a fp b=some (.tup d):=by
 obtain⟨j,l,_⟩:=S.Pf;refine⟨⟨λb o e=>?_,λb o e=>?_,x.hh,λb f k=>?_⟩,λb d e=>?_⟩
 ·have h:¬∃i,b∈fp i:=by
   rintro⟨i,c⟩;rw[(S.nw i b c).2.2] at e;cases e
  unfold uq;rw[ir h];exact x.gg _ _ (j _ _ e)
 ·unfold uq at e
  split at e
  ·cases e
  ·exact x.sub _ _ e
 ·unfold uq
  split
  ·rfl
  ·next h=>exact x.off b f (by rw[sj h];exact k)
 ·have h:¬∃i,b∈fp i:=by
   rintro⟨i,c⟩;have f:=(S.nw i b c).2.1;cases hw:i8 G H fp b with
   |none=>rw[x.off b f hw] at e;cases e
   |some o=>
    have:=x.gg _ _ hw
    rw[e] at this;cases FB this;unfold i8 at hw;rw[tz ⟨i,c⟩] at hw
    split at hw<;>cases hw
  unfold uq;rw[ir h];exact e
theorem SIx.ev(S:SIx Z B md ρ σ H G fp)(m:Bool)(h:t (DY md m ρ) P)
  (f:∀d,P d->sP m d/\∀v b a,SIx Z B md ρ σ a b fp->Ext G H b a->Dv Z b v d->Q v a):eC Z t σ H Q:=by
 cases m with
 |false=>exact⟨G,_,P,S.ex.sub,S.Gs,h,λd c v b a x dv=>(f d c).2 v b a (S.grow x) x dv⟩
 |true=>
  obtain⟨j,i,e⟩:=S.Pf;refine⟨i8 G H fp,_,P,i,e,h,λd c v b a x dv=>?_⟩;obtain⟨g,k⟩:=S.X7 x;exact(f d c).2 v _ a (S.grow g) g (dv.pA k (f d c).1)
theorem SIx.Vv(S:SIx Z B md ρ σ H G fp)(h:t ρ P)(c:∀b,P b->∀a,SIx Z B md ρ σ a G fp->Q b a):liftT Z t σ H Q:=
 ⟨H,ρ,P, .refl _,S.JX,h,λb d e a x=>c b d a (S.grow (Ext.all S.ex.sub x))⟩
theorem SIx.qb(S:SIx Z B md ρ σ H G fp)(l:md.getD i 0=0)(dv:Dv Z G v d):SIx Z B md (ρ.set i (some d)) (σ.set i (some v)) H G (λj=>if j=i then[] else fp j) where
 ex:=S.ex
 fl:=S.fl
 len:=by rw[mJ,mJ];exact S.len
 at_:=λj c h=>by
  by_cases z:i=j
  ·subst z
   by_cases a:i<ρ.length
   ·rw[qZ a] at h
    cases FB h;exact⟨v,qZ (by rw[<-S.len];exact a),by rw[l,tz rfl];exact⟨dv,rfl⟩⟩
   ·rw[B3 (rg a),nX (rg a)] at h;cases h
  ·rw[yY z] at h ⊢
   rw[ir (Ne.symm z)];exact S.at_ j c h
 nd:=λj=>by split;exact jj;exact S.nd j
 ap:=λj k b ne e f=>by
  split at e
  ·cases e
  ·split at f
   ·cases f
   ·exact S.ap j k b ne e f
 nw:=λj b g=>by
  split at g
  ·cases g
  ·exact S.nw j b g
theorem SIx.He{f:List Addr}(S:SIx Z B md ρ σ H G fp)(m:md.getD i 0=n)(o:Own Z G H n v d f)(nd:f.Nodup)(nw:∀b∈f,B.H₀ b=none/\H b≠none/\G b=none)(ap:∀b∈f,∀j,j≠i->b∉fp j):
  SIx Z B md (ρ.set i (some d)) (σ.set i (some v)) H G (λj=>if j=i then f else fp j) where
 ex:=S.ex
 fl:=S.fl
 len:=by rw[mJ,mJ];exact S.len
 at_:=λj c h=>by
  by_cases z:i=j
  ·subst z
   by_cases e:i<ρ.length
   ·rw[qZ e] at h
    cases FB h;exact⟨v,qZ (by rw[<-S.len];exact e),by rw[m,tz rfl];exact o⟩
   ·rw[B3 (rg e),nX (rg e)] at h;cases h
  ·rw[yY z] at h ⊢
   rw[ir (Ne.symm z)];exact S.at_ j c h
 nd:=λj=>by split;exact nd;exact S.nd j
 ap:=λj k b ne g a=>by
  split at g
  ·next z=>
   rw[ir (λw=>ne (z.trans w.symm))] at a;exact ap b g k (λw=>ne (z.trans w.symm)) a
  ·next z=>
   split at a
   ·exact ap b a j z g
   ·exact S.ap j k b ne g a
 nw:=λj b l=>by
  split at l
  ·exact nw b l
  ·exact S.nw j b l
noncomputable def plus(G H:Hp)(F:Addr->Prop):Hp:=λb=>open Classical in if F b then H b else G b
theorem pI(h:F b):plus G H F b=H b:=by unfold plus;rw[tz h]
theorem mw(h:¬F b):plus G H F b=G b:=by unfold plus;rw[ir h]
theorem mz(s:aP G H):aP (plus G H F) H:=λb o e=>by
 by_cases h:F b
 ·rw[pI h] at e;exact e
 ·rw[mw h] at e;exact s _ _ e
theorem jy(s:aP G H):aP G (plus G H F):=λb o e=>by
 by_cases h:F b
 ·rw[pI h];exact s _ _ e
 ·rw[mw h];exact e
theorem SIx.evR(S:SIx Z B md ρ σ H G fp)(h:t ρ P)(g:∀d,P d->∀v a c,Ext B.G₀ B.H₀ a c->Dv Z a v d->Q v c):eC Z t σ H Q:=by
 let F:Addr->Prop:=λb=>∃i,b∈fp i
 have s:=S.ex.sub
 have j:Ext B.G₀ B.H₀ (plus G H F) H:=⟨S.ex.gg.trans (jy s),mz s,S.ex.hh,λb f k=>by
  rw[mw (λ⟨i,l⟩=>f (S.nw i b l).1)];exact S.ex.off b f k⟩
 refine⟨plus G H F,ρ,P,mz s,⟨S.len,λi d h=>?_⟩,h,λd m v a c x dv=>g d m v a c (j.trans x) dv⟩;obtain⟨v,n,o⟩:=S.at_ i d h;exact⟨v,n,o.dv (jy s) λb f u e=>by rw[pI ⟨i,f⟩];exact e⟩
end
structure iT where
 nx:DN->Prop
 rt:D->Prop
 bk:DN->Prop:=λ_=>False
 ct:DN->Prop:=λ_=>False
 xc:DN->D->Prop:=λ_ _=>False
abbrev e8:=iT->DN->Prop
structure Meets (Z:DC) (X:Cx) (B:Bs) (md:List Nat) (rn:Nat) (E:iT) (Dn:Ends):Prop where
 nx:∀ρ,E.nx ρ->∀σ H,SI Z B md ρ σ H->Dn.nx σ H
 rt:∀d,E.rt d->∀v f G' H',Ext B.G₀ B.H₀ G' H'->Own Z G' H' rn v d f->f.Nodup->(∀b∈f,B.H₀ b=none/\H' b≠none/\G' b=none)->Dn.rt v H'
 bk:∀ρ,E.bk ρ->∀σ H,SI Z B md ρ σ H->Dn.bk σ H
 ct:∀ρ,E.ct ρ->∀σ H,SI Z B md ρ σ H->Dn.ct σ H
 xc:∀ρ d,E.xc ρ d->∀σ H G fp a,SIx Z B md ρ σ H G fp->Dv Z G (.ref a) d->S0 X σ H a
def rQ(Z:DC)(X:Cx)(a:List Nat)(c:Nat)(t:e8):TS:=λd e H=>∃(B:Bs)(b:DN)(E:iT),SI Z B a b e H/\t E b/\Meets Z X B a c E d
def DSt(Z:DC)(X:Cx)(a:List Nat)(b:Nat)(st:Stmt)(t:e8):Prop:=PS X st (rQ Z X a b t)
def wo(Z:DC)(X:Cx)(a:List Nat)(b:Nat)(c:List Stmt)(t:e8):Prop:=oz X c (rQ Z X a b t)
theorem PS.imp{X:Cx}{st:Stmt}{t c:TS}(h:PS X st t)(f:∀D b H,c D b H->t D b H):PS X st c:=λa s b H D I q=>h a s b H D I (f _ _ _ q)
theorem oz.imp{X:Cx}{st:List Stmt}{t c:TS}(h:oz X st t)(f:∀D b H,c D b H->t D b H):oz X st c:=λa s b H D I q=>h a s b H D I (f _ _ _ q)
section
variable {Z:DC} {X:Cx} {md:List Nat} {rn:Nat} {st:Stmt} {Ol:List Stmt} {t u:e8} {e:Expr} {te:bh} {pos:Pos}
def QD:e8:=λE a=>E.nx a
def u7(t u:e8):e8:=λE a=>t {E with nx:=u E} a
theorem aZ:wo Z X md rn [] QD:=by
 refine Lu.imp λD b H a=>?_;obtain⟨B,c,E,S,h,M⟩:=a;exact M.nx _ h _ _ S
theorem ao(a:DSt Z X md rn st t)(b:wo Z X md rn Ol u):wo Z X md rn (st::Ol) (u7 t u):=by
 refine(mB a b).imp λD k H c=>?_;rfl';obtain⟨B,f,E,S,h,M⟩:=c;ac_rfl;exact⟨B,f,_,S,h,⟨λg i m n j=>⟨B,g,E,j,i,M⟩,M.rt,M.bk,M.ct,M.xc⟩⟩
theorem ar(a:DSt Z X md rn st t):wo Z X md rn [st] t:=Dq a
theorem lT:DSt Z X md rn st (λ_ _=>False):=by
 refine IB.imp λD b H a=>?_;obtain⟨B,c,E,S,h,M⟩:=a;exact h
def UU(a:bh):e8:=λE b=>a b E.rt
theorem aK(a:DE Z X e te):DSt Z X md 0 (.Return (some e) pos) (UU te):=by
 refine(GX a).imp λD l H c=>?_;rfl';obtain⟨B,n,E,⟨G,o,S⟩,h,M⟩:=c;ac_rfl;exact S.evR h λd g v i j x dv=>M.rt d g v [] i j x ⟨dv,rfl⟩ jj (λb k=>by cases k)
def UH(c:eo)(t u:e8):e8:=λE a=>c a λb=>if b=true then t E a else u E a
theorem bZ(k:DT Z X c f)(l:wo Z X md rn a t)(d:wo Z X md rn b u):DSt Z X md rn (.If c a b pos) (UH f t u):=by
 refine(R5 k l d).imp ?_;intro D o H m;rfl';obtain⟨B,g,E,⟨G,i,S⟩,h,M⟩:=m;ac_rfl;refine S.Vv h λb d q j=>?_;cases b with
 |true=>exact dJ ⟨B,g,E,⟨G,i,j⟩,(d),M⟩
 |false=>exact ck ⟨B,g,E,⟨G,i,j⟩,(d),M⟩
def JK(b:List Nat)(m:Bool)(i:Nat)(c:bh):e8:=λE a=>c (DY b m a) λd=>sP m d/\E.nx (a.set i (some d))
theorem aE(m:Bool)(i:Nat)(f:X.N.Nodup)(g:DE Z X e j)(k:b.getD i 0=0:=by rfl)(l:X.N[i]? =some x:=by rfl)(n:Loc X.env.scope x:=by first|exact Or.inl rfl|exact Or.inr rfl)(o:swapsWith e (some (.Name x a)) pos.line X.env=pure false:=by rfl)
  (p:X.fn x=true\/X.env.scope.names.lookup x=some .local:=by first|exact .inl rfl|exact .inr rfl|assumption):DSt Z X b y (.Assign [.Name x a] e pos) (JK b m i j):=by
 refine(qz f l n g o p).imp ?_;intro D z H q;rfl';obtain⟨B,C,E,⟨G,F,S⟩,h,M⟩:=q;ac_rfl;exact S.ev m h λd c=>⟨c.1,λv s I w x dv=>M.nx _ c.2 _ _ ⟨s,_,w.qb k dv⟩⟩
theorem HJ(i:Nat){NC:List Str}{src:List (Option Nat)}(q:X.calm=true)(r:X.N.Nodup)(c:cu X a)(w:dk a X.N src NC)(y:DI Z X k iter n)
  (z:∀j s H,DG Z (b8 X a NC j s H) k g) (A:∀j s H,vE Z (b8 X a NC j s H) f o) (C:∀j s H,DE Z (b8 X a NC j s H) b te)
  (F:swapsWith (.ListComp b [⟨k,iter,f,0⟩] a pos) (some (.Name x l)) m.line X.env=pure true:=by rfl) (I:md.getD i 0=0:=by rfl) (J:X.N[i]? =some x:=by rfl) (L:Loc X.env.scope x:=by first|exact Or.inl rfl|exact Or.inr rfl)
  (O:X.fn x=true\/X.env.scope.names.lookup x=some .local:=by first|exact .inl rfl|exact .inr rfl|assumption)
  (P:∀x,foldedSetIterable iter X.env x=pure x:=by intro _;rfl):DSt Z X md rn (.Assign [.Name x l] (.ListComp b [⟨k,iter,f,0⟩] a pos) m) (JK md false i (QB n g o te src)):=by
 refine(Ae q r J L c w y z A C F O P).imp ?_;intro D Q H R;rfl';obtain⟨B,t,E,⟨G,u,S⟩,h,M⟩:=R;ac_rfl;refine GD Q H _ (S.ev false h λd p=>⟨p.1,λv U H' Y x dv=>M.nx _ p.2 _ _ ⟨U,_,Y.qb I dv⟩⟩)
end
end L2
namespace L2
open PySem PySem.Spec PyProof.Rows
section
variable {Z:DC} {X:Cx} {B:Bs} {md:List Nat} {rn:Nat} {ρ:DN} {σ:St} {H G:Hp} {fp:Nat->List Addr}
def GC(Z:DC)(a:List Nat)(g:eV):TG:=λv f H Q=>∃(B:Bs)(b:DN)(d:D)(P:DN->Prop)(G:Hp)(h:Nat->List Addr),SIx Z B a b f H G h/\Dv Z G v d/\g d b P/\∀c,P c->∀e i,SIx Z B a c e H G i->Q e H
def KP(Z:DC)(a:List Nat)(g:nB):za:=λf h H Q=>∃(B:Bs)(b:DN)(c:List D)(P:DN->Prop)(G:Hp)(i:Nat->List Addr),SIx Z B a b h H G i/\DvAll Z G f c/\g c b P/\∀d,P d->∀e j,SIx Z B a d e H G j->Q e H
def Hq(Z:DC)(X:Cx)(a:List Nat)(e:Expr)(g:eV):Prop:=PG X e (GC Z a g)
def Gh(Z:DC)(X:Cx)(a:List Nat)(b:List Expr)(g:nB):Prop:=Av X b (KP Z a g)
theorem aT(i:Nat)(a:X.N.Nodup)(b:c.getD i 0=0:=by rfl)(e:X.N[i]? =some x:=by rfl)(f:Loc X.env.scope x:=by first|exact Or.inl rfl|exact Or.inr rfl)(g:X.fn x=true\/X.env.scope.names.lookup x=some .local:=by first|exact .inl rfl|exact .inr rfl|assumption):Hq Z X c (.Name x pos) (wa i):=by
 refine(Di a e f g).imp λv l H Q j=>?_;rfl';obtain⟨B,n,d,P,G,o,S,dv,h,q⟩:=j;ac_rfl;exact q _ h _ _ (S.qb b dv)
theorem eX:Gh Z X md [] JQ:=by
 refine Dj.imp λv c H Q a=>?_;rfl';obtain⟨B,e,f,P,G,g,S,dv,⟨h,p⟩,q⟩:=a;subst h;cases dv;ac_rfl;exact⟨rfl,q _ p _ _ S⟩
theorem bF(d:Hq Z X md e g)(f:Gh Z X md b c)(i:(assignEach (e::b) X.env).map (·.2)=assign e X.env::(assignEach b X.env).map (·.2):=by rfl):Gh Z X md (e::b) (Gn g c):=by
 refine(Ab d f i).imp ?_;intro v t H Q j;rfl';obtain⟨B,l,w,P,G,m,S,dv,h,q⟩:=j;ac_rfl;cases dv with
 |nil=>exact h.elim
 |cons a n=>exact⟨_,_,rfl,B,l,_,_,G,m,S,a,h,λo p x r s=>⟨B,o,_,P,G,r,s,n,p,q⟩⟩
theorem gT(n:Nat)(e:X.calm=true)(h:Gh Z X md b c)(f:(assignEach b X.env).length=n:=by rfl)(g:(assignEach b X.env).findIdx? (·.1)=none:=by rfl):Hq Z X md (.Tuple b k pos) (JR n c):=by
 refine(GU e h f g).imp ?_;rintro v o H Q ⟨B,i,d,P,G,j,S,dv,h,q⟩;cases dv<;>first|exact h.elim|skip
 rename_i a l p m b
 exact⟨a,l,rfl,gO.of (S.ex.sub _ _ m),by rw[b.length];exact h.1,B,i,_,P,G,j,S,b,h.2,q⟩
def UD(b:List Nat)(c:bh)(g:eV):e8:=λE a=>c (eE b a) λd=>g d a E.nx
theorem wc(f:DE Z X e b)(i:Hq Z X md a g)(j:swapsWithSole [a] e pos.line X.env=pure false:=by rfl)(hw:swappedStores [a] e X.env=pure none:=by rfl)
  (k:(assignEach [a] X.env).map (·.2)= [assign a X.env]:=by rfl):DSt Z X md rn (.Assign [a] e pos) (UD md b g):=by
 refine(BF f i j hw k).imp ?_;intro D u H l;rfl';obtain⟨B,n,E,⟨G,o,S⟩,h,M⟩:=l;ac_rfl;exact S.ev false h λd p=>⟨trivial,λv c y q x dv=>⟨B,n,d,E.nx,c,o,q,dv,p,λz r A s t=>M.nx _ r _ _ ⟨c,s,t⟩⟩⟩
def oU(g:eV)(a:e8)(E:iT):List D->DN->Prop
 | [],b=>E.nx b
 |x::c,b=>g x b λd=>a {nx:=oU g a E c,ct:=oU g a E c,bk:=E.nx,rt:=E.rt,xc:=E.xc} d
def O6(b:List Nat)(m:Bool)(c:iI)(g:eV)(d:e8):e8:=λE a=>c (DY b m a) λe=>oU g d E e a
theorem zO(S:SIx Z B md h c H G fp)(O:wq Z G J k)(P:oU g r E k h)(M:Meets Z X B md rn E q):
  ∃W:Nat->Nat->St->Hp->Prop,(∃m,W 0 m c H)/\∀i m c H,W i m c H->
   (J.stop i H/\q.nx c H)\/(J.go i H/\∃N:St->Hp->Prop,(∀j a,N j a->∃F,F<m/\W (i+1) F j a)/\∀x a,J.yld i H x a->GC Z md g x c a λI v=>rQ Z X md rn r {q with nx:=N,ct:=N,bk:=q.nx} I v):=by
 let p:Bs:={B with Gf:=G}
 have back:∀h c H,SI Z p md h c H->SI Z B md h c H:=λh c H ⟨s,t,f⟩=>⟨s,t,⟨f.ex,S.fl.trans f.fl,f.len,f.at_,f.nd,f.ap,f.nw⟩⟩;have Q:SIx Z p md h c H G fp:=⟨S.ex, .refl _,S.len,S.at_,S.nd,S.ap,S.nw⟩;refine⟨λi m c H=>m=k.length-i/\i<=k.length/\∃h,SI Z p md h c H/\oU g r E (k.drop i) h,⟨_,rfl,cF _,h,⟨G,fp,Q⟩,P⟩,?_⟩;intro i m I v R;rfl';obtain⟨rfl,hi,U,⟨s,t,f⟩,u⟩:=R;obtain⟨Y,stop,yld⟩:=O s v f.fl f.ex.sub i;ac_rfl
 by_cases z:i<k.length
 ·refine .inr ⟨Y z,λj a=>∃l,SI Z p md l j a/\oU g r E (k.drop (i+1)) l,λj a n=>⟨k.length-(i+1),by lia,rfl,z,n⟩,λx a y=>?_⟩
  rfl';obtain⟨L,d,x3,Kg,dv⟩:=yld x a z y;rw[lQ Kg] at u;ac_rfl;refine⟨p,U,d,_,L,t,f.grow x3,dv,u,λA h4 fJ C S4=>?_⟩;exact⟨p,A,_,⟨L,C,S4⟩,h4,⟨λl o j a b=>⟨l,b,o⟩,M.rt,λl o j a b=>M.nx _ o _ _ (back _ _ _ b),λl o j a b=>⟨l,b,o⟩,λl d o j a G' AO a' b wU=>M.xc l d o j a G' AO a' ⟨b.ex,S.fl.trans b.fl,b.len,b.at_,b.nd,b.ap,b.nw⟩ wU⟩⟩
 ·have e:k.drop i= []:=yX (by lia)
  rw[e] at u;exact .inl ⟨stop (by lia),M.nx _ u _ _ (back _ _ _ ⟨s,t,f⟩)⟩
variable {tg iter:Expr} {body:List Stmt} {wi:iI} {g:eV} {tb:e8} {pos:Pos}
theorem eO(a:X.calm=true)(b:PassesOwn (model X.prog X.w) X.A X.env X.xe)(c:DI Z X tg iter wi)(d:Hq Z X md tg g)(e:wo Z X md rn body tb)
  (f:∀x,foldedSetIterable iter X.env x=pure x:=by intro _;rfl):DSt Z X md rn (.For tg iter body [] pos) (O6 md false wi g tb):=by
 refine(GW b a c d e f).imp ?_;intro D n H i;rfl';obtain⟨B,p,E,⟨G,q,S⟩,h,M⟩:=i;ac_rfl;exact⟨G,_,_,S.ex.sub,S.Gs,h,λr k J s t l m=>zO (S.grow l) m k M⟩
def Ni(Z:DC)(d:iI):TI:=λe H R=>∃(G:Hp)(a:DN)(P:List D->Prop),aP G H/\dR Z G e a/\d a P/\∀b,P b->∀J f c,Ext G H f c->(∀h,wq Z h J b)->R J c
def PV(Z:DC)(X:Cx)(a e:Expr)(b:iI):Prop:=PI X a e (Ni Z b)
theorem oM(a:X.calm=true)(b:PassesOwn (model X.prog X.w) X.A X.env X.xe)(c:PV Z X tg iter wi)(d:Hq Z X md tg g)(e:wo Z X md rn body tb)
  (f:∀x,foldedSetIterable iter X.env x=pure x:=by intro _;rfl):DSt Z X md rn (.For tg iter body [] pos) (O6 md true wi g tb):=by
 refine(GW b a c d e f).imp ?_;intro D o H i;rfl';obtain⟨B,k,E,⟨G,q,S⟩,h,M⟩:=i;ac_rfl;exact⟨H,k,_, .refl _,S.JX,h,λr l J s t m n=>zO (S.grow (Ext.all S.ex.sub m)) (n _) l M⟩
variable {a b e:Expr} {ta te:bh} {t:iH}
theorem rD(d:Gl X "range")(f:X.mg "range"=none)(i:DA Z X [a] t)(j:starEach [a] X.env= [(false,eval a X.env)]:=by rfl):PV Z X tg (.Call (.Name "range" p) [a] [] pos) (O9 t):=by
 refine(xW d f i j).imp ?_;intro v H Q k;rfl';obtain⟨G,m,P,s,n,h,q⟩:=k;ac_rfl;refine⟨G,m,_,s,n,h,λx c y o r u dv=>?_⟩
 split at c
 ·obtain⟨_,rfl,a⟩:=dv.ofOne
  exact⟨_,by rw[a.ofInt],c.1.1,c.1.2,q _ c.2 _ o r u λ_=>qt 0 _⟩
 ·exact c.elim
theorem wR(d:Gl X "range")(f:X.mg "range"=none)(i:DA Z X [a,b] t)(j:starEach [a,b] X.env= [(false,eval a X.env),(false,eval b X.env)]:=by rfl)(k:starEach [b] X.env= [(false,eval b X.env)]:=by rfl):PV Z X tg (.Call (.Name "range" p) [a,b] [] pos) (Pa t):=by
 refine(xX d f i j k).imp ?_;rintro w H Q ⟨G,l,P,s,m,h,q⟩;refine⟨G,l,_,s,m,h,λx c y n o r dv=>?_⟩
 split at c
 ·obtain⟨z,A,rfl,u,v⟩:=dv.Bw
  exact⟨_,_,by rw[u.ofInt,v.ofInt],c.1,q _ c.2 _ n o r λ_=>qt _ _⟩
 ·exact c.elim
def Gk(c:eo)(i:e8):e8:=λE d=>∃W:Nat->DN->Prop,(∃m,W m d)/\∀m d,W m d->c d λb=>if b=true then i {nx:=λh=>∃f,f<m/\W f h,ct:=λh=>∃f,f<m/\W f h,bk:=E.nx,rt:=E.rt,xc:=E.xc} d else E.nx d
theorem lU(C:PassesOwn (model X.prog X.w) X.A X.env X.xe)(F:DT Z X c s)(l:wo Z X md rn body tb):DSt Z X md rn (.While c body [] pos) (Gk s tb):=by
 refine(IC C F l).imp ?_;intro D u H p;rfl';obtain⟨B,n,E,S,⟨W,⟨J,L⟩,h⟩,M⟩:=p;ac_rfl;refine⟨λm u H=>∃n,SI Z B md n u H/\W m n,⟨J,n,S,L⟩,?_⟩;intro m Q R p;rfl';obtain⟨v,⟨x,y,N⟩,O⟩:=p;ac_rfl;refine N.Vv (h m v O) λb l i z=>?_;cases b with
 |false=>exact ck (M.nx _ (l) _ _ ⟨x,y,z⟩)
 |true=>
  refine dJ ⟨λo i=>∃d f,f<m/\SI Z B md d o i/\W f d,λo i ⟨d,f,j,k,P⟩=>⟨f,j,d,k,P⟩,B,v,_,⟨x,y,z⟩,(l),?_⟩;exact⟨λd ⟨f,j,k⟩ o i r=>⟨d,f,j,r,k⟩,M.rt,M.nx,λd ⟨f,j,k⟩ o i r=>⟨d,f,j,r,k⟩,M.xc⟩
abbrev mN:=DN->(List D->Prop)->Prop
def xE(Z:DC)(n:Nat)(t:mN):TE:=λj H Q=>∃(G:Hp)(h:DN)(P:List D->Prop),aP G H/\dR Z G j h/\t h P/\∀i,P i->∀v f d c,Ext G H d c->Own Z d c n v (.lst i) f->f.Nodup->(∀b∈f,H b=none/\c b≠none/\d b=none)->Q v c
def DF(Z:DC)(X:Cx)(n:Nat)(e:Expr)(t:mN):Prop:=PE X e (xE Z n t)
theorem Ext.side(x:Ext G H d c)(f:c p=none):Ext G H d (upd c p o):=
 ⟨x.gg,λb u e=>by rw[aN (bu e (x.sub.free f))];exact x.sub _ _ e,x.hh.trans (aY f _),x.off⟩
theorem mm(x:Ext G H d f)(i:f p=none)(dv:DvAll Z d c h):
  Own Z d (upd f p (.lst c)) 1 (.ref p) (.lst h) [p]/\([p]:List Addr).Nodup/\∀b∈([p]:List Addr),H b=none/\(upd f p (.lst c)) b≠none/\d b=none:=by
 refine⟨.inl ⟨p,c,h,[],rfl,rfl,aB,rfl,dv.own⟩,by simp,λb j=>?_⟩
 have:b=p:=by simpa using j
 subst this;exact⟨x.hh.free i,(aB▸λz=>nomatch z),x.sub.free i⟩
def Vx(t:iH):mN:=λd P=>t d λc=>c.length<=sizeLine/\P c
theorem kr(h:DA Z X c t):DF Z X 1 (.List c pos) (Vx t):=by
 refine(GP h).imp ?_;intro v H Q j;rfl';obtain⟨G,l,P,s,e,h,q⟩:=j;ac_rfl;refine⟨G,l,_,s,e,h,?_⟩;rintro x ⟨m,n⟩ y z A d f;refine⟨by rw[f.length];exact m,λp i=>?_⟩
 obtain⟨o,r,u⟩:=mm d i f;exact q _ n _ _ _ _ (d.side i) o r u
def QP(d:iI)(g:eV)(f:eo)(h:bh)(src:List (Option Nat)):mN:=λc P=>d c λi=>lcW g f h i (yq src c) [] λ_ out=>P out
theorem C3:∀v H Q,xE Z 1 (QP wi g u te src) v H Q->Oo (rP Z wi) (pj Z g) (liftT Z u) (eC Z te) src v H Q:=by
 intro v H Q R;rfl';obtain⟨G,T,P,s,x,h,q⟩:=R;ac_rfl;refine⟨G,T,_,s,x,h,λj U J E Y f F k y=>?_⟩;refine⟨λi m A l=>m=j.length-i/\i<=j.length/\∃p d,CS Z E Y k p d A l/\lcW g u te (j.drop i) p d λ_ out=>P out,⟨_,rfl,cF _,_,[], .begin f.sub y ((x.mono f.gg).src src),U⟩,?_⟩;rintro i m A l ⟨rfl,hi,p,d,c,C⟩
 by_cases I:i<j.length
 ·obtain⟨a,o⟩:=zZ y E F i p d A l c (λ_ s=>s) I C
  exact .inr ⟨a,_,λaA H' n=>⟨j.length-(i+1),by lia,rfl,I,n⟩,o⟩
 ·have e:j.drop i= []:=yX (by lia)
  rfl';rw[e] at C;obtain⟨L,t,M,N,B,off,X,O,bx,x⟩:=c;ac_rfl;refine .inl ⟨(F L l M N i).2.1 (by lia),q _ C (.ref k) [k] L l ⟨f.gg.trans M,N,f.hh.trans B,λb r hg=>off b (fO f.hh r) (f.off b r hg)⟩ (.inl ⟨k,t,d,[],rfl,rfl,O,rfl,bx.own⟩) (by simp) λb r=>?_⟩
  have:b=k:=by simpa using r
  subst this;exact⟨f.hh.free y,(by rw[O];exact λz=>nomatch z),X⟩
variable {elt:Expr} {ifs:List Expr} {scope:Scope} {NC:List Str} {src:List (Option Nat)} {tt:eo}
def JF(d:List Nat)(i:Nat)(t:mN):e8:=λE c=>t (eE d c) λf=>E.nx (c.set i (some (.lst f)))
theorem uy{t:mN}(p:md.getD i 0=n)(S:SIx Z B md ρ σ H G fp)(h:t (eE md ρ) λl=>E.nx (ρ.set i (some (.lst l))))(M:Meets Z X B md rn E k):xE Z n t σ H λv m=>k.nx (σ.set i (some v)) m:=by
 refine⟨G,_,_,S.ex.sub,S.Gs,h,λl q v f r m x o s d=>?_⟩;refine M.nx _ q _ _ ⟨r,_,(S.grow x).He p o s (λb c=>⟨S.ex.hh.free (d b c).1,(d b c).2⟩) λb c j _ u=>(S.nw j b u).2.1 (d b c).1⟩
theorem gS(i:Nat){t:mN}(f:X.N.Nodup)(j:DF Z X n e t)(k:d.getD i 0=n:=by rfl)(l:X.N[i]? =some x:=by rfl)(m:Loc X.env.scope x:=by first|exact Or.inl rfl|exact Or.inr rfl)(o:swapsWith e (some (.Name x c)) pos.line X.env=pure false:=by rfl)
  (p:X.fn x=true\/X.env.scope.names.lookup x=some .local:=by first|exact .inl rfl|exact .inr rfl|assumption):DSt Z X d s (.Assign [.Name x c] e pos) (JF d i t):=by
 refine(qz f l m j o p).imp ?_;intro D u H q;rfl';obtain⟨B,w,E,⟨G,y,S⟩,h,M⟩:=q;ac_rfl;exact uy k S h M
theorem zG(i:Nat)(k:X.calm=true)(l:X.N.Nodup)(c:cu X scope)(m:dk scope X.N src NC)(n:DI Z X tg iter wi)
  (o:∀d s H,DG Z (b8 X scope NC d s H) tg g) (p:∀d s H,vE Z (b8 X scope NC d s H) ifs tt) (q:∀d s H,DE Z (b8 X scope NC d s H) elt te)
  (r:swapsWith (.ListComp elt [⟨tg,iter,ifs,0⟩] scope pos) (some (.Name x f)) j.line X.env=pure true:=by rfl) (u:md.getD i 0=1:=by rfl) (v:X.N[i]? =some x:=by rfl) (w:Loc X.env.scope x:=by first|exact Or.inl rfl|exact Or.inr rfl)
  (y:X.fn x=true\/X.env.scope.names.lookup x=some .local:=by first|exact .inl rfl|exact .inr rfl|assumption)
  (z:∀x,foldedSetIterable iter X.env x=pure x:=by intro _;rfl):DSt Z X md rn (.Assign [.Name x f] (.ListComp elt [⟨tg,iter,ifs,0⟩] scope pos) j) (JF md i (QP wi g tt te src)):=by
 refine(Ae k l v w c m n o p q r y z).imp ?_;intro D A H C;rfl';obtain⟨B,J,E,⟨G,L,S⟩,h,M⟩:=C;ac_rfl;exact C3 A H _ (uy u S h M)
end
section
variable {Z:DC} {X:Cx} {B:Bs} {md:List Nat} {rn:Nat} {ρ:DN} {σ:St} {H G:Hp} {fp:Nat->List Addr} {a e k o:Expr} {ta te tk tp:bh} {pos apos aQ p2:Pos}
theorem SIx.mut{b:Addr}(S:SIx Z B md ρ σ H G fp)(r:σ[i]? =some (some v))(n:b∈fp i)(o:Own Z G (upd H b c) (md.getD i 0) v m (fp i)):SIx Z B md (ρ.set i (some m)) σ (upd H b c) G fp where
 ex:=by
  obtain⟨d,p,f⟩:=S.nw i b n;exact⟨S.ex.gg,λx u e=>by rw[aN (bu e f)];exact S.ex.sub _ _ e,λx u e=>by rw[aN (bu e d)];exact S.ex.hh _ _ e,S.ex.off⟩
 fl:=S.fl
 len:=by rw[mJ];exact S.len
 at_:=λj w h=>by
  by_cases z:i=j
  ·subst z
   by_cases g:i<ρ.length
   ·rw[qZ g] at h
    cases FB h;exact⟨v,r,o⟩
   ·rw[B3 (rg g),nX (rg g)] at h;cases h
  ·rw[yY z] at h
   obtain⟨u,s,t⟩:=S.at_ j w h;exact⟨u,s,t.keep (.refl _) λx l=>aN λq=>S.ap i j b z n (q▸l)⟩
 nd:=S.nd
 ap:=S.ap
 nw:=λj x l=>by
  obtain⟨d,p,f⟩:=S.nw j x l;refine⟨d,?_,f⟩
  by_cases z:x=b
  ·rw[z,aB];exact λq=>nomatch q
  ·rw[aN z];exact p
theorem SIx.one(S:SIx Z B md ρ σ H G fp)(j:md.getD i 0=1)(h:ρ[i]? =some (some d)):∃l b c,d= .lst c/\σ[i]? =some (some (.ref l))/\H l=some (.lst b)/\DvAll Z G b c/\
  ∀f g,DvAll Z G f g->SIx Z B md (ρ.set i (some (.lst g))) σ (upd H l (.lst f)) G fp:=by
 rfl';obtain⟨v,m,o⟩:=S.at_ i d h;rw[j] at o;obtain⟨l,b,c,u,rfl,rfl,q,n,r⟩:=o.one;obtain⟨dv,rfl⟩:=r.flat;ac_rfl;refine⟨l,b,c,rfl,m,q,dv,λf g s=>S.mut m (by rw[n];simp) ?_⟩
 rw[j,n];exact .inl ⟨l,f,g,[],rfl,rfl,aB,rfl,s.own⟩
theorem ty_list{K:ac}{l:Addr}{b:List V}(h:H l=some (.lst b)):Ow K "list" (.ref l) H:= .inl ⟨rfl,_,cM.of h⟩
def UC(f:List Nat)(m:Bool)(i:Nat)(g:bh):e8:=λE b=>∃c,b[i]? =some (some (.lst c))/\g (DY f m b) λd=>sP m d/\c.length<sizeLine/\E.nx (b.set i (some (.lst (c++ [d]))))
theorem ku(m:Bool)(i:Nat)(t:DE Z X e te)(g:md.getD i 0=1:=by rfl)(u:X.N[i]? =some x:=by rfl)(w:ub X.env.scope x:=by first|exact Or.inl rfl|exact Or.inr (Or.inl rfl) |exact Or.inr (Or.inr rfl))(f:(x==("__debug__":Str))=false:=by decide)(y:(x==("__classdict__":Str))=false:=by decide)
  (z:attributeBase (.Name x b) "append" X.env (eval (.Name x b) X.env)=eval (.Name x b) X.env:=by rfl)
  (A:((backTo aQ (starEach [e] X.env)).all (λx=>!x.1)&&(backToKw aQ (keywordEach [] X.env)).all (λx=>x.1.isSome)&&decide (([e]:List Expr).length+([]:List Keyword).length+(if ([]:List Keyword).isEmpty then 0 else 1)<30))=true:=by rfl)
  (C:(apos.endLine==aQ.line)=true:=by rfl) (j:starEach [e] X.env=(false,eval e X.env)::starEach [] X.env:=by rfl) (I:(backTo aQ (starEach [] X.env)).any (·.1)=false:=by rfl)
  (J:swapsWith (.Call (.Attribute (.Name x b) "append" apos) [e] [] aQ) none pos.line X.env=pure false:=by rfl):
  DSt Z X md rn (.Expr (.Call (.Attribute (.Name x b) "append" apos) [e] [] aQ) pos) (UC md m i te):=by
 refine(pJ (xV W1 PySem.F.slot_list_append PySem.F.type_list_append rS (pv i u w f y) (eZ t g6 j) z A C j I) J).imp ?_;intro D o H L;rfl';obtain⟨B,ρ,E,⟨G,O,S⟩,⟨ds,p,h⟩,M⟩:=L;ac_rfl;rfl';obtain⟨l,xs,_,_,q,P,_⟩:=S.one g p;ac_rfl;refine⟨_,q,ty_list P,S.ev m h λd f=>⟨f.1,λv Q H' R x dv=>?_⟩⟩;rfl';obtain⟨_,T,U⟩:=f;obtain⟨l',Y,rE,a,r,k,s,put⟩:=R.one g p;cases a;ac_rfl;rw[q] at r;cases r;exact⟨l,Y,v,rfl,rfl,k,by rw[s.length];exact T,M.nx _ U _ _ ⟨Q,O,put _ _ (s.snoc dv)⟩⟩
theorem DvAll.ins{b:List V}{c:List D}{v:V}{d:D}(n:Nat)(h:DvAll Z G b c)(dv:Dv Z G v d):DvAll Z G (Wb.ins b n v) (Wb.ins c n d):=(h.take n).append (.cons dv (h.drop n))
def UK(f:List Nat)(m:Bool)(i:Nat)(g h:bh):e8:=λE b=>∃c,b[i]? =some (some (.lst c))/\g b λj=>∃k,j= .int k/\h (DY f m b) λd=>sP m d/\(0<=k/\k<=c.length/\c.length<sizeLine)/\E.nx (b.set i (some (.lst (Wb.ins c k.toNat d))))
theorem MH(m:Bool)(i:Nat)(u:DE Z X k tk)(w:DE Z X e te)(n:md.getD i 0=1:=by rfl)(y:X.N[i]? =some x:=by rfl)(z:ub X.env.scope x:=by first|exact Or.inl rfl|exact Or.inr (Or.inl rfl) |exact Or.inr (Or.inr rfl))(f:(x==("__debug__":Str))=false:=by decide)(A:(x==("__classdict__":Str))=false:=by decide)
  (C:attributeBase (.Name x b) "insert" X.env (eval (.Name x b) X.env)=eval (.Name x b) X.env:=by rfl)
  (I:((backTo aQ (starEach [k,e] X.env)).all (λx=>!x.1)&&(backToKw aQ (keywordEach [] X.env)).all (λx=>x.1.isSome)&&decide (([k,e]:List Expr).length+([]:List Keyword).length+(if ([]:List Keyword).isEmpty then 0 else 1)<30))=true:=by rfl)
  (J:(apos.endLine==aQ.line)=true:=by rfl) (p:starEach [k,e] X.env=(false,eval k X.env)::starEach [e] X.env:=by rfl) (L:starEach [e] X.env=(false,eval e X.env)::starEach [] X.env:=by rfl) (O:(backTo aQ (starEach [e] X.env)).any (·.1)=false:=by rfl)
  (P:swapsWith (.Call (.Attribute (.Name x b) "insert" apos) [k,e] [] aQ) none pos.line X.env=pure false:=by rfl):
  DSt Z X md rn (.Expr (.Call (.Attribute (.Name x b) "insert" apos) [k,e] [] aQ) pos) (UK md m i tk te):=by
 refine(pJ (xV W1 PySem.F.slot_list_insert PySem.F.type_list_insert Fj (pv i y z f A) (eZ u (eZ w g6 L) p) C I J p O) P).imp ?_;intro D σ H Q;rfl';obtain⟨B,ρ,E,⟨G,R,S⟩,⟨ds,r,h⟩,M⟩:=Q;ac_rfl;rfl';obtain⟨l,xs,_,_,s,T,_⟩:=S.one n r;ac_rfl;refine⟨_,s,ty_list T,S.ev true h ?_⟩;rintro _ ⟨k,rfl,h⟩;refine⟨rfl,λv1 G1 H1 U x1 Y=>U.ev m h λd f=>⟨f.1,λv a H' o x dv=>?_⟩⟩;rfl';cases Y.ofInt;obtain⟨_,⟨h2,g,VD⟩,h3⟩:=f;obtain⟨l',qL,rE,e1,t,vJ,j,put⟩:=o.one n r;cases e1;ac_rfl;rw[s] at t;cases t;exact⟨l,qL,k,v,rfl,rfl,vJ,h2,by rw[j.length];exact g,by rw[j.length];exact VD,M.nx _ h3 _ _ ⟨a,R,put _ _ (j.ins _ dv)⟩⟩
theorem Mt{j n:Nat}(d:b.length=n)(h:rK n i=some j)(e:b[j]? =some v):gn b i=some v:=by unfold gn;rw[d,h];exact e
def MA(f:List Nat)(m:Bool)(i:Nat)(g h:bh):e8:=λE b=>h (DY f m b) λd=>sP m d/\∃c,b[i]? =some (some (.lst c))/\g b λl=>∃k j,l= .int k/\rK c.length k=some j/\E.nx (b.set i (some (.lst (c.set j d))))
theorem zH(m:Bool)(i:Nat)(z:DE Z X k tk)(A:DE Z X e te)(r:md.getD i 0=1:=by rfl)(C:X.N[i]? =some x:=by rfl)(F:ub X.env.scope x:=by first|exact Or.inl rfl|exact Or.inr (Or.inl rfl) |exact Or.inr (Or.inr rfl))(g:(x==("__debug__":Str))=false:=by decide)(I:(x==("__classdict__":Str))=false:=by decide)
  (J:∀v,assign (.Subscript (.Name x b) k c) X.env v=(do
   let n <-holding [v] (eval (.Name x b) X.env)
   let q <-holding [v,n] (eval k X.env)
   standAt c
   holding [v,n,q] (setItem n q v)
   release [v,n,q] []):=by intro _;rfl)
  (L:swapsWithSole [.Subscript (.Name x b) k c] e pos.line X.env=pure false:=by rfl) (hw:swappedStores [.Subscript (.Name x b) k c] e X.env=pure none:=by rfl)
  (p:(assignEach [.Subscript (.Name x b) k c] X.env).map (·.2)= [assign (.Subscript (.Name x b) k c) X.env]:=by rfl):DSt Z X md rn (.Assign [.Subscript (.Name x b) k c] e pos) (MA md m i tk te):=by
 refine(BF A (GR (pv i C F g I) z set_list J) L hw p).imp ?_;intro D σ H O;rfl';obtain⟨B,ρ,E,⟨G,P,S⟩,h,M⟩:=O;ac_rfl;refine S.ev m h λd g=>⟨g.1,λv G' H' t x dv=>?_⟩;rfl';obtain⟨_,ds,p,h⟩:=g;obtain⟨l,xs,_,_,u,e3,_⟩:=t.one r p;ac_rfl;refine⟨_,u,t.ev true h ?_⟩;rintro _ ⟨k,j,rfl,Q,R⟩;refine⟨rfl,λv1 T H1 U Y a=>?_⟩;rfl';cases a.ofInt;obtain⟨l',o,rE,e1,w,vJ,y,put⟩:=U.one r p;cases e1;ac_rfl;rw[u] at w;cases w;exact⟨l,o,k,j,rfl,rfl,vJ,by rw[y.length];exact Q,M.nx _ R _ _ ⟨T,P,put _ _ (y.set (dv.mono Y.gg) j)⟩⟩
def US(f:List Nat)(i j:Nat):e8:=λE b=>∃c d,b[j]? =some (some (.lst (c++ [d])))/\E.nx ((b.set j (some (.lst c))).set i (some d))
theorem AL(i j:Nat){x y:Str}{px py:Pos}(hN:X.N.Nodup)(hm:md.getD i 0=0:=by rfl)(Kn:md.getD j 0=1:=by rfl)(hi:X.N[i]? =some x:=by rfl)(hx:Loc X.env.scope x:=by first|exact Or.inl rfl|exact Or.inr rfl)
  (hj:X.N[j]? =some y:=by rfl) (hv:ub X.env.scope y:=by first|exact Or.inl rfl|exact Or.inr (Or.inl rfl) |exact Or.inr (Or.inr rfl)) (hd:(y==("__debug__":Str))=false:=by decide) (gE:(y==("__classdict__":Str))=false:=by decide)
  (dB:attributeBase (.Name y py) "pop" X.env (eval (.Name y py) X.env)=eval (.Name y py) X.env:=by rfl) (cy:(apos.endLine==aQ.line)=true:=by rfl)
  (hs:swapsWith (.Call (.Attribute (.Name y py) "pop" apos) [] [] aQ) (some (.Name x px)) pos.line X.env=pure false:=by rfl)
  (hf:X.fn x=true\/X.env.scope.names.lookup x=some .local:=by first|exact .inl rfl|exact .inr rfl|assumption):DSt Z X md rn (.Assign [.Name x px] (.Call (.Attribute (.Name y py) "pop" apos) [] [] aQ) pos) (US md i j):=by
 refine(qz hN hi hx (NL PySem.F.plainAttrs_list PySem.F.slot_list_pop PySem.F.type_list_pop Nl (pv j hj hv hd gE) dB cy) hs hf).imp ?_;intro D σ H aO;rfl';obtain⟨B,ρ,E,⟨G,fp,S⟩,⟨ds,d,h1,h⟩,M⟩:=aO;ac_rfl;rfl';obtain⟨l,xs,rE,e1,e2,e3,bx,put⟩:=S.one Kn h1;cases e1;have hl:xs.length=ds.length+1:=by rw[bx.length];simp
 obtain⟨v,EU,dv⟩:=bx.get (i:=xs.length-1) (d:=d) (by rw[hl];simp)
 ac_rfl;refine⟨_,e2,ty_list e3,l,xs,v,rfl,rfl,e3,EU,M.nx _ h _ _ ⟨G,_,(put xs.dropLast ds ?_).qb hm dv⟩⟩
 have:=bx.take ds.length
 rw[List.take_left'] at this
 ·rw[List.dropLast_eq_take,hl];exact this
 ·rfl
end
structure SO (mg:Str->Option Value):Prop where
 len:mg "len"=none
 range:mg "range"=none
 max:mg "max"=none
 min:mg "min"=none
 enumerate:mg "enumerate"=none
 zip:mg "zip"=none
 sorted:mg "sorted"=none
 all:mg "all"=none
 isinstance:mg "isinstance"=none
 int:mg "int"=none
 bool:mg "bool"=none
 list:mg "list"=none
 tuple:mg "tuple"=none
 sum:mg "sum"=none
 reversed:mg "reversed"=none
theorem Cn:bootBuiltins "bool"=some (.type "bool"):=by decide+kernel
theorem Gj:bootBuiltins "int"=some (.type "int"):=by decide+kernel
theorem gr:bootBuiltins "list"=some (.type "list"):=by decide+kernel
theorem Ht:bootBuiltins "tuple"=some (.type "tuple"):=by decide+kernel
theorem Mv:bootBuiltins "all"=some (.builtin "all"):=by decide+kernel
theorem ik:bootBuiltins "sorted"=some (.builtin "sorted"):=by decide+kernel
theorem aW:bootBuiltins "len"=some (.builtin "len"):=by decide+kernel
section
variable {P:Program} {w:World} {K:ac} {mg:Str->Option Value} {base:Heap} {Z:DC}
def wj(N:List Str)(a:List D):DN:=a.map some++bi (N.length-a.length) none
def fg(Z:DC)(n:Nat)(g:cK):Sp:=λh H Q _=>∃(G:Hp)(e:List D)(P:D->Prop),aP G H/\DvAll Z G h e/\g e P/\∀d,P d->∀v f c a,Ext G H c a->Own Z c a n v d f->f.Nodup->(∀b∈f,H b=none/\a b≠none/\c b=none)->Q v a
theorem Own.pure(x:Ext G H c a)(o:Own Z c a n v d f)(i:∀b∈f,H b=none/\a b≠none/\c b=none):∃h,Ext G H h a/\Dv Z h v d:=by
 refine⟨plus c a λb=>b∈f,⟨x.gg.trans (jy x.sub),mz x.sub,x.hh,λb g j=>?_⟩,o.dv (jy x.sub) λb g u e=>by rw[pI g];exact e⟩
 rw[mw (λz=>g (i b z).1)];exact x.off b g j
theorem IM:∀a H Q E,aR Z b a H Q E->fg Z n b a H Q E:=by
 intro a H Q E c;rfl';obtain⟨G,g,P,s,dv,h,q⟩:=c;ac_rfl;exact⟨G,g,P,s,dv,h,λd i v f t j x o u k=>let ⟨l,m,p⟩:=o.pure x k;q d i v l j m p⟩
theorem jt(l:Nat){x a:Str}{st:Stmt}{f:Addr}{n:FuncData}{N g:List Str}{k:Nat}{m:cK}(F:y9 K x a st f n)(S:aH N g (av st))(o:List Nat)(u:∀i,i<g.length->o.getD i 0=0)(len:∀c P,m c P->c.length=g.length)
  (y:∀(j:Value)(A:Around)(outer:List Env)(s:Shared)(H:Hp)(E:XK)(c:List D)(R:D->Prop),cU k (A.deeper (envOfC a (av st) s.heap.objs.size f j))->m c R->
   ∃t,wo Z (u6 cq P w K mg base N a (av st) f j A outer s H E).kZ o l (gu st) t/\t {nx:=λ_=>l=0/\R .bA,rt:=R} (wj N c)):FnOk P w K mg base cq (k+1) f n g (fg Z l m):=by
 refine F.ok S (λB H Q E h=>?_) (λj A outer s H B Q E C h=>?_)
 ·obtain⟨G,c,R,s,dv,h,q⟩:=h
  rw[dv.length];exact len _ _ h
 rfl';obtain⟨G,c,R,J,dv,h,q⟩:=h;have L:=q;obtain⟨t,M,O⟩:=y j A outer s H E c R C h;have hl:=len _ _ h;ac_rfl;refine⟨_,M,⟨G,H,G⟩,_,_,⟨G,λ_=> [],?_⟩,O,⟨λρ p aA T ⟨U,fp,X⟩=>q _ p.2 _ [] U T X.ex (by rw[p.1];exact⟨.bA,rfl⟩) jj (λb Y=>by cases Y),L,λ_ z=>z.elim,λ_ z=>z.elim,λ_ _ z=>z.elim⟩⟩
 refine⟨.refl J, .refl _,by unfold wj start;simp[dv.length],λi d e=>?_,λ_=>jj,(λ_ _ _ _ z=>by cases z),(λ_ _ z=>by cases z)⟩
 unfold wj at e
 have r:i<c.length:=by
  apply GE;intro z;rw[hU (by simpa using rg z),An] at e
  split at e<;>cases e
 rw[fF (by simpa using r),dF] at e
 have qJ:c[i]? =some d:=by
  cases z:c[i]? with
  |none=>rw[z] at e;cases e
  |some d'=>rw[z] at e;cases e;rfl
 obtain⟨v,hv,wU⟩:=dv.get qJ;refine⟨v,?_,by rw[u i (by lia)];exact⟨wU,rfl⟩⟩
 unfold start;rw[fF (by simpa [dv.length] using r),dF,hv];rfl
theorem aV{x c:Str}{st:Stmt}{f:Addr}{m:FuncData}{N e:List Str}{k:Nat}{j:cK}(F:y9 K x c st f m)(S:aH N e (av st))(l:List Nat)(n:∀i,i<e.length->l.getD i 0=0)(len:∀d P,j d P->d.length=e.length)
  (o:∀(g:Value)(A:Around)(outer:List Env)(s:Shared)(H:Hp)(E:XK)(d:List D)(R:D->Prop),cU k (A.deeper (envOfC c (av st) s.heap.objs.size f g))->j d R->
   ∃t,wo Z (u6 cq P w K mg base N c (av st) f g A outer s H E).kZ l 0 (gu st) t/\t {nx:=λ_=>0=0/\R .bA,rt:=R} (wj N d)):FnOk P w K mg base cq (k+1) f m e (aR Z j):=
 (jt 0 F S l n len λg A outer s H E d R p h=>let ⟨t,a,b⟩:=o g A outer s H E d R p h;⟨t,a,b⟩).imp IM
end
section
variable {Z:DC} {X:Cx} {a b c e o:Expr} {ta tb te:bh} {t:iH} {es:List Expr} {pos apos:Pos}
def UP(f:bh):bh:=λg P=>f g λd=>match d with
 | .int i=>P (.int (-i))
 |_=>False
theorem MD(g:DE Z X a ta):DE Z X (.UnaryOp .USub a pos) (UP ta):=by
 refine(R3 Ox g).imp ?_;intro r H Q i;rfl';obtain⟨G,k,P,s,l,h,q⟩:=i;ac_rfl;refine⟨G,k,_,s,l,h,λd f v m n p dv=>?_⟩;cases dv<;>first|exact f.elim|skip
 exact⟨_,rfl,q _ f _ m n p (.int _)⟩
def TL:cK:=λd P=>∃bs:List Bool,d= [.lst (bs.map D.bl)]/\P (.bl (bs.all id))
theorem Gq:∀{d:List V}{bs:List Bool},DvAll Z G d (bs.map D.bl)->d=bs.map V.bl
 |d,[],h=>by cases h;rfl
 |d,b::bs,h=>by
  cases h with
  |cons a f=>cases a;rw[Gq f];rfl
theorem wV:∀{d:List V}{f:List Int},DvAll Z G d (f.map D.int)->d=f.map V.int
 |d,[],h=>by cases h;rfl
 |d,b::bs,h=>by
  cases h with
  |cons a g=>cases a;rw[wV g];rfl
theorem Mw(d:X.calm=true):dZ X (.builtin "all") (kY Z TL):=by
 refine(Hv d).imp ?_;rintro i H Q ⟨G,j,P,s,dv,⟨bs,rfl,f⟩,q⟩;cases dv with
 |cons a g=>
  cases g;cases a with
  |lst h e=>exact⟨_,bs,rfl,Gq e▸s _ _ h,q _ f _ G H (.refl s) (.bl _)⟩
def Ay:cK:=λg P=>∃d:List Int,g= [.lst (d.map D.int)]/\d.length<64/\∀f:List Int,f.Perm d->f.Pairwise (·<=·)->P (.lst (f.map D.int))
theorem Hw:dZ X (.builtin "sorted") (kY Z Ay):=by
 refine zd.imp ?_;rintro n H Q ⟨G,r,P,s,dv,⟨f,rfl,g,i⟩,q⟩;cases dv with
 |cons a j=>
  cases j;cases a with
  |lst h e=>
   refine⟨_,f,rfl,cM.of (wV e▸s _ _ h),g,λp d k l m=>?_⟩;exact q _ (i d l m) _ _ _ (.new s k) (.lst aB (.ints d))
def pairD(k:Nat×Nat):D:= .tup [.int (k.1:Nat), .int (k.2:Nat)]
def Mu:cK:=λg P=>∃d:List (Nat×Nat),g= [.lst (d.map pairD)]/\d.length<=1000/\∀f:List (Nat×Nat),f.Perm d->f.Pairwise Wb.lexLe->P (.lst (f.map pairD))
theorem uf:∀{d:List V}{f:List (Nat×Nat)},DvAll Z G d (f.map pairD)->∃L:List (Addr×(Nat×Nat)),d=L.map (λe=>V.ref e.1)/\L.map (·.2)=f/\Aw G L
 |d,[],h=>by cases h;exact⟨[],rfl,rfl,λp g=>by cases g⟩
 |d,n::f,h=>by
  cases h with
  |cons a j=>
   obtain⟨L,k,l,m⟩:=uf j;unfold pairD at a;cases a with
   | @tup p r x g e=>
    refine⟨(p,n)::L,by rw[k];rfl,by rw[<-l];rfl,λq i=>?_⟩
    rcases cC.mp i with rfl|i
    ·have:r=uC n:=by
      cases e with
      |cons s u=>
       cases u with
       |cons v w=>cases s;cases v;cases w;rfl
     rw[<-this];exact g
    ·exact m q i
theorem Aw.dv:∀{L:List (Addr×(Nat×Nat))},Aw G L->DvAll Z G (L.map λe=>V.ref e.1) ((L.map (·.2)).map pairD)
 | [],_=> .nil
 |x::L,h=> .cons (.tup (h x (cg ..)) (.cons (.int _) (.cons (.int _) .nil))) (Aw.dv λp d=>h p (cG _ d))
theorem zB:dZ X (.builtin "sorted") (kY Z Mu):=by
 refine qO.imp ?_;rintro w H Q ⟨G,l,P,s,dv,⟨f,rfl,y,d⟩,q⟩;cases dv with
 |cons a m=>
  cases m;cases a with
  | @lst p z l h e=>
   obtain⟨L,rfl,g,i⟩:=uf e;have A:L.length=f.length:=by rw[<-g];simp
   refine⟨_,L,rfl,cM.of (s _ _ h),λp d=>s _ _ (i p d),by lia,λp M j k n=>?_⟩
   have r:(M.map (·.2)).Perm f:=by rw[<-g];exact k.map _
   have u:Aw (upd G p (.lst (M.map λe=>V.ref e.1))) M:=λx v=>aY (s.free j) _ _ _ (i x (k.mem_iff.mp v));exact q _ (d _ r n) _ _ _ (.new s j) (.lst aB u.dv)
def Mz(g h:bh):bh:=λf P=>g f λd=>∃l,d= .lst l/\h f λy=>fv y=true/\l.all fv=true/\∃(j:Nat)(z:D),l[j]? =some z/\kv z y=true/\(∀(m:Nat) z,m<j->l[m]? =some z->kv z y=false)/\P (.int (j:Nat))
theorem gI(E:DE Z X o ta)(F:DE Z X e tb)
  (I:attributeBase o "index" X.env (eval o X.env)=eval o X.env:=by rfl)
  (J:((backTo d (starEach [e] X.env)).all (λx=>!x.1)&&(backToKw d (keywordEach [] X.env)).all (λx=>x.1.isSome)&&decide (([e]:List Expr).length+([]:List Keyword).length+(if ([]:List Keyword).isEmpty then 0 else 1)<30))=true:=by rfl)
  (L:(apos.endLine==d.line)=true:=by rfl) (r:starEach [e] X.env=(false,eval e X.env)::starEach [] X.env:=by rfl) (M:(backTo d (starEach [] X.env)).any (·.1)=false:=by rfl):
  DE Z X (.Call (.Attribute o "index" apos) [e] [] d) (Mz ta tb):=by
 refine(xV W1 ab7 ab8 Iq E (eZ F g6 r) I J L r M).imp ?_;intro σ H Q N;rfl';obtain⟨G,A,P,s,B,h,q⟩:=N;ac_rfl;refine⟨G,A,_,s,B,h,?_⟩;rintro _ ⟨l,rfl,R⟩ v S H1 f dv;cases dv with
 | @lst p T ds C e=>
  refine⟨ty_list (f.sub _ _ C),S,A,_,f.sub,B.mono f.gg,R,λy U u Y a i k=>?_⟩;rfl';obtain⟨b,c,j,z,t,h4,h5,h6⟩:=U;have n:=e.mono i.gg;obtain⟨w,hw,dw⟩:=n.get t;ac_rfl;refine⟨p,T,u,j,w,rfl,rfl,i.hh _ _ (f.sub _ _ C),by rw[sQ k];exact b,by rw[oT n];exact c,hw,by rw[AN dw k];exact h4,λm z' hm hz=>?_,q _ h6 _ Y a (f.trans i) (.int _)⟩
  obtain⟨d',qJ,wU⟩:=n.J9 hz;rw[AN wU k];exact h5 m d' hm qJ
end
structure Ce (Z:DC):Prop where
 cl:wk Z.K Z.C
 nR:mP Z.K Z.C "rows"
section
variable {Z:DC} {X:Cx} {a b c e o:Expr} {ta tb te:bh} {t:iH} {es:List Expr} {pos apos:Pos}
def QH(f:bh):bh:=λg P=>f g λd=>∃w,d= .dY w/\P (aM w)
theorem jI(T:Ce Z)(i:DE Z X o ta)(d:X.K=Z.K:=by rfl)(j:attributeBase o "rows" X.env (eval o X.env)=eval o X.env:=by rfl):DE Z X (.Attribute o "rows" apos) (QH ta):=by
 refine(NO i j).imp ?_;intro B H Q k;rfl';obtain⟨G,m,P,s,n,h,q⟩:=k;ac_rfl;refine⟨G,m,_,s,n,h,?_⟩;rintro _ ⟨w,rfl,r⟩ v u x f dv;cases dv with
 | @dY p y R w z A g F I=>exact⟨p,Z.C,y,_, .ref R,rfl,f.sub _ _ z,by rw[d];exact T.cl,by rw[d];exact T.nR,rfl,q _ r _ u x f A⟩
def En(g:cK)(h:bh)(t:iH):bh:=λf P=>h f λd=>∃w,d= .dY w/\t f λi=>g (.dY w::i) P
theorem z0(x:([("rows",V.ref 0)]:List (Str×V)).lookup m=none):∀j H Q,eC Z (En i ta t) j H Q->FX Z.C m (aR Z i) [] E0 (eC Z ta) (E9 Z t) j H Q:=by
 intro j H Q y;rfl';obtain⟨G,r,P,s,u,h,q⟩:=y;ac_rfl;refine⟨G,r,_,s,u,h,?_⟩;rintro _ ⟨w,rfl,k⟩ v B b f dv;have E:=dv;cases dv with
 | @dY p F R w I c g e o=>
  refine⟨p,F,_,rfl,f.sub _ _ I,?_,B,r,_,f.sub,u.mono f.gg,k,λX J L M N l O=>?_⟩
  ·have S:(m==("rows":Str))=false:=by
    cases z:(m==("rows":Str)) with
    |false=>rfl
    |true=>simp[bz,z] at x
   simp[bz,S]
  ·show aR Z i (V.ref p::(L++ [])) N Q E0
   rw[j7];exact⟨M,_,P,l.sub, .cons (E.mono l.gg) O,J,λd k v T U Y n=>q d k v T U ((f.trans l).trans Y) n⟩
variable {sd:cK} {k:Nat} {f:Addr} {fd:FuncData} {ps:List Str} {m:Str}
theorem wQ(T:Ce Z)(h:DE Z X o ta)(i:Meth Z.K Z.C m f)(F:FnOk X.prog X.w X.K X.mg X.base cq k f fd ps (aR Z sd))(j:cU k X.A)(l:Binds X.K fd ps [])(n:DA Z X (e::es) t)(d:X.K=Z.K:=by rfl)
  (p:([("rows",V.ref 0)]:List (Str×V)).lookup m=none:=by decide) (q:starEach (e::es) X.env=(false,eval e X.env)::starEach es X.env:=by rfl) (r:(backTo pos (starEach es X.env)).any (·.1)=false:=by rfl)
  (s:eval (.Call (.Attribute o m apos) (e::es) [] pos) X.env=(do
   let g <-eval o X.env
   standAt apos.atName
   let (f,first) <-holding [g] (getMethod g m pl)
   callWith pos f first (backTo pos (starEach (e::es) X.env)) (backToKw pos (keywordEach [] X.env))):=by rfl):DE Z X (.Call (.Attribute o m apos) (e::es) [] pos) (En sd ta t):=
 (Lj (pl:=pl) h (by rw[d];exact T.cl) (by rw[d];exact i) F j l .nil uD n q r s).imp (z0 p)
theorem js(T:Ce Z)(l:DE Z X o ta)(n:Meth Z.K Z.C m f)(F:FnOk X.prog X.w X.K X.mg X.base cq k f fd ps (aR Z sd))(r:cU k X.A)(u:Binds X.K fd ps [])(i:X.K=Z.K:=by rfl)
  (x:([("rows",V.ref 0)]:List (Str×V)).lookup m=none:=by decide)
  (y:eval (.Call (.Attribute o m apos) [] [] pos) X.env=(do
   let j <-eval o X.env
   standAt apos.atName
   let (f,first) <-holding [j] (getMethod j m pl)
   callWith pos f first (backTo pos (starEach [] X.env)) (backToKw pos (keywordEach [] X.env))):=by rfl):DE Z X (.Call (.Attribute o m apos) [] [] pos) (En sd ta wN):=
 (z9 (pl:=pl) l (by rw[i];exact T.cl) (by rw[i];exact n) F r u .nil uD y).imp λz H Q h=>by
  rfl';obtain⟨G,E,P,s,I,h,q⟩:=z0 x z H Q h;ac_rfl;refine⟨G,E,P,s,I,h,λd J v L M N dv=>?_⟩;rfl';obtain⟨p,O,fs,R,S,U,Y,t,P',a,b,c,e⟩:=q d J v L M N dv;ac_rfl;exact⟨p,O,fs,R,S,U,e _ c _ Y _ (.refl a) .nil⟩
def DL(Z:DC):Sp:=λi H Q _=>∃(p h:Addr)(v:V)(G:Hp)(w:List (List Nat)),i= [.ref p,v]/\H p=some (.ins Z.C h [])/\aP G H/\G p=none/\Dv Z G v (aM w)/\Wb.Good w/\1<=w.length/\w.length<=14/\
 ∀(R:Addr)(d g:Hp),aP G d->aP d g->(∀b o,H b=some o->b≠p->g b=some o)->(∀b,H b≠none->G b=none->d b=none)->g p=some (.ins Z.C h [("rows", .ref R)])->Dv Z d (.ref R) (aM w)->Q .bA g
def QC(t:iH):bh:=λd P=>t d λg=>∃w,g= [aM w]/\Wb.Good w/\1<=w.length/\w.length<=14/\P (.dY w)
theorem Cy(M:Mk Z.K Z.C f)(F:FnOk X.prog X.w X.K X.mg X.base cq k f fd ps (DL Z))(S:cU (k+1) X.A)(n:Gl X x)(T:X.mg x=some (.ref Z.C))(j:Binds X.K fd ps [])
  (U:DA Z X (e::es) t) (Y:X.K=Z.K:=by rfl) (a:(x==("__debug__":Str))=false:=by decide) (c:starEach (e::es) X.env=(false,eval e X.env)::starEach es X.env:=by rfl) (m:(backTo pos (starEach es X.env)).any (·.1)=false:=by rfl):
  DE Z X (.Call (.Name x p) (e::es) [] pos) (QC t):=by
 refine(Li (by rw[Y];exact M) F S n T j .nil uD U a c m).imp ?_
 intro σ H Q aO;rfl';obtain⟨G,ρ,P,s,en,h,q⟩:=aO;ac_rfl;refine⟨G,ρ,_,s,en,h,?_⟩;rintro _ ⟨w,rfl,g,E,I,hp⟩ vs G1 H1 d r p l i u ne;cases r with
 | @cons v _ _ _ dv r=>
  cases r;have Kw:upd H1 l (.own p) p=none:=by rw[aN (Ne.symm ne)];exact i
  have y:=(aY u (.own p)).trans (aY Kw (.ins Z.C l []));refine⟨p,l,v,G1,w,rfl,aB,d.sub.trans y,d.sub.free i,dv,g,E,I,λR J H2 g1 g2 kp off B Ex=>⟨rfl,?_⟩⟩;have L:J p=none:=off p (by rw[aB];exact λz=>nomatch z) (d.sub.free i)
  refine q _ hp _ (upd J p (.ins Z.C l [("rows", .ref R)])) H2 ⟨(d.gg.trans g1).trans (aY L _),λb o e=>?_,λb o e=>?_,λb j n=>?_⟩ (.dY aB (Ex.mono (aY L _)) g E I)
  ·by_cases z:b=p
   ·subst z;rw[aB] at e;cases e;exact B
   ·rw[aN z] at e;exact g2 _ _ e
  ·have N:=d.hh _ _ e
   exact kp b o (y _ _ N) (bu N i)
  ·have O:=fO d.hh j
   have nb:b≠p:=λz=>O (by rw[z];exact i)
   rw[aN nb];exact off b (fO y O) (d.off b j n)
end
section
variable {Z:DC} {X:Cx} {pos:Pos}
variable {tg iter elt:Expr} {scope:Scope} {NC:List Str} {src:List (Option Nat)} {wi:iI} {g:eV} {tf:mN} {md:List Nat} {rn:Nat}
end
abbrev jv:=inClass
structure Ee (Z:DC) (m qual:Str) (st:Stmt) (ps:List Str) where
 f:Addr
 fd:FuncData
 F:y9 Z.K m qual st f fd
 b:Binds Z.K fd ps []
 m:Meth Z.K Z.C m f
def tT(K:ac):Sp:=λc H Q _=>∃(a:Addr)(b:List Int),c= [.ref a]/\cM K H a (b.map V.int)/\b.length<=63/\∀d,Q (.bl true) d
def Hg:cK:=λb P=>∃a:List Int,b= [.qa a]/\a.length<=63/\P (.bl true)
theorem Nd{Z:DC}:∀b H Q E,tT Z.K b H Q E->aR Z Hg b H Q E:=by
 rintro b H Q E ⟨a,c,rfl,f,e,q⟩;exact⟨H,[.qa c],λd=>d= .bl true, .refl _, .cons (.qa f e) .nil,⟨c,rfl,e,rfl⟩,λd g v i h x dv=>by subst g;cases dv;exact q h⟩
theorem SD(k:Nat){l:cp}{q:Program}{e:List Str}{o:(Str->Option Value)->Heap->Prop}{m:World->Heap->Prop}{d:DefRec}{K:Params->ac}(H:3*k<150)(p:l.most=some 63)(r:d.params.defaults= [])
  (t:∀(w:World)(h:Heap),m w h->(K w.params).In h)
  (F:∀(w:World)(g:Str->Option Value)(i:Addr)(h:Heap),(K w.params).In h->h.Ns mainGlobals g->g d.name=some (.ref i)->
   ∃j:FuncData,(∀(s:Shared)(u:Value),BindsTo s j ⟨[u],[]⟩ [("_law_script",u)])/\∀base:Heap,(K w.params).In base->base.Ns mainGlobals g->FnOk l.prog w (K w.params) g base cq k i j ["_law_script"] (tT (K w.params))):
  dL q e o m l.row.toRowW d [] (λf v=>dz f v):=
 L2.Mg (n:=63) (k:=50) (x:="_law_script") (CX:=λ_=>cq) (sp:=λw=>tT (K w.params)) p (by decide) r ⟨rfl,by decide,by decide⟩ t (λw g i h a b c=>by
  obtain⟨j,A,B⟩:=F w g i h a b c;exact⟨j,A,λbase x y=>(B base x y).mono (by lia)⟩) (λ_ _ a C E _ G=>⟨a,C,rfl,G,E,λ_=>rfl⟩) λ_ _ _ _ _ z=>z
theorem bX{c:Bool}{A B:Prop}(a:c=true->A)(b:c=false->B):if c=true then A else B:=by
 cases c with
 |true=>exact dJ (a rfl)
 |false=>exact ck (b rfl)
theorem ph{ρ:DN}(c:j->D)(p:j->Bool)(f:j->D):∀(e:List j)(d:DN)(a:List D)(N:DN->List D->Prop),(∀y∈e,∀(Y:D->Prop)(r:Prop),(p y=true->Y (f y))->(p y=false->r)->k (ρ.set i (some (c y))) λb=>if b=true then q (ρ.set i (some (c y))) Y else r)->
  (∃o,d=ρ.set i o)->a.length+e.length<=sizeLine->(∀d,N d (a++(e.filter p).map f))->lcW (wa i) k q (e.map c) d a N
 | [],d,a,N,_,_,_,h=>by
  show N d a;simpa using h d
 |y::e,d,a,N,l,⟨o,s⟩,g,h=>by
  show k (d.set i (some (c y))) _;rw[s,List.set_set];rw[dM] at g;refine l y (cg ..) _ _ (λm=>⟨by lia,?_⟩) (λm=>?_)
  ·refine ph c p f e _ (a++ [f y]) N (λz g=>l z (cG _ g)) ⟨_,rfl⟩ (by simp;lia) λn=>?_
   have:=h n
   rw[vC,m] at this;simpa using this
  ·refine ph c p f e _ a N (λz g=>l z (cG _ g)) ⟨_,rfl⟩ (by lia) λn=>?_
   have:=h n
   rw[vC,m] at this;simpa using this
theorem iD{ρ:DN}(a:c->D)(f:c->D)(b:List c)(N:DN->List D->Prop)(j:∀y∈b,∀(Y:D->Prop),Y (f y)->g (ρ.set i (some (a y))) Y)(k:ρ[i]? =some none)(l:b.length<=sizeLine)(h:∀d,N d (b.map f)):lcW (wa i) nE g (b.map a) ρ [] N:=by
 refine ph (ρ:=ρ) a (λ_=>true) f b ρ [] N (λy m Y o n _=>?_) ⟨none,?_⟩ (by simpa using l) λd=>by rw[List.filter_eq_self.mpr (λ_ _=>rfl),n5];exact h d
 ·unfold nE
  dsimp only;rw[tz rfl];exact j y m Y (n rfl)
 ·obtain⟨p,e⟩:=dQ.mp k
  rw[<-e,List.set_getElem_self]
theorem zN(I:Nat->DN->Prop):∀(b:List D)(k:Nat)(a:DN),I k a->(∀(j:Nat)(d:D)(a:DN),b[j]? =some d->I (k+j) a->∀A:DN->Prop,(∀a,I (k+j+1) a->A a)->g d a λm=>l {nx:=A,ct:=A,bk:=E.nx,rt:=E.rt,xc:=E.xc} m)->
  (∀a,I (k+b.length) a->E.nx a)->oU g l E b a
 | [],k,a,c,e,f=>f a c
 |d::b,k,a,c,e,f=>by
  refine e 0 d a rfl c _ λn o=>?_
  exact zN I b (k+1) n o (λj p h q i A r=>by
   refine e (j+1) p h (by simpa using q) (by rw[show k+(j+1)=k+1+j by lia];exact i) A λs t=>r s ?_
   rw[show k+1+j+1=k+(j+1)+1 by lia];exact t) (λh i=>f h (by rw[dM,show k+(b.length+1)=k+1+b.length by lia];exact i))
theorem cR(I:Nat->DN->Prop)(e:I 0 a)(f:∀(j:Nat)(d:D)(a:DN),b[j]? =some d->I j a->∀A:DN->Prop,(∀a,I (j+1) a->A a)->g d a λi=>c {nx:=A,ct:=A,bk:=E.nx,rt:=E.rt,xc:=E.xc} i)
  (k:∀a,I b.length a->E.nx a):oU g c E b a:=zN I b 0 a e (λj d a l h A m=>f j d a l (by simpa using h) A λn o=>m n (by simpa using o)) (λa h=>k a (by simpa using h))
theorem wZ{g:eV}{c:e8}{E:iT}{lo:Int}{n:Nat}{a:DN}(I:Nat->DN->Prop)(f:I 0 a)(i:∀(j:Nat)(a:DN),j<n->I j a->∀A:DN->Prop,(∀a,I (j+1) a->A a)->g (.int (lo+j)) a λk=>c {nx:=A,ct:=A,bk:=E.nx,rt:=E.rt,xc:=E.xc} k)
  (m:∀a,I n a->E.nx a):oU g c E (eU lo n) a:=by
 have l:(eU lo n).length=n:=by unfold eU;simp
 refine cR I f (λj d a b h A o=>?_) (λa h=>m a (by rw[l] at h;exact h))
 have e:j<n:=by
  have:=(dQ.mp b).1
  rw[l] at this;exact this
 rw[vk e] at b;cases FB b;exact i j a e h A o
theorem j6(I:Nat->DN->Prop)(g:Nat)(h:I g a)(i:∀m a,I m a->c a λb=>if b=true then f {nx:=λe=>∃d,d<m/\I d e,ct:=λe=>∃d,d<m/\I d e,bk:=E.nx,rt:=E.rt,xc:=E.xc} a else E.nx a):Gk c f E a:=⟨I,⟨g,h⟩,i⟩
theorem Az:bootBuiltins "reversed"=some (.type "reversed"):=by decide+kernel
section
variable {Z:DC} {X:Cx} {a b c e:Expr} {ta tb te:bh} {t:iH} {pos:Pos}
variable {md:List Nat} {rn:Nat} {k:Expr} {tk:bh}
variable {apos aQ:Pos}
variable {es:List Expr}
def J0(g:cK)(t:iH):mN:=λh P=>t h λi=>g i λd=>∃f,d= .lst f/\P f
theorem JO{k:Nat}(F:FnOk X.prog X.w X.K X.mg X.base cq k f l m (fg Z n g))(u:cU k X.A)(y:Gl X x)(z:X.mg x=some (.ref f))(B:ai X.K (.ref f)=true)(d:Binds X.K l m [])
  (C:DA Z X (e::es) t) (E:(x==("__debug__":Str))=false:=by decide) (I:starEach (e::es) X.env=(false,eval e X.env)::starEach es X.env:=by rfl) (J:(backTo pos (starEach es X.env)).any (·.1)=false:=by rfl):
  DF Z X n (.Call (.Name x p) (e::es) [] pos) (J0 g t):=by
 refine(Dg F u y z B d .nil uD C E I J).imp ?_;intro σ H Q L;rfl';obtain⟨G,N,P,s,O,h,q⟩:=L;ac_rfl;refine⟨G,N,_,s,O,h,λR S T U Y j a=>?_⟩;show fg Z n g (T++ []) Y Q E0;rw[j7];refine⟨U,R,_,j.sub,a,S,?_⟩;intro _ c v f G2 H2 x2 o nd r;rfl';obtain⟨rE,rfl,hp⟩:=c;ac_rfl;exact q _ hp v f G2 H2 (j.trans x2) o nd λb d=>⟨j.hh.free (r b d).1,(r b d).2⟩
end
section
variable {X:Cx} {elt t0 i0 t1 i1:Expr} {f0 f1:List Expr} {scope:Scope} {pos:Pos} {wi cY:TI} {g g1:TG} {tt cI:TT} {te:TE} {src:List (Option Nat)} {NC:List Str}
def L9(b:TI)(g:TG)(c:TT)(d:TI)(e:TG)(f:TT)(h:TE)(src:List (Option Nat))(i:Nat):TS:=λD a H=>Hk b g c d e f h src a H λv j=>D.nx (a.set i (some v)) j
theorem xZ(Z:X.calm=true)(hN:X.N.Nodup)(fb:X.N[i]? =some x)(hx:Loc X.env.scope x)(c:cu X scope)(eI:dk scope X.N src NC)(hi:PI X t0 i0 wi)
  (hg:∀j s H,PG (b8 X scope NC j s H) t0 g) (ht:∀j s H,mQ (b8 X scope NC j s H) f0 tt) (kT:∀j s H,PI (b8 X scope NC j s H) t1 i1 cY) (xb:∀j s H,PG (b8 X scope NC j s H) t1 g1)
  (xl:∀j s H,mQ (b8 X scope NC j s H) f1 cI) (he:∀j s H,PE (b8 X scope NC j s H) elt te)
  (kW:swapsWith (.ListComp elt [⟨t0,i0,f0,0⟩,⟨t1,i1,f1,0⟩] scope pos) (some (.Name x t)) O.line X.env=pure true)
  (hf:X.fn x=true\/X.env.scope.names.lookup x=some .local:=by first|exact .inl rfl|exact .inr rfl|assumption)
  (hs:∀x,foldedSetIterable i0 X.env x=pure x:=by intro _;rfl) (sX:∀env x,foldedSetIterable i1 env x=pure x:=by intro _ _;rfl):PS X (.Assign [.Name x t] (.ListComp elt [⟨t0,i0,f0,0⟩,⟨t1,i1,f1,0⟩] scope pos) O) (L9 wi g tt cY g1 cI te src i):=by
 intro f s u H D I h;rw[exec_Assign_Name_used _ _ _ _ kW];refine be (aam (be ?_));show wpAny _ X.A (do let _ <-comprehension (.ListComp elt [⟨t0,i0,f0,0⟩,⟨t1,i1,f1,0⟩] scope pos) scope X.env _ (newList []) false (eval i0 X.env) (some (assign (.Name x t) X.env))) _ _ s
 refine be (wpAny_mono (aax (use:=some (assign (.Name x t) X.env)) (Q:=λ_ k=>SP X f D .next k) rfl hs (fV (c.cells I.ok)) c.kind c.names
  (thn (hi f s u H _ I h) λv s1 h1=>thn h1 λBc s2 h2=>?_)) (λ_ k hq=>mo (mo hq)) λ_ _ e=>e)
 rfl';obtain⟨it,fp,tn,J,H2,rfl,I2,T,j5,f2,hW⟩:=h2;ac_rfl;refine sF (RR:=λF C=>compPost (model X.prog X.w) X.A X.xe (some (assign (.Name x t) X.env)) (λ_ k=>SP X f D .next k) F C) (Q:=λv l=>D.nx (u.set i (some v)) l) Z c eI I2 T j5 f2 hg ht kT xb xl he sX hW ?_;intro a n H3 aA l k r f3 G q;obtain⟨m,hn,_⟩:=G.loc;have P:Inv X f u l k:=comp_back r f3 G (.refl ..);have R:n.heap.objs.size≠X.env.locals:=abg r.lt
 have nc:∀y d,X.env.cells.lookup y=some d->d≠n.heap.objs.size:=λy d e z=>by
  obtain⟨v,hv⟩:=r.cell y d e
  have:=hv.lt
  rw[z] at this;exact absurd this (iS _)
 have np:∀p∈X.pn++f,p.1≠n.heap.objs.size:=λp B z=>by
  have:=Fk (r.pin p B).1
  rw[z] at this;exact absurd this (iS _)
 rfl';obtain⟨L,es,ep,Rw,S,rC⟩:=id hn;have U:l n.heap.objs.size=none:=G.free;ac_rfl
 have IP:Inv X ((n.heap.objs.size,L)::f) u l k:=P.mr λp B=>by
  rcases cC.mp B with z|z
  ·rw[z]
   exact⟨Rw,U,R,r.K3 (bJ _),λv w=>by rw[S] at w;cases w⟩
  ·exact P.pin p (gm _ z)
 refine abO (jA (x:=x) IP hN fb hx (v:= .ref a) rfl (λY M=>?_) hf);have Q0:=(M.pin (n.heap.objs.size,L) (gm _ cg)).1;refine⟨m,⟨L,es,ep,Q0,S,rC⟩,λh6 sb=>?_⟩;have Jh:Inv X f (u.set i (some (.ref a))) l Y:=M.mr λp B=>M.pin p (gm _ (cG _ B));exact⟨_,l,Jh.turned (t':=Y.toks) (it:=n.heap.objs.size) (λb o hb e=>sb.extBut b o hb e) U R (.inr r.sz) nc np,q⟩
end
section
variable {Z:DC} {X:Cx} {md:List Nat} {rn:Nat} {elt t0 i0 t1 i1:Expr} {f0 f1:List Expr} {scope:Scope} {pos:Pos} {wi cY:iI} {g g1:eV} {tt cI:eo} {te:bh} {src:List (Option Nat)} {NC:List Str}
theorem Eu(i:Nat)(j:X.calm=true)(k:X.N.Nodup)(c:cu X scope)(l:dk scope X.N src NC)(m:DI Z X t0 i0 wi)
  (n:∀a s H,DG Z (b8 X scope NC a s H) t0 g) (o:∀a s H,vE Z (b8 X scope NC a s H) f0 tt) (p:∀a s H,DI Z (b8 X scope NC a s H) t1 i1 cY) (q:∀a s H,DG Z (b8 X scope NC a s H) t1 g1)
  (r:∀a s H,vE Z (b8 X scope NC a s H) f1 cI) (t:∀a s H,DE Z (b8 X scope NC a s H) elt te)
  (u:swapsWith (.ListComp elt [⟨t0,i0,f0,0⟩,⟨t1,i1,f1,0⟩] scope pos) (some (.Name x b)) e.line X.env=pure true:=by rfl) (w:md.getD i 0=0:=by rfl) (y:X.N[i]? =some x:=by rfl) (z:Loc X.env.scope x:=by first|exact Or.inl rfl|exact Or.inr rfl)
  (A:X.fn x=true\/X.env.scope.names.lookup x=some .local:=by first|exact .inl rfl|exact .inr rfl|assumption)
  (C:∀x,foldedSetIterable i0 X.env x=pure x:=by intro _;rfl) (F:∀env x,foldedSetIterable i1 env x=pure x:=by intro _ _;rfl):
  DSt Z X md rn (.Assign [.Name x b] (.ListComp elt [⟨t0,i0,f0,0⟩,⟨t1,i1,f1,0⟩] scope pos) e) (JK md false i (JD wi g tt cY g1 cI te src)):=by
 refine(xZ j k y z c l m n o p q r t u A C F).imp ?_;intro D I H J;rfl';obtain⟨B,R,E,⟨G,T,S⟩,h,M⟩:=J;ac_rfl;refine C4 I H _ (S.ev false h λd f=>⟨f.1,λv O U P x dv=>M.nx _ f.2 _ _ ⟨O,_,P.qb w dv⟩⟩)
end
section
variable {Z:DC} {X:Cx} {md:List Nat} {rn:Nat} {e:Expr} {pos:Pos}
theorem DvAll.flat:∀{c:List V}{b:List D},DvAll Z G c b->b.all fv=true->DvAll Z d c b
 |_,_, .nil,_=> .nil
 |_,_, .cons a f,h=>by
  rw[aa2,y3] at h;exact .cons (a.flat h.1) (f.flat h.2)
end
theorem mW{l:List D}{j:Nat}{d:D}(h:(gU l)[j]? =some d):∃x,l[j]? =some x/\d= .tup [.int (j:Int),x]:=by
 unfold gU at h;rw[List.getElem?_mapIdx] at h;cases e:l[j]? with
 |none=>rw[e] at h;cases h
 |some x=>rw[e] at h;cases h;exact⟨x,rfl,rfl⟩
theorem rF(l:List D):(gU l).length=l.length:=by unfold gU;simp
theorem dD{a b:Type}{f:a->b}{l:List a}{j:Nat}{y:b}(h:(l.map f)[j]? =some y):∃x,l[j]? =some x/\y=f x:=by
 rw[dF] at h;cases e:l[j]? with
 |none=>rw[e] at h;cases h
 |some x=>rw[e] at h;cases h;exact⟨x,rfl,rfl⟩
theorem bG(r:List Nat):(r.map ae).all fv=true:=by simp[ae,fv]
theorem gx{r:List Nat}{p:Nat}:inD (ae p) (r.map ae)=decide (p∈r):=by
 unfold inD;rw[List.any_map]
 have:((λy=>kv y (ae p))∘ae)=λq:Nat=>decide (q=p):=by
  funext q
  simp[ae,kv,Function.comp]
  by_cases z:q=p
  ·simp[z]
  ·have:¬(q:Int)=(p:Int):=by lia
   simp[z,this]
 rw[this]
 by_cases h:p∈r
 ·rw[FS h,ab0];exact⟨p,h,by simp⟩
 ·rw[FM h]
  apply y2.mpr;intro z;rw[ab0] at z;obtain⟨q,a,e⟩:=z
  exact h (by have:q=p:=by simpa using e
              rw[<-this];exact a)
theorem ij{l:List D}{p:Nat}{d:D}(h:l[p]? =some d):gn l (p:Int)=some d:=Cj h
theorem yz(h:p<w.length):(w.map aq)[p]? =some (aq (Wb.row w p)):=by
 rw[dF,Wb.Dw h];rfl
section
variable {Z:DC} {X:Cx} {md:List Nat} {rn:Nat} {e:Expr} {te:bh} {pos:Pos}
end
theorem PU(h:A):nE a (λb=>if b=true then A else B):=by
 unfold nE;dsimp only;rw[tz rfl];exact h
theorem Wv{c:Bool}{A B:Prop}(e:c=true)(h:A):if c=true then A else B:=by rw[tz e];exact h
theorem GB{c:Bool}{A B:Prop}(e:c=false)(h:B):if c=true then A else B:=by rw[ir (by rw[e];exact di)];exact h
theorem m6(I:DN->Prop)(e:n->D)(p:n->Bool)(f:n->D):∀(j:List n)(i:DN)(a:List D)(N:DN->List D->Prop),(∀y∈j,∀i,I i->∀(Y:DN->D->Prop)(v:DN->Prop),(∀c,I c->p y=true->Y c (f y))->(∀c,I c->p y=false->v c)->g (e y) i λc=>l c λb=>if b=true then m c (Y c) else v c)->
  I i->a.length+j.length<=sizeLine->(∀i,I i->N i (a++(j.filter p).map f))->lcW g l m (j.map e) i a N
 | [],i,a,N,_,o,_,h=>by
  show N i a;simpa using h i o
 |y::j,i,a,N,q,o,k,h=>by
  rw[dM] at k;refine q y (cg ..) i o (λc d=>a.length<sizeLine/\lcW g l m (j.map e) c (a++ [d]) N) (λc=>lcW g l m (j.map e) c a N) (λc r s=>⟨by lia,?_⟩) (λc r s=>?_)
  ·refine m6 I e p f j _ (a++ [f y]) N (λz k=>q z (cG _ k)) r (by simp;lia) λt u=>?_
   have:=h t u
   rw[vC,s] at this;simpa using this
  ·refine m6 I e p f j _ a N (λz k=>q z (cG _ k)) r (by lia) λt u=>?_
   have:=h t u
   rw[vC,s] at this;simpa using this
theorem C1(I:DN->Prop)(i:p->D)(f:p->List q)(d:q->D):∀(j:List p)(e:DN)(a:List q)(P:List D->Prop),
  (∀y∈j,∀e,I e->∀(Y:DN->List D->Prop),(∀c,I c->Y c ((f y).map d))->g (i y) e λc=>o c (Y c))->
  (∀y∈j,∀b∈f y,∀e,I e->∀(Y:DN->D->Prop),(∀c,I c->Y c (d b))->m (d b) e λc=>n c (Y c))->
  I e->a.length+(j.flatMap f).length<=sizeLine->P ((a++j.flatMap f).map d)->iM g nE o m nE n (j.map i) e (a.map d) P
 | [],e,a,P,_,_,t,_,h=>by
  show P (a.map d);simpa using h
 |y::j,e,a,P,u,v,t,k,h=>by
  rw[mI,b7] at k;refine u y (cg ..) e t (λc w=>lcW m nE n w c (a.map d) λl x=>iM g nE o m nE n (j.map i) l x P) λc r=>?_;refine m6 I d (λ_=>true) d (f y) c (a.map d) _ (λb A l s Y F B _=>?_) r (by rw[aD];lia) λl s=>?_
  ·exact v y (cg ..) b A l s Y λC E=>B C E rfl
  ·rw[List.filter_eq_self.mpr (λ_ _=>rfl),<-cJ]
   refine C1 I i f d j l (a++f y) P (λz k=>u z (cG _ k)) (λz k=>v z (cG _ k)) s (by rw[b7];lia) ?_
   rw[mI] at h;rw[nZ];exact h
theorem iN(h:b.length=1):∃d,b= [d]:=by
 cases b with
 |nil=>cases h
 |cons a l=>
  cases l with
  |nil=>exact⟨a,rfl⟩
  |cons _ _=>cases h
theorem nF(h:b.length=2):∃e c,b= [e,c]:=by
 cases b with
 |nil=>cases h
 |cons a l=>
  obtain⟨c,rfl⟩:=iN (acE h);exact⟨a,c,rfl⟩
theorem nG(h:b.length=3):∃f c d,b= [f,c,d]:=by
 cases b with
 |nil=>cases h
 |cons a l=>
  obtain⟨c,d,rfl⟩:=nF (acE h);exact⟨a,c,d,rfl⟩
theorem W5(h:b.length=4):∃g c d e,b= [g,c,d,e]:=by
 cases b with
 |nil=>cases h
 |cons a l=>
  obtain⟨c,d,e,rfl⟩:=nG (acE h);exact⟨a,c,d,e,rfl⟩
section
variable {Z:DC} {X:Cx} {e:Expr} {es:List Expr} {t:iH} {pos:Pos}
theorem ax{a:cK}{k j:Nat}{x:Str}{st:Stmt}{c:List Str}{p:Pos}(d:fu X.K X.mg x st c)(F:FnOk X.prog X.w X.K X.mg X.base cq k d.f d.fd c (aR Z a))(g:cU j X.A)(h:DA Z X (e::es) t)(i:Gl X x:=by rfl)(l:k<=j:=by first|decide|lia)
  (n:(x==("__debug__":Str))=false:=by decide) (o:starEach (e::es) X.env=(false,eval e X.env)::starEach es X.env:=by rfl) (q:(backTo pos (starEach es X.env)).any (·.1)=false:=by rfl):
  DE Z X (.Call (.Name x p) (e::es) [] pos) (wL a t):=JN F (g.mono l) i d.m d.F.kp d.b h n o q
theorem qo{n:Nat}{a:cK}{k j:Nat}{x:Str}{st:Stmt}{c:List Str}{p:Pos}(d:fu X.K X.mg x st c)(F:FnOk X.prog X.w X.K X.mg X.base cq k d.f d.fd c (fg Z n a))(g:cU j X.A)(h:DA Z X (e::es) t)(i:Gl X x:=by rfl)(l:k<=j:=by first|decide|lia)
  (o:(x==("__debug__":Str))=false:=by decide) (q:starEach (e::es) X.env=(false,eval e X.env)::starEach es X.env:=by rfl) (r:(backTo pos (starEach es X.env)).any (·.1)=false:=by rfl):
  DF Z X n (.Call (.Name x p) (e::es) [] pos) (J0 a t):=JO F (g.mono l) i d.m d.F.kp d.b h o q r
theorem oh(f:Scope)(e:X.env.scope=f:=by rfl)(k:d.kind= .function:=by rfl)(a:∀x∈d.names,x.2= .local->d.names.lookup x.1=some .local:=by decide+kernel)(b:∀x∈d.names,x.2≠ .cell:=by decide+kernel)
  (c:∀x∈d.names,x.2= .free->f.names.lookup x.1=some .cell\/f.names.lookup x.1=some .free:=by decide+kernel):cu X d:=cu.of f e k a b c
end
section
variable {K:ac} {h:Heap} {mg:Str->Option Value}
abbrev fS(K:ac)(x:Str)(d:Addr):Prop:=bj K mainGlobals x=some (some (.ref d))
abbrev eW(K:ac)(x a:Str)(st:Stmt)(d:Addr)(b c:Option Addr)(e:Array (Option Value))(f kV g i j k:Value):Prop:=K.lookup d=some ⟨f,b, .func (b5 x a (jJ st) (gu st) (av st) .none kV g i c j k),e⟩
def fu.of{x:Str}{st:Stmt}{e:List Str}{d:Addr}{o f:Option Addr}{p:Array (Option Value)}{q kV r g n i:Value}(X:K.In h)(G:h.Ns mainGlobals mg)(a:fS K x d)(l:eW K x x st d o f p q kV r g n i)(c:am K n x=true)(k:ai K (.ref d)=true)
  (b:∀(kV j g:Value)(f:Option Addr)(s i:Value)(m:List Value),m.length=e.length->bindArgs (b5 x x (jJ st) (gu st) (av st) .none kV j g f s i) ⟨m,[]⟩=pure (e.zip m)):fu K mg x st e:=
 ⟨d,_,sT l c k,(sT l c k).binds b,aa6 X G a⟩
def Ee.of{Z:DC}{m e:Str}{st:Stmt}{g:List Str}{d:Addr}{r i:Option Addr}{s:Array (Option Value)}{t kV u j q n:Value}(a:bd Z.K (.ref Z.C) m=some (some (.ref d)))(f:b4 Z.K (.ref d)=true)(l:eW Z.K m e st d r i s t kV u j q n)(c:am Z.K q e=true)(k:ai Z.K (.ref d)=true)
  (b:∀(kV o j:Value)(i:Option Addr)(v n:Value)(p:List Value),p.length=g.length->bindArgs (b5 m e (jJ st) (gu st) (av st) .none kV o j i v n) ⟨p,[]⟩=pure (g.zip p)):Ee Z m e st g:=
 ⟨d,_,sT l c k,(sT l c k).binds b,⟨a,f,k⟩⟩
end
end L2
namespace Wb
def ME(w:W):Nat:=(w.map dh).sum
theorem HD(w:W):ME w=((bb w.length).map λp=>(row w p).length).sum:=by
 unfold ME
 congr 1
 refine aba (by simp) λi b c=>?_
 rw[yP,yP,B9];have a:i<w.length:=by simpa using b
 have:=Dw a
 rw[bB a] at this;rw[FB this]
theorem wO(w:W):(bP w).length=ME w:=by
 rw[HD];unfold bP;rw[List.length_flatMap]
 congr 1
 apply B7;intro p _;rw[aD]
theorem jo(g:Good w):(bP w).Nodup:=by
 unfold bP cr;refine jU (λp _=>?_) ?_
 ·rw[hZ]
  exact(g.nod p).imp λne e=>ne (Gc Prod.snd e)
 ·refine List.Pairwise.imp ?_ yO
  intro a b lt x c y d e;obtain⟨_,_,rfl⟩:=bY.mp c;obtain⟨_,_,rfl⟩:=bY.mp d
  have:=Gc Prod.fst e
  simp at this;lia
theorem qe(w:W):kJ (row w) w.length=(bP w).filter λd=>decide (d.1<d.2):=by
 unfold kJ bP;rw[List.filter_flatMap]
 congr 1
 funext p
 rw[List.filter_map];rfl
theorem F0(g:Good w):2*(kJ (row w) w.length).length<=ME w:=by
 rw[qe,<-wO];have f:=List.length_eq_countP_add_countP (λd:Nat×Nat=>decide (d.1<d.2)) (l:=bP w)
 have p:((bP w).filter λd=>decide (d.1<d.2)).length<=((bP w).filter λd=>decide (d.2<d.1)).length:=by
  have:=aI (l:=((bP w).filter λd=>decide (d.1<d.2)).map λd=>(d.2,d.1)) (m:=(bP w).filter λd=>decide (d.2<d.1)) ?_ ?_
  ·rwa [aD] at this
  ·unfold cr
   rw[hZ];refine List.Pairwise.imp ?_ ((jo g).filter _);intro a b ne e;have i:=Gc Prod.fst e;have j:=Gc Prod.snd e;exact ne (aaC j i)
  ·intro x k
   obtain⟨d,n,rfl⟩:=bY.mp k;obtain⟨o,c⟩:=mL.mp n;refine mL.mpr ⟨cX.mpr (g.sym _ _ (cX.mp o)),?_⟩;simpa using c
 have q:((bP w).filter λd=>decide (d.2<d.1)).length<=(bP w).countP λd=>!decide (d.1<d.2):=by
  rw[<-abx];apply List.countP_mono_left;intro d _ h;simp at h ⊢;lia
 rw[abx] at f
 have r:(bP w).countP (λd=>!decide (d.1<d.2))=List.countP (λa=>decide ¬(decide (a.1<a.2)=true)) (bP w):=by
  congr 1
  funext d
  by_cases h:d.1<d.2<;>simp[h]
 lia
structure RI (w:W) (bs:List Bool) (ws ex:List Nat) (c:Nat):Prop where
 len:bs.length=w.length
 z:bs[0]? =some true
 wt:∀x∈ws,bs[x]? =some true
 cl:∀x,bs[x]? =some true->x∈ws\/x∈ex\/∀q∈row w x,bs[q]? =some true
 cnt:bs.count false+ws.length<=c
theorem RI.pop(h:RI w bs (b++ [p]) [] (c+1)):RI w bs b [p] c:=
 ⟨h.len,h.z,λx a=>h.wt x (fG _ a),λx a=>by
  rcases h.cl x a with q|q|q
  ·rcases cV.mp q with q|q
   ·exact .inl q
   ·exact .inr (.inl q)
  ·cases q
  ·exact .inr (.inr q),by have:=h.cnt;rw[b7] at this;simp at this;lia⟩
theorem RI.push{w:W}(h:RI w bs f g c)(j:bs[q]? =some false):RI w (bs.set q true) (f++ [q]) g c:=by
 obtain⟨b,i⟩:=dQ.mp j
 have d:∀x,bs[x]? =some true->(bs.set q true)[x]? =some true:=λx a=>by
  rw[qj]
  by_cases e:q=x
  ·rw[tz e,tz b]
  ·rw[ir e];exact a
 refine⟨by rw[mJ];exact h.len,d _ h.z,λx a=>?_,λx a=>?_,?_⟩
 ·rcases cV.mp a with z|z
  ·exact d _ (h.wt x z)
  ·have:x=q:=by simpa using z
   rw[this,qj,tz rfl,tz b]
 ·by_cases e:q=x
  ·exact .inl (by rw[e];simp)
  ·rw[qj,ir e] at a
   rcases h.cl x a with z|z|z
   ·exact .inl (fG _ z)
   ·exact .inr (.inl z)
   ·exact .inr (.inr λy k=>d _ (z y k))
 ·have l:=h.cnt
  have:0<bs.count false:=List.count_pos_iff.mpr (by rw[<-i];exact n0 b)
  rw[aby b,i,b7];simp;lia
theorem RI.close(h:RI w bs a [p] c)(b:∀q∈row w p,bs[q]? =some true):RI w bs a [] c:=
 ⟨h.len,h.z,h.wt,λx d=>by
  rcases h.cl x d with q|q|q
  ·exact .inl q
  ·have:x=p:=by simpa using q
   rw[this];exact .inr (.inr b)
  ·exact .inr (.inr q),h.cnt⟩
theorem RI.all(g:Good w)(h:RI w bs [] [] c):bs=bi w.length true:=by
 have:=Ct g (S:=λx=>bs[x]? =some true) h.z λp q b d=>by
  rcases h.cl p b with z|z|z
  ·cases z
  ·cases z
  ·exact z q d
 refine uO λi=>?_
 by_cases a:i<w.length
 ·rw[this i a,An,tz a]
 ·rw[nX (by rw[h.len];lia),nX (by simp;lia)]
structure zA (w:W):Prop where
 rng:∀p q,q∈row w p->q<w.length
 irr:∀p,p∉row w p
 nod:∀p,(row w p).Nodup
 sym:∀p q,q∈row w p->p∈row w q
theorem Good.near(g:Good w):zA w:=⟨g.rng,g.irr,g.nod,g.sym⟩
theorem zA.good(n:zA w)(h:∀p,p<w.length->Reach w 0 p):Good w:=⟨n.rng,n.irr,n.nod,n.sym,h⟩
end Wb
namespace L2
open PySem PySem.Spec PyProof.Rows
section
variable {X:Cx} {Z:DC} {pins:List (Addr×Obj)} {σ:St} {H:Hp} {s:Shared}
open Classical in
noncomputable def zg(h:Heap)(d:PyData)(u:Value):Bool:=decide (∃e as,Reads h u e as/\e.canLay0=true/\PyData.eqv e d=true)
open Classical in
theorem Gu{h:Heap}{d e:PyData}{u:Value}{as:List Addr}(r:Reads h u e as)(c:e.canLay0=true):zg h d u=PyData.eqv e d:=by
 unfold zg
 by_cases z:PyData.eqv e d=true
 ·rw[z];exact FS ⟨e,as,r,c,z⟩
 ·rw[y2.mpr z]
  refine FM ?_;rintro⟨e',as',r',c',z'⟩;rw[(r.unique e' as' r').1] at z;exact z z'
theorem uo(I:Inv X pins σ H s){d:PyData}(f:Reads s.heap v d bs)(g:d.canLay0=true)(n:d.depth<=60)(o:X.A.units+64<cLine):∀{i:List V}{j:List PyData}{b:List Value},DpAll X.K H i j->Vals i b->
  b.any (zg s.heap d)=j.any (λe=>PyData.eqv e d)/\∀u∈b,SeqAt.EqAt X.A.in1 s u v (zg s.heap d u)
 |_,_,_, .nil, .nil=>⟨rfl,λu h=>by cases h⟩
 |_,_,_, .cons (d:=e) a p, .cons r q=>by
  obtain⟨t,w⟩:=uo I f g n o p q;obtain⟨⟨x,k⟩,l⟩:=a.reads I r;have m:=Gu (d:=d) k l;refine⟨by rw[uW,uW,t,m],λu c=>?_⟩
  rcases cC.mp c with rfl|c
  ·rw[m]
   exact SeqAt.eqAt_reads e d X.A.in1 s _ _ x bs k f l g (by have:=Nat.min_le_right e.depth d.depth;simp only[abX];lia)
  ·exact w u c
def PD(K:ac)(neg:Bool):R2:=λx y H Q=>∃p b d a,y= .ref p/\cM K H p b/\Dp K H x d/\DpAll K H b a/\d.depth<=60/\Q (.bl (if neg then !(a.any λe=>PyData.eqv e d) else a.any λe=>PyData.eqv e d)) H
theorem NA(c:X.A.units+64<cLine):OpR X (compareOp .In) (PD X.K false):=by
 intro b s z H x y v u Q I e f h;rfl';obtain⟨p,C,d,E,rfl,i,j,k,l,q⟩:=h;subst f;obtain⟨⟨bs,m⟩,n⟩:=j.reads I e;obtain⟨a,r,pl,_⟩:=I.list i;obtain⟨o,t⟩:=uo I m n l c k r;ac_rfl;refine SeqAt.in_listAt (zg s.heap d) pl.isList (λw hw=>t w (by simpa using hw)) ⟨.bl _,H,I,rfl,?_⟩
 rw[show a.toArray.any (zg s.heap d)=a.any (zg s.heap d) by simp,o]
 exact q
def JB(neg:Bool):gz:=λx y P=>match y with
 | .lst l=>∃a b,x.py=some a/\dA l=some b/\a.depth<=60/\P (.bl (if neg then !(b.any λe=>PyData.eqv e a) else b.any λe=>PyData.eqv e a))
 |_=>False
theorem N5{neg:Bool}{K:ac}:∀x y H Q,bW Z (JB neg) x y H Q->PD K neg x y H Q:=by
 intro x y H Q h;rfl';obtain⟨G,a,b,P,d,j,k,f,q⟩:=h;ac_rfl;unfold JB at f
 split at f
 ·obtain⟨p,l,rfl,m,e⟩:=k.iw
  rfl';obtain⟨c,n,o,r,t,u⟩:=f;ac_rfl;exact⟨p,l,c,n,rfl,cM.of (d _ _ m),(j.dp o).mono d,(e.dp r).mono d,t,q _ u _ G H (.refl d) (.bl _)⟩
 ·exact f.elim
theorem Nv(a:X.A.units+64<cLine):OpR X (compareOp .In) (bW Z (JB false)):=(NA a).imp N5
end
section
variable {X:Cx} {Z:DC}
end
end L2
namespace PySem
namespace F
theorem Fo:typeLookup (.type "list_reverseiterator") "__len__"=pure none:=by rw[abo,aaG];kernel_rfl
theorem HY:typeLookup (.type "list_reverseiterator") "__length_hint__"=pure (some (.builtin "list_reverseiterator.__length_hint__")):=by rw[abo,aaG];kernel_rfl
end F
section
variable {prog:Program} {w:World} {A:Around} {s:Shared} {R:Result->Shared->Prop}
variable {I:Addr} {fp wr:List Addr} {G:Array GenState->Array GenState->Prop} {n:Nat} {P:Nat->Value->Prop} {St:Nat->Shared->Prop}
theorem CF(W:WalksS prog w A.in1 I fp wr G n P St)(h:∀i s,St i s->s.TypeIs (.ref I) "list_reverseiterator")(S:Addr)(d:Value)(g:Nat)(c:St 0 s)(k:S∉fp)(o:I∈fp)
  (p:s.heap.get? S=some {cls:= .type "list",data:= .seq #[] g})
  (q:∀a l j,Moved (S::wr) G s a->a.heap.get? S=some {cls:= .type "list",dict:=none,data:= .seq l j,slots:= #[]}->ItemsOf P l n->R (.ok (.ret d)) a) (r:n<=sizeLine):
  wpAny (model prog w) A.in1 (Builtin.List.listExtendWith (.ref S) (.ref I) d)
   (λfin a=>match fin with| .done f=>R (.ok f) a| .again j=>j.quiet=true/\codeAny (model prog w) A j R a) (λe a=>R (.error e) a) s:=by
 have t:S≠I:=λe=>k (e▸o);unfold Builtin.List.listExtendWith;refine be (abh (h 0 _ c) ?_);have u:Builtin.List.listSameRef (.ref S) (.ref I)=false:=by simp[Builtin.List.listSameRef,t]
 have v:(Value.type "list_reverseiterator"==Value.type "list")=false:=by decide
 have x:(Value.type "list_reverseiterator"==Value.type "tuple")=false:=by decide
 simp only[u,v,x,acx,fj,M2];refine be (W.self 0 _ _ _ c ?_);refine be (KF ?_);unfold Builtin.List.listLengthHint;refine be (aaM (h 0 _ c) F.Fo ?_);refine be (aaM (h 0 _ c) F.HY ?_);generalize m:("list_reverseiterator.__length_hint__":String)=y
 wp_delta
 rw[show splitId y=some ("list_reverseiterator","__length_hint__") from by subst m;decide+kernel]
 subst m;refine be (abY (b:=true) (h 0 _ c) (by rw[acu];kernel_rfl) ?_)
 refine mo ?_;rw[ir (by decide)]
 exact mo ⟨aaI F.plain_extend_loop _,codeAny_extend_loopS W r _ k _ n 0 _ _ _ rfl (cF _) c p (ItemsOf.nil P) q⟩
theorem xF(W:WalksS prog w A.in1 I fp wr G n P St)(p:∀i s,St i s->s.TypeIs (.ref I) "list_reverseiterator")(S:Addr)(q:St 0 s)(l:S∉fp)(r:I∈fp)
  (j:s.heap.get? S=some {cls:= .type "list",data:= .seq #[]})
  (t:∀a g c,Moved (S::wr) G s a->a.heap.get? S=some {cls:= .type "list",dict:=none,data:= .seq g c,slots:= #[]}->ItemsOf P g n->R (.ok (.ret .none)) a) (u:n<=sizeLine):
  wpAny (model prog w) A.in1 (Builtin.«list.__init__» ⟨[.ref S, .ref I],[]⟩)
   (λfin a=>match fin with| .done f=>R (.ok f) a| .again c=>c.quiet=true/\codeAny (model prog w) A c R a) (λe a=>R (.error e) a) s:=by
 show wpAny _ A.in1 (do let k <-Builtin.List.listItems (.ref S);Builtin.List.listUpdate (.ref S) (λ_=> #[]);letGo k.toList.reverse;Builtin.List.listExtendWith (.ref S) (.ref I) .none) _ _ s
 refine be ?_;unfold Builtin.List.listItems;refine be (acw j rfl (mo ?_));refine be (acd j rfl ?_);have v:=UF (Obj.mapSeq (λ_=>(#[]:Array Value))) j rfl
 have m:∀b o,b≠S->s.heap.get? b=some o->(s.heap.update S (Obj.mapSeq (λ_=>(#[]:Array Value)))).get? b=some o:=
  λb o d e=>(aas _ _ (Ne.symm d)).trans e
 refine be (wpAny_letGo ?_);refine CF W p S .none _ (W.frame 0 s _ s.toks q (bJ _) λb d o e=>m b o (λh=>l (h▸d)) e) l r v (λa g c x y z=>?_) u;exact t a g c (Moved.trans W.gtrans ((Moved.refl W.grefl).then_heap (bJ _) λb o d e=>m b o (λh=>d (h▸cg)) e) x) y z
theorem wD(W:WalksS prog w A.in1.in1 I fp wr G n P St)(j:∀i s,St i s->s.TypeIs (.ref I) "list_reverseiterator")(k:St 0 s)(l:∀b∈fp,b<s.heap.objs.size)(m:I∈fp)
  (p:∀c d f,Moved (s.heap.objs.size::wr) G {s with heap:=s.heap.push {cls:= .type "list",data:= .seq #[]}} c->
   c.heap.get? s.heap.objs.size=some {cls:= .type "list",dict:=none,data:= .seq d f,slots:= #[]}->ItemsOf P d n->Q (.ref s.heap.objs.size) c) (q:n<=sizeLine):
  wpAny (model prog w) A (call (.type "list") [.ref I]) Q E s:=by
 have r:s.heap.objs.size∉fp:=λg=>iS _ (l _ g)
 refine callType_codes (Q₁:=λobj a=>obj= .ref s.heap.objs.size/\a={s with heap:=s.heap.push {cls:= .type "list",data:= .seq #[]}}) F.called_list (F.typeCall_list_1 _) F.entry_list_init
  (code_list_new _ ⟨rfl,rfl⟩) λobj a t=>?_
 obtain⟨rfl,rfl⟩:=t;have h:(s.heap.push {cls:= .type "list",data:= .seq #[]}).get? s.heap.objs.size=some {cls:= .type "list",data:= .seq #[]}:=GM _ rfl;refine⟨⟨_,h,rfl⟩,F.args_list_init_2 _ _,xF W j _ (W.frame 0 s _ s.toks k (bJ _) λb _ o e=>AC _ e) r m h (λc d f g u v=>?_) q⟩;exact⟨rfl,p c d f g u v⟩
end
end PySem
namespace L2
open PySem PySem.Spec PyProof.Rows
section
variable {X:Cx} {Z:DC} {a b c e:Expr} {ta te:bh} {t:iH} {pos:Pos}
def Ja(K:ac)(g:TA):TE:=λh H Q=>g h H λi d=>∃l f,i= [.ref l]/\cM K d l f/\∀q,d q=none->Q (.ref q) (upd d q (.lst f.reverse))
theorem Dh(U:X.calm=true)(Y:Gl X "list")(c:X.mg "list"=none)(t:Gl X "reversed")(Z:X.mg "reversed"=none)(ha:PA X [a] J)
  (L:starEach [.Call (.Name "reversed" y) [a] [] m] X.env=(false,eval (.Call (.Name "reversed" y) [a] [] m) X.env)::starEach [] X.env:=by rfl) (eM:(backTo pos (starEach [] X.env)).any (·.1)=false:=by rfl)
  (jN:starEach [a] X.env=(false,eval a X.env)::starEach [] X.env:=by rfl) (Kt:(backTo m (starEach [] X.env)).any (·.1)=false:=by rfl):
  PE X (.Call (.Name "list" p) [.Call (.Name "reversed" y) [a] [] m] [] pos) (Ja X.K J):=by
 intro n s σ H Q I h;refine UV (iE I Y c gr ?_);refine SL ?_ L eM;rw[L];show wpAny _ _ (spliced ((false,eval _ X.env)::backTo pos (starEach [] X.env))) _ _ s;refine Calls.spliced_cons ?_;refine UV (iE I t Z Az ?_);refine SL (thn (ha m n s σ H _ I h) λus f ⟨vs,H1,z,r1,q1⟩=>?_) jN Kt;obtain⟨l,r,e,hl,q⟩:=q1;subst e;obtain⟨u,rfl,B⟩:=r1.one;subst B;obtain⟨d,M,p,N⟩:=z.list hl;have g:=M.length;refine call_reversed_list p.isList ?_;refine Calls.spliced_nil ?_;have O:l<f.heap.objs.size:=by obtain⟨o,ho,_⟩:=p.isList;exact Fk ho
 have uj:l≠f.heap.objs.size:=cn O;have W:=(Walks.listRev (prog:=X.prog) (w:=X.w) (A:=X.A.in1.in1) (I.ok.hd U) f.heap.objs.size l uj d.toArray).toS;have C:(f.heap.push (revObj l ((d.toArray.size:Int)-1))).IsRevIter f.heap.objs.size l ((d.toArray.size:Int)-1-((0:Nat):Int)):=⟨_,GM _ rfl,rfl,by simp[revObj]⟩
 have E:(f.heap.push (revObj l ((d.toArray.size:Int)-1))).IsList l d.toArray:=p.isList.at λo e=>AC _ e;have F:(f.heap.push (revObj l ((d.toArray.size:Int)-1))).objs.size=f.heap.objs.size+1:=by simp[Heap.push]
 refine wD W (λi s st=>st.2.1.typeIs) ⟨cF _,C,E⟩ (λb j=>?_) (by simp) (λs' cE c' P R S=>?_) (by simpa [<-g] using N)
 ·rw[show({f with heap:=f.heap.push (revObj l ((d.toArray.size:Int)-1))}:Shared).heap.objs.size=f.heap.objs.size+1 from F]
  have j:b=f.heap.objs.size\/b=l:=by simpa using j
  rcases j with rfl|rfl
  ·exact aa7 _
  ·exact uP O
 ·rw[Moved.eq_with P]
  have kk:∀b o,f.heap.get? b=some o->s'.heap.get? b=some o:=λb o e=>by
   have j:=Fk e;refine P.heap b o (λv=>?_) (AC _ (AC _ e));have v:b=(f.heap.push (revObj l ((d.toArray.size:Int)-1))).objs.size\/b=f.heap.objs.size:=by simpa using v
   rw[F] at v
   rcases v with rfl|rfl
   ·exact absurd j (Nat.not_lt.mpr (j9 _))
   ·exact absurd j (iS _)
  rw[show({f with heap:=f.heap.push (revObj l ((d.toArray.size:Int)-1))}:Shared).heap.objs.size=f.heap.objs.size+1 from F] at R ⊢
  refine⟨.ref (f.heap.objs.size+1),_,z.laid kk (j9 _) (o:= .lst r.reverse) ⟨by rw[Aq];exact N,cE.toList,c',?_,by simpa using R⟩,rfl,q _ (z.hok.fresh (j9 _))⟩
  refine Vals.of_get (by simp[S.1,g]) λk x w G hw=>?_
  have hk:k<r.length:=by
   have:=(dQ.mp G).1
   simpa using this
  rw[List.getElem?_reverse hk] at G;obtain⟨u,hu,B⟩:=M.get G
  have:d.toArray[d.toArray.size-1-k]? =some w:=S.2 k w (by rw[<-fi];exact hw)
  have e2:d.toArray.size-1-k=r.length-1-k:=by simp[g]
  rw[e2] at this
  have:u=w:=by
   have T:d[r.length-1-k]? =some w:=by simpa using this
   rw[hu] at T;exact FB T
  rw[<-this];exact B
def Hy(t:iH):bh:=λd P=>t d λf=>match f with
 | [.lst l]=>P (.lst l.reverse)
 |_=>False
theorem u9(l:X.calm=true)(m:Gl X "list")(n:X.mg "list"=none)(o:Gl X "reversed")(r:X.mg "reversed"=none)(j:DA Z X [a] t)
  (u:starEach [.Call (.Name "reversed" i) [a] [] d] X.env=(false,eval (.Call (.Name "reversed" i) [a] [] d) X.env)::starEach [] X.env:=by rfl) (v:(backTo pos (starEach [] X.env)).any (·.1)=false:=by rfl)
  (w:starEach [a] X.env=(false,eval a X.env)::starEach [] X.env:=by rfl) (x:(backTo d (starEach [] X.env)).any (·.1)=false:=by rfl):
  DE Z X (.Call (.Name "list" p) [.Call (.Name "reversed" i) [a] [] d] [] pos) (Hy t):=by
 refine(Dh l m n o r j u v w x).imp ?_;rintro E H Q ⟨G,y,P,s,z,h,q⟩;refine⟨G,y,_,s,z,h,λA f F I J g dv=>?_⟩;cases dv with
 |nil=>exact f.elim
 |cons a B=>
  cases B with
  |cons _ _=>cases a<;>exact f.elim
  |nil=>
   cases a<;>first|exact f.elim|skip
   rename_i p C A j e
   exact⟨_,C,rfl,cM.of (g.sub _ _ j),λp k=>q _ f _ _ _ (g.trans (.new g.sub k)) (.lst aB (e.rev.mono (aY (g.sub.free k) _)))⟩
end
section
variable {Z:DC} {X:Cx} {md:List Nat} {rn:Nat} {a b e k:Expr} {pos:Pos} {ta tb te tk:bh} {t:mN}
def Vw(g h:bh):mN:=λf P=>g f λi=>∃c,i= .lst c/\h f λj=>∃d,j= .lst d/\c.length+d.length<=sizeLine/\P (c++d)
theorem AJ(m:DE Z X a ta)(n:DE Z X b tb):DF Z X 1 (.BinOp a .Add b pos) (Vw ta tb):=by
 refine(FA BC m n).imp ?_;intro I H Q o;rfl';obtain⟨G,g,P,s,e,h,q⟩:=o;ac_rfl;refine⟨G,g,_,s,e,h,?_⟩;rintro _ ⟨L,rfl,h⟩ M u N c v;refine⟨u,g,_,c.sub,e.mono c.gg,h,?_⟩;rintro _ ⟨O,rfl,w,y⟩ R S T d z;obtain⟨U,Y,rfl,A,i⟩:=v.iw;obtain⟨k,t,rfl,B,j⟩:=z.iw;have f:=i.mono d.gg;have x:=c.trans d;refine⟨_,_,_,_,rfl,rfl,d.hh _ _ (c.sub _ _ A),d.sub _ _ B,by rw[i.length,j.length];exact w,λp l=>?_⟩
 obtain⟨C,E,F⟩:=mm x l (f.append j);exact q _ y _ _ _ _ (x.side l) C E F
variable {tg iter elt:Expr} {ifs:List Expr} {scope:Scope} {NC:List Str} {src:List (Option Nat)} {wi:iI} {g:eV} {tt:eo}
theorem JP(f:X.calm=true)(c:cu X scope)(h:dk scope X.N src NC)(i:DI Z X tg iter wi)
  (j:∀d s H,DG Z (b8 X scope NC d s H) tg g) (l:∀d s H,vE Z (b8 X scope NC d s H) ifs tt) (m:∀d s H,DE Z (b8 X scope NC d s H) elt te)
  (n:∀x,foldedSetIterable iter X.env x=pure x:=by intro _;rfl):DF Z X 1 (.ListComp elt [⟨tg,iter,ifs,0⟩] scope pos) (QP wi g tt te src):=(Lh f c h i j l m n).imp C3
variable {B:Bs} {ρ:DN} {σ:St} {H G:Hp} {fp:Nat->List Addr}
theorem SIx.evF(S:SIx Z B md ρ σ H G fp)(h:t ρ P)
  (n:∀c,P c->c.all fv=true/\∀v i d,SIx Z B md ρ σ d i fp->Ext G H i d->Dv Z i v (.lst c)->Q v d):xE Z 1 t σ H Q:=by
 refine⟨H,ρ,P, .refl _,S.JX,h,?_⟩;intro c p v f i d x o F q;obtain⟨r,k⟩:=n c p;obtain⟨a,s,I,J,rfl,u,w,j,y⟩:=o.lst;cases u;obtain⟨dv,rfl⟩:=y.flat;have l:H a=none:=(q a (by rw[j];simp)).1
 have A:G a=none:=S.ex.sub.free l
 have m:Ext G H (upd G a (.lst s)) d:=by
  refine⟨aY A _,λb o e=>?_,x.hh,λb C E=>?_⟩
  ·by_cases z:b=a
   ·subst z
    rw[aB] at e;rw[<-e];exact w
   ·rw[aN z] at e
    exact x.hh _ _ (S.ex.sub _ _ e)
  ·rw[aN (λz=>C (by rw[z];exact l))];exact E
 exact k _ _ _ (S.grow m) m (.lst aB (dv.flat r))
def JL(i:Nat)(h:bh)(t:mN):e8:=λE c=>t c λd=>d.all fv=true/\∃f,c[i]? =some (some (.lst f))/\h c λl=>∃k j,l= .int k/\rK f.length k=some j/\E.nx (c.set i (some (.lst (f.set j (.lst d)))))
theorem jK(i:Nat)(A:DE Z X k tk)(C:DF Z X 1 e t)(r:md.getD i 0=1:=by rfl)(F:X.N[i]? =some x:=by rfl)(I:ub X.env.scope x:=by first|exact Or.inl rfl|exact Or.inr (Or.inl rfl) |exact Or.inr (Or.inr rfl))(n:(x==("__debug__":Str))=false:=by decide)(J:(x==("__classdict__":Str))=false:=by decide)
  (L:∀v,assign (.Subscript (.Name x c) k f) X.env v=(do
   let o <-holding [v] (eval (.Name x c) X.env)
   let q <-holding [v,o] (eval k X.env)
   standAt f
   holding [v,o,q] (setItem o q v)
   release [v,o,q] []):=by intro _;rfl)
  (O:swapsWithSole [.Subscript (.Name x c) k f] e pos.line X.env=pure false:=by rfl) (hw:swappedStores [.Subscript (.Name x c) k f] e X.env=pure none:=by rfl)
  (p:(assignEach [.Subscript (.Name x c) k f] X.env).map (·.2)= [assign (.Subscript (.Name x c) k f) X.env]:=by rfl):DSt Z X md rn (.Assign [.Subscript (.Name x c) k f] e pos) (JL i tk t):=by
 refine(BF C (GR (pv i F I n J) A set_list L) O hw p).imp ?_;intro D σ H P;rfl';obtain⟨B,ρ,E,⟨G,Q,S⟩,h,M⟩:=P;ac_rfl;refine S.evF h λd n=>⟨n.1,λv G' H' u x dv=>?_⟩;rfl';obtain⟨_,ds,p,h⟩:=n;obtain⟨l,xs,_,_,w,e3,_⟩:=u.one r p;ac_rfl;refine⟨_,w,u.ev true h ?_⟩;rintro _ ⟨k,j,rfl,R,T⟩;refine⟨rfl,λv1 U H1 Y a b=>?_⟩;rfl';cases b.ofInt;obtain⟨l',g,rE,e1,y,vJ,z,put⟩:=Y.one r p;cases e1;ac_rfl;rw[w] at y;cases y;exact⟨l,g,k,j,rfl,rfl,vJ,by rw[z.length];exact R,M.nx _ T _ _ ⟨U,Q,put _ _ (z.set (dv.mono a.gg) j)⟩⟩
end
section
variable {Z:DC} {X:Cx} {md:List Nat} {rn:Nat} {b:Expr} {pos OG:Pos} {tb:bh}
def Qv(e:List Nat)(i:Nat)(f:bh):e8:=λE a=>∃c,a[i]? =some (some (.lst c))/\f (eE e a) λg=>∃d,g= .lst d/\c.length+d.length<=sizeLine/\E.nx (a.set i (some (.lst (c++d))))
theorem Cz(i:Nat)(t:X.N.Nodup)(a:DE Z X b u)(k:m.getD i 0=1:=by rfl)(n:X.N[i]? =some x:=by rfl)(w:Loc X.env.scope x:=by first|exact Or.inl rfl|exact Or.inr rfl)(y:swapsWith (.BinOp (.Name x py) .Add b z) (some (.Name x g)) pos.line X.env=pure false:=by rfl)
  (A:ub X.env.scope x:=by first|exact Or.inl rfl|exact Or.inr (Or.inl rfl) |exact Or.inr (Or.inr rfl)) (e:(x==("__debug__":Str))=false:=by decide) (C:(x==("__classdict__":Str))=false:=by decide)
  (F:X.fn x=true\/X.env.scope.names.lookup x=some .local:=by first|exact .inl rfl|exact .inr rfl|assumption):DSt Z X m rn (.Assign [.Name x g] (.BinOp (.Name x py) .Add b z) pos) (Qv m i u):=by
 refine(qz t n w (FA BC (pv i n A e C) a) y F).imp ?_;intro D σ H I;rfl';obtain⟨B,ρ,E,⟨G,fp,S⟩,⟨l1,J,h⟩,M⟩:=I;ac_rfl;rfl';obtain⟨l,xs,_,L,O,P,q,_⟩:=S.one k J;cases L;ac_rfl;refine⟨_,O,S.ev false h λd e=>⟨trivial,λv Q H' S' x dv=>?_⟩⟩;rfl';obtain⟨l2,rfl,R,T⟩:=e;obtain⟨p2,ys,rfl,U,r⟩:=dv.iw;ac_rfl;refine⟨_,_,_,_,rfl,rfl,x.hh _ _ P,x.sub _ _ U,by rw[q.length,r.length];exact R,λp s=>?_⟩
 obtain⟨Y,o2,f⟩:=mm x s ((q.mono x.gg).append r);exact M.nx _ T _ _ ⟨Q,_,(S.grow (x.side s)).He k Y o2 (λb a=>⟨S.ex.hh.free (f b a).1,(f b a).2⟩) λb a j _ hj=>(S.nw j b hj).2.1 (f b a).1⟩
end
end L2
namespace ou
open PySem L2 Wb
def top(i:Nat):Stmt:=PySem.Challenge.pw_mapdye_k32_chords_and_points_within.main.body.getD i (.Pass ⟨0,0,0,0⟩)
abbrev lL:Stmt:=top 10
abbrev pO:Stmt:=top 11
abbrev pN:Stmt:=top 14
abbrev jY:Stmt:=top 15
abbrev lM:Stmt:=top 16
abbrev j3:Stmt:=top 17
abbrev lJ:Stmt:=top 18
abbrev dH:Stmt:=top 19
abbrev jZ:Stmt:=top 20
abbrev j0:Stmt:=top 21
abbrev pM:Stmt:=top 24
abbrev nj:Stmt:=top 25
abbrev mD:Stmt:=top 26
abbrev f6:Stmt:=top 27
abbrev lK:Stmt:=top 29
abbrev uK:Stmt:=top 30
abbrev i7:Stmt:=top 32
abbrev lD:Stmt:=top 33
abbrev lF:Stmt:=top 34
abbrev fo:Stmt:=top 35
abbrev lA:Stmt:=top 36
abbrev kF:Stmt:=top 37
abbrev jX:Stmt:=top 38
abbrev g8:Stmt:=top 39
abbrev jW:Stmt:=top 40
abbrev g9:Stmt:=top 41
abbrev lI:Stmt:=top 42
abbrev hE:Stmt:=top 43
abbrev lE:Stmt:=top 44
abbrev lG:Stmt:=top 45
abbrev lH:Stmt:=top 46
abbrev fD:Stmt:=top 47
abbrev FO:Stmt:=top 48
abbrev fh:Stmt:=L2.jv (top 22) 0
abbrev pK:Stmt:=L2.jv (top 22) 1
abbrev g7:Stmt:=L2.jv (top 22) 2
abbrev kE:Stmt:=L2.jv (top 22) 3
abbrev pL:Stmt:=L2.jv (top 22) 4
abbrev lu:Stmt:=L2.jv (top 22) 5
theorem p5:aH ["web","side","sides","p","q"] ["web","side"] (av lL):=⟨rfl,rfl,rfl,by decide+kernel,rfl,by decide+kernel,by decide+kernel⟩
theorem Ah:aH ["web","walked","told","side","sides","step"] ["web"] (av pO):=⟨rfl,rfl,rfl,by decide+kernel,rfl,by decide+kernel,by decide+kernel⟩
theorem tQ:aH ["thing","many"] ["thing","many"] (av pN):=⟨rfl,rfl,rfl,by decide+kernel,rfl,by decide+kernel,by decide+kernel⟩
theorem nS:aH ["rows","p","row","q"] ["rows"] (av jY):=⟨rfl,rfl,rfl,by decide+kernel,rfl,by decide+kernel,by decide+kernel⟩
theorem p9:aH ["rows","p","row"] ["rows"] (av lM):=⟨rfl,rfl,rfl,by decide+kernel,rfl,by decide+kernel,by decide+kernel⟩
theorem nV:aH ["rows","p","row","place","q"] ["rows"] (av j3):=⟨rfl,rfl,rfl,by decide+kernel,rfl,by decide+kernel,by decide+kernel⟩
theorem pY:aH ["rows","p","row","q"] ["rows"] (av lJ):=⟨rfl,rfl,rfl,by decide+kernel,rfl,by decide+kernel,by decide+kernel⟩
theorem hJ:aH ["rows","reached","waiting","p","q"] ["rows"] (av dH):=⟨rfl,rfl,rfl,by decide+kernel,rfl,by decide+kernel,by decide+kernel⟩
theorem nT:aH ["rows","q","reached"] ["rows"] (av jZ):=⟨rfl,rfl,rfl,by decide+kernel,rfl,by decide+kernel,by decide+kernel⟩
theorem nU:aH ["rows","fault"] ["rows"] (av j0):=⟨rfl,rfl,rfl,by decide+kernel,rfl,by decide+kernel,by decide+kernel⟩
theorem tP:aH ["ring","p","place"] ["ring","p"] (av pM):=⟨rfl,rfl,rfl,by decide+kernel,rfl,by decide+kernel,by decide+kernel⟩
theorem qU:aH ["web","ring","i","turn"] ["web","ring","i"] (av nj):=⟨rfl,rfl,rfl,by decide+kernel,rfl,by decide+kernel,by decide+kernel⟩
theorem yh:aH ["web","ring","pairs"] ["web","ring"] (av mD):=⟨rfl,rfl,rfl,by decide+kernel,rfl,by decide+kernel,by decide+kernel⟩
theorem kG:aH ["web","ring","turns","waiting","met","p"] ["web","ring"] (av f6):=⟨rfl,rfl,rfl,by decide+kernel,rfl,by decide+kernel,by decide+kernel⟩
theorem pZ:aH ["row","ahead","p","place"] ["row","ahead","p"] (av lK):=⟨rfl,rfl,rfl,by decide+kernel,rfl,by decide+kernel,by decide+kernel⟩
theorem yk:aH ["web","land","i","j","told","points","a","b","turns"] ["web","land","i","j"] (av uK):=⟨rfl,rfl,rfl,by decide+kernel,rfl,by decide+kernel,by decide+kernel⟩
theorem mF:aH ["_law_script","_law_k"] ["_law_script","_law_k"] (av i7):=⟨rfl,rfl,rfl,by decide+kernel,rfl,by decide+kernel,by decide+kernel⟩
theorem pR:aH ["_law_cell","_law_mixed"] ["_law_cell"] (av lD):=⟨rfl,rfl,rfl,by decide+kernel,rfl,by decide+kernel,by decide+kernel⟩
theorem pT:aH ["_law_number","_law_turns","_law_ring","_law_many","_law_point","_law_at","_law_far","_law_arc","_law_other"] ["_law_number"] (av lF):=⟨rfl,rfl,rfl,by decide+kernel,rfl,by decide+kernel,by decide+kernel⟩
theorem pU:aH ["_law_turns","_law_ring","_law_number","_law_names","_law_k","_law_found","_law_row","_law_at"] ["_law_turns","_law_ring","_law_number"] (av fo):=⟨rfl,rfl,rfl,by decide+kernel,rfl,by decide+kernel,by decide+kernel⟩
theorem pQ:aH ["_law_script","_law_turns","_law_ring","_law_number","_law_one","_law_other","_law_row"] ["_law_script"] (av lA):=⟨rfl,rfl,rfl,by decide+kernel,rfl,by decide+kernel,by decide+kernel⟩
theorem tO:aH ["_law_turns"] ["_law_turns"] (av kF):=⟨rfl,rfl,rfl,by decide+kernel,rfl,by decide+kernel,by decide+kernel⟩
theorem nQ:aH ["_law_turns","_law_ring","_law_i","_law_row","_law_at"] ["_law_turns","_law_ring","_law_i"] (av jX):=⟨rfl,rfl,rfl,by decide+kernel,rfl,by decide+kernel,by decide+kernel⟩
theorem nM:aH ["_law_turns","_law_ring","_law_found","_law_i","_law_inner"] ["_law_turns","_law_ring"] (av g8):=⟨rfl,rfl,rfl,by decide+kernel,rfl,by decide+kernel,by decide+kernel⟩
theorem nN:aH ["_law_ring","_law_i","_law_j"] ["_law_ring","_law_i","_law_j"] (av jW):=⟨rfl,rfl,rfl,by decide+kernel,rfl,by decide+kernel,by decide+kernel⟩
theorem nO:aH ["_law_turns","_law_ring","_law_number","_law_some","_law_last","_law_i","_law_j"] ["_law_turns","_law_ring","_law_number"] (av g9):=⟨rfl,rfl,rfl,by decide+kernel,rfl,by decide+kernel,by decide+kernel⟩
theorem pX:aH ["_law_turns","_law_ring","_law_number","_law_found","_law_at"] ["_law_turns","_law_ring","_law_number"] (av lI):=⟨rfl,rfl,rfl,by decide+kernel,rfl,by decide+kernel,by decide+kernel⟩
theorem nP:aH ["_law_found","_law_due"] ["_law_found","_law_due"] (av hE):=⟨rfl,rfl,rfl,by decide+kernel,rfl,by decide+kernel,by decide+kernel⟩
theorem pS:aH ["_law_turns","_law_ring","_law_waiting","_law_i","_law_found","_law_point"] ["_law_turns","_law_ring"] (av lE):=⟨rfl,rfl,rfl,by decide+kernel,rfl,by decide+kernel,by decide+kernel⟩
theorem pV:aH ["_law_found","_law_due","_law_two"] ["_law_found","_law_due"] (av lG):=⟨rfl,rfl,rfl,by decide+kernel,rfl,by decide+kernel,by decide+kernel⟩
theorem pW:aH ["_law_web_here","_law_turns","_law_ring","_law_handed","_law_some","_law_inner","_law_found","_law_told"] ["_law_web_here","_law_turns","_law_ring"] (av lH):=⟨rfl,rfl,rfl,by decide+kernel,rfl,by decide+kernel,by decide+kernel⟩
theorem j4:aH ["_law_web_here","_law_turns","_law_ring","_law_walk","_law_number","_law_k","_law_told","_law_less"] ["_law_web_here","_law_turns","_law_ring"] (av fD):=⟨rfl,rfl,rfl,by decide+kernel,rfl,by decide+kernel,by decide+kernel⟩
theorem Hd:aH ["_law_script","_law_turns","_law_ring","_law_web_here","_law_one"] ["_law_script"] (av FO):=⟨rfl,rfl,rfl,by decide+kernel,rfl,by decide+kernel,by decide+kernel⟩
theorem mE:aH ["self","turns","rows","fault"] ["self","turns"] (av fh):=⟨rfl,rfl,rfl,by decide+kernel,rfl,by decide+kernel,by decide+kernel⟩
theorem tL:aH ["self"] ["self"] (av pK):=⟨rfl,rfl,rfl,by decide+kernel,rfl,by decide+kernel,by decide+kernel⟩
theorem iG:aH ["self"] ["self"] (av g7):=⟨rfl,rfl,rfl,by decide+kernel,rfl,by decide+kernel,by decide+kernel⟩
theorem tN:aH ["self"] ["self"] (av kE):=⟨rfl,rfl,rfl,by decide+kernel,rfl,by decide+kernel,by decide+kernel⟩
theorem tM:aH ["self","a","b","many"] ["self","a","b"] (av pL):=⟨rfl,rfl,rfl,by decide+kernel,rfl,by decide+kernel,by decide+kernel⟩
theorem pP:aH ["self","p","q","row"] ["self","p","q"] (av lu):=⟨rfl,rfl,rfl,by decide+kernel,rfl,by decide+kernel,by decide+kernel⟩
set_option genInjectivity false in
structure Txt (Z:DC) (mg:Str->Option Value) where
 B:SO mg
 x_set:mg "set"=none
 d_round_from:fu Z.K mg "round_from" lL ["web","side"]
 d_lands:fu Z.K mg "lands" pO ["web"]
 d_is_among:fu Z.K mg "is_among" pN ["thing","many"]
 d_alien_fault:fu Z.K mg "alien_fault" jY ["rows"]
 d_self_fault:fu Z.K mg "self_fault" lM ["rows"]
 d_twice_fault:fu Z.K mg "twice_fault" j3 ["rows"]
 d_lone_fault:fu Z.K mg "lone_fault" lJ ["rows"]
 d_reached_from_first:fu Z.K mg "reached_from_first" dH ["rows"]
 d_apart_fault:fu Z.K mg "apart_fault" jZ ["rows"]
 d_first_fault:fu Z.K mg "first_fault" j0 ["rows"]
 d_begun_at:fu Z.K mg "begun_at" pM ["ring","p"]
 d_within_at:fu Z.K mg "within_at" nj ["web","ring","i"]
 d_chords:fu Z.K mg "chords" mD ["web","ring"]
 d_points_within:fu Z.K mg "points_within" f6 ["web","ring"]
 d_put_behind:fu Z.K mg "put_behind" lK ["row","ahead","p"]
 d_put_in:fu Z.K mg "put_in" uK ["web","land","i","j"]
 d__law_cell_at:fu Z.K mg "_law_cell_at" i7 ["_law_script","_law_k"]
 d__law_drawn:fu Z.K mg "_law_drawn" lD ["_law_cell"]
 d__law_grown:fu Z.K mg "_law_grown" lF ["_law_number"]
 d__law_named:fu Z.K mg "_law_named" fo ["_law_turns","_law_ring","_law_number"]
 d__law_built:fu Z.K mg "_law_built" lA ["_law_script"]
 d__law_web:fu Z.K mg "_law_web" kF ["_law_turns"]
 d__law_within:fu Z.K mg "_law_within" jX ["_law_turns","_law_ring","_law_i"]
 d__law_chords:fu Z.K mg "_law_chords" g8 ["_law_turns","_law_ring"]
 d__law_halves:fu Z.K mg "_law_halves" jW ["_law_ring","_law_i","_law_j"]
 d__law_lesser:fu Z.K mg "_law_lesser" g9 ["_law_turns","_law_ring","_law_number"]
 d__law_rings:fu Z.K mg "_law_rings" lI ["_law_turns","_law_ring","_law_number"]
 d__law_points:fu Z.K mg "_law_points" hE ["_law_found","_law_due"]
 d__law_flood:fu Z.K mg "_law_flood" lE ["_law_turns","_law_ring"]
 d__law_pairs:fu Z.K mg "_law_pairs" lG ["_law_found","_law_due"]
 d__law_right:fu Z.K mg "_law_right" lH ["_law_web_here","_law_turns","_law_ring"]
 d__law_of_put_in:fu Z.K mg "_law_of_put_in" fD ["_law_web_here","_law_turns","_law_ring"]
 d_law:fu Z.K mg "law" FO ["_law_script"]
 W:Ce Z
 mC:mg "Web"=some (.ref Z.C)
 i_f:Addr
 i_fd:FuncData
 i_F:y9 Z.K "__init__" "Web.__init__" fh i_f i_fd
 mkW:Mk Z.K Z.C i_f
 m___init__b:Binds Z.K i_fd ["self","turns"] []
 m_many:Ee Z "many" "Web.many" pK ["self"]
 m_turns:Ee Z "turns" "Web.turns" g7 ["self"]
 m_ties:Ee Z "ties" "Web.ties" kE ["self"]
 m_tied:Ee Z "tied" "Web.tied" pL ["self","a","b"]
 m_behind:Ee Z "behind" "Web.behind" lu ["self","p","q"]
 t___name__:∃tk,mg "__name__"=some (.str "law_mapdye_k32_chords_and_points_within" tk)
 c_MOST_POINTS:∃tk,mg "MOST_POINTS"=some (.int 14 tk)
variable {P:Program} {w:World} {mg:Str->Option Value} {base:Heap} {Z:DC} (T:Txt Z mg)
def LO:cK:=λa P=>∃(i n:Int),a= [.int i, .int n]/\P (.bl (decide (0<=i/\i<n)))
theorem fY:FnOk P w Z.K mg base cq 1 T.d_is_among.f T.d_is_among.fd ["thing","many"] (aR Z LO):=by
 have d:=tQ.nd;refine aV T.d_is_among.F tQ [0,0] (by decide) (λb R h=>by obtain⟨_,_,rfl,_⟩:=h;rfl) (λe A outer s H E b R c h=>?_)
 have g:=c.units;refine⟨_,(ar (aK (mT (mU "int" (aa 0) rfl T.B.isinstance rfl T.B.int Gj) (mT (Gm (mU "bool" (aa 0) rfl T.B.isinstance rfl T.B.bool Cn)) (v9 (HB Fp Bu aw (aa 0) (aa 1))))))),?_⟩;obtain⟨i,n,rfl,q⟩:=h;refine⟨_,rfl,rfl,true,rfl,dJ ⟨_,rfl,rfl,false,rfl,true,rfl,dJ ⟨_,rfl,?_⟩⟩⟩;refine⟨_,rfl,bX (λa=>⟨_,rfl,?_⟩) (λa=>?_)⟩
 ·have a:0<=i:=KM a
  show R (.bl (decide (i<n)));rw[show decide (i<n)=decide (0<=i/\i<n) by simp[a]]
  exact q
 ·have a:¬0<=i:=aak a
  rw[show decide (0<=i/\i<n)=false by simp[a]] at q
  exact q
def wg:cK:=λa P=>∃(w:W),a= [aM w]/\zA w/\1<=w.length/\w.length<=14/\P .bA
theorem DZ{w:W}(h:(gU (w.map aq))[j]? =some d):j<w.length/\d= .tup [.int (j:Int),aq (row w j)]:=by
 obtain⟨x,b,rfl⟩:=mW h;obtain⟨r,a,rfl⟩:=dD b;have c:j<w.length:=(dQ.mp a).1;refine⟨c,?_⟩;rw[Hb a]
theorem vT:FnOk P w Z.K mg base cq 2 T.d_alien_fault.f T.d_alien_fault.fd ["rows"] (aR Z wg):=by
 have c:=nS.nd;refine aV T.d_alien_fault.F nS [0,0,0,0] (by decide) (λn R h=>by obtain⟨_,rfl,_⟩:=h;rfl) (λy A outer s H E n R m h=>?_)
 have z:=m.units
 refine⟨_,(ao (eO rfl GT (iL rfl T.B.enumerate (ab (aa 0) ag)) (gT 2 rfl (bF (aT 1 c) (bF (aT 2 c) eX))) (ar (eO rfl GT (bL (aa 2)) (aT 3 c) (ar (bZ (eQ (dG (ax T.d_is_among (fY T) m (ab (aa 3) (ab (az aX rfl T.B.len aW (ab (aa 0) ag)) ag))))) (ar (aK (e9 (ab sI (ab (aa 1) (ab (aa 3) ag)))))) aZ)))))
   (ar (aK iB))),?_⟩
 obtain⟨a,rfl,g,C,G,q⟩:=h;refine⟨_,rfl,cR (λ_ e=>∃i l b,e= [some (aM a),i,l,b]) ⟨_,_,_,rfl⟩ ?_ ?_⟩
 ·rintro j d _ o ⟨i,l,b,rfl⟩ A p
  obtain⟨I,rfl⟩:=DZ o;refine⟨rfl,rfl,?_⟩;refine⟨_,rfl,cR (λ_ e=>∃b,e= [some (aM a),some (.int (j:Int)),some (aq (row a j)),b]) ⟨_,rfl⟩ ?_ ?_⟩
  ·rintro k J _ r ⟨t,rfl⟩ L u
   obtain⟨x,v,rfl⟩:=dD r;refine⟨_,rfl,_,rfl,_,_,rfl,⟨rfl,?_⟩⟩;have M:x<a.length:=g.rng _ _ (fH v);rw[show decide ((0:Int)<=(x:Int)/\(x:Int)<((a.map aq).length:Int))=true by simp;lia]
   exact ck (u _ ⟨_,rfl⟩)
  ·rintro _ ⟨t,rfl⟩
   exact p _ ⟨_,_,_,rfl⟩
 ·rintro _ ⟨i,l,b,rfl⟩
  exact q
theorem xT:FnOk P w Z.K mg base cq 1 T.d_self_fault.f T.d_self_fault.fd ["rows"] (aR Z wg):=by
 have i:=p9.nd;refine aV T.d_self_fault.F p9 [0,0,0] (by decide) (λk R h=>by obtain⟨_,rfl,_⟩:=h;rfl) (λt A outer s H E k R l h=>?_)
 have u:=l.units
 refine⟨_,(ao (eO rfl GT (iL rfl T.B.enumerate (ab (aa 0) ag)) (gT 2 rfl (bF (aT 1 i) (bF (aT 2 i) eX))) (ar (bZ (bf xJ (aa 1) (aa 2) (by with_unfolding_all rfl)) (ar (aK (e9 (ab sI (ab (aa 1) (ab (aa 1) ag)))))) aZ)))
   (ar (aK iB))),?_⟩
 obtain⟨a,rfl,g,v,x,q⟩:=h;refine⟨_,rfl,cR (λ_ m=>∃b c,m= [some (aM a),b,c]) ⟨_,_,rfl⟩ ?_ ?_⟩
 ·rintro j d _ n ⟨b,c,rfl⟩ A o
  obtain⟨y,rfl⟩:=DZ n;refine⟨rfl,rfl,?_⟩;refine⟨_,rfl,_,rfl,rfl,bG _,_,rfl,?_⟩
  have e:inD (.int (j:Int)) ((row a j).map ae)=false:=by
   have:=gx (r:=row a j) (p:=j)
   rw[FM (g.irr j)] at this;exact this
  rw[ir di,e];exact ck (o _ ⟨_,_,rfl⟩)
 ·rintro _ ⟨b,c,rfl⟩
  exact q
theorem cw(l:List a)(k:Nat)(h:k<=l.length):cutD l none (some (k:Int))=l.take k:=by
 unfold cutD;have b:HT.bU l.length 0 none=0:=rfl
 have c:HT.bU l.length l.length (some (k:Int))=k:=by
  simp only[HT.bU]
  split<;>lia
 rw[b,c];simp
theorem vV:FnOk P w Z.K mg base cq 1 T.d_twice_fault.f T.d_twice_fault.fd ["rows"] (aR Z wg):=by
 have i:=nV.nd;refine aV T.d_twice_fault.F nV [0,0,0,0,0] (by decide) (λt R h=>by obtain⟨_,rfl,_⟩:=h;rfl) (λQ A outer s H E t R u h=>?_)
 have S:=u.units
 refine⟨_,(ao (eO rfl GT (iL rfl T.B.enumerate (ab (aa 0) ag)) (gT 2 rfl (bF (aT 1 i) (bF (aT 2 i) eX))) (ar (eO rfl GT (iL rfl T.B.enumerate (ab (aa 2) ag)) (gT 2 rfl (bF (aT 3 i) (bF (aT 4 i) eX))) (ar (bZ (bf xJ (aa 4) (ba (aa 2) bE (bo (aa 3))) (by with_unfolding_all rfl)) (ar (aK (e9 (ab sI (ab (aa 1) (ab (aa 4) ag)))))) aZ)))))
   (ar (aK iB))),?_⟩
 obtain⟨a,rfl,g,U,X,q⟩:=h;refine⟨_,rfl,cR (λ_ l=>∃n o b c,l= [some (aM a),n,o,b,c]) ⟨_,_,_,_,rfl⟩ ?_ ?_⟩
 ·rintro j d _ v ⟨n,o,b,c,rfl⟩ A C
  obtain⟨Y,rfl⟩:=DZ v;refine⟨rfl,rfl,?_⟩;refine⟨_,rfl,cR (λ_ l=>∃b c,l= [some (aM a),some (.int (j:Int)),some (aq (row a j)),b,c]) ⟨_,_,rfl⟩ ?_ ?_⟩
  ·rintro k d' _ G ⟨I,J,rfl⟩ A' L
   obtain⟨y,M,rfl⟩:=mW G;obtain⟨x,r,rfl⟩:=dD M;have gZ:k<(row a j).length:=(dQ.mp r).1;refine⟨rfl,rfl,?_⟩;refine⟨_,rfl,_,rfl,_,rfl,?_⟩;have N:cutD ((row a j).map ae) none (some (k:Int))=((row a j).take k).map ae:=by rw[cw _ _ (by simp;lia),jk]
   refine(?_:My false (ae x) (.lst (cutD ((row a j).map ae) none (some (k:Int)))) _);rw[N];refine⟨rfl,bG _,_,rfl,?_⟩
   have e:inD (ae x) (((row a j).take k).map ae)=false:=by
    rw[gx,FM];intro z;obtain⟨m,p⟩:=t5 z
    have O:m<k:=by
     have:=(dQ.mp p).1
     rw[cm] at this;lia
    rw[t4 O] at p;exact absurd ((List.getElem?_inj (by lia) (g.nod j)).mp (p.trans r.symm)) (by lia)
   rw[ir di,e];exact ck (L _ ⟨_,_,rfl⟩)
  ·rintro _ ⟨I,J,rfl⟩
   exact C _ ⟨_,_,_,_,rfl⟩
 ·rintro _ ⟨n,o,b,c,rfl⟩
  exact q
theorem xR:FnOk P w Z.K mg base cq 1 T.d_lone_fault.f T.d_lone_fault.fd ["rows"] (aR Z wg):=by
 have c:=pY.nd;refine aV T.d_lone_fault.F pY [0,0,0,0] (by decide) (λo R h=>by obtain⟨_,rfl,_⟩:=h;rfl) (λJ A outer s H E o R t h=>?_)
 have L:=t.units
 refine⟨_,(ao (eO rfl GT (iL rfl T.B.enumerate (ab (aa 0) ag)) (gT 2 rfl (bF (aT 1 c) (bF (aT 2 c) eX))) (ar (eO rfl GT (bL (aa 2)) (aT 3 c) (ar (bZ (bf me (aa 1) (br (aa 0) (aa 3)) (by with_unfolding_all rfl)) (ar (aK (e9 (ab sI (ab (aa 1) (ab (aa 3) ag)))))) aZ)))))
   (ar (aK iB))),?_⟩
 obtain⟨a,rfl,g,M,N,q⟩:=h;refine⟨_,rfl,cR (λ_ i=>∃l m b,i= [some (aM a),l,m,b]) ⟨_,_,_,rfl⟩ ?_ ?_⟩
 ·rintro j d _ u ⟨l,m,b,rfl⟩ A v
  obtain⟨O,rfl⟩:=DZ u;refine⟨rfl,rfl,?_⟩;refine⟨_,rfl,cR (λ_ i=>∃b,i= [some (aM a),some (.int (j:Int)),some (aq (row a j)),b]) ⟨_,rfl⟩ ?_ ?_⟩
  ·rintro k Q _ y ⟨z,rfl⟩ S C
   obtain⟨x,G,rfl⟩:=dD y;have n:=fH G;have I:x<a.length:=g.rng _ _ n;refine⟨_,rfl,_,rfl,_,rfl,_,ij (yz I),rfl,bG _,_,rfl,?_⟩
   have e:inD (.int (j:Int)) ((row a x).map ae)=true:=by
    have:=gx (r:=row a x) (p:=j)
    rw[FS (g.sym _ _ n)] at this;exact this
   rw[tz rfl,e];exact ck (C _ ⟨_,rfl⟩)
  ·rintro _ ⟨z,rfl⟩
   exact v _ ⟨_,_,_,rfl⟩
 ·rintro _ ⟨l,m,b,rfl⟩
  exact q
def vG(bs:List Bool):List D:=bs.map D.bl
theorem Jy{bs:List Bool}{i:Nat}{b:Bool}(h:bs[i]? =some b):(vG bs)[i]? =some (.bl b):=by unfold vG;rw[dF,h];rfl
theorem Cr(bs:List Bool)(i:Nat)(b:Bool):(vG bs).set i (.bl b)=vG (bs.set i b):=by unfold vG;rw[uX]
theorem Cq(bs:List Bool):(vG bs).length=bs.length:=aD _
theorem iq{n k:Nat}(h:k<n):rK n (k:Int)=some k:=by unfold rK;rw[tz (by lia),tz (by lia)];simp
def FT:cK:=λa P=>∃(w:W),a= [aM w]/\zA w/\1<=w.length/\w.length<=14/\∀bs m,RI w bs [] [] m->(∀x,bs[x]? =some true->Reach w 0 x)->P (.lst (vG bs))
def Met(w:W)(bs:List Bool):Prop:=∀x,bs[x]? =some true->Reach w 0 x
theorem m9:FnOk P w Z.K mg base cq 1 T.d_reached_from_first.f T.d_reached_from_first.fd ["rows"] (aR Z FT):=by
 have v:=hJ.nd;refine aV T.d_reached_from_first.F hJ [0,1,1,0,0] (by decide) (λds R h=>by obtain⟨_,rfl,_⟩:=h;rfl) (λbI A outer s H E ds R hr h=>?_)
 have hu:=hr.units
 refine⟨_,(ao (zG 1 (NC:= ["row"]) (src:= [none]) rfl v (oh (av dH)) trivial (bL (aa 0)) (λ_ _ _=>(bK 0 (show(["row"]:List Str).Nodup from by decide+kernel))) (λ_ _ _=>df) (λ_ _ _=>jH))
   (ao (zH false 1 aw jH)
   (ao (gS 2 v (kr (ab aw ag)))
   (ao (lU GT (dG (aa 2)) (ao (AL 3 2 v)
   (ar (eO rfl GT (bL (br (aa 0) (aa 3))) (aT 4 v) (ar (bZ (eQ (dG (br (aa 1) (aa 4)))) (ao (zH false 1 (aa 4) jH)
   (ar (ku false 2 (aa 4)))) aZ))))))
   (ar (aK (aa 1))))))),?_⟩
 obtain⟨c,rfl,g,h1,bD,q⟩:=h;refine⟨_,rfl,iD (ρ:= [none]) aq (λ_=> .bl false) c _ (λy b Y h=>h) rfl (small (by lia)) λaC=>?_⟩
 have e0:c.map (λ_=>D.bl false)=vG (bi c.length false):=by unfold vG;rw[List.map_replicate,List.map_const']
 rw[e0];refine⟨trivial,_,rfl,0,0,rfl,by rw[Cq,Ao];exact iq (k:=0) (by lia),?_⟩
 rw[Cr];refine⟨by show 1<=sizeLine;decide,?_⟩
 refine j6 (λm ρ=>∃(bs:List Bool)(l:List Nat)(U B:Option D),ρ= [some (aM c),some (.lst (vG bs)),some (.lst (l.map ae)),U,B]/\RI c bs l [] m/\Met c bs/\m<=14/\bs.count false+l.length=m) c.length ?_ ?_
 ·refine⟨_,[0],none,none,rfl,⟨by simp,?_,?_,λx d=>?_,?_⟩,λx d=>?_,bD,?_⟩
  ·rw[qj,tz rfl,tz (by rw[Ao];lia)]
  ·intro x d
   have:x=0:=by simpa using d
   rw[this,qj,tz rfl,tz (by rw[Ao];lia)]
  ·by_cases e:0=x
   ·exact .inl (by rw[<-e];simp)
   ·rw[qj,ir e,An] at d
    split at d<;>cases d
  ·rw[aby (by rw[Ao];lia),abU,aco]
   simp;lia
  ·by_cases e:0=x
   ·rw[<-e];exact .refl _
   ·rw[qj,ir e,An] at d
    split at d<;>cases d
  ·rw[aby (by rw[Ao];lia),abU,aco]
   simp;lia
 ·rintro m _ ⟨bs,l,U,B,rfl,C,mt,hc,X⟩
  refine⟨_,rfl,rfl,?_⟩
  rcases B5 l with rfl| ⟨M,p,e⟩
  ·exact ck ⟨_,rfl,q bs m C mt⟩
  ·rw[yK] at e
   subst e;rw[show Aj (.lst ((M++ [p]).map ae))=true by simp[Aj]]
   refine dJ ?_;rw[b7] at X;simp only[q0] at X;obtain⟨o,rfl⟩:∃o,m=o+1:=⟨m-1,by lia⟩
   have N:=C.pop;have hp:bs[p]? =some true:=C.wt p (by simp)
   have ER:p<c.length:=by rw[<-C.len];exact(dQ.mp hp).1
   refine⟨M.map ae,ae p,by rw[cJ];rfl,?_⟩
   refine⟨_,rfl,_,rfl,_,ij (yz ER),cR (λj ρ=>∃(a:List Bool)(i:List Nat)(B:Option D),ρ= [some (aM c),some (.lst (vG a)),some (.lst (i.map ae)),some (ae p),B]/\RI c a i [p] o/\Met c a/\(∀k y,k<j->(row c p)[k]? =some y->a[y]? =some true)/\a.count false+i.length=o) ?_ ?_ ?_⟩
   ·exact⟨bs,M,_,rfl,N,mt,(λk n r=>by lia),by lia⟩
   ·rintro j x _ d ⟨a,i,o5,rfl,t,G,I,O⟩ A hA
    obtain⟨n,J,rfl⟩:=dD d;have Q:=g.rng _ _ (fH J);have S:n<a.length:=by rw[t.len];exact Q
    have u:a[n]? =some (a[n]):=bB S;refine⟨_,rfl,_,rfl,_,ij (Jy u),rfl,?_⟩;generalize a[n]=bn at u;cases bn with
    |true=>
     refine ck (hA _ ⟨a,i,_,rfl,t,G,λk y r b=>?_,O⟩)
     by_cases e:k=j
     ·rw[e,J] at b;cases b;exact u
     ·exact I k y (by lia) b
    |false=>
     refine dJ ?_;refine⟨trivial,_,rfl,_,rfl,_,n,rfl,by rw[Cq];exact iq S,?_⟩
     rw[Cr];have L:=t.push u;have aab:=L.cnt;refine⟨_,rfl,_,rfl,trivial,eG (by rw[aD];lia),?_⟩
     have er:i.map ae++ [ae n]=(i++ [n]).map ae:=by rw[cJ];rfl
     rw[er];refine hA _ ⟨a.set n true,i++ [n],_,rfl,L,λy b=>?_,λk y r b=>?_,?_⟩
     ·by_cases e:n=y
      ·rw[<-e];exact .step (mt p hp) (fH J)
      ·rw[qj,ir e] at b;exact G y b
     ·rw[qj]
      by_cases e:n=y
      ·rw[tz e,tz S]
      ·rw[ir e]
       refine I k y ?_ b;apply GE;intro z
       have:k=j:=by lia
       rw[this,J] at b;cases b;exact e rfl
     ·obtain⟨hl,he⟩:=dQ.mp u
      have:0<a.count false:=List.count_pos_iff.mpr (by rw[<-he];exact n0 hl)
      rw[aby hl,he,b7];simp;lia
   ·rintro _ ⟨a,i,o5,rfl,t,G,I,O⟩
    have L:=t.close λy b=>by
     obtain⟨k,r⟩:=t5 b;exact I k y (by rw[aD];exact(dQ.mp r).1) r
    exact⟨o,by lia,a,i,_,_,rfl,L,G,by lia,O⟩
def DK:cK:=λa P=>∃(w:W),a= [aM w]/\zA w/\1<=w.length/\w.length<=14/\(Good w->P .bA)/\(¬Good w->∀q,P (.tup [.str "apart", .int 0,ae q]))
theorem vU:FnOk P w Z.K mg base cq 2 T.d_apart_fault.f T.d_apart_fault.fd ["rows"] (aR Z DK):=by
 have n:=nT.nd;refine aV T.d_apart_fault.F nT [0,0,0] (by decide) (λu R h=>by obtain⟨_,rfl,_⟩:=h;rfl) (λO A outer s H E u R o h=>?_)
 have Q:=o.units
 refine⟨_,(ao (eO rfl GT (iL rfl T.B.enumerate (ab (ax T.d_reached_from_first (m9 T) o (ab (aa 0) ag)) ag)) (gT 2 rfl (bF (aT 1 n) (bF (aT 2 n) eX))) (ar (bZ (eQ (dG (aa 2))) (ar (aK (e9 (ab sI (ab aw (ab (aa 1) ag)))))) aZ)))
   (ar (aK iB))),?_⟩
 obtain⟨q,rfl,g,v,z,C,G⟩:=h;refine⟨_,rfl,q,rfl,g,v,z,λbs m r mt=>cR (λk I=>(∀x,x<k->bs[x]? =some true)/\∃c i,I= [some (aM q),c,i]) ⟨λx t=>absurd t (Nat.not_lt_zero x),_,_,rfl⟩ ?_ ?_⟩
 ·rintro j d _ J ⟨l,c,i,rfl⟩ A L
  obtain⟨y,M,rfl⟩:=mW J;obtain⟨b,a,rfl⟩:=dD M;refine⟨rfl,rfl,?_⟩;cases b with
  |true=>
   refine⟨_,rfl,rfl,ck (L _ ⟨λx t=>?_,_,_,rfl⟩)⟩
   by_cases e:x=j
   ·rw[e];exact a
   ·exact l x (by lia)
  |false=>
   refine⟨_,rfl,rfl,dJ ⟨_,rfl,by show 3<=sizeLine;decide,G (λN=>?_) j⟩⟩
   have:=r.all N
   rw[this,An] at a
   split at a<;>cases a
 ·rintro _ ⟨l,c,i,rfl⟩
  refine C (g.good λp S=>mt p (l p ?_))
  have:=r.len
  unfold vG gU;simp;lia
theorem nK:FnOk P w Z.K mg base cq 3 T.d_first_fault.f T.d_first_fault.fd ["rows"] (aR Z DK):=by
 have b:=nU.nd;refine aV T.d_first_fault.F nU [0,0] (by decide) (λj R h=>by obtain⟨_,rfl,_⟩:=h;rfl) (λm A outer s H E j R a h=>?_)
 have n:=a.units
 refine⟨_,(ao (aE false 1 b (ax T.d_alien_fault (vT T) a (ab (aa 0) ag)))
   (ao (bZ (bf Bt (aa 1) iB (bR _)) (ar (aE false 1 b (ax T.d_self_fault (xT T) a (ab (aa 0) ag)))) aZ)
   (ao (bZ (bf Bt (aa 1) iB (bR _)) (ar (aE false 1 b (ax T.d_twice_fault (vV T) a (ab (aa 0) ag)))) aZ)
   (ao (bZ (bf Bt (aa 1) iB (bR _)) (ar (aE false 1 b (ax T.d_lone_fault (xR T) a (ab (aa 0) ag)))) aZ)
   (ao (bZ (bf Bt (aa 1) iB (bR _)) (ar (aE false 1 b (ax T.d_apart_fault (vU T) a (ab (aa 0) ag)))) aZ)
   (ar (aK (aa 1)))))))),?_⟩
 obtain⟨c,rfl,g,d,e,k,l⟩:=h;refine⟨_,rfl,c,rfl,g,d,e,trivial,?_⟩;refine⟨_,rfl,_,rfl,dJ ⟨_,rfl,c,rfl,g,d,e,trivial,?_⟩⟩;refine⟨_,rfl,_,rfl,dJ ⟨_,rfl,c,rfl,g,d,e,trivial,?_⟩⟩;refine⟨_,rfl,_,rfl,dJ ⟨_,rfl,c,rfl,g,d,e,trivial,?_⟩⟩;refine⟨_,rfl,_,rfl,dJ ⟨_,rfl,c,rfl,g,d,e,λi=>⟨trivial,_,rfl,k i⟩,λi q=>⟨trivial,_,rfl,l i q⟩⟩⟩
theorem mj{P:Program}{w:World}{base:Heap}{Z:DC}(T:Txt Z n):FnOk P w Z.K n base cq 4 T.i_f T.i_fd ["self","turns"] (DL Z):=by
 have J7:=nK (P:=P) (w:=w) (base:=base) T;have r:=mE.nd;refine T.i_F.ok mE (λM H Q E h=>?_) (λbI A outer s H M Q E u h=>?_)
 ·obtain⟨p,x,v,G,a,rfl,_⟩:=h;rfl
 obtain⟨p,x,v,G,a,rfl,F,N,O,dv,g,S,U,q⟩:=h;have hu:=u.units
 refine⟨_,mB (t:=rQ Z _ [0,0,0,0] 0 _)
   (bZ (eQ (HK Fp Fp aw (az aX rfl T.B.len aW (ab (aa 1) ag)) (HC rfl T.c_MOST_POINTS))) (ar lT) aZ)
  (mB (t:=rQ Z _ [0,0,0,0] 0 _)
   (HJ 2 (NC:= ["row"]) (src:= [none]) rfl r (oh (av fh)) trivial (bL (aa 1)) (λ_ _ _=>(bK 0 (show(["row"]:List Str).Nodup from by decide+kernel))) (λ_ _ _=>df) (λ_ _ _=>(gD jG rfl T.B.list gr (ab (aa 0) ag))))
  (mB (t:=rQ Z _ [0,0,0,0] 0 _)
   (aE false 3 r (ax T.d_first_fault (nK T) u (ab (aa 2) ag)))
  (mB (t:=rQ Z _ [0,0,0,0] 0 _)
   (bZ (bf Ir (aa 3) iB (bR _)) (ar lT) aZ)
  (Dq (NY (pv 0) (pv 2) rfl))))),?_⟩
 have I:(a.map aq).length=a.length:=aD _;refine⟨⟨G,H,G⟩,[some (.obj p),some (aM a),none,none],{nx:=λρ=>ρ= [some (.obj p),some (aM a),none,none],rt:=λ_=>False},⟨G,λ_=> [],?_⟩,?_,⟨?_,λ_ z=>z.elim,λ_ z=>z.elim,λ_ z=>z.elim,λ_ _ z=>z.elim⟩⟩
 ·refine⟨.refl N, .refl _,rfl,λi d c=>?_,λ_=>jj,(λ_ _ _ _ z=>by cases z),(λ_ _ z=>by cases z)⟩
  match i,c with
  |0,c=>cases c;exact⟨_,rfl, .obj p,rfl⟩
  |1,c=>cases c;exact⟨_,rfl,dv,rfl⟩
  |2,c=>cases c
  |3,c=>cases c
  |i+4,c=>cases c
 ·have X:D.bl (decide ((1:Int)<=((a.map aq).length:Int)))= .bl true:=Gc D.bl (FS (by rw[I];lia))
  have e2:D.bl (decide (((a.map aq).length:Int)<=14))= .bl true:=Gc D.bl (FS (by rw[I];lia))
  exact⟨_,rfl,true,X,dJ ⟨true,e2,ck rfl⟩⟩
 rintro _ rfl Ge H1 S1;refine⟨⟨G,H,G⟩,_,{nx:=λρ=>ρ= [some (.obj p),some (aM a),some (aM a),none],rt:=λ_=>False},S1,?_,⟨?_,λ_ z=>z.elim,λ_ z=>z.elim,λ_ z=>z.elim,λ_ _ z=>z.elim⟩⟩
 ·exact⟨_,rfl,iD (ρ:= [none]) aq aq a _ (λy hy Y h=>⟨_,rfl,h⟩) rfl (small (by lia)) λaC=>⟨trivial,rfl⟩⟩
 rintro _ rfl fA H2 S2;refine⟨⟨G,H,G⟩,_,{nx:=λρ=>ρ= [some (.obj p),some (aM a),some (aM a),some .bA],rt:=λ_=>False},S2,?_,⟨?_,λ_ z=>z.elim,λ_ z=>z.elim,λ_ z=>z.elim,λ_ _ z=>z.elim⟩⟩
 ·exact⟨_,rfl,a,rfl,g.near,S,U,λ_=>⟨trivial,rfl⟩,λz=>absurd g z⟩
 rintro _ rfl v7 H3 S3;refine⟨⟨G,H,G⟩,_,{nx:=λρ=>ρ= [some (.obj p),some (aM a),some (aM a),some .bA],rt:=λ_=>False},S3,?_,⟨?_,λ_ z=>z.elim,λ_ z=>z.elim,λ_ z=>z.elim,λ_ _ z=>z.elim⟩⟩
 ·exact⟨_,rfl,_,rfl,ck rfl⟩
 rintro _ rfl fJ H4 ⟨J,fp,f⟩;obtain⟨v0,Bb,o0⟩:=f.at_ 0 _ rfl;obtain⟨v2,k,o2⟩:=f.at_ 2 _ rfl;obtain⟨d0,_⟩:=o0;obtain⟨L,_⟩:=o2;cases d0;have l:=L;cases L with
 | @lst R xs ds hR e=>
  have m:=f.ex.hh _ _ F;refine⟨_,k,_,Bb,p,Z.C,x,[],rfl,m,T.W.cl,T.W.nR,by decide,?_⟩
  have g4:J p=none:=f.ex.off p (by show H p≠none;rw[F];exact λz=>nomatch z) O
  refine q R J _ f.ex.gg (λb o j=>?_) (λb o j nb=>?_) f.ex.off aB l
  ·rw[aN (bu j g4)];exact f.ex.sub _ _ j
  ·rw[aN nb];exact f.ex.hh _ _ j
def Oe:cK:=λa P=>∃(w:W),a= [.dY w]/\P (.int (w.length:Int))
theorem Bx:FnOk P w Z.K mg base cq 1 T.m_many.f T.m_many.fd ["self"] (aR Z Oe):=by
 have d:=tL.nd;refine aV T.m_many.F tL [0] (by decide) (λb R h=>by obtain⟨_,rfl,_⟩:=h;rfl) (λe A outer s H E b R c h=>?_)
 have g:=c.units;refine⟨_,(ar (aK (az aX rfl T.B.len aW (ab (jI T.W (aa 0)) ag)))),?_⟩;obtain⟨a,rfl,q⟩:=h;refine⟨_,rfl,a,rfl,?_⟩;refine(?_:R (.int ((a.map aq).length:Int)));rw[aD];exact q
def DM:cK:=λa P=>∃(w:W),a= [.dY w]/\w.length<=14/\P (aM w)
theorem qR:FnOk P w Z.K mg base cq 1 T.m_turns.f T.m_turns.fd ["self"] (aR Z DM):=by
 have d:=iG.nd;refine aV T.m_turns.F iG [0] (by decide) (λb R h=>by obtain⟨_,rfl,_⟩:=h;rfl) (λe A outer s H E b R c h=>?_)
 have g:=c.units;refine⟨_,(ar (aK (kQ (NC:= ["row"]) (src:= [none]) rfl (oh (av g7)) trivial (bL (jI T.W (aa 0))) (λ_ _ _=>(bK 0 (show(["row"]:List Str).Nodup from by decide+kernel))) (λ_ _ _=>df) (λ_ _ _=>(gD jG rfl T.B.list gr (ab (aa 0) ag)))))),?_⟩
 obtain⟨a,rfl,i,q⟩:=h;exact⟨_,rfl,a,rfl,iD (ρ:= [none]) aq aq a _ (λy j Y h=>⟨_,rfl,h⟩) rfl (small (by lia)) λk=>q⟩
end ou
namespace Wb
theorem cB{a b:List Nat}{x y:Nat}(c:(a++x::y::b).Nodup):af (a++x::y::b) x=y:=by
 have d:x∉a:=λh=>by
  have:=(fI.mp c).2.2 x h x (cg ..)
  exact this rfl
 have e:(a++x::y::b).idxOf x=a.length:=by
  rw[List.idxOf_append,ir d,List.idxOf_cons_self];simp
 unfold af;rw[e,ji (by simp),aU,hU (by lia)]
 simp
theorem dX{b:List Nat}{x y:Nat}(a:(y::(b++ [x])).Nodup):af (y::(b++ [x])) x=y:=by
 have c:x∉y::b:=λh=>by
  have d:(y::b++ [x]).Nodup:=a;exact(fI.mp d).2.2 x h x (by simp) rfl
 have e:(y::(b++ [x])).idxOf x=b.length+1:=by
  show(y::b++ [x]).idxOf x=_;rw[List.idxOf_append,ir c];simp
 unfold af;rw[e]
 have:(b.length+1+1)%(y::(b++ [x])).length=0:=by simp
 rw[this];rfl
theorem fP{a b:List Nat}{x:Nat}(f:(a++b).Nodup)(h:x∈a++b):af (b++a) x=af (a++b) x:=by
 have d:(b++a).Nodup:=(fQ.nodup_iff).mp f;obtain⟨u,v,e⟩:=List.append_of_mem h;cases v with
 |cons y v=>
  rw[e,cB (e▸f)]
  rcases List.append_eq_append_iff.mp e with ⟨c,g,i⟩ | ⟨c,g,i⟩
  ·
   rw[i,show c++x::y::v++a=c++x::y::(v++a) by simp]
   refine cB ?_;rw[i] at d;simpa using d
  ·
   cases c with
   |nil=>
    have j:b=x::y::v:=by simpa using i.symm
    rw[j,show x::y::v++a= []++x::y::(v++a) by simp]
    refine cB ?_;rw[j] at d;simpa using d
   |cons z c=>
    have l:x=z/\y::v=c++b:=by simpa using i
    obtain⟨rfl,n⟩:=l;cases c with
    |nil=>
     have j:b=y::v:=by simpa using n.symm
     rw[g,j,show y::v++(u++ [x])=y::((v++u)++ [x]) by simp]
     refine dX ?_;rw[g,j] at d;simpa using d
    |cons z c=>
     have l:y=z/\v=c++b:=by simpa using n
     obtain⟨rfl,rfl⟩:=l;rw[g,show b++(u++x::y::c)=(b++u)++x::y::c by simp]
     refine cB ?_;rw[g] at d;simpa using d
 |nil=>
  cases b with
  |nil=>simp
  |cons y b=>
   rcases B5 b with rfl| ⟨k,z,rfl⟩
   ·
    have:a=u/\y=x:=by
     have:=List.append_inj' e rfl
     exact⟨this.1,by simpa using this.2⟩
    obtain⟨rfl,rfl⟩:=this;cases a with
    |nil=>rfl
    |cons t a=>
     have m:af (t::a++ [y]) y=t:=dX (b:=a) f;rw[m];show af ([]++y::t::a) y=t;exact cB (d)
   ·have o:z=x:=by
     rw[yK] at e;have e:(a++y::k)++ [z]=u++ [x]:=by simpa using e
     exact by simpa using(List.append_inj' e rfl).2
    subst o;rw[yK] at f d ⊢;cases a with
    |nil=>simp
    |cons t a=>
     have m:af (t::a++y::(k++ [z])) z=t:=by
      have:=dX (y:=t) (b:=a++y::k) (x:=z) (by simpa using f)
      simpa using this
     have p:af (y::(k++ [z])++t::a) z=t:=by
      have:=cB (a:=y::k) (x:=z) (y:=t) (b:=a) (by simpa using d)
      simpa using this
     rw[m,p]
structure Disc (w:W) (R:List Nat) (A:Nat×Nat->Prop):Prop where
 nd:R.Nodup
 len:3<=R.length
 dart:∀d,A d->aG w d
 face:∀d,aG w d->(A d↔A (bp w d))
 tri:∀d,A d->bp w (bp w (bp w d))=d
 ring:∀p∈R,aG w (af R p,p)/\A (af R p,p)/\¬A (p,af R p)
 sym:∀p q,aG w (p,q)->¬(p∈R/\q=af R p)->¬(q∈R/\p=af R q)->(A (p,q)↔A (q,p))
structure ZQ (w:W) (v:Nat) (m:Nat) (y:Nat->Nat):Prop where
 on:∀k,k<m->af (row w v) (y k)=y (k+1)
 mem:∀k,k<=m->y k∈row w v
 inj:∀i j,i<=m->j<=m->y i=y j->i=j
 pos:1<=m
structure At (w:W) (R:List Nat) (v:Nat) (m:Nat) (y:Nat->Nat):Prop where
 fan:ZQ w v m y
 vm:v∈R
 nx:y 0=af R v
 pm:y m∈R
 pv:af R (y m)=v
theorem aJ{i:Nat}(a:l.Nodup)(h:i+1<l.length):af l (l.getD i 0)=l.getD (i+1) 0:=by
 have e:l.getD i 0=l[i]:=by rw[aU,bB (by lia)];rfl
 unfold af;rw[e,a.idxOf_getElem i (by lia),ji h]
theorem bw{i:Nat}(a:l.Nodup)(h:i+1=l.length):af l (l.getD i 0)=l.getD 0 0:=by
 have e:l.getD i 0=l[i]:=by rw[aU,bB (by lia)];rfl
 unfold af;rw[e,a.idxOf_getElem i (by lia),h,rj]
section
variable {w:W} {R:List Nat} {A:Nat×Nat->Prop} {v m:Nat} {y:Nat->Nat}
theorem At.ne(g:Good w)(F:At w R v m y){k:Nat}(a:k<=m):y k≠v:=λe=>g.irr v (by have:=F.fan.mem k a;rw[e] at this;exact this)
theorem At.dart(g:Good w)(F:At w R v m y)(a:k<=m):aG w (y k,v):=g.sym _ _ (F.fan.mem k a)
theorem At.C9(F:At w R v m y)(a:k<m):bp w (y k,v)=(v,y (k+1)):=by
 show(v,af (row w v) (y k))=_;rw[F.fan.on k a]
theorem At.ym(D:Disc w R A)(F:At w R v m y)(a:k<=m)(b:y k∈R)(e:v=af R (y k)):k=m:=by
 have:=F.pv
 rw[e] at this;exact F.fan.inj k m a (bJ _) (eH D.nd b F.pm this.symm)
theorem At.y0(F:At w R v m y)(a:k<=m)(e:y k=af R v):k=0:=F.fan.inj k 0 a (cF _) (by rw[e,F.nx])
theorem At.Ky(g:Good w)(D:Disc w R A)(F:At w R v m y):∀k,k<m->A (y k,v)/\A (v,y (k+1))
 |0,h=>by
  have a:A (y 0,v):=by rw[F.nx];exact(D.ring v F.vm).2.1
  refine⟨a,?_⟩
  have:=(D.face _ (F.dart g (cF _))).mp a
  rw[F.C9 h] at this;exact this
 |k+1,h=>by
  have b:=(F.Ky g D k (by lia)).2
  have a:A (y (k+1),v):=by
   refine(D.sym v (y (k+1)) (F.fan.mem (k+1) (by lia)) (λz=>?_) (λz=>?_)).mp b
   ·have:=F.y0 (by lia) z.2;lia
   ·have:=F.ym D (by lia) z.1 z.2;lia
  refine⟨a,?_⟩
  have:=(D.face _ (F.dart g (by lia))).mp a
  rw[F.C9 h] at this;exact this
theorem At.K5(g:Good w)(D:Disc w R A)(F:At w R v m y){k:Nat}(b:k<m):bp w (v,y (k+1))=(y (k+1),y k)/\bp w (y (k+1),y k)=(y k,v)/\A (y (k+1),y k):=by
 have a:=F.Ky g D k b;have t:=D.tri _ a.1;rw[F.C9 b] at t
 have e:bp w (v,y (k+1))=(y (k+1),y k):=by
  have c:(bp w (bp w (v,y (k+1)))).1=y k:=by rw[t]
  show(y (k+1),af (row w (y (k+1))) v)=_;exact Gc (Prod.mk _) c
 refine⟨e,by rw[e] at t;exact t,?_⟩
 have:=(D.face _ (D.dart _ a.2)).mp a.2
 rw[e] at this;exact this
def wx(v m:Nat)(y:Nat->Nat)(d:Nat×Nat):Prop:=∃k,k<m/\(d=(y k,v)\/d=(v,y (k+1))\/d=(y (k+1),y k))
theorem At.ZE(g:Good w)(D:Disc w R A)(F:At w R v m y)(e:aG w d):wx v m y d↔wx v m y (bp w d):=by
 constructor
 ·rintro⟨k,c,h⟩
  have b:=F.K5 g D c;refine⟨k,c,?_⟩
  rcases h with rfl|rfl|rfl
  ·rw[F.C9 c];exact .inr (.inl rfl)
  ·rw[b.1];exact .inr (.inr rfl)
  ·rw[b.2.1];exact .inl rfl
 ·rintro⟨k,c,h⟩
  have b:=F.K5 g D c;have a:=F.Ky g D k c;refine⟨k,c,?_⟩
  rcases h with h|h|h
  ·exact .inr (.inr (jQ g e (D.dart _ b.2.2) (by rw[h,b.2.1])))
  ·exact .inl (jQ g e (D.dart _ a.1) (by rw[h,F.C9 c]))
  ·exact .inr (.inl (jQ g e (D.dart _ a.2) (by rw[h,b.1])))
def dP(pre:List Nat)(m:Nat)(y:Nat->Nat):List Nat:=pre++(bb m).map λi=>y (m-i)
theorem jO(pre:List Nat)(m:Nat)(y:Nat->Nat):(dP pre m y).length=pre.length+m:=by unfold dP;simp
theorem uu{m i:Nat}{y:Nat->Nat}(h:i<pre.length):(dP pre m y).getD i 0=pre.getD i 0:=by
 unfold dP;rw[aU,fF h,<-aU]
theorem ur{pre:List Nat}{m i:Nat}{y:Nat->Nat}(h:i<m):(dP pre m y).getD (pre.length+i) 0=y (m-i):=by
 unfold dP;rw[aU,hU (by lia),show pre.length+i-pre.length=i by lia,dF,Ap h];rfl
theorem rO{m p:Nat}{y:Nat->Nat}:p∈dP pre m y↔p∈pre\/∃k,1<=k/\k<=m/\p=y k:=by
 unfold dP;rw[cV,bY]
 constructor
 ·rintro(h| ⟨i,a,rfl⟩)
  ·exact .inl h
  ·have:=bV.mp a
   exact .inr ⟨m-i,by lia,by lia,rfl⟩
 ·rintro(h| ⟨k,b,c,rfl⟩)
  ·exact .inl h
  ·exact .inr ⟨m-k,bV.mpr (by lia),by rw[show m-(m-k)=k by lia]⟩
theorem Fg(g:Good w)(D:Disc w R A)(F:At w R v m y)(t:R=pre++ [y m,v])(M:pre.getD 0 0=y 0)(hp:pre≠ [])(N:∀k,0<k->k<m->y k∉R)(hl:3<=pre.length+m):
  Disc w (dP pre m y) λd=>A d/\¬wx v m y d:=by
 have x:=D.nd;have lR:R.length=pre.length+2:=by rw[t];simp
 have H:0<pre.length:=t6.mpr hp;have O:∀p∈pre,p∈R:=λp h=>by rw[t];exact fG _ h
 have P:pre.Nodup:=by rw[t] at x;exact(fI.mp x).1
 have pv:∀p∈pre,p≠v/\p≠y m:=λp h=>by
  rw[t] at x
  have:=(fI.mp x).2.2 p h
  exact⟨this v (by simp),this (y m) (by simp)⟩
 have m0:y 0∈pre:=by
  rw[<-M,aU,bB H];exact n0 H
 have out:∀k,1<=k->k<=m->y k∉pre:=λk C o s=>by
  by_cases e:k=m
  ·subst e;exact(pv _ s).2 rfl
  ·exact N k (by lia) (by lia) (O _ s)
 have I:(dP pre m y).Nodup:=by
  unfold dP;refine fI.mpr ⟨P,?_,λa ha b hb e=>?_⟩
  ·unfold cr
   rw[hZ];refine Wp (λ {i j} n U h e=>?_) sC
   have:=bV.mp n
   have:=bV.mp U
   have:=F.fan.inj (m-i) (m-j) (by lia) (by lia) e
   lia
  ·obtain⟨i,n,rfl⟩:=bY.mp hb
   have:=bV.mp n
   subst e;exact out (m-i) (by lia) (by lia) ha
 have J:∀i,i<pre.length->R.getD i 0=pre.getD i 0:=λi n=>by
  rw[t,aU,fF n,<-aU]
 have QX:R.getD pre.length 0=y m:=by
  rw[t,aU,hU (bJ _)];simp
 have X:∀p∈pre,af (dP pre m y) p=af R p:=λp h=>by
  obtain⟨i,n,rfl⟩:=gh.mp h;have e:pre[i]=pre.getD i 0:=by rw[aU,bB n];rfl
  have Y:af R (R.getD i 0)=R.getD (i+1) 0:=aJ x (by lia)
  have mp:=F.fan.pos;have Z:af (dP pre m y) ((dP pre m y).getD i 0)=(dP pre m y).getD (i+1) 0:=aJ I (by rw[jO];lia)
  rw[J i n] at Y;rw[uu n] at Z;rw[e,Y,Z]
  by_cases c:i+1<pre.length
  ·rw[uu c,J _ c]
  ·have c:i+1=pre.length:=by lia
   have:=ur (pre:=pre) (y:=y) (m:=m) (i:=0) (by lia)
   rw[c,QX];simpa using this
 have sY:∀k,1<=k->k<=m->af (dP pre m y) (y k)=y (k-1):=λk C o=>by
  have f:=ur (pre:=pre) (y:=y) (m:=m) (i:=m-k) (by lia)
  rw[show m-(m-k)=k by lia] at f
  rw[<-f]
  by_cases c:k=1
  ·rw[bw I (by rw[jO];lia),uu H,M,c]
  ·rw[aJ I (by rw[jO];lia)]
   have l:=ur (pre:=pre) (y:=y) (m:=m) (i:=m-k+1) (by lia)
   rw[show pre.length+(m-k)+1=pre.length+(m-k+1) by lia,l,show m-(m-k+1)=k-1 by lia]
 have three:m=1->af R (y 0)≠y 1:=λB e=>by
  have e0:R.getD 0 0=y 0:=by rw[J 0 H,M]
  have Q:=aJ x (i:=0) (by lia)
  rw[e0,e] at Q
  by_cases c:1<pre.length
  ·rw[J 1 c] at Q
   have:y 1∈pre:=by rw[Q,aU,bB c];exact n0 c
   exact out 1 (by lia) (by lia) this
  ·lia
 have Zl:∀k,1<=k->k<=m->A (y (k-1),y k):=λk C o=>by
  have b:=F.K5 g D (k:=k-1) (by lia)
  rw[show k-1+1=k by lia] at b
  have L:∀i,i<=m->y i∈R->i=0\/i=m:=λi n h=>by
   by_cases c:0<i/\i<m
   ·exact absurd h (N i c.1 c.2)
   ·lia
  refine(D.sym _ _ (D.dart _ b.2.2) (λz=>?_) (λz=>?_)).mp b.2.2
  ·have E:y (k-1)∈R:=by rw[z.2];exact cc z.1
   have i1:=L k o z.1;have i2:=L (k-1) (by lia) E
   have B:m=1:=by lia
   have s:k=1:=by lia
   subst s;have e:=z.2;have p:=F.pv;rw[B] at p;rw[p] at e;exact F.ne g (k:=0) (cF _) e
  ·have E:y k∈R:=by rw[z.2];exact cc z.1
   have i1:=L k o E;have i2:=L (k-1) (by lia) z.1
   have B:m=1:=by lia
   have s:k=1:=by lia
   subst s;exact three B z.2.symm
 refine⟨I,by rw[jO];exact hl,λd h=>D.dart d h.1,λd u=>?_,λd h=>D.tri d h.1,λp gw=>?_,λp q u S G=>?_⟩
 ·rw[D.face d u,F.ZE g D u]
 ·rcases rO.mp gw with h| ⟨k,C,o,rfl⟩
  ·rw[X p h]
   have r:=D.ring p (O p h);refine⟨r.1,⟨r.2.1,?_⟩,λz=>r.2.2 z.1⟩;rintro⟨k,s,e|e|e⟩
   ·exact(pv p h).1 (Gc Prod.snd e)
   ·have:af R p=v:=Gc Prod.fst e
    have l:=Gc Prod.snd e;exact out (k+1) (by lia) (by lia) (by rw[<-(show p=y (k+1) from l)];exact h)
   ·have f:af R p=y (k+1):=Gc Prod.fst e
    have l:p=y k:=Gc Prod.snd e
    have k0:k=0:=by
     by_cases c:k=0
     ·exact c
     ·exact absurd (l▸h) (out k (by lia) (by lia))
    subst k0
    have:y 1∈R:=by rw[<-(show af R p=y 1 from f)];exact cc (O p h)
    have B:m=1:=by
     by_cases c:1<m
     ·exact absurd this (N 1 (by lia) c)
     ·lia
    rw[l] at f;exact three B f
  ·rw[sY k C o]
   have a:=Zl k C o;refine⟨D.dart _ a,⟨a,?_⟩,λz=>z.2 ⟨k-1,by lia, .inr (.inr (by rw[show k-1+1=k by lia]))⟩⟩
   rintro⟨j,U,e|e|e⟩
   ·exact F.ne g (k:=k) o (Gc Prod.snd e)
   ·exact F.ne g (k:=k-1) (by lia) (Gc Prod.fst e)
   ·have f:=F.fan.inj (k-1) (j+1) (by lia) (by lia) (Gc Prod.fst e)
    have l:=F.fan.inj k j (by lia) (by lia) (Gc Prod.snd e)
    lia
 ·
  have one:∀p q,aG w (p,q)->¬(p∈dP pre m y/\q=af (dP pre m y) p)->¬(q∈dP pre m y/\p=af (dP pre m y) q)->(A (p,q)/\¬wx v m y (p,q))->(A (q,p)/\¬wx v m y (q,p)):=by
   intro p q u S G ⟨a,nt⟩;have T:¬(p∈R/\q=af R p):=λz=>(D.ring p z.1).2.2 (by rw[<-z.2];exact a)
   have E:¬(q∈R/\p=af R q):=λz=>by
    have hq:=z.1;rw[t] at hq
    rcases cV.mp hq with h|h
    ·exact G ⟨rO.mpr (.inl h),by rw[X q h];exact z.2⟩
    ·have h:q=y m\/q=v:=by simpa using h
     rcases h with rfl|rfl
     ·have:p=v:=by rw[z.2];exact F.pv
      subst this;exact nt ⟨m-1,by have:=F.fan.pos;lia, .inr (.inl (by rw[show m-1+1=m by have:=F.fan.pos;lia]))⟩
     ·have:p=y 0:=by rw[z.2,F.nx]
      subst this;exact nt ⟨0,F.fan.pos, .inl rfl⟩
   refine⟨(D.sym p q u T E).mp a,?_⟩;rintro⟨k,s,e|e|e⟩
   ·have f:q=y k:=Gc Prod.fst e
    have l:p=v:=Gc Prod.snd e;subst f l
    by_cases c:k=0
    ·subst c;exact T ⟨F.vm,F.nx⟩
    ·exact nt ⟨k-1,by lia, .inr (.inl (by rw[show k-1+1=k by lia]))⟩
   ·have f:q=v:=Gc Prod.fst e
    have l:p=y (k+1):=Gc Prod.snd e;subst f l
    by_cases c:k+1=m
    ·exact T ⟨by rw[c];exact F.pm,by rw[c];exact F.pv.symm⟩
    ·exact nt ⟨k+1,by lia, .inl rfl⟩
   ·have f:q=y (k+1):=Gc Prod.fst e
    have l:p=y k:=Gc Prod.snd e;subst f l;exact G ⟨rO.mpr (.inr ⟨k+1,by lia,by lia,rfl⟩),by rw[sY (k+1) (by lia) (by lia)];rfl⟩
  exact⟨one p q u S G,one q p (g.sym _ _ u) G S⟩
end
theorem Disc.FK(D:Disc w (a++b) A):Disc w (b++a) A:=by
 have mem:∀p,p∈b++a↔p∈a++b:=λp=>fQ.mem_iff;have s:∀p,p∈b++a->af (b++a) p=af (a++b) p:=λp h=>fP D.nd ((mem p).mp h);refine⟨(fQ.nodup_iff).mp D.nd,by have:=D.len;simp at this ⊢;lia,D.dart,D.face,D.tri,λp c=>?_,λp q d e f=>?_⟩
 ·rw[s p c];exact D.ring p ((mem p).mp c)
 ·refine D.sym p q d (λz=>e ⟨(mem p).mpr z.1,?_⟩) (λz=>f ⟨(mem q).mpr z.1,?_⟩)
  ·rw[s p ((mem p).mpr z.1)];exact z.2
  ·rw[s q ((mem q).mpr z.1)];exact z.2
def cz(l:List Nat)(a:Nat):List Nat:=l.drop (l.idxOf a)++l.take (l.idxOf a)
theorem iA(l:List Nat)(a:Nat):(cz l a).Perm l:=by
 unfold cz;exact fQ.trans (by rw[hV])
theorem qB(l:List Nat)(a:Nat):(cz l a).length=l.length:=(iA l a).length_eq
theorem FL{a x:Nat}(c:l.Nodup)(d:x∈l):af (cz l a) x=af l x:=by
 unfold cz;have e:l.take (l.idxOf a)++l.drop (l.idxOf a)=l:=hV _ _
 have:=fP (a:=l.take (l.idxOf a)) (b:=l.drop (l.idxOf a)) (x:=x) (by rw[e];exact c) (by rw[e];exact d)
 rw[this,e]
theorem yd(h:a∈l):(cz l a).getD 0 0=a:=by
 have b:=h8.mpr h;unfold cz;rw[aU,fF (by rw[fR];lia),rf,Nat.add_zero,bB b,kN b];rfl
theorem getD_inj{l:List Nat}(a:l.Nodup)(b:i<l.length)(c:j<l.length)(e:l.getD i 0=l.getD j 0):i=j:=by
 have f:l.getD i 0=l[i]:=by rw[aU,bB b];rfl
 have g:l.getD j 0=l[j]:=by rw[aU,bB c];rfl
 rw[f,g] at e;have d:=a.idxOf_getElem i b;have h:=a.idxOf_getElem j c;rw[e,h] at d;exact d.symm
theorem aS{l:List Nat}{i:Nat}(h:i<l.length):l.getD i 0∈l:=by
 rw[aU,bB h];exact n0 h
theorem Dm(a:R.Nodup)(h:x∈R):∃b,b∈R/\af R b=x:=by
 obtain⟨i,d,rfl⟩:=gh.mp h;have e:R[i]=R.getD i 0:=by rw[aU,bB d];rfl
 by_cases c:i=0
 ·subst c
  exact⟨R.getD (R.length-1) 0,aS (by lia),by rw[bw a (by lia),e]⟩
 ·refine⟨R.getD (i-1) 0,aS (by lia),?_⟩
  rw[aJ a (by lia),show i-1+1=i by lia,e]
structure Whole (w:W) (R:List Nat) (v m L:Nat) (y:Nat->Nat):Prop where
 at_:At w R v m y
 lt:m<L
 on:∀k,k+1<L->af (row w v) (y k)=y (k+1)
 all:∀z,z∈row w v->∃k,k<L/\y k=z
 inj:∀i j,i<L->j<L->y i=y j->i=j
 mem:∀k,k<L->y k∈row w v
section
variable {w:W} {R:List Nat} {A:Nat×Nat->Prop}
theorem qD(g:Good w)(D:Disc w R A)(l:v∈R)(o:b∈R)(d:af R b=v):
  Whole w R v ((cz (row w v) (af R v)).idxOf b) (row w v).length λk=>(cz (row w v) (af R v)).getD k 0:=by
 have a:=(D.ring v l).1;have x:af R v∈row w v:=g.sym _ _ a
 have y:b∈row w v:=by
  have:=(D.ring b o).1
  rw[d] at this;exact this
 have p:=g.nod v;have q:(cz (row w v) (af R v)).Nodup:=(iA _ _).nodup_iff.mpr p;have H:=qB (row w v) (af R v);have f:∀z,z∈cz (row w v) (af R v)↔z∈row w v:=λz=>(iA _ _).mem_iff;have r:=h8.mpr ((f b).mpr y)
 have h:(cz (row w v) (af R v)).getD ((cz (row w v) (af R v)).idxOf b) 0=b:=by
  rw[aU,bB r,kN r];rfl
 have s:∀k,k+1<(row w v).length->af (row w v) ((cz (row w v) (af R v)).getD k 0)=(cz (row w v) (af R v)).getD (k+1) 0:=λk m=>by
  rw[<-FL (a:=af R v) p ((f _).mp (aS (by lia)))]
  exact aJ q (by lia)
 have mem:∀k,k<(row w v).length->(cz (row w v) (af R v)).getD k 0∈row w v:=λk m=>(f _).mp (aS (by lia))
 have inj:∀i j,i<(row w v).length->j<(row w v).length->(cz (row w v) (af R v)).getD i 0=(cz (row w v) (af R v)).getD j 0->i=j:=λi j n B e=>getD_inj q (by lia) (by lia) e
 have C:af R v≠b:=by
  intro e;have I:=D.len;obtain⟨i,n,rfl⟩:=gh.mp l;have E:R[i]=R.getD i 0:=by rw[aU,bB n];rfl
  rw[<-e,E] at d
  by_cases c:i+1<R.length
  ·rw[aJ D.nd c] at d
   by_cases F:i+2<R.length
   ·rw[aJ D.nd F] at d
    have:=getD_inj D.nd (by lia) (by lia) d;lia
   ·rw[bw D.nd (by lia)] at d
    have:=getD_inj D.nd (by lia) (by lia) d;lia
  ·rw[bw D.nd (by lia),aJ D.nd (by lia)] at d
   have:=getD_inj D.nd (by lia) (by lia) d;lia
 have t:=yd x;refine⟨⟨⟨λk m=>s k (by lia),λk m=>mem k (by lia),λi j n B e=>inj i j (by lia) (by lia) e,?_⟩,l,t,by rw[h];exact o,by rw[h];exact d⟩,by lia,s,λz G=>?_,inj,mem⟩
 ·apply GE
  intro c;have c:(cz (row w v) (af R v)).idxOf b=0:=by lia
  rw[c,t] at h;exact C h
 ·have u:=h8.mpr ((f z).mpr G)
  exact⟨(cz (row w v) (af R v)).idxOf z,by lia,by rw[aU,bB u,kN u];rfl⟩
theorem Whole.out(g:Good w)(D:Disc w R A)(F:Whole w R v m L y):∀k,m+k<L->1<=k->¬A (v,y (m+k))
 |0,_,h=>by lia
 |k+1,i,_=>by
  have d:aG w (y (m+k),v):=g.sym _ _ (F.mem _ (by lia))
  have e:bp w (y (m+k),v)=(v,y (m+(k+1))):=by
   show(v,af (row w v) (y (m+k)))=_;rw[F.on _ (by lia)];rfl
  have b:¬A (y (m+k),v):=by
   by_cases c:k=0
   ·subst c
    have:=(D.ring (y m) F.at_.pm).2.2
    rw[F.at_.pv] at this;exact this
   ·intro a
    refine F.out g D k (by lia) (by lia) ((D.sym v (y (m+k)) (F.mem _ (by lia)) (λz=>?_) (λz=>?_)).mpr a)
    ·have:=F.inj (m+k) 0 (by lia) (by lia) (by rw[z.2,F.at_.nx]);lia
    ·have:=F.at_.pv
     have f:=eH D.nd z.1 F.at_.pm (by rw[this];exact z.2.symm)
     have:=F.inj (m+k) m (by lia) (by lia) f;lia
  intro a;rw[<-e] at a;exact b ((D.face _ d).mpr a)
theorem Whole.between(g:Good w)(D:Disc w R A)(F:Whole w R v m L y)(a:A (v,z)):∃k,1<=k/\k<=m/\y k=z:=by
 obtain⟨k,b,rfl⟩:=F.all z (D.dart _ a);refine⟨k,?_,?_,rfl⟩
 ·apply GE
  intro c;have c:k=0:=by lia
  subst c;rw[F.at_.nx] at a;exact(D.ring v F.at_.vm).2.2 a
 ·apply GE
  intro c
  have:=F.out g D (k-m) (by lia) (by lia)
  rw[show m+(k-m)=k by lia] at this
  exact this a
def cO(C:List Nat)(x y:Nat):Prop:=x∈C/\y=af C x
structure Bd (w:W) (C:List Nat) (S:Nat×Nat->Prop):Prop where
 face:∀d,aG w d->(S d↔S (bp w d))
 no:∀x y,aG w (x,y)->¬cO C x y->¬cO C y x->(S (x,y)↔S (y,x))
 yes:∀x y,aG w (x,y)->cO C x y\/cO C y x->(S (x,y)↔¬S (y,x))
theorem Bd.neg(B:Bd w C S):Bd w C λd=>¬S d:=
 ⟨λd h=>acf (B.face d h),λx y h a b=>acf (B.no x y h a b),λx y h a=>acf (B.yes x y h a)⟩
theorem Whole.seg(g:Good w)(F:Whole w R v m L y)(B:Bd w C S){i:Nat}:∀n,i+n+1<L->(∀k,i<k->k<=i+n->¬cO C v (y k)/\¬cO C (y k) v)->(S (y i,v)↔S (v,y (i+n+1)))
 |0,h,_=>by
  have d:aG w (y i,v):=g.sym _ _ (F.mem _ (by lia))
  have e:bp w (y i,v)=(v,y (i+0+1)):=by
   show(v,af (row w v) (y i))=_;rw[F.on _ (by lia)]
  rw[B.face _ d,e]
 |n+1,h,q=>by
  have a:=F.seg g B n (by lia) λk b f=>q k b (by lia)
  have c:=q (i+n+1) (by lia) (by lia)
  have s:=B.no v (y (i+n+1)) (F.mem _ (by lia)) c.1 c.2
  have d:aG w (y (i+n+1),v):=g.sym _ _ (F.mem _ (by lia))
  have e:bp w (y (i+n+1),v)=(v,y (i+(n+1)+1)):=by
   show(v,af (row w v) (y (i+n+1)))=_;rw[F.on _ (by lia)];rfl
  rw[a,s,B.face _ d,e]
theorem sg{a b:List Nat}{z x:Nat}(d:(a++ [z]++b).Nodup)(g:x∈a):af (a++ [z]++b) x=af (a++ [z]) x:=by
 have h:(a++ [z]).Nodup:=(fI.mp d).1;obtain⟨i,c,rfl⟩:=gh.mp g
 have j:(a++ [z]++b).getD i 0=a[i]:=by
  rw[aU,nZ,fF c,bB c];rfl
 have k:(a++ [z]).getD i 0=a[i]:=by
  rw[aU,fF c,bB c];rfl
 have e:=aJ (i:=i) d (by simp;lia)
 have f:=aJ (i:=i) h (by simp;lia)
 rw[j] at e;rw[k] at f;rw[e,f,aU,fF (by simp;lia),<-aU]
theorem parted(g:Good w)(D:Disc w R A)(G:R=p::(B++q::C))(hB:B≠ [])(hC:C≠ [])(T:A (p,q))(H:Bd w (p::(B++ [q])) S)(hs:S (af R p,p)):
  Disc w (p::(B++ [q])) (λd=>A d/\S d)/\Disc w (q::(C++ [p])) (λd=>A d/\¬S d):=by
 have u:=D.nd;have HQ:R=(p::B)++ [q]++C:=by rw[G];simp
 have O:R=(p::B)++(q::C):=by rw[G];simp
 have K1:((q::C)++ [p]++B).Nodup:=by
  have:((q::C)++(p::B)).Nodup:=fQ.nodup_iff.mp (O▸u)
  simpa using this
 have Bq:((p::B)++ [q]).Nodup:=by rw[HQ] at u;exact(fI.mp u).1
 have zr:((q::C)++ [p]).Nodup:=(fI.mp K1).1
 have I:∀x∈p::B,af (p::(B++ [q])) x=af R x:=λx f=>by
  have:=sg (a:=p::B) (b:=C) (z:=q) (HQ▸u) f
  rw[HQ,this];rfl
 have sq:∀x∈q::C,af (q::(C++ [p])) x=af R x:=λx f=>by
  have t:=sg (a:=q::C) (b:=B) (z:=p) K1 f;have o:=fP (a:=p::B) (b:=q::C) (x:=x) (O▸u) (gm _ f);rw[<-O] at o;rw[<-o];have e:(q::C)++ [p]++B=(q::C)++(p::B):=by simp
  rw[e] at t;exact t.symm
 have P:af (p::(B++ [q])) q=p:=dX Bq;have Si:af (q::(C++ [p])) p=q:=dX zr
 have J:∀x,x∈p::B->x∉q::C:=λx t o=>by
  rw[O] at u;exact(fI.mp u).2.2 x t x o rfl
 have s:∀x,x∈R↔x∈p::B\/x∈q::C:=λx=>by rw[O,cV]
 have v:∀x,x∈p::(B++ [q])↔x∈p::B\/x=q:=λx=>by simp[or_assoc]
 have Q:∀x,x∈q::(C++ [p])↔x∈q::C\/x=p:=λx=>by simp[or_assoc]
 have pB:p∉B:=by
  have:=(fI.mp Bq).1
  exact(ie.mp this).1
 have pq:p≠q:=λe=>J p (cg ..) (e▸cg ..)
 have Zh:af R p∈B:=by
  obtain⟨b,B',rfl⟩:=abK hB
  have:af R p=b:=by
   rw[G];exact cB (a:= []) (b:=B'++q::C) (by rw[G] at u;simpa using u)
  rw[this];exact cg ..
 have Sj:af R q∈C:=by
  obtain⟨c,C',rfl⟩:=abK hC
  have:af R q=c:=by
   rw[G,show p::(B++q::c::C')=(p::B)++q::c::C' by simp]
   exact cB (by rw[G] at u;simpa using u)
  rw[this];exact cg ..
 have qp:¬cO R q p:=λz=>J p (cg ..) (by rw[z.2];exact cG _ Sj)
 have pq':¬cO R p q:=λz=>J q (by rw[z.2];exact cG _ Zh) (cg ..)
 have T4:A (q,p):=(D.sym p q (D.dart _ T) pq' qp).mp T
 have Sl:∀x b,x∈B->b∈R->af R b=x->(S (af R x,x)↔S (x,b)):=λx b f M L=>by
  have Kx:x∈R:=(s x).mpr (.inl (cG _ f));have F:=qD g D Kx M L;generalize (cz (row w x) (af R x)).idxOf b=m at F;generalize (λk=>(cz (row w x) (af R x)).getD k 0)=y at F;have mp:=F.at_.fan.pos;have U:y m=b:=eH D.nd F.at_.pm M (by rw[F.at_.pv,L])
  have:=F.seg g H (i:=0) (m-1) (by have:=F.lt;lia) λk t o=>⟨λz=>?_,λz=>?_⟩
  ·rw[F.at_.nx,show 0+(m-1)+1=m by lia,U] at this
   exact this
  ·have e:=z.2
   rw[I x (cG _ f)] at e
   have:=F.at_.y0 (by lia) e
   lia
  ·have e:=z.2
   rcases(v _).mp z.1 with h|h
   ·rw[I _ h] at e
    have:=F.at_.ym D (by lia) ((s _).mpr (.inl h)) e
    lia
   ·rw[h,P] at e
    exact pB (e▸f)
 have Sm:∀x b,x∈C->b∈R->af R b=x->(S (af R x,x)↔S (x,b)):=λx b f M L=>by
  have Kx:x∈R:=(s x).mpr (.inr (cG _ f))
  have xn:x∉p::(B++ [q]):=λz=>by
   rcases(v x).mp z with h|h
   ·exact J x h (cG _ f)
   ·subst h
    have:=(fI.mp zr).1
    exact(ie.mp this).1 f
  have F:=qD g D Kx M L;generalize (cz (row w x) (af R x)).idxOf b=m at F;generalize (λk=>(cz (row w x) (af R x)).getD k 0)=y at F;have mp:=F.at_.fan.pos;have U:y m=b:=eH D.nd F.at_.pm M (by rw[F.at_.pv,L])
  have:=F.seg g H (i:=0) (m-1) (by have:=F.lt;lia) λk t o=>⟨λz=>xn z.1,λz=>xn (by rw[z.2];exact cc z.1)⟩
  rw[F.at_.nx,show 0+(m-1)+1=m by lia,U] at this
  exact this
 have Wc:p∈R:=(s p).mpr (.inl (cg ..))
 have TK:∀b,b∈R->af R b=p->S (p,q)/\¬S (q,p)/\¬S (p,b):=λb M L=>by
  have F:=qD g D Wc M L;generalize (cz (row w p) (af R p)).idxOf b=m at F;generalize (λk=>(cz (row w p) (af R p)).getD k 0)=y at F;have mp:=F.at_.fan.pos;have U:y m=b:=eH D.nd F.at_.pm M (by rw[F.at_.pv,L])
  obtain⟨j,j1,j2,yj⟩:=F.between g D T
  have jm:j≠m:=λe=>by
   rw[e,U] at yj;rw[yj] at L;exact J p (cg ..) (by rw[<-L];exact cG _ Sj)
  have lt:=F.lt
  have bA:∀k,0<k->k<m->k≠j->¬cO (p::(B++ [q])) p (y k)/\¬cO (p::(B++ [q])) (y k) p:=λk t o h3=>⟨λz=>by
   have e:=z.2;rw[I p (cg ..)] at e
   have:=F.at_.y0 (by lia) e
   lia,λz=>by
   have e:=z.2
   rcases(v _).mp z.1 with h|h
   ·rw[I _ h] at e
    have:=F.at_.ym D (by lia) ((s _).mpr (.inl h)) e
    lia
   ·rw[<-yj] at h
    exact h3 (F.inj k j (by lia) (by lia) h)⟩
  have g1:=F.seg g H (i:=0) (j-1) (by lia) λk t o=>bA k t (by lia) (by lia)
  rw[F.at_.nx,show 0+(j-1)+1=j by lia,yj] at g1
  have s1:S (p,q):=g1.mp hs;have s2:¬S (q,p):=(H.yes p q (D.dart _ T) (.inr ⟨(v q).mpr (.inr rfl),P.symm⟩)).mp s1;have g2:=F.seg g H (i:=j) (m-j-1) (by lia) λk t o=>bA k (by lia) (by lia) (by lia)
  rw[yj,show j+(m-j-1)+1=m by lia,U] at g2
  exact⟨s1,s2,λz=>s2 (g2.mpr z)⟩
 obtain⟨bl,hbl,ebl⟩:=Dm D.nd Wc;obtain⟨YR,YS,_⟩:=TK bl hbl ebl;have lR:R.length=B.length+C.length+2:=by rw[G];simp;lia
 have gB:∀i,1<=i->i<=B.length->R.getD i 0∈B:=λi t o=>by
  obtain⟨k,rfl⟩:∃k,i=k+1:=⟨i-1,by lia⟩
  rw[G,nY,aU,fF (by lia),bB (by lia)]
  exact n0 _
 have gC:∀i,B.length+2<=i->i<R.length->R.getD i 0∈C:=λi t o=>by
  rw[show R=(p::B++ [q])++C by rw[HQ],aU,hU (by simp;lia),bB (by simp;lia)]
  exact n0 _
 have g0:R.getD 0 0=p:=by rw[G];rfl
 have gq:R.getD (B.length+1) 0=q:=by
  rw[G,nY,aU,hU (bJ _)];simp
 have gR:∀i,i<R.length->R.getD i 0∈R:=λi h=>aS h
 have upB:∀i,i<=B.length->S (af R (R.getD i 0),R.getD i 0):=by
  intro i
  induction i with
  |zero=>intro _;rw[g0];exact hs
  |succ i N=>
   intro h;have e:=aJ D.nd (i:=i) (by lia)
   have N:=N (by lia)
   rw[e] at N;exact(Sl _ _ (gB (i+1) (by lia) h) (gR i (by lia)) e).mpr N
 have dnC:∀n i,i+n+1=R.length->B.length+1<=i->¬S (af R (R.getD i 0),R.getD i 0):=by
  intro n
  induction n with
  |zero=>
   intro i t o;have e:=bw D.nd (i:=i) (by lia)
   rw[g0] at e;rw[e];exact(TK _ (gR i (by lia)) e).2.2
  |succ n N=>
   intro i t o;have e:=aJ D.nd (i:=i) (by lia)
   have N:=N (i+1) (by lia) (by lia)
   rw[e];exact λz=>N ((Sm _ _ (gC (i+1) (by lia) (by lia)) (gR i (by lia)) e).mpr z)
 have Ta:∀x∈p::B,S (af R x,x):=λx f=>by
  obtain⟨i,X,rfl⟩:=gh.mp f;have e:R.getD i 0=(p::B)[i]:=by rw[O,aU,fF X,bB X];rfl
  have:=upB i (by simp at X;lia)
  rw[e] at this;exact this
 have Tb:∀x∈q::C,¬S (af R x,x):=λx f=>by
  obtain⟨i,X,rfl⟩:=gh.mp f
  have e:R.getD (B.length+1+i) 0=(q::C)[i]:=by
   rw[O,aU,hU (by simp),show B.length+1+i-(p::B).length=i by simp,bB X];rfl
  have fb:i<C.length+1:=by simpa using X
  have:=dnC (R.length-(B.length+1+i)-1) (B.length+1+i) (by lia) (by lia)
  rw[e] at this;exact this
 have QS:∀d,aG w d->((A d/\S d)↔(A (bp w d)/\S (bp w d))):=λd E=>acg (D.face d E) (H.face d E);have QR:∀d,aG w d->((A d/\¬S d)↔(A (bp w d)/\¬S (bp w d))):=λd E=>acg (D.face d E) (acf (H.face d E));have lB:=t6.mpr hB;have lC:=t6.mpr hC
 have GO:∀x∈q::C,¬S (x,af R x)/\¬S (af R x,x):=λx f=>by
  have a:=Tb x f;have Kx:=(s x).mpr (.inr f);have d:=(D.ring x Kx).1;refine⟨λz=>a ?_,a⟩;refine(H.no x (af R x) (g.sym _ _ d) (λz=>?_) (λz=>?_)).mp z
  ·rcases(v x).mp z.1 with h|h
   ·exact J x h f
   ·have e:=z.2
    subst h;rw[P] at e;exact J p (cg ..) (by rw[<-e];exact cG _ Sj)
  ·have e:=z.2
   rcases(v _).mp z.1 with h|h
   ·rw[I _ h] at e
    have:af R x∈q::C\/af R x=p:=by
     rw[<-sq x f]
     have:=cc (l:=q::(C++ [p])) (x:=x) ((Q x).mpr (.inl f))
     exact(Q _).mp this
    rcases this with o|o
    ·exact J _ h o
    ·rw[o] at e
     exact J x (by rw[e];exact cG _ Zh) f
   ·rw[h,P] at e
    exact J p (cg ..) (e▸f)
 refine⟨⟨Bq,by simp;lia,λd h=>D.dart d h.1,QS,λd h=>D.tri d h.1,λx f=>?_,λx y E n1 n2=>?_⟩,⟨zr,by simp;lia,λd h=>D.dart d h.1,QR,λd h=>D.tri d h.1,λx f=>?_,λx y E n1 n2=>?_⟩⟩
 ·rcases(v x).mp f with h|rfl
  ·rw[I x h]
   have r:=D.ring x ((s x).mpr (.inl h));exact⟨r.1,⟨r.2.1,Ta x h⟩,λz=>r.2.2 z.1⟩
  ·rw[P]
   exact⟨D.dart _ T,⟨T,YR⟩,λz=>YS z.2⟩
 ·have sy:=H.no x y E n1 n2
  by_cases Y:cO R x y
  ·obtain⟨f,rfl⟩:=Y
   rcases(s x).mp f with h|h
   ·exact absurd ⟨(v x).mpr (.inl h),(I x h).symm⟩ n1
   ·exact⟨λz=>absurd z.2 (GO x h).1,λz=>absurd z.2 (GO x h).2⟩
  ·by_cases Z:cO R y x
   ·obtain⟨hy,rfl⟩:=Z
    rcases(s y).mp hy with h|h
    ·exact absurd ⟨(v y).mpr (.inl h),(I y h).symm⟩ n2
    ·exact⟨λz=>absurd z.2 (GO y h).2,λz=>absurd z.2 (GO y h).1⟩
   ·exact acg (D.sym x y E Y Z) sy
 ·rcases(Q x).mp f with h|rfl
  ·rw[sq x h]
   have r:=D.ring x ((s x).mpr (.inr h));exact⟨r.1,⟨r.2.1,Tb x h⟩,λz=>r.2.2 z.1⟩
  ·rw[Si]
   exact⟨D.dart _ T4,⟨T4,YS⟩,λz=>z.2 YR⟩
 ·have mh:∀x∈p::B,¬(A (x,af R x)/\¬S (x,af R x))/\¬(A (af R x,x)/\¬S (af R x,x)):=λx f=>
   ⟨λz=>(D.ring x ((s x).mpr (.inl f))).2.2 z.1,λz=>z.2 (Ta x f)⟩
  by_cases Y:cO R x y
  ·obtain⟨f,rfl⟩:=Y
   rcases(s x).mp f with h|h
   ·exact⟨λz=>absurd z (mh x h).1,λz=>absurd z (mh x h).2⟩
   ·exact absurd ⟨(Q x).mpr (.inl h),(sq x h).symm⟩ n1
  ·by_cases Z:cO R y x
   ·obtain⟨hy,rfl⟩:=Z
    rcases(s y).mp hy with h|h
    ·exact⟨λz=>absurd z (mh y h).2,λz=>absurd z (mh y h).1⟩
    ·exact absurd ⟨(Q y).mpr (.inl h),(sq y h).symm⟩ n2
   ·refine acg (D.sym x y E Y Z) (acf (H.no x y E (λz=>?_) (λz=>?_)))
    ·rcases(v x).mp z.1 with h|rfl
     ·exact Y ⟨(s x).mpr (.inl h),by rw[z.2,I x h]⟩
     ·have e:=z.2
      rw[P] at e;exact n2 ⟨(Q y).mpr (.inr e),by rw[e,Si]⟩
    ·rcases(v y).mp z.1 with h|rfl
     ·exact Z ⟨(s y).mpr (.inl h),by rw[z.2,I y h]⟩
     ·have e:=z.2
      rw[P] at e;exact n1 ⟨(Q x).mpr (.inr e),by rw[e,Si]⟩
end
def par{a:Type}(f:a->Bool):List a->Bool
 | []=>false
 |x::l=>(f x).xor (par f l)
theorem mn(f:a->Bool):∀l m:List a,par f (l++m)=(par f l).xor (par f m)
 | [],m=>by simp[par]
 |x::l,m=>by rw[List.cons_append,par,par,mn f l m,Bool.xor_assoc]
theorem tI(f g:a->Bool):∀l:List a,par (λx=>(f x).xor (g x)) l=(par f l).xor (par g l)
 | []=>rfl
 |x::l=>by
  rw[par,par,par,tI f g l];cases f x<;>cases g x<;>cases par f l<;>cases par g l<;>rfl
theorem iz:∀{l:List a},(∀x∈l,f x=false)->par f l=false
 | [],_=>rfl
 |x::l,h=>by rw[par,h x (cg ..),iz λy b=>h y (cG _ b)];rfl
theorem ng:∀{l:List a},(∀x∈l,f x=g x)->par f l=par g l
 | [],_=>rfl
 |x::l,h=>by rw[par,par,h x (cg ..),ng λy b=>h y (cG _ b)]
theorem pH:∀{l:List Nat},l.Nodup->a∈l->par (λx=>decide (x=a)&&b) l=b
 | [],_,h=>by cases h
 |x::l,c,h=>by
  obtain⟨d,f⟩:=ie.mp c;rw[par]
  by_cases e:x=a
  ·subst e
   rw[iz λy g=>by
    have:y≠x:=λz=>d (z▸g)
    simp[this]]
   simp
  ·have:a∈l:=by
    rcases cC.mp h with z|z
    ·exact absurd z.symm e
    ·exact z
   rw[pH f this];simp[e]
theorem Df(f:a->Bool):∀l:List a,par f l.reverse=par f l
 | []=>rfl
 |x::l=>by
  rw[abR,mn,Df f l,par,par,par];cases f x<;>cases par f l<;>rfl
def vD(w:W):Prop:=∀c:Nat->Nat->Bool,(∀x y,c x y=c y x)->(∀p,p<w.length->par (c p) (row w p)=false)->
 ∃S:Nat×Nat->Bool,(∀d,aG w d->S d=S (bp w d))/\∀x y,aG w (x,y)->(S (x,y)).xor (S (y,x))=c x y
open Classical in
theorem vD.ring{w:W}(B:vD w)(g:Good w){C:List Nat}(nd:C.Nodup)(len:3<=C.length)(tie:∀p∈C,af C p∈row w p):∃S:Nat×Nat->Prop,Bd w C S:=by
 have sy:∀x y,decide (cO C x y\/cO C y x)=decide (cO C y x\/cO C x y):=λx y=>aar.mpr Or.comm
 have ev:∀p,p<w.length->par (λy=>decide (cO C p y\/cO C y p)) (row w p)=false:=λp _=>by
  by_cases hp:p∈C
  ·obtain⟨b,hb,eb⟩:=Dm nd hp
   have ne:af C p≠b:=by
    intro e;rw[<-e] at eb;obtain⟨i,hi,rfl⟩:=gh.mp hp;have ei:C[i]=C.getD i 0:=by rw[aU,bB hi];rfl
    rw[ei] at eb
    by_cases c:i+1<C.length
    ·rw[aJ nd c] at eb
     by_cases c2:i+2<C.length
     ·rw[aJ nd c2] at eb
      have:=getD_inj nd (by lia) (by lia) eb;lia
     ·rw[bw nd (by lia)] at eb
      have:=getD_inj nd (by lia) (by lia) eb;lia
    ·rw[bw nd (by lia),aJ nd (by lia)] at eb
     have:=getD_inj nd (by lia) (by lia) eb;lia
   have e:par (λy=>decide (cO C p y\/cO C y p)) (row w p)=par (λy=>(decide (y=af C p)&&true).xor (decide (y=b)&&true)) (row w p):=ng λy _=>by
    have h1:cO C p y↔y=af C p:=⟨λz=>z.2,λz=>⟨hp,z⟩⟩;have h2:cO C y p↔y=b:=⟨λz=>eH nd z.1 hb (by rw[eb];exact z.2.symm),λz=>by rw[z];exact⟨hb,eb.symm⟩⟩
    have e3:decide (cO C p y\/cO C y p)=decide (y=af C p\/y=b):=aar.mpr (or_congr h1 h2);rw[e3]
    by_cases c1:y=af C p
    ·have c2:y≠b:=λz=>ne (c1▸z)
     simp[c1,ne]
    ·by_cases c2:y=b
     ·simp[c2,Ne.symm ne]
     ·simp[c1,c2]
   rw[e,tI,pH (g.nod p) (tie p hp),pH (g.nod p) (by
    have:=g.sym _ _ (tie b hb)
    rw[eb] at this;have h:=tie b hb;rw[eb] at h;exact g.sym _ _ h)]
   rfl
  ·refine iz λy _=>FM ?_
   rintro(z|z)
   ·exact hp z.1
   ·exact hp (by rw[z.2];exact cc z.1)
 obtain⟨S,h1,h2⟩:=B (λx y=>decide (cO C x y\/cO C y x)) sy ev;refine⟨λd=>S d=true,λd hd=>by rw[h1 d hd],λx y hd n1 n2=>?_,λx y hd a=>?_⟩
 ·have:=h2 x y hd
  rw[FM (show ¬(cO C x y\/cO C y x) from λz=>z.elim n1 n2)] at this;cases e1:S (x,y)<;>cases e2:S (y,x)<;>simp[e1,e2] at this ⊢
 ·have:=h2 x y hd
  rw[FS a] at this;cases e1:S (x,y)<;>cases e2:S (y,x)<;>simp[e1,e2] at this ⊢
structure cL (w:W) (R:List Nat):Prop where
 g:Good w
 nd:R.Nodup
 len:3<=R.length
 hd:∀x∈R,af R x∈row w x/\(row w x).getD 0 0=af R x
 ls:∀x∈R,(row w x).getD ((row w x).length-1) 0∈R/\af R ((row w x).getD ((row w x).length-1) 0)=x
 tri:∀x y,aG w (x,y)->¬cO R x y->bp w (bp w (bp w (x,y)))=(x,y)/\¬cO R (bp w (x,y)).1 (bp w (x,y)).2
 bnd:vD w
theorem cL.FK(G:cL w (a++b)):cL w (b++a):=by
 have mem:∀p,p∈b++a↔p∈a++b:=λp=>fQ.mem_iff;have s:∀p,p∈b++a->af (b++a) p=af (a++b) p:=λp h=>fP G.nd ((mem p).mp h)
 have ad:∀x y,cO (b++a) x y↔cO (a++b) x y:=λx y=>by
  constructor
  ·rintro⟨h,e⟩;exact⟨(mem x).mp h,by rw[e,s x h]⟩
  ·rintro⟨h,e⟩;exact⟨(mem x).mpr h,by rw[e,s x ((mem x).mpr h)]⟩
 refine⟨G.g,fQ.nodup_iff.mp G.nd,by have:=G.len;simp at this ⊢;lia,λx c=>?_,λx c=>?_,λx y d n=>?_,G.bnd⟩
 ·rw[s x c];exact G.hd x ((mem x).mp c)
 ·have:=G.ls x ((mem x).mp c)
  exact⟨(mem _).mpr this.1,by rw[s _ ((mem _).mpr this.1)];exact this.2⟩
 ·have:=G.tri x y d (λz=>n ((ad x y).mpr z))
  exact⟨this.1,λz=>this.2 ((ad _ _).mp z)⟩
theorem cL.xr(G:cL w R)(a:x∈R)(c:b∈R)(e:af R b=x):(row w x).getD ((row w x).length-1) 0=b/\(row w x).length≠0:=by
 have:=G.ls x a
 refine⟨eH G.nd this.1 c (by rw[this.2,e]),?_⟩
 have:=(G.hd x a).1
 intro z;rw[D9.mp z] at this;cases this
theorem cL.outer{w:W}(G:cL w R){x y:Nat}(h:cO R x y):bp w (x,y)=(y,af R y):=by
 obtain⟨a,rfl⟩:=h;have b:=cc a;obtain⟨e,ne⟩:=G.xr b a rfl;show(_,af (row w (af R x)) x)=_;have c:=bw (G.g.nod (af R x)) (i:=(row w (af R x)).length-1) (by lia)
 rw[e] at c;rw[c,(G.hd _ b).2]
theorem cL.JS(G:cL w R):Disc w R λd=>aG w d/\¬cO R d.1 d.2:=by
 have two:∀x∈R,af R (af R x)≠x:=λx j e=>by
  have len:=G.len;obtain⟨i,k,rfl⟩:=gh.mp j;have l:R[i]=R.getD i 0:=by rw[aU,bB k];rfl
  rw[l] at e
  by_cases c:i+1<R.length
  ·rw[aJ G.nd c] at e
   by_cases m:i+2<R.length
   ·rw[aJ G.nd m] at e
    have:=getD_inj G.nd (by lia) (by lia) e;lia
   ·rw[bw G.nd (by lia)] at e
    have:=getD_inj G.nd (by lia) (by lia) e;lia
  ·rw[bw G.nd (by lia),aJ G.nd (by lia)] at e
   have:=getD_inj G.nd (by lia) (by lia) e;lia
 refine⟨G.nd,G.len,λd h=>h.1,λd a=>⟨λh=>⟨fm G.g a,(G.tri d.1 d.2 a h.2).2⟩,λh=>⟨a,λz=>h.2 ?_⟩⟩,λd h=>(G.tri d.1 d.2 h.1 h.2).1,λp b=>?_,λp q a n o=>?_⟩
 ·have e:bp w d=(d.2,af R d.2):=G.outer z
  rw[e];exact⟨by rw[z.2];exact cc z.1,rfl⟩
 ·have f:=(G.hd p b).1
  exact⟨G.g.sym _ _ f,⟨G.g.sym _ _ f,λz=>two p b z.2.symm⟩,λz=>z.2 ⟨b,rfl⟩⟩
 ·exact⟨λh=>⟨G.g.sym _ _ h.1,o⟩,λh=>⟨G.g.sym _ _ h.1,n⟩⟩
end Wb
set_option maxHeartbeats 1000000
namespace Wb
structure Step (w w':W) (R:List Nat) (f:Nat):Prop where
 l:w'.length=w.length+1
 f1:1<=f
 fn:f<R.length
 rv:row w' w.length=(R.take (f+1)).reverse
 r0:row w' (R.getD 0 0)=w.length::row w (R.getD 0 0)
 rk:∀k,1<=k->k<=f->row w' (R.getD k 0)=row w (R.getD k 0)++ [w.length]
 ro:∀x,x≠w.length->(∀k,k<=f->x≠R.getD k 0)->row w' x=row w x
def cx(R:List Nat)(f v:Nat):List Nat:=R.getD 0 0::v::R.drop f
theorem fq{R:List Nat}(h:f<R.length)(a:k<=f):(R.take (f+1)).reverse.getD (f-k) 0=R.getD k 0:=by
 have l:(R.take (f+1)).length=f+1:=by rw[cm];lia
 rw[aU,List.getElem?_reverse (by lia),l,show f+1-1-(f-k)=k by lia,t4 (by lia),<-aU]
theorem vY(a:(v::l).Nodup)(d:x∈l)(f:x≠l.getD (l.length-1) 0):af (v::l) x=af l x:=by
 obtain⟨i,g,rfl⟩:=gh.mp d;have e:l[i]=l.getD i 0:=by rw[aU,bB g];rfl
 have h:i+1<l.length:=by
  apply GE;intro c;exact f (by rw[e,show l.length-1=i by lia])
 have b:=aJ (i:=i+1) a (by simp;lia)
 have j:=aJ (i:=i) (ie.mp a).2 h;rw[nY,nY] at b;rw[e,b,j]
theorem vZ(a:(l++ [v]).Nodup)(h:x∈l)(k:x≠l.getD (l.length-1) 0):af (l++ [v]) x=af l x:=by
 obtain⟨i,b,rfl⟩:=gh.mp h;have e:l[i]=l.getD i 0:=by rw[aU,bB b];rfl
 have d:i+1<l.length:=by
  apply GE;intro c;exact k (by rw[e,show l.length-1=i by lia])
 have g:∀j,j<l.length->(l++ [v]).getD j 0=l.getD j 0:=λj m=>by rw[aU,fF m,<-aU]
 have f:=aJ (i:=i) a (by simp;lia)
 have n:=aJ (i:=i) (fI.mp a).1 d;rw[g i b,g (i+1) d] at f;rw[e,f,n]
section
variable {w w':W} {R:List Nat} {f:Nat}
theorem r8(G:cL w R)(T:Step w w' R f):Good w':=by
 have g:=G.g;have A:=T.fn;have s:∀k,k<=f->R.getD k 0∈R:=λk h=>aS (by lia)
 have zlt:∀k,k<=f->R.getD k 0<w.length:=λk h=>b9 (G.hd _ (s k h)).1
 have t:∀x,x∈(R.take (f+1)).reverse↔∃k,k<=f/\x=R.getD k 0:=λx=>by
  rw[rh]
  constructor
  ·intro h
   obtain⟨i,u,rfl⟩:=gh.mp h;rw[cm] at u;exact⟨i,by lia,by rw[uQ,aU,bB (by lia)];rfl⟩
  ·rintro⟨k,d,rfl⟩
   refine gh.mpr ⟨k,by rw[cm];lia,?_⟩
   rw[uQ,aU,bB (by lia)];rfl
 have mem:∀x,x≠w.length->∀y,y∈row w' x↔y∈row w x\/(y=w.length/\∃k,k<=f/\x=R.getD k 0):=λx j y=>by
  by_cases c:∃k,k<=f/\x=R.getD k 0
  ·obtain⟨k,d,rfl⟩:=c
   by_cases n:k=0
   ·subst n
    rw[T.r0,cC];exact⟨λh=>h.elim (λz=> .inr ⟨z,0,d,rfl⟩) .inl,λh=>h.elim .inr (λz=> .inl z.1)⟩
   ·rw[T.rk k (by lia) d,cV,e7]
    exact⟨λh=>h.elim .inl (λz=> .inr ⟨z,k,d,rfl⟩),λh=>h.elim .inl (λz=> .inr z.1)⟩
  ·rw[T.ro x j (λk d z=>c ⟨k,d,z⟩)]
   exact⟨.inl,λh=>h.elim id (λz=>absurd z.2 c)⟩
 have m:∀y,y∈row w' w.length↔∃k,k<=f/\y=R.getD k 0:=λy=>by rw[T.rv];exact t y
 have p:∀x,w.length∉row w x:=λx h=>iS _ (g.rng _ _ h)
 have o:∀x,x≠w.length->(row w' x).Nodup:=λx j=>by
  by_cases c:∃k,k<=f/\x=R.getD k 0
  ·obtain⟨k,d,rfl⟩:=c
   by_cases n:k=0
   ·subst n
    rw[T.r0];exact ie.mpr ⟨p _,g.nod _⟩
   ·rw[T.rk k (by lia) d]
    exact fI.mpr ⟨g.nod _,by simp,λa q b v e=>by
     have:b=w.length:=e7.mp v
     rw[e,this] at q;exact p _ q⟩
  ·rw[T.ro x j (λk d z=>c ⟨k,d,z⟩)];exact g.nod x
 have r:∀x y,y∈row w x->y∈row w' x:=λx y h=>(mem x (by have:=b9 h;lia) y).mpr (.inl h)
 have con:∀x,x<w.length->Reach w' 0 x:=λx j=>(g.con x j).mono r;refine⟨λx y h=>?_,λx h=>?_,λx=>?_,λx y h=>?_,λx j=>?_⟩
 ·rw[T.l]
  by_cases c:x=w.length
  ·subst c
   obtain⟨k,d,rfl⟩:=(m y).mp h
   have:=zlt k d;lia
  ·rcases(mem x c y).mp h with h| ⟨h,_⟩
   ·have:=g.rng _ _ h;lia
   ·lia
 ·by_cases c:x=w.length
  ·subst c
   obtain⟨k,d,e⟩:=(m _).mp h
   have:=zlt k d;lia
  ·rcases(mem x c x).mp h with h| ⟨h,_⟩
   ·exact g.irr x h
   ·exact c h
 ·by_cases c:x=w.length
  ·subst c
   rw[T.rv];exact(aaV _).nodup_iff.mpr (G.nd.sublist (abP _ _))
  ·exact o x c
 ·by_cases c:x=w.length
  ·subst c
   obtain⟨k,d,rfl⟩:=(m y).mp h;exact(mem _ (by have:=zlt k d;lia) _).mpr (.inr ⟨rfl,k,d,rfl⟩)
  ·rcases(mem x c y).mp h with h| ⟨rfl,k,d,rfl⟩
   ·exact r _ _ (g.sym _ _ h)
   ·exact(m _).mpr ⟨k,d,rfl⟩
 ·rw[T.l] at j
  by_cases c:x=w.length
  ·subst c
   exact .step (con _ (zlt 0 (cF _))) ((mem _ (by have:=zlt 0 (cF _);lia) _).mpr (.inr ⟨rfl,0,cF _,rfl⟩))
  ·exact con x (by lia)
structure SF (w w':W) (R:List Nat) (f:Nat):Prop where
 z:∀k,k<R.length->R.getD k 0∈R
 zlt:∀k,k<R.length->R.getD k 0<w.length
 inj:∀i j,i<R.length->j<R.length->R.getD i 0=R.getD j 0->i=j
 dv:∀y,aG w' (w.length,y)↔∃k,k<=f/\y=R.getD k 0
 dx:∀x,x≠w.length->∀y,aG w' (x,y)↔aG w (x,y)\/(y=w.length/\∃k,k<=f/\x=R.getD k 0)
 n1:∀x y,aG w (x,y)->¬cO R x y->bp w' (x,y)=bp w (x,y)
 n1o:∀i,f<=i->i+1<R.length->bp w' (R.getD i 0,R.getD (i+1) 0)=(R.getD (i+1) 0,af R (R.getD (i+1) 0))
 n1e:bp w' (R.getD (R.length-1) 0,R.getD 0 0)=(R.getD 0 0,w.length)
 n2:∀k,k<f->bp w' (R.getD k 0,R.getD (k+1) 0)=(R.getD (k+1) 0,w.length)
 n3:∀k,k<f->bp w' (R.getD (k+1) 0,w.length)=(w.length,R.getD k 0)
 n3e:bp w' (R.getD 0 0,w.length)=(w.length,R.getD f 0)
 n4:∀k,k<=f->bp w' (w.length,R.getD k 0)=(R.getD k 0,af R (R.getD k 0))
theorem vv(G:cL w R)(T:Step w w' R f):SF w w' R f:=by
 have g:=G.g;have r:=r8 G T;have v:=T.fn;have f1:=T.f1;have d:∀k,k<R.length->R.getD k 0∈R:=λk h=>aS h;have zlt:∀k,k<R.length->R.getD k 0<w.length:=λk h=>b9 (G.hd _ (d k h)).1;have inj:∀i j,i<R.length->j<R.length->R.getD i 0=R.getD j 0->i=j:=λi j A J e=>getD_inj G.nd A J e;have Me:∀x,w.length∉row w x:=λx h=>iS _ (g.rng _ _ h);have B:∀i,i+1<R.length->af R (R.getD i 0)=R.getD (i+1) 0:=λi h=>aJ G.nd h;have L:af R (R.getD (R.length-1) 0)=R.getD 0 0:=bw G.nd (by lia)
 have M:∀x,x∈(R.take (f+1)).reverse↔∃k,k<=f/\x=R.getD k 0:=λx=>by
  rw[rh]
  constructor
  ·intro h
   obtain⟨i,A,rfl⟩:=gh.mp h;rw[cm] at A;exact⟨i,by lia,by rw[uQ,aU,bB (by lia)];rfl⟩
  ·rintro⟨k,a,rfl⟩
   refine gh.mpr ⟨k,by rw[cm];lia,?_⟩
   rw[uQ,aU,bB (by lia)];rfl
 have N:∀x,x≠w.length->∀y,aG w' (x,y)↔aG w (x,y)\/(y=w.length/\∃k,k<=f/\x=R.getD k 0):=λx O y=>by
  show y∈row w' x↔y∈row w x\/_
  by_cases c:∃k,k<=f/\x=R.getD k 0
  ·obtain⟨k,a,rfl⟩:=c
   by_cases u:k=0
   ·subst u
    rw[T.r0,cC];exact⟨λh=>h.elim (λz=> .inr ⟨z,0,a,rfl⟩) .inl,λh=>h.elim .inr (λz=> .inl z.1)⟩
   ·rw[T.rk k (by lia) a,cV,e7]
    exact⟨λh=>h.elim .inl (λz=> .inr ⟨z,k,a,rfl⟩),λh=>h.elim .inl (λz=> .inr z.1)⟩
  ·rw[T.ro x O (λk a z=>c ⟨k,a,z⟩)]
   exact⟨.inl,λh=>h.elim id (λz=>absurd z.2 c)⟩
 have C:∀k,k<R.length->(row w (R.getD k 0)).length≠0:=λk a z=>by
  have:=(G.hd _ (d k a)).1
  rw[D9.mp z] at this;cases this
 have P:∀x,x∈row w (R.getD 0 0)->x≠(row w (R.getD 0 0)).getD ((row w (R.getD 0 0)).length-1) 0->af (row w' (R.getD 0 0)) x=af (row w (R.getD 0 0)) x:=λx s m=>by
  rw[T.r0];exact vY (by rw[<-T.r0];exact r.nod _) s m
 have Q:∀k,1<=k->k<=f->∀x,x∈row w (R.getD k 0)->x≠(row w (R.getD k 0)).getD ((row w (R.getD k 0)).length-1) 0->af (row w' (R.getD k 0)) x=af (row w (R.getD k 0)) x:=λk s m x S U=>by
  rw[T.rk k s m];exact vZ (by rw[<-T.rk k s m];exact r.nod _) S U
 have o:∀y∈R,∀x,x=(row w y).getD ((row w y).length-1) 0->cO R x y:=λy X x e=>by
  have:=G.ls y X
  rw[<-e] at this;exact⟨this.1,this.2.symm⟩
 have Y:∀k,1<=k->k<=f->af (row w' (R.getD k 0)) ((row w (R.getD k 0)).getD ((row w (R.getD k 0)).length-1) 0)=w.length:=λk s m=>by
  have b:=r.nod (R.getD k 0);have Z:=C k (by lia)
  rw[T.rk k s m] at b ⊢;have h:=aJ (i:=(row w (R.getD k 0)).length-1) b (by rw[b7,q0];lia)
  have t:(row w (R.getD k 0)++ [w.length]).getD ((row w (R.getD k 0)).length-1) 0=(row w (R.getD k 0)).getD ((row w (R.getD k 0)).length-1) 0:=by
   rw[aU,fF (by lia),<-aU]
  have p:(row w (R.getD k 0)++ [w.length]).getD ((row w (R.getD k 0)).length-1+1) 0=w.length:=by
   rw[aU,hU (by lia),show(row w (R.getD k 0)).length-1+1-(row w (R.getD k 0)).length=0 by lia];rfl
  rw[t,p] at h;exact h
 refine⟨d,zlt,inj,λy=>by show y∈row w' w.length↔_;rw[T.rv];exact M y,N,λx y E n=>?_,λi s m=>?_,?_,λk a=>?_,λk a=>?_,?_,λk a=>?_⟩
 ·
  show(y,af (row w' y) x)=(y,af (row w y) x);have F:x∈row w y:=g.sym _ _ E
  by_cases c:∃k,k<=f/\y=R.getD k 0
  ·obtain⟨k,a,rfl⟩:=c
   have H:x≠(row w (R.getD k 0)).getD ((row w (R.getD k 0)).length-1) 0:=λe=>n (o _ (d k (by lia)) x e)
   by_cases u:k=0
   ·subst u;rw[P x F H]
   ·rw[Q k (by lia) a x F H]
  ·rw[T.ro y (by have:=g.rng _ _ E;lia) (λk a z=>c ⟨k,a,z⟩)]
 ·
  have q:=d (i+1) m;obtain⟨e,ne⟩:=G.xr q (d i (by lia)) (B i m)
  show(_,af (row w' (R.getD (i+1) 0)) (R.getD i 0))=_;rw[T.ro _ (by have:=zlt (i+1) m;lia) (λk a z=>by have:=inj _ _ m (by lia) z;lia)]
  have p:=bw (g.nod (R.getD (i+1) 0)) (i:=(row w (R.getD (i+1) 0)).length-1) (by lia)
  rw[e] at p;rw[p,(G.hd _ q).2]
 ·
  have q:=d 0 (by lia)
  obtain⟨e,ne⟩:=G.xr q (d (R.length-1) (by lia)) L
  show(_,af (row w' (R.getD 0 0)) (R.getD (R.length-1) 0))=_;rw[T.r0];have b:=r.nod (R.getD 0 0);rw[T.r0] at b;have p:=bw b (i:=(row w (R.getD 0 0)).length) (by simp)
  have e3:(w.length::row w (R.getD 0 0)).getD (row w (R.getD 0 0)).length 0=R.getD (R.length-1) 0:=by
   rw[<-e,show(row w (R.getD 0 0)).length=(row w (R.getD 0 0)).length-1+1 by lia,nY];simp
  rw[e3] at p;rw[p];rfl
 ·
  have q:=d (k+1) (by lia)
  obtain⟨e,ne⟩:=G.xr q (d k (by lia)) (B k (by lia))
  show(_,af (row w' (R.getD (k+1) 0)) (R.getD k 0))=_
  have:=Y (k+1) (by lia) (by lia)
  rw[e] at this;rw[this]
 ·
  show(_,af (row w' w.length) (R.getD (k+1) 0))=_;have b:=r.nod w.length;rw[T.rv] at b ⊢;have l:(R.take (f+1)).reverse.length=f+1:=by rw[Aq,cm];lia
  have h:=aJ (i:=f-(k+1)) b (by lia)
  rw[fq v (by lia),show f-(k+1)+1=f-k by lia,fq v (by lia)] at h
  rw[h]
 ·
  show(_,af (row w' w.length) (R.getD 0 0))=_;have b:=r.nod w.length;rw[T.rv] at b ⊢;have l:(R.take (f+1)).reverse.length=f+1:=by rw[Aq,cm];lia
  have h:=bw b (i:=f) (by lia)
  have I:=fq v (cF f);have t:=fq v (bJ f);rw[ab1] at I;rw[kO] at t;rw[I,t] at h;rw[h]
 ·
  have q:=d k (by lia)
  show(_,af (row w' (R.getD k 0)) w.length)=_;have b:=r.nod (R.getD k 0);have Z:=C k (by lia)
  by_cases u:k=0
  ·subst u
   rw[T.r0] at b ⊢;have h:=aJ (i:=0) b (by rw[dM];lia)
   rw[List.getD_cons_zero,nY,(G.hd _ q).2] at h;rw[h]
  ·rw[T.rk k (by lia) a] at b ⊢
   have h:=bw b (i:=(row w (R.getD k 0)).length) (by simp)
   have t:(row w (R.getD k 0)++ [w.length]).getD (row w (R.getD k 0)).length 0=w.length:=by
    rw[aU,hU (bJ _),kO];rfl
   have p:(row w (R.getD k 0)++ [w.length]).getD 0 0=(row w (R.getD k 0)).getD 0 0:=by
    rw[aU,fF (by lia),<-aU]
   rw[t,p,(G.hd _ q).2] at h;rw[h]
end
end Wb
set_option maxHeartbeats 2000000
namespace Wb
section
variable {w w':W} {R:List Nat} {f:Nat}
structure Jo (w:W) (R:List Nat) (f:Nat):Prop where
 nd:(cx R f w.length).Nodup
 len:(cx R f w.length).length+f=R.length+2
 mem:∀x,x∈cx R f w.length↔x=R.getD 0 0\/x=w.length\/∃i,f<=i/\i<R.length/\x=R.getD i 0
 s0:af (cx R f w.length) (R.getD 0 0)=w.length
 sv:af (cx R f w.length) w.length=R.getD f 0
 si:∀i,f<=i->i<R.length->af (cx R f w.length) (R.getD i 0)=af R (R.getD i 0)
theorem FJ(G:cL w R)(T:Step w w' R f):Jo w R f:=by
 have n:=T.fn;have r:=T.f1;have o:∀k,k<R.length->R.getD k 0∈R:=λk h=>aS h;have zlt:∀k,k<R.length->R.getD k 0<w.length:=λk h=>b9 (G.hd _ (o k h)).1;have inj:∀i j,i<R.length->j<R.length->R.getD i 0=R.getD j 0->i=j:=λi j g p e=>getD_inj G.nd g p e
 have l:∀x,x∈R.drop f↔∃i,f<=i/\i<R.length/\x=R.getD i 0:=λx=>by
  constructor
  ·intro h
   obtain⟨i,g,rfl⟩:=gh.mp h;rw[fR] at g;exact⟨f+i,by lia,by lia,by rw[List.getElem_drop,aU,bB (by lia)];rfl⟩
  ·rintro⟨i,b,a,rfl⟩
   refine gh.mpr ⟨i-f,by rw[fR];lia,?_⟩
   rw[List.getElem_drop,aU,bB a];simp only[show f+(i-f)=i by lia];rfl
 have d:(cx R f w.length).Nodup:=by
  unfold cx;refine ie.mpr ⟨λh=>?_,ie.mpr ⟨λh=>?_,G.nd.sublist (List.drop_sublist _ _)⟩⟩
  ·rcases cC.mp h with h|h
   ·have:=zlt 0 (by lia);lia
   ·obtain⟨i,b,a,e⟩:=(l _).mp h
    have:=inj 0 i (by lia) a e;lia
  ·obtain⟨i,b,a,e⟩:=(l _).mp h
   have:=zlt i a;lia
 have len:(cx R f w.length).length=R.length-f+2:=by unfold cx;simp
 have get:∀i,f<=i->i<R.length->(cx R f w.length).getD (i-f+2) 0=R.getD i 0:=λi b a=>by
  unfold cx;rw[nY,nY,aU,rf,show f+(i-f)=i by lia,<-aU]
 have m:(cx R f w.length).getD 0 0=R.getD 0 0:=rfl;have q:(cx R f w.length).getD 1 0=w.length:=rfl;refine⟨d,by lia,λx=>?_,?_,?_,λi b a=>?_⟩
 ·unfold cx
  rw[cC,cC,l]
 ·have:=aJ d (i:=0) (by lia)
  rw[m] at this;exact this
 ·have:=aJ d (i:=1) (by lia)
  have e:=get f (bJ _) n;rw[kO] at e;rw[q] at this;rw[this];exact e
 ·by_cases c:i+1<R.length
  ·have:=aJ d (i:=i-f+2) (by lia)
   have e:=get (i+1) (by lia) c
   rw[get i b a,show i-f+2+1=i+1-f+2 by lia,e] at this
   rw[this,aJ G.nd c]
  ·have:=bw d (i:=i-f+2) (by lia)
   rw[get i b a,m] at this;rw[this,bw G.nd (by lia)]
theorem Jo.cO(F:Jo w R f)(h:cO (cx R f w.length) x y):(x=R.getD 0 0/\y=w.length)\/(x=w.length/\y=R.getD f 0)\/∃i,f<=i/\i<R.length/\x=R.getD i 0/\y=af R (R.getD i 0):=by
 obtain⟨c,e⟩:=h
 rcases(F.mem x).mp c with rfl|rfl| ⟨i,a,b,rfl⟩
 ·exact .inl ⟨rfl,by rw[e,F.s0]⟩
 ·exact .inr (.inl ⟨rfl,by rw[e,F.sv]⟩)
 ·exact .inr (.inr ⟨i,a,b,rfl,by rw[e,F.si i a b]⟩)
open Classical in
theorem IZ(G:cL w R)(T:Step w w' R f):vD w':=by
 have g:=G.g;have g':=r8 G T;have fn:=T.fn;have f1:=T.f1;have K:=vv G T;have len:=G.len;have zlt:=K.zlt;have qM:∀k,k<R.length->R.getD k 0≠w.length:=λk h=>by have:=zlt k h;lia
 have sx:∀i,i+1<R.length->af R (R.getD i 0)=R.getD (i+1) 0:=λi h=>aJ G.nd h;have se:af R (R.getD (R.length-1) 0)=R.getD 0 0:=bw G.nd (by lia)
 intro c sy ev
 let s:Nat->Bool:=λk=>par (λi=>c w.length (R.getD i 0)) (bb (k+1))
 let sp:Nat->Bool:=λk=>match k with|0=>false|k+1=>s k
 have ss:∀k,s (k+1)=(s k).xor (c w.length (R.getD (k+1) 0)):=λk=>by
  show par _ (bb (k+1+1))=_;rw[sA,mn];show(s k).xor ((c w.length (R.getD (k+1) 0)).xor false)=_;rw[yU]
 have s0:s 0=c w.length (R.getD 0 0):=by
  show(c w.length (R.getD 0 0)).xor false=_;rw[yU]
 have Ms:R.take (f+1)=(bb (f+1)).map λi=>R.getD i 0:=by
  refine aba (by rw[cm,aD,iR];lia) λi h1 h2=>?_
  rw[cm] at h1;rw[uQ,yP,B9,aU,bB (by lia)];rfl
 have tH:∀(h:Nat->Bool)(φ:Nat->Nat)(l:List Nat),par h (l.map φ)=par (λi=>h (φ i)) l:=λh φ l=>by
  induction l with
  |nil=>rfl
  |cons a l ih=>rw[h7,par,par,ih]
 have sf:s f=false:=by
  have:=ev w.length (by rw[T.l];lia)
  rw[T.rv,Df,Ms,tH] at this;exact this
 let de:Nat->Nat->Bool:=λx y=>decide (∃k,k<f/\x=R.getD k 0/\y=R.getD (k+1) 0/\s k=true)
 have QJ:∀k,k<f->∀y,de (R.getD k 0) y=(decide (y=R.getD (k+1) 0)&&s k):=λk hk y=>by
  show decide _=_
  by_cases c1:y=R.getD (k+1) 0
  ·cases hs:s k with
   |true=>rw[FS ⟨k,hk,rfl,c1,hs⟩,FS c1];rfl
   |false=>
    rw[yT];refine FM ?_;rintro⟨j,hj,e,_,h⟩
    have:=K.inj k j (by lia) (by lia) e
    subst this;rw[hs] at h;cases h
  ·rw[FM c1,yS]
   refine FM ?_;rintro⟨j,hj,e,e2,h⟩
   have:=K.inj k j (by lia) (by lia) e
   subst this;exact c1 e2
 have Vq:∀k,k<f->∀x,de x (R.getD (k+1) 0)=(decide (x=R.getD k 0)&&s k):=λk hk x=>by
  show decide _=_
  by_cases c1:x=R.getD k 0
  ·cases hs:s k with
   |true=>rw[FS ⟨k,hk,c1,rfl,hs⟩,FS c1];rfl
   |false=>
    rw[yT];refine FM ?_;rintro⟨j,hj,_,e,h⟩
    have:=K.inj (k+1) (j+1) (by lia) (by lia) e
    have:k=j:=by lia
    subst this;rw[hs] at h;cases h
  ·rw[FM c1,yS]
   refine FM ?_;rintro⟨j,hj,e2,e,h⟩
   have:=K.inj (k+1) (j+1) (by lia) (by lia) e
   have:k=j:=by lia
   subst this;exact c1 e2
 have Vo:∀x y,(∀k,k<f->x≠R.getD k 0)->de x y=false:=λx y h=>FM λ⟨k,hk,e,_⟩=>h k hk e;have Vp:∀x y,(∀k,k<f->y≠R.getD (k+1) 0)->de x y=false:=λx y h=>FM λ⟨k,hk,_,e,_⟩=>h k hk e
 have tie:∀k,k+1<R.length->R.getD (k+1) 0∈row w (R.getD k 0):=λk hk=>by
  have:=(G.hd _ (K.z k (by lia))).1
  rw[sx k hk] at this;exact this
 obtain⟨S,SF,SC⟩:=G.bnd (λx y=>((c x y).xor (de x y)).xor (de y x)) (λx y=>by
   show((c x y).xor (de x y)).xor (de y x)=((c y x).xor (de y x)).xor (de x y);rw[sy x y];cases c y x<;>cases de x y<;>cases de y x<;>rfl) (λp hp=>by
   have e:par (λy=>((c p y).xor (de p y)).xor (de y p)) (row w p)=((par (c p) (row w p)).xor (par (de p) (row w p))).xor (par (λy=>de y p) (row w p)):=by
    rw[tI (λy=>(c p y).xor (de p y)) (λy=>de y p),tI (c p) (de p)]
   rw[e];have CD:=ev p (by rw[T.l];lia)
   by_cases hk:∃k,k<=f/\p=R.getD k 0
   ·obtain⟨k,hk,rfl⟩:=hk
    have hc:par (c (R.getD k 0)) (row w (R.getD k 0))=c w.length (R.getD k 0):=by
     by_cases k0:k=0
     ·subst k0
      rw[T.r0,par] at CD;rw[sy w.length];cases h1:c (R.getD 0 0) w.length<;>cases h2:par (c (R.getD 0 0)) (row w (R.getD 0 0))<;>rw[h1,h2] at CD<;>simp at CD ⊢
     ·rw[T.rk k (by lia) hk,mn,par,par,yU] at CD
      rw[sy w.length];cases h1:c (R.getD k 0) w.length<;>cases h2:par (c (R.getD k 0)) (row w (R.getD k 0))<;>rw[h1,h2] at CD<;>simp at CD ⊢
    have h1:par (de (R.getD k 0)) (row w (R.getD k 0))=if k<f then s k else false:=by
     by_cases kf:k<f
     ·rw[tz kf,ng (λy _=>QJ k kf y)]
      exact pH (g.nod _) (tie k (by lia))
     ·rw[ir kf]
      exact iz λy _=>Vo _ _ λj hj e=>by have:=K.inj k j (by lia) (by lia) e;lia
    have h2:par (λy=>de y (R.getD k 0)) (row w (R.getD k 0))=sp k:=by
     cases k with
     |zero=>exact iz λy _=>Vp _ _ λj hj e=>by have:=K.inj 0 (j+1) (by lia) (by lia) e;lia
     |succ k=>
      rw[ng (λy _=>Vq k (by lia) y)]
      exact pH (g.nod _) (g.sym _ _ (tie k (by lia)))
    rw[hc,h1,h2];cases k with
    |zero=>
     rw[tz (by lia),s0]
     show((c w.length (R.getD 0 0)).xor _).xor false=false;rw[Bool.xor_self];rfl
    |succ k=>
     show(_:Bool).xor (s k)=false
     by_cases kf:k+1<f
     ·rw[tz kf,ss k]
      cases s k<;>cases c w.length (R.getD (k+1) 0)<;>rfl
     ·rw[ir kf]
      have:k+1=f:=by lia
      have h:=ss k;rw[this,sf] at h;rw[this];cases h1:s k<;>cases h2:c w.length (R.getD f 0)<;>rw[h1,h2] at h<;>simp at h ⊢
   ·have n1:∀k,k<=f->p≠R.getD k 0:=λk h z=>hk ⟨k,h,z⟩
    rw[T.ro p (by lia) n1] at CD
    rw[CD,iz λy _=>Vo p y λk h=>n1 k (by lia),iz λy _=>Vp y p λk h=>n1 (k+1) (by lia)]
    rfl)
 have z8:∀i,i<R.length->S (R.getD i 0,af R (R.getD i 0))=S (R.getD 0 0,af R (R.getD 0 0)):=by
  intro i
  induction i with
  |zero=>intro _;rfl
  |succ i ih=>
   intro h;rw[<-ih (by lia)]
   have d:aG w (R.getD i 0,af R (R.getD i 0)):=(G.hd _ (K.z i (by lia))).1
   rw[SF _ d,G.outer ⟨K.z i (by lia),rfl⟩,sx i h]
 generalize ho:S (R.getD 0 0,af R (R.getD 0 0))=o at z8
 let ix:Nat->Nat:=λx=>R.idxOf x
 have RJ:∀k,k<R.length->ix (R.getD k 0)=k:=λk hk=>by
  show R.idxOf _=k;rw[aU,bB hk];exact G.nd.idxOf_getElem k hk
 let U:Nat×Nat->Bool:=λd=>if d.1=w.length then o.xor (s (ix d.2)) else if d.2=w.length then o.xor (sp (ix d.1)) else if ∃k,k<f/\d.1=R.getD k 0/\d.2=R.getD (k+1) 0 then o.xor (s (ix d.1)) else S d
 have Uv:∀k,k<=f->U (w.length,R.getD k 0)=o.xor (s k):=λk hk=>by
  show(if w.length=w.length then o.xor (s (ix (R.getD k 0))) else _)=_;rw[tz rfl,RJ k (by lia)]
 have Ux:∀k,k<=f->U (R.getD k 0,w.length)=o.xor (sp k):=λk hk=>by
  show(if R.getD k 0=w.length then _ else if w.length=w.length then o.xor (sp (ix (R.getD k 0))) else _)=_;rw[ir (qM k (by lia)),tz rfl,RJ k (by lia)]
 have Ua:∀k,k<f->U (R.getD k 0,R.getD (k+1) 0)=o.xor (s k):=λk hk=>by
  show(if R.getD k 0=w.length then _ else if R.getD (k+1) 0=w.length then _ else if _ then o.xor (s (ix (R.getD k 0))) else _)=_;rw[ir (qM k (by lia)),ir (qM (k+1) (by lia)),tz ⟨k,hk,rfl,rfl⟩,RJ k (by lia)]
 have Uo:∀x y,x≠w.length->y≠w.length->(∀k,k<f->x=R.getD k 0->y≠R.getD (k+1) 0)->U (x,y)=S (x,y):=λx y h1 h2 h3=>by
  show(if x=w.length then _ else if y=w.length then _ else if _ then _ else S (x,y))=_;rw[ir h1,ir h2,ir (λ⟨k,hk,e1,e2⟩=>h3 k hk e1 e2)]
 have Ya:∀b:Bool,b.xor false=b:=yU;refine⟨U,λd hd=>?_,λx y hd=>?_⟩
 ·obtain⟨x,y⟩:=d
  by_cases xv:x=w.length
  ·subst xv
   obtain⟨k,hk,rfl⟩:=(K.dv y).mp hd;rw[K.n4 k hk,Uv k hk]
   by_cases kf:k<f
   ·rw[sx k (by lia),Ua k kf]
   ·have:k=f:=by lia
    subst this
    rw[Uo _ _ (qM k (by lia)) (by
     have:=cc (K.z k (by lia))
     have:=b9 (G.hd _ this).1
     lia) (λj hj e=>by have:=K.inj k j (by lia) (by lia) e;lia),z8 k (by lia),sf,Ya]
  ·by_cases yv:y=w.length
   ·subst yv
    rcases(K.dx x xv _).mp hd with h| ⟨_,k,hk,rfl⟩
    ·exact absurd (g.rng _ _ h) (iS _)
    ·cases k with
     |zero=>
      rw[K.n3e,Ux 0 hk,Uv f (bJ _),sf]
     |succ k=>
      rw[K.n3 k (by lia),Ux (k+1) hk,Uv k (by lia)]
   ·have d0:aG w (x,y):=by
     rcases(K.dx x xv y).mp hd with h| ⟨h,_⟩
     ·exact h
     ·exact absurd h yv
    by_cases ad:cO R x y
    ·obtain⟨hx,rfl⟩:=ad
     obtain⟨i,hi,rfl⟩:∃i,i<R.length/\x=R.getD i 0:=by
      obtain⟨i,hi,e⟩:=gh.mp hx;exact⟨i,hi,by rw[aU,bB hi];exact e.symm⟩
     by_cases c1:i<f
     ·rw[sx i (by lia),K.n2 i c1,Ua i c1,Ux (i+1) (by lia)]
     ·have u1:U (R.getD i 0,af R (R.getD i 0))=o:=by
       rw[Uo _ _ xv yv (λj hj e=>by have:=K.inj i j (by lia) (by lia) e;lia),z8 i hi]
      rw[u1]
      by_cases c2:i+1<R.length
      ·rw[sx i c2,K.n1o i (by lia) c2,Uo _ _ (qM _ c2) (by
        have:=cc (K.z (i+1) c2)
        have:=b9 (G.hd _ this).1
        lia) (λj hj e=>by have:=K.inj (i+1) j (by lia) (by lia) e;lia),z8 (i+1) c2]
      ·have:i=R.length-1:=by lia
       subst this;rw[se,K.n1e,Ux 0 (cF _)];exact(Ya o).symm
    ·have e:=K.n1 x y d0 ad
     have tr:=(G.tri x y d0 ad).2;have dn:=fm g d0
     have lo:∀p q,aG w (p,q)->¬cO R p q->U (p,q)=S (p,q):=λp q h1 h2=>by
      have a1:=b9 (show q∈row w p from h1);have a2:=g.rng _ _ (show q∈row w p from h1);exact Uo p q (by lia) (by lia) λk hk e1 e2=>h2 ⟨by rw[e1];exact K.z k (by lia),by rw[e1,e2,sx k (by lia)]⟩
     rw[e,lo x y d0 ad,SF _ d0];exact(lo _ _ dn tr).symm
 ·by_cases xv:x=w.length
  ·subst xv
   obtain⟨k,hk,rfl⟩:=(K.dv y).mp hd;rw[Uv k hk,Ux k hk];cases k with
   |zero=>
    rw[s0];show(o.xor _).xor (o.xor false)=_;cases o<;>cases c w.length (R.getD 0 0)<;>rfl
   |succ k=>
    rw[ss k];show(o.xor _).xor (o.xor (s k))=_;cases o<;>cases s k<;>cases c w.length (R.getD (k+1) 0)<;>rfl
  ·by_cases yv:y=w.length
   ·subst yv
    rcases(K.dx x xv _).mp hd with h| ⟨_,k,hk,rfl⟩
    ·exact absurd (g.rng _ _ h) (iS _)
    ·rw[Uv k hk,Ux k hk,sy]
     cases k with
     |zero=>
      rw[s0];show(o.xor false).xor (o.xor _)=_;cases o<;>cases c w.length (R.getD 0 0)<;>rfl
     |succ k=>
      rw[ss k];show(o.xor (s k)).xor (o.xor _)=_;cases o<;>cases s k<;>cases c w.length (R.getD (k+1) 0)<;>rfl
   ·have d0:aG w (x,y):=by
     rcases(K.dx x xv y).mp hd with h| ⟨h,_⟩
     ·exact h
     ·exact absurd h yv
    have sc:=SC x y d0
    by_cases a1:∃k,k<f/\x=R.getD k 0/\y=R.getD (k+1) 0
    ·obtain⟨k,hk,rfl,rfl⟩:=a1
     have e1:S (R.getD k 0,R.getD (k+1) 0)=o:=by rw[<-sx k (by lia)];exact z8 k (by lia)
     have e2:de (R.getD k 0) (R.getD (k+1) 0)=s k:=by rw[QJ k hk];simp
     have e3:de (R.getD (k+1) 0) (R.getD k 0)=false:=FM λ⟨j,hj,e,e',_⟩=>by
      have:=K.inj (k+1) j (by lia) (by lia) e
      have:=K.inj k (j+1) (by lia) (by lia) e'
      lia
     rw[Ua k hk,Uo _ _ (qM (k+1) (by lia)) (qM k (by lia)) (λj hj e e'=>by
      have:=K.inj (k+1) j (by lia) (by lia) e
      have:=K.inj k (j+1) (by lia) (by lia) e'
      lia)]
     rw[e1,e2,e3] at sc
     revert sc
     cases o<;>cases s k<;>cases S (R.getD (k+1) 0,R.getD k 0)<;>cases c (R.getD k 0) (R.getD (k+1) 0)<;>simp
    ·by_cases a2:∃k,k<f/\y=R.getD k 0/\x=R.getD (k+1) 0
     ·obtain⟨k,hk,rfl,rfl⟩:=a2
      have e1:S (R.getD k 0,R.getD (k+1) 0)=o:=by rw[<-sx k (by lia)];exact z8 k (by lia)
      have e2:de (R.getD k 0) (R.getD (k+1) 0)=s k:=by rw[QJ k hk];simp
      have e3:de (R.getD (k+1) 0) (R.getD k 0)=false:=FM λ⟨j,hj,e,e',_⟩=>by
       have:=K.inj (k+1) j (by lia) (by lia) e
       have:=K.inj k (j+1) (by lia) (by lia) e'
       lia
      rw[Ua k hk,Uo _ _ (qM (k+1) (by lia)) (qM k (by lia)) (λj hj e e'=>a1 ⟨j,hj,e,e'⟩)]
      rw[e1,e2,e3] at sc
      revert sc
      cases o<;>cases s k<;>cases S (R.getD (k+1) 0,R.getD k 0)<;>cases c (R.getD (k+1) 0) (R.getD k 0)<;>simp
     ·have e2:de x y=false:=FM λ⟨j,hj,e,e',_⟩=>a1 ⟨j,hj,e,e'⟩
      have e3:de y x=false:=FM λ⟨j,hj,e,e',_⟩=>a2 ⟨j,hj,e,e'⟩;rw[Uo x y xv yv (λj hj e e'=>a1 ⟨j,hj,e,e'⟩),Uo y x yv xv (λj hj e e'=>a2 ⟨j,hj,e,e'⟩),sc,e2,e3];simp
theorem DQ(G:cL w R)(T:Step w w' R f):cL w' (cx R f w.length):=by
 have g:=G.g;have g':=r8 G T;have C:=T.fn;have O:=T.f1;have K:=vv G T;have F:=FJ G T;have len:=G.len;have d:∀k,k<R.length->R.getD k 0≠w.length:=λk h=>by have:=K.zlt k h;lia
 have l:∀i,i+1<R.length->af R (R.getD i 0)=R.getD (i+1) 0:=λi h=>aJ G.nd h;have P:af R (R.getD (R.length-1) 0)=R.getD 0 0:=bw G.nd (by lia)
 have Q:∀k,k<R.length->(row w (R.getD k 0)).length≠0:=λk o z=>by
  have:=(G.hd _ (K.z k o)).1
  rw[D9.mp z] at this;cases this
 have E:(R.take (f+1)).reverse.length=f+1:=by rw[Aq,cm];lia
 have S:=fq C (cF f);have H:=fq C (bJ f);rw[ab1] at S;rw[kO] at H;have U:R.getD 0 0∈cx R f w.length:=(F.mem _).mpr (.inl rfl);have X:w.length∈cx R f w.length:=(F.mem _).mpr (.inr (.inl rfl));have I:∀i,f<=i->i<R.length->R.getD i 0∈cx R f w.length:=λi b a=>(F.mem _).mpr (.inr (.inr ⟨i,b,a,rfl⟩));have Y:∀i,f<i->i<R.length->row w' (R.getD i 0)=row w (R.getD i 0):=λi b a=>T.ro _ (d i a) λk o e=>by have:=K.inj i k a (by lia) e;lia
 refine⟨g',F.nd,by have:=F.len;lia,λx r=>?_,λx r=>?_,λx y J n=>?_,IZ G T⟩
 ·rcases(F.mem x).mp r with rfl|rfl| ⟨i,b,a,rfl⟩
  ·rw[F.s0,T.r0]
   exact⟨cg ..,rfl⟩
  ·rw[F.sv,T.rv]
   exact⟨by rw[<-H];exact aS (by lia),H⟩
  ·rw[F.si i b a]
   have h:=G.hd _ (K.z i a)
   by_cases c:i=f
   ·subst c
    rw[T.rk i O (bJ _)];refine⟨fG _ h.1,?_⟩;rw[aU,fF (by have:=Q i a;lia),<-aU]
    exact h.2
   ·rw[Y i (by lia) a];exact h
 ·rcases(F.mem x).mp r with rfl|rfl| ⟨i,b,a,rfl⟩
  ·have h:=G.ls _ (K.z 0 (by lia))
   have L:(row w' (R.getD 0 0)).getD ((row w' (R.getD 0 0)).length-1) 0=R.getD (R.length-1) 0:=by
    have l0:=Q 0 (by lia)
    rw[T.r0,dM,show(row w (R.getD 0 0)).length+1-1=(row w (R.getD 0 0)).length-1+1 by lia,nY]
    exact eH G.nd h.1 (K.z _ (by lia)) (by rw[h.2,P])
   rw[L];exact⟨I _ (by lia) (by lia),by rw[F.si _ (by lia) (by lia),P]⟩
  ·rw[T.rv,E,show f+1-1=f by lia,S]
   exact⟨U,F.s0⟩
  ·by_cases c:i=f
   ·subst c
    have L:(row w' (R.getD i 0)).getD ((row w' (R.getD i 0)).length-1) 0=w.length:=by
     rw[T.rk i O (bJ _),b7,q0,abF,aU,hU (bJ _),kO];rfl
    rw[L];exact⟨X,F.sv⟩
   ·obtain⟨e,ne⟩:=G.xr (K.z i a) (K.z (i-1) (by lia)) (by rw[l (i-1) (by lia),show i-1+1=i by lia])
    rw[Y i (by lia) a,e]
    refine⟨I _ (by lia) (by lia),?_⟩
    rw[F.si _ (by lia) (by lia),l (i-1) (by lia),show i-1+1=i by lia]
 ·by_cases M:x=w.length
  ·subst M
   obtain⟨k,o,rfl⟩:=(K.dv y).mp J
   have Z:k<f:=by
    apply GE;intro c
    have:k=f:=by lia
    subst this;exact n ⟨X,F.sv.symm⟩
   have v:=K.n4 k o;rw[l k (by lia)] at v
   rw[v,K.n2 k Z,K.n3 k Z];refine⟨rfl,λz=>?_⟩
   rcases F.cO z with ⟨_,h⟩ | ⟨h,_⟩ | ⟨i,b,a,m,_⟩
   ·exact d (k+1) (by lia) h
   ·exact d k (by lia) h
   ·have:=K.inj k i (by lia) a m;lia
  ·by_cases yv:y=w.length
   ·subst yv
    rcases(K.dx x M _).mp J with h| ⟨_,k,o,rfl⟩
    ·exact absurd (g.rng _ _ h) (iS _)
    ·cases k with
     |zero=>exact absurd ⟨U,F.s0.symm⟩ n
     |succ k=>
      have s:=K.n4 k (by lia)
      rw[l k (by lia)] at s
      rw[K.n3 k (by lia),s,K.n2 k (by lia)]
      refine⟨rfl,λz=>?_⟩
      rcases F.cO z with ⟨h,_⟩ | ⟨_,h⟩ | ⟨i,b,a,m,_⟩
      ·exact d 0 (by lia) h.symm
      ·have:=K.inj k f (by lia) C h;lia
      ·exact d i a m.symm
   ·have N:aG w (x,y):=by
     rcases(K.dx x M y).mp J with h| ⟨h,_⟩
     ·exact h
     ·exact absurd h yv
    by_cases ad:cO R x y
    ·obtain⟨r,rfl⟩:=ad
     obtain⟨i,t,rfl⟩:∃i,i<R.length/\x=R.getD i 0:=by
      obtain⟨i,t,e⟩:=gh.mp r;exact⟨i,t,by rw[aU,bB t];exact e.symm⟩
     have c1:i<f:=by
      apply GE;intro c;exact n ⟨I i (by lia) t,(F.si i (by lia) t).symm⟩
     have s:=K.n4 i (by lia)
     rw[l i (by lia)] at s
     rw[l i (by lia),K.n2 i c1,K.n3 i c1,s]
     refine⟨rfl,λz=>?_⟩
     rcases F.cO z with ⟨h,_⟩ | ⟨h,_⟩ | ⟨j,b,a,_,A⟩
     ·have:=K.inj (i+1) 0 (by lia) (by lia) h;lia
     ·exact d (i+1) (by lia) h
     ·have:=cc (K.z j a)
      have:=b9 (G.hd _ this).1
      have A:w.length=af R (R.getD j 0):=A;lia
    ·have step:∀p q,aG w (p,q)->¬cO R p q->bp w' (p,q)=bp w (p,q):=λp q b a=>K.n1 p q b a
     have B:=G.tri x y N ad;have u:=fm g N;have t2:=G.tri _ _ u B.2;have d2:=fm g u;have v:=step x y N ad;have e2:bp w' (bp w (x,y))=bp w (bp w (x,y)):=step _ _ u B.2;have e3:bp w' (bp w (bp w (x,y)))=bp w (bp w (bp w (x,y))):=step _ _ d2 t2.2;rw[v,e2,e3];refine⟨B.1,λz=>?_⟩;have b1:=b9 (show(bp w (x,y)).2∈row w (bp w (x,y)).1 from u);have b2:=g.rng _ _ (show(bp w (x,y)).2∈row w (bp w (x,y)).1 from u)
     rcases F.cO z with ⟨_,h⟩ | ⟨h,_⟩ | ⟨i,b,a,m,A⟩
     ·lia
     ·lia
     ·exact B.2 ⟨by rw[m];exact K.z i a,by rw[A,<-m]⟩
theorem AR:cL [[1,2],[2,0],[0,1]] [0,1,2]:=by
 have m:row [[1,2],[2,0],[0,1]] 0= [1,2]:=rfl;have v:row [[1,2],[2,0],[0,1]] 1= [2,0]:=rfl;have C:row [[1,2],[2,0],[0,1]] 2= [0,1]:=rfl;have E:∀x,3<=x->row [[1,2],[2,0],[0,1]] x= []:=λx h=>Dx h;have j:∀x,x<3->x=0\/x=1\/x=2:=λx h=>by lia
 have k:∀{x y},y∈row [[1,2],[2,0],[0,1]] x->x<3:=λh=>b9 h;have e:∀x,x<3->∀y,y<3->(y∈row [[1,2],[2,0],[0,1]] x↔x≠y):=by decide
 have inR:∀{x y},y∈row [[1,2],[2,0],[0,1]] x->y<3:=λ {x y} h=>by
  rcases j x (k h) with rfl|rfl|rfl
  ·rw[m] at h;simp at h;lia
  ·rw[v] at h;simp at h;lia
  ·rw[C] at h;simp at h;lia
 have g:Good [[1,2],[2,0],[0,1]]:=by
  refine⟨λp q h=>inR h,λp h=>?_,λp=>?_,λp q h=>?_,λp F=>?_⟩
  ·exact((e p (k h) p (k h)).mp h) rfl
  ·by_cases c:p<3
   ·rcases j p c with rfl|rfl|rfl<;>decide
   ·rw[E p (by lia)];exact jj
  ·have a:=k h
   have b:=inR h;exact(e q b p a).mpr (Ne.symm ((e p a q b).mp h))
  ·rcases j p F with rfl|rfl|rfl
   ·exact .refl _
   ·exact .step (.refl _) (by rw[m];simp)
   ·exact .step (.refl _) (by rw[m];simp)
 have s:∀x y,aG [[1,2],[2,0],[0,1]] (x,y)->(x,y)∈ [(0,1),(1,2),(2,0),(1,0),(0,2),(2,1)]:=λx y h=>by
  have a:=k h;have b:=inR h;have n:=(e x a y b).mp h
  rcases j x a with rfl|rfl|rfl<;>rcases j y b with rfl|rfl|rfl<;>first|exact absurd rfl n|decide
 have t:af [0,1,2] 0=1/\af [0,1,2] 1=2/\af [0,1,2] 2=0:=by decide
 refine⟨g,by decide,by decide,by decide,by decide,λx y l n=>?_,?_⟩
 ·have i:=s x y l
  simp only[cC,aan,uR,ab2] at i
  rcases i with ⟨rfl,rfl⟩ | ⟨rfl,rfl⟩ | ⟨rfl,rfl⟩ | ⟨rfl,rfl⟩ | ⟨rfl,rfl⟩ | ⟨rfl,rfl⟩
  ·exact absurd ⟨by simp,t.1.symm⟩ n
  ·exact absurd ⟨by simp,t.2.1.symm⟩ n
  ·exact absurd ⟨by simp,t.2.2.symm⟩ n
  ·exact⟨by decide,λz=>by have h:=z.2;revert h;decide⟩
  ·exact⟨by decide,λz=>by have h:=z.2;revert h;decide⟩
  ·exact⟨by decide,λz=>by have h:=z.2;revert h;decide⟩
 ·intro c o ev
  have u:=ev 0 (by decide)
  have r:=ev 1 (by decide)
  rw[m] at u;rw[v] at r;simp only[par,yU] at u r;refine⟨λd=>decide (d=(1,0)\/d=(0,2)\/d=(2,1))&&c 0 1,λd l=>?_,λx y l=>?_⟩
  ·obtain⟨x,y⟩:=d
   have i:=s x y l;simp only[cC,aan,uR,ab2] at i
   rcases i with ⟨rfl,rfl⟩ | ⟨rfl,rfl⟩ | ⟨rfl,rfl⟩ | ⟨rfl,rfl⟩ | ⟨rfl,rfl⟩ | ⟨rfl,rfl⟩<;>(refine Gc (·&&c 0 1) ?_;decide)
  ·have i:=s x y l
   simp only[cC,aan,uR,ab2] at i;have A:c 0 2=c 0 1:=by revert u;cases c 0 1<;>cases c 0 2<;>simp
   have B:c 1 2=c 0 1:=by
    rw[o 1 0] at r
    revert r;cases c 0 1<;>cases c 1 2<;>simp
   rcases i with ⟨rfl,rfl⟩ | ⟨rfl,rfl⟩ | ⟨rfl,rfl⟩ | ⟨rfl,rfl⟩ | ⟨rfl,rfl⟩ | ⟨rfl,rfl⟩
   ·simp
   ·simp[B]
   ·rw[o 2 0,A];simp
   ·rw[o 1 0];simp
   ·simp[A]
   ·rw[o 2 1,B];simp
end
structure mS (w w':W) (f:Nat->Nat):Prop where
 len:w'.length=w.length
 lt:∀x,x<w.length->f x<w.length
 inj:∀x y,x<w.length->y<w.length->f x=f y->x=y
 onto:∀y,y<w.length->∃x,x<w.length/\f x=y
 rows:∀x,x<w.length->∃a b,row w x=a++b/\row w' (f x)=(b++a).map f
theorem xm{f:Nat->Nat}{x:Nat}:∀{l:List Nat},(∀y∈l,f y=f x->y=x)->(l.map f).idxOf (f x)=l.idxOf x
 | [],_=>rfl
 |a::l,h=>by
  rw[h7,uT,uT,xm λy b=>h y (cG _ b)]
  by_cases c:a=x
  ·subst c;simp
  ·have:f a≠f x:=λz=>c (h a (cg ..) z)
   have d:(f a==f x)=false:=by simpa using this
   have e:(a==x)=false:=by simpa using c
   rw[d,e]
theorem r9{f:Nat->Nat}{l:List Nat}{x:Nat}(h:∀y∈l,f y=f x->y=x)(a:x∈l):af (l.map f) (f x)=f (af l x):=by
 have e:=nv a;show(l.map f).getD (((l.map f).idxOf (f x)+1)%(l.map f).length) 0=_;rw[xm h,aD,aU,dF,e];rfl
section
variable {w w':W} {f:Nat->Nat}
theorem mS.good(N:mS w w' f)(g:Good w):Good w':=
 good_ren g N.len N.lt N.inj N.onto λp c=>by
  obtain⟨a,b,d,e⟩:=N.rows p c;rw[d,e];exact(fQ (l₁:=b) (l₂:=a)).map f
theorem mS.mem(N:mS w w' f)(e:x<w.length):z∈row w' (f x)↔∃y,y∈row w x/\f y=z:=by
 obtain⟨a,b,d,g⟩:=N.rows x e;rw[g,bY]
 constructor
 ·rintro⟨y,c,rfl⟩
  exact⟨y,by rw[d];exact fQ.mem_iff.mp c,rfl⟩
 ·rintro⟨y,c,rfl⟩
  rw[d] at c;exact⟨y,fQ.mem_iff.mp c,rfl⟩
theorem mS.dart(N:mS w w' f)(g:Good w)(b:x<w.length)(c:y<w.length):aG w' (f x,f y)↔aG w (x,y):=by
 show f y∈row w' (f x)↔y∈row w x;rw[N.mem b]
 constructor
 ·rintro⟨z,a,e⟩
  have:=N.inj z y (g.rng _ _ a) c e
  rw[<-this];exact a
 ·exact λh=>⟨y,h,rfl⟩
theorem mS.all(N:mS w w' f)(g:Good w)(h:aG w' d):∃x y,aG w (x,y)/\d=(f x,f y):=by
 obtain⟨a,b⟩:=d;have c:=b9 (show b∈row w' a from h);rw[N.len] at c;obtain⟨x,i,rfl⟩:=N.onto a c;obtain⟨y,j,e⟩:=(N.mem i).mp h;have e:f y=b:=e;exact⟨x,y,j,by rw[e]⟩
theorem mS.succ(N:mS w w' f)(g:Good w)(h:y∈row w x):af (row w' (f x)) (f y)=f (af (row w x) y):=by
 obtain⟨a,b,c,j⟩:=N.rows x (b9 h);have d:y∈a++b:=c▸h;have k:y∈b++a:=fQ.mem_iff.mp d;have i:=g.nod x;rw[c] at i;rw[j,c,r9 (λz l e=>N.inj z y (g.rng x z (by rw[c];exact fQ.mem_iff.mp l)) (g.rng _ _ h) e) k,fP i d]
theorem mS.K4(N:mS w w' f)(g:Good w)(h:aG w (x,y)):bp w' (f x,f y)=(f (bp w (x,y)).1,f (bp w (x,y)).2):=by
 show(f y,af (row w' (f y)) (f x))=(f y,f (af (row w y) x));rw[N.succ g (g.sym _ _ h)]
theorem mS.JS(N:mS w w' f)(g:Good w)(D:Disc w R A):
  Disc w' (R.map f) λd=>∃x y,A (x,y)/\d=(f x,f y):=by
 have i:∀{x y},aG w (x,y)->x<w.length/\y<w.length:=λh=>⟨b9 h,g.rng _ _ h⟩;have s:∀p∈R,p<w.length:=λp c=>(i (D.ring p c).1).2;have inj:∀p∈R,∀y∈R,f y=f p->y=p:=λp c y u e=>N.inj y p (s y u) (s p c) e
 have j:∀{x y},aG w (x,y)->((∃k l,A (k,l)/\(f x,f y)=(f k,f l))↔A (x,y)):=λ {x y} h=>by
  constructor
  ·rintro⟨k,l,a,e⟩
   have t:=i (D.dart _ a);have v:=N.inj x k (i h).1 t.1 (Gc Prod.fst e);have B:=N.inj y l (i h).2 t.2 (Gc Prod.snd e);rw[v,B];exact a
  ·exact λa=>⟨x,y,a,rfl⟩
 have n:∀p∈R,af (R.map f) (f p)=f (af R p):=λp c=>r9 (inj p c) c;have m:∀{x y},aG w (x,y)->aG w ((bp w (x,y)).1,(bp w (x,y)).2):=λh=>fm g h;refine⟨?_,by rw[aD];exact D.len,?_,?_,?_,?_,?_⟩
 ·unfold cr
  rw[hZ];exact Wp (λ {a b} C E ne e=>ne (inj b E a C e)) D.nd
 ·rintro d ⟨x,y,a,rfl⟩
  have h:=D.dart _ a;exact(N.dart g (i h).1 (i h).2).mpr h
 ·intro d o
  obtain⟨x,y,h,rfl⟩:=N.all g o;rw[N.K4 g h,j h,j (m h)];exact D.face _ h
 ·rintro d ⟨x,y,a,rfl⟩
  have h:=D.dart _ a;rw[N.K4 g h,N.K4 g (m h),N.K4 g (m (m h))];have e:=D.tri _ a;show(f (bp w (bp w (bp w (x,y)))).1,f (bp w (bp w (bp w (x,y)))).2)=_;rw[e]
 ·intro F G
  obtain⟨p,c,rfl⟩:=bY.mp G;rw[n p c];have r:=D.ring p c;have h:=i r.1;refine⟨(N.dart g h.1 h.2).mpr r.1,(j r.1).mpr r.2.1,λz=>r.2.2 ((j (g.sym _ _ r.1)).mp z)⟩
 ·intro F J o H I
  obtain⟨p,q,h,e⟩:=N.all g o;obtain⟨rfl,rfl⟩:=aan .. ▸e;rw[j h,j (g.sym _ _ h)];refine D.sym p q h (λz=>H ⟨bY.mpr ⟨p,z.1,rfl⟩,by rw[n p z.1,<-z.2]⟩) (λz=>I ⟨bY.mpr ⟨q,z.1,rfl⟩,by rw[n q z.1,<-z.2]⟩)
theorem tH(c:b->Bool)(f:a->b):∀l:List a,par c (l.map f)=par (λx=>c (f x)) l
 | []=>rfl
 |x::l=>by rw[h7,par,par,tH c f l]
open Classical in
theorem mS.bnd(N:mS w w' f)(g:Good w)(B:vD w):vD w':=by
 intro c sy ev;have oj:∀{x y},aG w (x,y)->x<w.length/\y<w.length:=λh=>⟨b9 h,g.rng _ _ h⟩
 obtain⟨S,h1,h2⟩:=B (λx y=>c (f x) (f y)) (λx y=>sy _ _) (λp hp=>by
  obtain⟨a,b,e1,e2⟩:=N.rows p hp
  have:=ev (f p) (by rw[N.len];exact N.lt p hp)
  rw[e2,tH,mn] at this;rw[e1,mn,Bool.xor_comm];exact this)
 have val:∀{x y},aG w (x,y)->decide (∃x' y',aG w (x',y')/\S (x',y')=true/\(f x,f y)=(f x',f y'))=S (x,y):=λ {x y} h=>by
  by_cases s:S (x,y)=true
  ·rw[s]
   exact FS ⟨x,y,h,s,rfl⟩
  ·rw[Bool.not_eq_true] at s
   rw[s];refine FM ?_;rintro⟨x',y',h',s',e⟩;have e1:=N.inj x x' (oj h).1 (oj h').1 (Gc Prod.fst e);have e2:=N.inj y y' (oj h).2 (oj h').2 (Gc Prod.snd e);rw[e1,e2,s'] at s;exact absurd s (by decide)
 have nx:∀{x y},aG w (x,y)->aG w ((bp w (x,y)).1,(bp w (x,y)).2):=λh=>fm g h;refine⟨λd=>decide (∃x' y',aG w (x',y')/\S (x',y')=true/\d=(f x',f y')),λd hd=>?_,λa b hd=>?_⟩
 ·obtain⟨x,y,h,rfl⟩:=N.all g hd
  rw[N.K4 g h];show decide _=decide _;rw[val h,val (nx h)];exact h1 _ h
 ·obtain⟨x,y,h,e⟩:=N.all g hd
  obtain⟨rfl,rfl⟩:=aan .. ▸e;show(decide _).xor (decide _)=_;rw[val h,val (g.sym _ _ h)];exact h2 _ _ h
end
theorem cL.three(G:cL w R)(l:R.length=3){d:Nat×Nat}(m:aG w d):bp w (bp w (bp w d))=d:=by
 by_cases c:cO R d.1 d.2
 ·have n:bp w d=(d.2,af R d.2):=G.outer c
  have k:d.2∈R:=by rw[c.2];exact cc c.1
  have o:=G.outer (x:=d.2) (y:=af R d.2) ⟨k,rfl⟩;have p:=cc k;have q:=G.outer (x:=af R d.2) (y:=af R (af R d.2)) ⟨p,rfl⟩;rw[n,o,q,c.2]
  have key:∀x∈R,af R (af R (af R x))=x:=λx f=>by
   match R,l,G.nd,f with
   | [a,b,e],_,g,f=>
    simp only[ie,cC,uR,ab2,not_or] at g;have h:af [a,b,e] a=b:=cB (a:= []) (b:= [e]) (by simp[g])
    have i:af [a,b,e] b=e:=cB (a:= [a]) (b:= []) (by simp[g])
    have j:af [a,b,e] e=a:=dX (b:= [b]) (by simp[g])
    simp only[cC,uR,ab2] at f
    rcases f with rfl|rfl|rfl
    ·rw[h,i,j]
    ·rw[i,j,h]
    ·rw[j,h,i]
  rw[key _ c.1];exact aaC rfl c.2.symm
 ·exact(G.tri d.1 d.2 m c).1
theorem E5(g:Good w)(tri:∀d,aG w d->bp w (bp w (bp w d))=d){a b:Nat}(e:aG w (a,b)):
  Disc w [a,b,af (row w b) a] λd=>aG w d/\d≠(a,b)/\d≠(b,af (row w b) a)/\d≠(af (row w b) a,a):=by
 have l:bp w (a,b)=(b,af (row w b) a):=rfl;have f:aG w (b,af (row w b) a):=l▸fm g e;generalize J:af (row w b) a=c at*;have i:=tri _ e;rw[l] at i;have v:bp w (b,c)=(c,af (row w c) b):=rfl
 have m:bp w (b,c)=(c,a):=by
  rw[v] at i ⊢
  have:=Gc Prod.fst i
  exact Gc _ this
 have o:aG w (c,a):=m▸fm g f;have x:bp w (c,a)=(a,b):=by rw[m] at i;exact i
 have r:a≠b:=λz=>g.irr a (by have:b∈row w a:=e;rw[<-z] at this;exact this)
 have s:b≠c:=λz=>g.irr b (by have:c∈row w b:=f;rw[<-z] at this;exact this)
 have t:c≠a:=λz=>g.irr c (by have:a∈row w c:=o;rw[<-z] at this;exact this)
 have u: [a,b,c].Nodup:=by simp[r,s,Ne.symm t]
 have y:af [a,b,c] a=b:=cB (a:= []) (b:= [c]) u;have A:af [a,b,c] b=c:=cB (a:= [a]) (b:= []) u;have B:af [a,b,c] c=a:=dX (b:= [b]) u
 have step:∀d,aG w d->((d≠(a,b)/\d≠(b,c)/\d≠(c,a))↔(bp w d≠(a,b)/\bp w d≠(b,c)/\bp w d≠(c,a))):=λd h=>by
  have E:bp w d=(a,b)↔d=(c,a):=⟨λz=>jQ g h o (z.trans x.symm),λz=>by rw[z,x]⟩
  have F:bp w d=(b,c)↔d=(a,b):=⟨λz=>jQ g h e (z.trans l.symm),λz=>by rw[z,l]⟩
  have G:bp w d=(c,a)↔d=(b,c):=⟨λz=>jQ g h f (z.trans m.symm),λz=>by rw[z,m]⟩
  rw[Ne,Ne,Ne,Ne,Ne,Ne,E,F,G];exact⟨λh=>⟨h.2.2,h.1,h.2.1⟩,λh=>⟨h.2.1,h.2.2,h.1⟩⟩
 refine⟨u,by simp,λd h=>h.1,λd h=>?_,λd h=>tri d h.1,λp C=>?_,λp q h H I=>?_⟩
 ·exact⟨λz=>⟨fm g h,(step d h).mp z.2⟩,λz=>⟨h,(step d h).mpr z.2⟩⟩
 ·simp only[cC,uR,ab2] at C
  rcases C with rfl|rfl|rfl
  ·rw[y]
   exact⟨g.sym _ _ e,⟨g.sym _ _ e,λz=>r (Gc Prod.snd z),λz=>t (Gc Prod.snd z).symm,λz=>s (Gc Prod.fst z)⟩,λz=>z.2.1 rfl⟩
  ·rw[A]
   exact⟨g.sym _ _ f,⟨g.sym _ _ f,λz=>t (Gc Prod.fst z),λz=>s (Gc Prod.snd z),λz=>r (Gc Prod.snd z).symm⟩,λz=>z.2.2.1 rfl⟩
  ·rw[B]
   exact⟨g.sym _ _ o,⟨g.sym _ _ o,λz=>s (Gc Prod.snd z).symm,λz=>r (Gc Prod.fst z),λz=>t (Gc Prod.snd z)⟩,λz=>z.2.2.2 rfl⟩
 ·have key:∀p q,aG w (p,q)->¬(q∈ [a,b,c]/\p=af [a,b,c] q)->(q,p)≠(a,b)/\(q,p)≠(b,c)/\(q,p)≠(c,a):=λp q h n=>by
   refine⟨λz=>n ?_,λz=>n ?_,λz=>n ?_⟩
   ·have j:q=a:=Gc Prod.fst z
    have k:p=b:=Gc Prod.snd z;rw[j,k,y];exact⟨by simp,rfl⟩
   ·have j:q=b:=Gc Prod.fst z
    have k:p=c:=Gc Prod.snd z;rw[j,k,A];exact⟨by simp,rfl⟩
   ·have j:q=c:=Gc Prod.fst z
    have k:p=a:=Gc Prod.snd z;rw[j,k,B];exact⟨by simp,rfl⟩
  exact⟨λ_=>⟨g.sym _ _ h,key p q h I⟩,λ_=>⟨h,key q p (g.sym _ _ h) H⟩⟩
def bM(R:List Nat)(i:Nat):Nat:=if i=0 then R.length-1 else i-1
def withinL(w:W)(R:List Nat)(i:Nat):List Nat:=
 ((row w (R.getD i 0)).drop ((row w (R.getD i 0)).idxOf (R.getD ((i+1)%R.length) 0)+1)++(row w (R.getD i 0)).take ((row w (R.getD i 0)).idxOf (R.getD ((i+1)%R.length) 0))).take
   (((row w (R.getD i 0)).drop ((row w (R.getD i 0)).idxOf (R.getD ((i+1)%R.length) 0)+1)++(row w (R.getD i 0)).take ((row w (R.getD i 0)).idxOf (R.getD ((i+1)%R.length) 0))).idxOf (R.getD (bM R i) 0))
theorem jB(a:R.Nodup)(h:i<R.length):af R (R.getD i 0)=R.getD ((i+1)%R.length) 0:=by
 by_cases c:i+1<R.length
 ·rw[aJ a c,ji c]
 ·rw[bw a (by lia),show i+1=R.length by lia,rj]
theorem kI(a:R.Nodup)(h:i<R.length):af R (R.getD (bM R i) 0)=R.getD i 0:=by
 unfold bM
 split
 ·next e=>subst e;rw[bw a (by lia)]
 ·next e=>rw[aJ a (by lia),show i-1+1=i by lia]
theorem jz(h:i<R.length):bM R i<R.length:=by unfold bM;split<;>lia
theorem jV(h:a∈l):cz l a=a::(l.drop (l.idxOf a+1)++l.take (l.idxOf a)):=by
 unfold cz;have b:=h8.mpr h;rw[mH b,kN b,List.cons_append]
theorem take_range(h:n<=T.length):T.take n=(bb n).map λk=>(a::T).getD (k+1) 0:=by
 refine aba (by simp[Nat.min_eq_left h]) λk c b=>?_
 rw[uQ,yP,B9];rw[aD,iR] at b;show _=(a::T).getD (k+1) 0;rw[nY,aU,bB (by lia)]
 rfl
section
variable {w:W} {R:List Nat} {A:Nat×Nat->Prop}
theorem vx(g:Good w)(D:Disc w R A)(b:i<R.length):
  ∃m y,Whole w R (R.getD i 0) m (row w (R.getD i 0)).length y/\y 0=R.getD ((i+1)%R.length) 0/\y m=R.getD (bM R i) 0/\
   withinL w R i=(bb (m-1)).map λk=>y (k+1):=by
 have e:=aS b;have f:=aS (jz b);have h:=kI D.nd b;have F:=qD g D e f h;have j:af R (R.getD i 0)∈row w (R.getD i 0):=g.sym _ _ (D.ring _ e).1;have pos:=F.at_.fan.pos
 have ym:(cz (row w (R.getD i 0)) (af R (R.getD i 0))).getD ((cz (row w (R.getD i 0)) (af R (R.getD i 0))).idxOf (R.getD (bM R i) 0)) 0=R.getD (bM R i) 0:=by
  have n:R.getD (bM R i) 0∈row w (R.getD i 0):=by
   have:=(D.ring _ f).1
   rw[h] at this;exact this
  have l:=h8.mpr ((iA (row w (R.getD i 0)) (af R (R.getD i 0))).mem_iff.mpr n);rw[aU,bB l,kN l];rfl
 refine⟨_,_,F,by rw[<-jB D.nd b];exact yd j,ym,?_⟩
 unfold withinL;rw[<-jB D.nd b];have d:=F.lt;have a:=qB (row w (R.getD i 0)) (af R (R.getD i 0));rw[jV j] at pos d a ⊢;generalize o:(row w (R.getD i 0)).drop ((row w (R.getD i 0)).idxOf (af R (R.getD i 0))+1)++(row w (R.getD i 0)).take ((row w (R.getD i 0)).idxOf (af R (R.getD i 0)))=T at*
 have ne:(af R (R.getD i 0)==R.getD (bM R i) 0)=false:=by
  rw[uT] at pos;cases c:(af R (R.getD i 0)==R.getD (bM R i) 0)
  ·rfl
  ·rw[c] at pos;simp at pos
 rw[uT,ne] at d ⊢;simp only[cond_false] at d ⊢;rw[dM] at a;rw[abF];exact take_range (by lia)
theorem vh{m:Nat}{y:Nat->Nat}{z:Nat}:z∈(bb (m-1)).map (λk=>y (k+1))↔∃k,0<k/\k<m/\y k=z:=by
 rw[bY]
 constructor
 ·rintro⟨k,a,rfl⟩
  rw[bV] at a;exact⟨k+1,by lia,by lia,rfl⟩
 ·rintro⟨k,b,c,rfl⟩
  exact⟨k-1,bV.mpr (by lia),by rw[show k-1+1=k by lia]⟩
theorem kL(g:Good w)(D:Disc w R A)(d:i<R.length):z∈withinL w R i↔A (R.getD i 0,z)/\z≠R.getD (bM R i) 0:=by
 obtain⟨m,y,F,j,em,f⟩:=vx g D d;rw[f,vh];have l:=F.lt
 constructor
 ·rintro⟨k,b,h,rfl⟩
  have:=(F.at_.Ky g D (k-1) (by lia)).2
  rw[show k-1+1=k by lia] at this
  refine⟨this,λe=>?_⟩
  have:=F.inj k m (by lia) (by lia) (by rw[em];exact e)
  lia
 ·rintro⟨a,ne⟩
  obtain⟨k,b,h,e⟩:=F.between g D a;refine⟨k,b,?_,e⟩
  by_cases c:k=m
  ·subst c;exact absurd (e.symm.trans em) ne
  ·lia
theorem tV(g:Good w)(D:Disc w R A)(b:i<R.length):R.getD ((i+1)%R.length) 0∉withinL w R i:=by
 rw[kL g D b];rintro⟨a,_⟩;rw[<-jB D.nd b] at a;exact(D.ring _ (aS b)).2.2 a
theorem D3(g:Good w)(D:Disc w R A)(a:i<R.length)(c:j<R.length)(h:R.getD j 0∈withinL w R i):R.getD i 0∈withinL w R j:=by
 have b:=(kL g D a).mp h;have f:=tV g D a;have k:=D.dart _ b.1;have d:¬(R.getD i 0∈R/\R.getD j 0=af R (R.getD i 0)):=λz=>f (by rw[<-jB D.nd a,<-z.2];exact h)
 have l:¬(R.getD j 0∈R/\R.getD i 0=af R (R.getD j 0)):=λz=>b.2 (eH D.nd z.1 (aS (jz a)) (by rw[<-z.2,kI D.nd a]))
 refine(kL g D c).mpr ⟨(D.sym _ _ k d l).mp b.1,λe=>d ⟨aS a,?_⟩⟩;rw[e,kI D.nd c]
open Classical in
noncomputable def cnt(w:W)(A:Nat×Nat->Prop):Nat:=((bP w).filter λd=>decide (A d)).length
open Classical in
theorem AD{A A':Nat×Nat->Prop}(sub:∀d,A' d->A d){d:Nat×Nat}(hd:aG w d)(a:A d)(n:¬A' d):cnt w A'<cnt w A:=by
 unfold cnt
 have key:∀l:List (Nat×Nat),d∈l->(l.filter λd=>decide (A' d)).length<(l.filter λd=>decide (A d)).length:=λl=>by
  have le:∀l:List (Nat×Nat),(l.filter λd=>decide (A' d)).length<=(l.filter λd=>decide (A d)).length:=λl=>by
   induction l with
   |nil=>simp
   |cons x l ih=>
    rw[vC,vC]
    by_cases c:A' x
    ·rw[tz (FS c),tz (FS (sub x c))];simp;exact ih
    ·rw[ir (by simp[c])]
     split
     ·simp;lia
     ·exact ih
  induction l with
  |nil=>intro h;cases h
  |cons x l ih=>
   intro h;rw[vC,vC]
   by_cases e:x=d
   ·subst e
    rw[ir (by simp[n]),tz (FS a)]
    have:=le l
    simp;lia
   ·have h:d∈l:=by
     rcases cC.mp h with z|z
     ·exact absurd z.symm e
     ·exact z
    have:=ih h
    by_cases c:A' x
    ·rw[tz (FS c),tz (FS (sub x c))];simp;exact this
    ·rw[ir (by simp[c])]
     split
     ·simp;lia
     ·exact this
 exact key _ (cX.mpr hd)
end
section
variable {w:W} {R:List Nat} {A:Nat×Nat->Prop}
theorem Hh{R:List Nat}{i j:Nat}(e:i<j)(a:j<R.length):
  R=R.take i++R.getD i 0::((R.drop (i+1)).take (j-i-1)++R.getD j 0::R.drop (j+1)):=by
 have b:R.getD i 0=R[i]'(by lia):=by rw[aU,bB (by lia)];rfl
 have c:R.getD j 0=R[j]:=by rw[aU,bB a];rfl
 have d:R.getD j 0::R.drop (j+1)=(R.drop (i+1)).drop (j-i-1):=by
  rw[abu,show i+1+(j-i-1)=j by lia,mH a,c]
 rw[d,hV,b,<-mH (by lia),hV]
theorem Q9{R:List Nat}(d:i<j)(a:j<R.length):(R.take (j+1)).drop i=R.getD i 0::((R.drop (i+1)).take (j-i-1)++ [R.getD j 0]):=by
 have b:R.getD i 0=R[i]'(by lia):=by rw[aU,bB (by lia)];rfl
 have c:R.getD j 0=R[j]:=by rw[aU,bB a];rfl
 rw[acr,mH (by lia:i<R.length),<-b,show j+1-i=(j-i-1)+1+1 by lia,List.take_succ_cons]
 congr 1
 rw[abz,rf,show i+1+(j-i-1)=j by lia,bB a,c]
 rfl
theorem Ra{R:List Nat}(d:i<j)(a:j<R.length):R.drop j++R.take (i+1)=R.getD j 0::((R.drop (j+1)++R.take i)++ [R.getD i 0]):=by
 have b:R.getD i 0=R[i]'(by lia):=by rw[aU,bB (by lia)];rfl
 have c:R.getD j 0=R[j]:=by rw[aU,bB a];rfl
 rw[mH a,abz,bB (by lia:i<R.length),<-b,<-c]
 simp
theorem ko(g:Good w)(B:vD w)(D:Disc w R A)(s:i<j)(t:j<R.length)(h:R.getD j 0∈withinL w R i):
  (∃m,Disc w ((R.take (j+1)).drop i) m/\cnt w m<cnt w A)/\∃m,Disc w (R.drop j++R.take (i+1)) m/\cnt w m<cnt w A:=by
 have E:i<R.length:=by lia
 have hw:=(kL g D E).mp h
 have u:(R.drop (i+1)).take (j-i-1)≠ []:=by
  intro e;have e:=Gc dh e;simp only[cm,fR,mK] at e;have e:j=i+1:=by lia
  refine tV g D E ?_;rw[ji (by lia),<-e];exact h
 have F:R.drop (j+1)++R.take i≠ []:=by
  intro e;have e:=Gc dh e;simp only[b7,cm,fR,mK] at e;refine hw.2 ?_;unfold bM;rw[tz (by lia),show j=R.length-1 by lia]
 rw[Q9 s t,Ra s t];have L:=Hh s t;generalize Q:R.take i=P at*;generalize T:R.getD i 0=p at*;generalize M:(R.drop (i+1)).take (j-i-1)=f at*;generalize U:R.getD j 0=q at*;generalize N:R.drop (j+1)=k at*;have O:Disc w (P++p::(f++q::k)) A:=L▸D
 have o:Disc w (p::(f++q::(k++P))) A:=by
  have:=O.FK
  simpa using this
 have v:=o.nd;have r:p::(f++q::(k++P))=(p::f)++ [q]++(k++P):=by simp
 have G:(p::(f++ [q])).Nodup:=by
  rw[r] at v
  have:=(fI.mp v).1
  simpa using this
 have X:1<=f.length:=t6.mpr u
 have tie:∀x∈p::(f++ [q]),af (p::(f++ [q])) x∈row w x:=λx l=>by
  have l:x∈p::f\/x=q:=by simpa [or_assoc] using l
  rcases l with l|rfl
  ·have:=sg (a:=p::f) (z:=q) (b:=k++P) (by rw[<-r];exact v) l
   rw[<-r] at this;rw[show p::(f++ [q])=(p::f)++ [q] by simp,<-this]
   exact g.sym _ _ (o.ring x (by rw[r];exact fG _ (fG _ l))).1
  ·rw[dX G]
   exact g.sym _ _ (D.dart _ hw.1)
 obtain⟨S,H⟩:=B.ring g G (by simp;lia) tie
 have n:∃S:Nat×Nat->Prop,Disc w (p::(f++ [q])) (λd=>A d/\S d)/\Disc w (q::((k++P)++ [p])) (λd=>A d/\¬S d):=by
  by_cases c:S (af (p::(f++q::(k++P))) p,p)
  ·exact⟨S,parted g o rfl u F hw.1 H c⟩
  ·exact⟨λd=>¬S d,parted g o rfl u F hw.1 H.neg c⟩
 obtain⟨S,I,J⟩:=n;have y:=(I.ring p (cg ..)).2.1;have C:=(J.ring q (cg ..)).2.1;exact⟨⟨_,I,AD (λd z=>z.1) (D.dart _ C.1) C.1 λz=>C.2 z.2⟩,⟨_,J,AD (λd z=>z.1) (D.dart _ y.1) y.1 λz=>z.2 y.2⟩⟩
theorem FI{m:Nat}{y:Nat->Nat}:((bb m).map λk=>y (k+1)).reverse=(bb m).map λi=>y (m-i):=by
 refine aba (by simp) λk b a=>?_
 have c:k<m:=by simpa using a
 rw[List.getElem_reverse];simp only[aD,iR,yP,B9,Aq]
 congr 1
 lia
theorem xu(g:Good w)(D:Disc w R A)(s:∀i,i<R.length-1->R.getD (R.length-1) 0∉withinL w R i):
  (R.dropLast++(withinL w R (R.length-1)).reverse).length=2\/∃h,Disc w (R.dropLast++(withinL w R (R.length-1)).reverse) h/\cnt w h<cnt w A:=by
 rfl';have len:=D.len;have f:R.length-1<R.length:=by lia
 obtain⟨m,y,F,l,em,n⟩:=vx g D f;have pos:=F.at_.fan.pos;have L:=F.lt;rw[show R.length-1+1=R.length by lia,rj] at l
 have u:bM R (R.length-1)=R.length-2:=by unfold bM;rw[ir (by lia)];lia
 rw[u] at em;have o:=Hh (R:=R) (i:=R.length-2) (j:=R.length-1) (by lia) f
 rw[show R.length-1-(R.length-2)-1=0 by lia,show R.length-1+1=R.length by lia,List.drop_length,uU,n5,<-em] at o
 have pl:(R.take (R.length-2)).length=R.length-2:=by rw[cm];lia
 ac_rfl
 have v:(R.take (R.length-2)).getD 0 0=y 0:=by
  rw[l,aU,t4 (by lia),<-aU]
 have x:R.dropLast++(withinL w R (R.length-1)).reverse=dP (R.take (R.length-2)) m y:=by
  rw[n,FI];unfold dP
  have B:R.dropLast=R.take (R.length-2)++ [y m]:=by
   rw[abd,show R.length-1=R.length-2+1 by lia,abz,bB (by lia),em,aU,bB (by lia)]
   rfl
  rw[B,nZ]
  congr 1
  obtain⟨b,rfl⟩:∃b,m=b+1:=⟨m-1,by lia⟩
  rw[List.range_succ_eq_map,h7,dN];simp only[abF,List.singleton_append,ab1]
  congr 1
  refine B7 λi _=>?_;show y (b-i)=y (b+1-(i+1))
  congr 1;lia
 rw[x]
 by_cases c:3<=(R.take (R.length-2)).length+m
 ·refine .inr ⟨_,Fg g D F.at_ o v (λe=>by rw[e] at pl;simp at pl;lia) (λk C E G=>?_) c,?_⟩
  ·obtain⟨i,p,H⟩:=gh.mp G
   have q:R.getD i 0=y k:=by rw[<-H,aU,bB p];rfl
   have r:y k∈withinL w R (R.length-1):=by rw[n];exact vh.mpr ⟨k,C,E,rfl⟩
   rw[<-q] at r;have I:=D3 g D f p r
   have ne:i≠R.length-1:=by
    intro z;refine F.at_.ne g (k:=k) (by lia) ?_
    rw[<-q,z]
   exact s i (by lia) I
  ·have a:=(F.at_.Ky g D 0 (by lia)).1
   exact AD (λd z=>z.1) (D.dart _ a) a λz=>z.2 ⟨0,by lia, .inl rfl⟩
 ·refine .inl ?_
  rw[jO];lia
end
theorem tK{i x:Nat}(h:i<w.length):row (w.set i r) x=if i=x then r else row w x:=by
 unfold row;rw[aU,qj,aU]
 by_cases e:i=x
 ·subst e;rw[tz rfl,tz h,tz rfl];rfl
 ·rw[ir e,ir e]
theorem ye:row (w++ [r]) x=if x=w.length then r else row w x:=by
 unfold row;rw[aU,aU]
 by_cases c:x<w.length
 ·rw[fF c,ir (by lia)]
 ·by_cases e:x=w.length
  ·subst e;rw[tz rfl];simp
  ·rw[ir e,nX (by simp;lia),nX (by lia)]
structure As (w w':W) (R:List Nat) (f k:Nat):Prop where
 l:w'.length=w.length+1
 rv:row w' w.length=(R.take (f+1)).reverse
 r0:row w' (R.getD 0 0)=w.length::row w (R.getD 0 0)
 rk:∀i,1<=i->i<=k->row w' (R.getD i 0)=row w (R.getD i 0)++ [w.length]
 ro:∀x,x≠w.length->(∀i,i<=k->x≠R.getD i 0)->row w' x=row w x
theorem As.start{w:W}{R:List Nat}{f:Nat}(h:R.getD 0 0<w.length):As w ((w++ [(R.take (f+1)).reverse]).set (R.getD 0 0) (w.length::row w (R.getD 0 0))) R f 0:=by
 have d:(w++ [(R.take (f+1)).reverse]).length=w.length+1:=by simp
 have a:∀x,row ((w++ [(R.take (f+1)).reverse]).set (R.getD 0 0) (w.length::row w (R.getD 0 0))) x=_:=λx=>tK (x:=x) (by lia)
 refine⟨by rw[mJ];exact d,?_,?_,λi b c=>by lia,λx b c=>?_⟩
 ·rw[a,ir (by lia),ye,tz rfl]
 ·rw[a,tz rfl]
 ·rw[a,ir (λz=>c 0 (bJ _) z.symm),ye,ir b]
theorem As.step{w a:W}(M:As w a R f k)(m:R.Nodup)(n:f<R.length)(o:k+1<=f)(h:R.getD (k+1) 0<w.length):As w (a.set (R.getD (k+1) 0) (row a (R.getD (k+1) 0)++ [w.length])) R f (k+1):=by
 have ne:∀i,i<=k->R.getD (k+1) 0≠R.getD i 0:=λi d e=>by
  have:=getD_inj m (by lia) (by lia) e;lia
 have b:∀x,row (a.set (R.getD (k+1) 0) (row a (R.getD (k+1) 0)++ [w.length])) x=_:=λx=>tK (x:=x) (by rw[M.l];lia)
 refine⟨by rw[mJ];exact M.l,?_,?_,λi g j=>?_,λx g j=>?_⟩
 ·rw[b,ir (by lia)];exact M.rv
 ·rw[b,ir (ne 0 (by lia))];exact M.r0
 ·by_cases c:i=k+1
  ·subst c
   rw[b,tz rfl,M.ro _ (by lia) (λi d=>ne i d)]
  ·rw[b,ir (ne i (by lia))];exact M.rk i g (by lia)
 ·rw[b,ir (λz=>j (k+1) (bJ _) z.symm)]
  exact M.ro x g λi d=>j i (by lia)
theorem As.fin(M:As w a R f f)(b:1<=f)(c:f<R.length):Step w a R f:=⟨M.l,b,c,M.rv,M.r0,M.rk,M.ro⟩
theorem cL.Sg(G:cL w R)(h:x∈R):x<w.length:=b9 (G.hd x h).1
theorem cL.uI(G:cL w R):R.length<=w.length:=by
 have:=aI G.nd (m:=bb w.length) λx a=>bV.mpr (G.Sg a)
 rw[iR] at this;exact this
end Wb
set_option maxHeartbeats 4000000
namespace ou
open PySem L2 Wb
variable {P:Program} {w:World} {mg:Str->Option Value} {base:Heap} {Z:DC} (T:Txt Z mg)
def IK:cK:=λa P=>∃(b:List Int)(k:Nat),a= [.qa b,ae k]/\∀v:Int,P (.int v)
theorem fX:FnOk P w Z.K mg base cq 1 T.d__law_cell_at.f T.d__law_cell_at.fd ["_law_script","_law_k"] (aR Z IK):=by
 have g:=mF.nd;refine aV T.d__law_cell_at.F mF [0,0] (by decide) (λa R h=>by obtain⟨_,_,rfl,_⟩:=h;rfl) (λi A outer s H E a R b h=>?_)
 have j:=b.units
 refine⟨_,(ao (bZ (bf Bu (aa 1) (az aX rfl T.B.len aW (ab (aa 0) ag)) (bR _)) (ar (aK (br (aa 0) (aa 1)))) aZ)
   (ar (aK aw))),?_⟩
 obtain⟨c,k,rfl,q⟩:=h;refine⟨_,rfl,_,rfl,?_⟩;refine⟨_,rfl,bX (λe=>?_) (λe=>?_)⟩
 ·have d:k<c.length:=by
   have:=KM e
   lia
  exact⟨_,rfl,_,rfl,_,Cj (bB d),q _⟩
 ·exact q 0
def LR:cK:=λa P=>∃(c:Int),a= [.int c]/\∀v:Int,P (.int v)
theorem iW(a b:Int)(h:0<b):0<=a%b/\a%b<b:=⟨Int.emod_nonneg _ (by lia),Int.emod_lt_of_pos _ h⟩
theorem JY{P:D->Prop}(h:P (.bl (decide (i=j)))):dC (.int j) a (λb=>Hx (.int i) b P):=wM h
theorem g5:FnOk P w Z.K mg base cq 1 T.d__law_drawn.f T.d__law_drawn.fd ["_law_cell"] (aR Z LR):=by
 have a:=pR.nd;refine aV T.d__law_drawn.F pR [0,0] (by decide) (λd R h=>by obtain⟨_,rfl,_⟩:=h;rfl) (λg A outer s H E d R e h=>?_)
 have b:=e.units
 refine⟨_,(ao (bZ (DW.dt (mV (bf (lg b) (aa 0) aw (bR _)) (jq (DW.dt (sN (bf (lg b) (ay cP (aa 0) aw) aw (bR _)) (oP (bf Br (aa 0) (ay GK aw aw) (bR _)))))))) (ar (aK (ay fW (aa 0) aw))) aZ)
   (ao (aE false 1 a (ay cP (ay bH (ay Bv (ay cP (aa 0) aw) aw) aw) aw))
   (ao (aE false 1 a (ay cP (ay bH (ay Bv (aa 1) (aa 1)) aw) aw))
   (ar (aK (ay fW (ay GK (ay bH (aa 1) aw) aw) aw)))))),?_⟩
 obtain⟨c,rfl,q⟩:=h;have i:=iW (c%2147483629*48271+7919) 2147483647 (by decide)
 have j:=iW ((c%2147483629*48271+7919)%2147483647*((c%2147483629*48271+7919)%2147483647)+104729) 2147483629 (by decide)
 have fin:∀v:Int,R (.int v):=q;refine⟨_,rfl,JY ⟨_,rfl,bX (λ_=>dJ ⟨_,rfl,⟨by decide,by decide⟩,q _⟩) (λ_=>?_)⟩⟩
 refine⟨_,rfl,(by show(0:Int)<2;decide),JY ⟨_,rfl,bX (λ_=>⟨_,rfl,⟨by decide,by decide,by decide⟩,_,rfl,bX (λ_=>⟨_,rfl,⟨by decide,by decide⟩,q _⟩) (λ_=>?_)⟩) (λ_=>ck ?_)⟩⟩
 ·refine⟨_,rfl,(by show(0:Int)<2147483629;decide), .inr ⟨by decide,by decide⟩,(by show(0:Int)<2147483647;decide),trivial,?_⟩
  refine⟨_,rfl,_,rfl, .inl ⟨by dsimp only;lia,by dsimp only;lia⟩,(by show(0:Int)<2147483629;decide),trivial,?_⟩
  exact⟨_,rfl,⟨by decide,by decide,by dsimp only;lia⟩,⟨by decide,by decide⟩,q _⟩
 ·refine⟨_,rfl,(by show(0:Int)<2147483629;decide), .inr ⟨by decide,by decide⟩,(by show(0:Int)<2147483647;decide),trivial,?_⟩
  refine⟨_,rfl,_,rfl, .inl ⟨by dsimp only;lia,by dsimp only;lia⟩,(by show(0:Int)<2147483629;decide),trivial,?_⟩
  exact⟨_,rfl,⟨by decide,by decide,by dsimp only;lia⟩,⟨by decide,by decide⟩,q _⟩
theorem uM(w:W)(i:Nat)(r:List Nat):(w.map aq).set i (aq r)=(w.set i r).map aq:=by rw[uX]
theorem cN(l:List a)(k:Nat)(h:k<=l.length):cutD l (some (k:Int)) none=l.drop k:=by
 unfold cutD
 have b:HT.bU l.length 0 (some (k:Int))=k:=by
  simp only[HT.bU]
  split<;>lia
 have c:HT.bU l.length l.length none=l.length:=rfl;rw[b,c];exact yW (by simp)
theorem dW{w:W}{p:Nat}(h:p<w.length):gn (w.map aq) (p:Int)=some (aq (row w p)):=ij (yz h)
theorem dE{ns:List Nat}{p:Nat}(h:p<ns.length):gn (ns.map ae) (p:Int)=some (ae (ns.getD p 0)):=ij (by rw[dF,aU,bB h];rfl)
variable {P:Program} {w:World} {mg:Str->Option Value} {base:Heap} {Z:DC} (T:Txt Z mg)
def LU:cK:=λa P=>∃(n:Int),a= [.int n]/\∀w R,cL w R->3<=w.length->w.length<=14->P (.tup [aM w,aq R])
theorem xN:FnOk P w Z.K mg base cq 1 T.d__law_grown.f T.d__law_grown.fd ["_law_number"] (aR Z LU):=by
 have t:=pT.nd;refine aV T.d__law_grown.F pT [0,1,0,0,0,0,0,0,0] (by decide) (λds R h=>by obtain⟨_,rfl,_⟩:=h;rfl) (λbI A outer s H E ds R hr h=>?_)
 have hu:=hr.units
 refine⟨_,(ao (gS 1 t (kr (ab (dS (ab aw (ab aw ag))) (ab (dS (ab aw (ab aw ag))) (ab (dS (ab aw (ab aw ag))) ag)))))
   (ao (aE false 2 t (dS (ab aw (ab aw (ab aw ag)))))
   (ao (aE false 3 t (ay bH aw (ay cP (aa 0) aw)))
   (ao (aE false 0 t (ay fW (aa 0) aw))
   (ao (oM rfl GT (wR rfl T.B.range (ab aw (ab (aa 3) ag))) (aT 4 t) (ao (aE false 5 t (ay cP (aa 0) (az aX rfl T.B.len aW (ab (aa 2) ag))))
   (ao (aE false 6 t (ay bH aw (ay cP (ay fW (aa 0) (az aX rfl T.B.len aW (ab (aa 2) ag))) (ay iF (az aX rfl T.B.len aW (ab (aa 2) ag)) aw))))
   (ao (aE false 0 t (ay fW (aa 0) (ay Bv (az aX rfl T.B.len aW (ab (aa 2) ag)) (ay iF (az aX rfl T.B.len aW (ab (aa 2) ag)) aw))))
   (ao (aE false 2 t (ay bH (ba (aa 2) (bo (aa 5)) bE) (ba (aa 2) bE (bo (aa 5)))))
   (ao (aE false 7 t (ba (aa 2) bE (bo (ay bH (aa 6) aw))))
   (ao (ku false 1 (u9 rfl rfl T.B.list rfl T.B.reversed (ab (aa 7) ag)))
   (ao (jK 1 (br (aa 7) aw) (AJ (dS (ab (aa 4) ag)) (br (aa 1) (br (aa 7) aw))))
   (ao (eO rfl GT (bL (ba (aa 7) (bo aw) bE)) (aT 8 t) (ar (jK 1 (aa 8) (AJ (br (aa 1) (aa 8)) (dS (ab (aa 4) ag))))))
   (ar (aE false 2 t (ay bH (dS (ab (br (aa 7) aw) (ab (aa 4) ag))) (ba (aa 2) (bo (aa 6)) bE)))))))))))))
   (ar (aK (e9 (ab (aa 1) (ab (aa 2) ag)))))))))),?_⟩
 obtain⟨n,rfl,q⟩:=h;refine⟨by show 2<=sizeLine;decide,by show 2<=sizeLine;decide,by show 2<=sizeLine;decide,by show 3<=sizeLine;decide,?_⟩
 refine⟨by show 3<=sizeLine;decide,trivial,?_⟩
 refine⟨_,rfl,(by show(0:Int)<12;decide),trivial,?_⟩
 refine⟨_,rfl,⟨by decide,by decide⟩,trivial,?_⟩
 have m12:=iW n 12 (by decide)
 refine⟨_,rfl,⟨by decide,by decide,by show-(2^62)<=3+n%12;lia,by show 3+n%12<2^62;lia⟩,?_⟩
 rw[show(3+n%12-3).toNat=(n%12).toNat by lia]
 refine wZ (λj L=>∃(x:Int)(w:W)(R:List Nat)(N O Q G u:Option D),L= [some (.int x),some (aM w),some (aq R),some (.int (3+n%12)),N,O,Q,G,u]/\cL w R/\w.length=3+j) ?_ ?_ ?_
 ·exact⟨_,[[1,2],[2,0],[0,1]],[0,1,2],_,_,_,_,_,rfl,AR,rfl⟩
 ·rintro j _ hj ⟨x,o,m,N,O,Q,G,u,rfl,I,hl⟩ A hA
  have h3:=I.len;have aad:=I.uI;have z:(m.map ae).length=m.length:=aD _;have J:(0:Int)<((m.map ae).length:Int):=by rw[z];lia
  have S:(0:Int)<((m.map ae).length:Int)-1:=by rw[z];lia
  have e2:((m.map ae).length:Int)<=14:=by rw[z];lia
  refine⟨_,rfl,_,rfl,J,trivial,?_⟩;refine⟨_,rfl,_,rfl,⟨J,by lia⟩,_,rfl,S,trivial,?_⟩
  have m1:=iW x ((m.map ae).length:Int) J;have m2:=iW (x / ((m.map ae).length:Int)) (((m.map ae).length:Int)-1) S;generalize Rb:x%((m.map ae).length:Int)=at_ at m1;generalize VV:x / ((m.map ae).length:Int)%(((m.map ae).length:Int)-1)=fr at m2;obtain⟨a,rfl⟩:∃a:Nat,at_=(a:Int):=⟨at_.toNat,by lia⟩
  obtain⟨c,rfl⟩:∃f:Nat,fr=(f:Int):=⟨fr.toNat,by lia⟩
  rw[z] at m1 m2;have p1:(0:Int)<((m.map ae).length:Int)*(((m.map ae).length:Int)-1):=Int.mul_pos J S;have p2:((m.map ae).length:Int)*(((m.map ae).length:Int)-1)<=14*13:=Int.mul_le_mul e2 (by lia) (by lia) (by decide)
  refine⟨_,rfl,_,rfl,_,rfl, .inl ⟨by lia,by lia⟩,⟨p1,(show((m.map ae).length:Int)*(((m.map ae).length:Int)-1)<1073741824 by lia)⟩,trivial,?_⟩
  clear p1 p2;refine(?_:u7 _ _ _ [some (.int (x / (((m.map ae).length:Int)*(((m.map ae).length:Int)-1)))),some (aM o),some (aq m),some (.int (3+n%12)),some (.int (3+(j:Int))),some (.int (x%((m.map ae).length:Int))),some (.int (1+x / ((m.map ae).length:Int)%(((m.map ae).length:Int)-1))),G,u]);rw[Rb,VV];generalize x / (((m.map ae).length:Int)*(((m.map ae).length:Int)-1))=C;have U:cutD (m.map ae) (some (a:Int)) none=(m.drop a).map ae:=by rw[cN _ _ (by rw[z];lia),j8]
  have X:cutD (m.map ae) none (some (a:Int))=(m.take a).map ae:=by rw[cw _ _ (by rw[z];lia),jk]
  have v:cL o (m.drop a++m.take a):=by
   have:=I
   rw[<-hV a m] at this;exact this.FK
  have W4:(m.drop a++m.take a).length=m.length:=by rw[b7,fR,cm];lia
  have kh:(cutD (m.map ae) (some (a:Int)) none).length+(cutD (m.map ae) none (some (a:Int))).length<=sizeLine:=by
   rw[U,X,aD,aD];exact small (by rw[b7] at W4;lia)
  have er:(.lst (cutD (m.map ae) (some (a:Int)) none++cutD (m.map ae) none (some (a:Int))):D)=aq (m.drop a++m.take a):=by rw[U,X];unfold aq;rw[cJ]
  refine⟨_,rfl,_,rfl,_,rfl,_,rfl,kh,trivial,?_⟩;refine(?_:u7 _ _ _ [some (.int C),some (aM o),some (.lst (cutD (m.map ae) (some (a:Int)) none++cutD (m.map ae) none (some (a:Int)))),some (.int (3+n%12)),some (.int (3+(j:Int))),some (.int (a:Int)),some (.int (1+(c:Int))),G,u]);rw[er];clear er U X kh;generalize m.drop a++m.take a=b at v W4;have l1:(b.map ae).length=b.length:=aD _
  have ct:cutD (b.map ae) none (some ((1:Int)+(c:Int)+1))=(b.take (c+1+1)).map ae:=by
   rw[show(1:Int)+(c:Int)+1=((c+1+1:Nat):Int) by lia,cw _ _ (by rw[l1];lia),jk]
  refine⟨_,rfl,_,rfl,trivial,?_⟩;refine(?_:u7 _ _ _ [some (.int C),some (aM o),some (aq b),some (.int (3+n%12)),some (.int (3+(j:Int))),some (.int (a:Int)),some (.int (1+(c:Int))),some (.lst (cutD (b.map ae) none (some ((1:Int)+(c:Int)+1)))),u]);rw[ct];have Io:(b.take (c+1+1)).length=c+2:=by rw[cm];lia
  have la:((b.take (c+1+1)).map ae).length=c+2:=by rw[aD];exact Io
  have lw:(o.map aq).length=3+j:=by rw[aD];exact hl
  refine⟨_,rfl,_,rfl,trivial,eG (by rw[lw];lia),?_⟩
  have ea:(.lst (o.map aq++ [.lst ((b.take (c+1+1)).map ae).reverse]):D)=aM (o++ [(b.take (c+1+1)).reverse]):=by
   unfold aM aq;rw[cJ,<-List.map_reverse];rfl
  refine(?_:u7 _ _ _ [some (.int C),some (.lst (o.map aq++ [.lst ((b.take (c+1+1)).map ae).reverse])),some (aq b),some (.int (3+n%12)),some (.int (3+(j:Int))),some (.int (a:Int)),some (.int (1+(c:Int))),some (aq (b.take (c+1+1))),u]);rw[ea];clear ea;have YB:b.getD 0 0<o.length:=v.Sg (aS (by lia))
  have g0:(b.take (c+1+1)).getD 0 0=b.getD 0 0:=by rw[aU,t4 (by lia),<-aU]
  have Y:gn ((b.take (c+1+1)).map ae) (0:Int)=some (ae (b.getD 0 0)):=by
   have:=dE (ns:=b.take (c+1+1)) (p:=0) (by lia)
   rw[g0] at this;exact this
  have lw1:(o++ [(b.take (c+1+1)).reverse]).length=o.length+1:=by simp
  have a1:=dW (w:=o++ [(b.take (c+1+1)).reverse]) (p:=b.getD 0 0) (by lia)
  rw[ye,ir (by lia)] at a1
  have rl0:=dg v.g (b.getD 0 0);have ev:(3:Int)+(j:Int)=((o.length:Nat):Int):=by lia
  refine⟨_,rfl,by show 1<=sizeLine;decide,_,rfl,_,rfl,_,rfl,_,Y,_,a1,_,rfl,small (by rw[aD];show 1+_<=1000;lia),?_,_,rfl,_,rfl,_,Y,_,b.getD 0 0,rfl,iq (by rw[aD];lia),?_⟩
  ·rw[List.all_append,bG];rfl
  have M0:=As.start (w:=o) (R:=b) (f:=c+1) YB
  have es:(.lst (((o++ [(b.take (c+1+1)).reverse]).map aq).set (b.getD 0 0) (.lst ([.int ((3:Int)+(j:Int))]++(row o (b.getD 0 0)).map ae))):D)=aM ((o++ [(b.take (c+1+1)).reverse]).set (b.getD 0 0) (o.length::row o (b.getD 0 0))):=by
   rw[ev];unfold aM;rw[<-uM];rfl
  refine(?_:u7 _ _ _ [some (.int C),some (.lst (((o++ [(b.take (c+1+1)).reverse]).map aq).set (b.getD 0 0) (.lst ([.int ((3:Int)+(j:Int))]++(row o (b.getD 0 0)).map ae)))),some (aq b),some (.int (3+n%12)),some (.int (3+(j:Int))),some (.int (a:Int)),some (.int (1+(c:Int))),some (aq (b.take (c+1+1))),u]);rw[es];clear es a1
  have cd:cutD ((b.take (c+1+1)).map ae) (some (1:Int)) none=((b.take (c+1+1)).drop 1).map ae:=by
   have:=cN ((b.take (c+1+1)).map ae) 1 (by rw[la];lia)
   rw[j8];exact this
  have ld:((b.take (c+1+1)).drop 1).length=c+1:=by rw[fR,Io];lia
  refine⟨_,rfl,?_⟩;refine(?_:oU _ _ _ (cutD ((b.take (c+1+1)).map ae) (some (1:Int)) none) _);rw[cd];refine cR (λk L=>∃(r:W)(u:Option D),L= [some (.int C),some (aM r),some (aq b),some (.int (3+n%12)),some (.int (3+(j:Int))),some (.int (a:Int)),some (.int (1+(c:Int))),some (aq (b.take (c+1+1))),u]/\As o r b (c+1) k) ⟨_,_,rfl,M0⟩ ?_ ?_
  ·rintro k d _ hd ⟨r,p8,rfl,M⟩ A' xa
   obtain⟨y,hy,rfl⟩:=dD hd
   have hk:k<c+1:=by
    have:=(dQ.mp hy).1
    lia
   have ey:y=b.getD (k+1) 0:=by
    rw[rf,t4 (by lia)] at hy
    rw[aU,Nat.add_comm k 1,hy];rfl
   subst ey;have ylt:b.getD (k+1) 0<o.length:=v.Sg (aS (by lia))
   have l2:=M.l;have a2:=dW (w:=r) (p:=b.getD (k+1) 0) (by lia)
   have rl:(row r (b.getD (k+1) 0)).length<=14:=by
    rw[M.ro _ (by lia) (λi hi e=>by have:=getD_inj v.nd (by lia) (by lia) e;lia)]
    have:=dg v.g (b.getD (k+1) 0)
    lia
   refine⟨_,rfl,_,rfl,_,a2,_,rfl,_,rfl,by show 1<=sizeLine;decide,_,rfl,small (by rw[aD];show _+1<=1000;lia),?_,_,rfl,_,rfl,_,b.getD (k+1) 0,rfl,iq (by rw[aD];lia),?_⟩
   ·rw[List.all_append,bG];rfl
   refine xa _ ⟨r.set (b.getD (k+1) 0) (row r (b.getD (k+1) 0)++ [o.length]),some (ae (b.getD (k+1) 0)),?_,M.step v.nd (by lia) (by lia) ylt⟩
   have JZ:(.lst ((r.map aq).set (b.getD (k+1) 0) (.lst ((row r (b.getD (k+1) 0)).map ae++ [.int ((3:Int)+(j:Int))]))):D)=aM (r.set (b.getD (k+1) 0) (row r (b.getD (k+1) 0)++ [o.length])):=by
    rw[ev];unfold aM;rw[<-uM];unfold aq;rw[cJ];rfl
   rw[<-JZ];rfl
  ·rintro _ ⟨r,p8,rfl,M⟩
   rw[aD,ld] at M;have St:=M.fin (by lia) (by lia)
   have G2:=DQ v St
   have cf:cutD (b.map ae) (some ((1:Int)+(c:Int))) none=(b.drop (c+1)).map ae:=by
    rw[show(1:Int)+(c:Int)=((c+1:Nat):Int) by lia,cN _ _ (by rw[l1];lia),j8]
   have szf:(2:Nat)+(cutD (b.map ae) (some ((1:Int)+(c:Int))) none).length<=sizeLine:=by
    rw[cf,aD,fR];exact small (by lia)
   refine⟨_,rfl,_,Y,_,rfl,by show 2<=sizeLine;decide,_,rfl,_,rfl,szf,trivial,?_⟩
   refine hA _ ⟨C,r,cx b (c+1) o.length,some (.int (3+(j:Int))),some (.int (a:Int)),some (.int (1+(c:Int))),some (aq (b.take (c+1+1))),p8,?_,G2,by rw[M.l];lia⟩
   have ef:(.lst ([ae (b.getD 0 0), .int ((3:Int)+(j:Int))]++cutD (b.map ae) (some ((1:Int)+(c:Int))) none):D)=aq (cx b (c+1) o.length):=by
    rw[cf,ev];unfold cx aq;rfl
   rw[<-ef];rfl
 ·rintro _ ⟨x,o,m,N,O,Q,G,u,rfl,I,hl⟩
  exact⟨_,rfl,_,rfl,by show 2<=sizeLine;decide,q _ _ I (by lia) (by lia)⟩
end ou
namespace Wb
theorem Disc.congr{A a:Nat×Nat->Prop}(D:Disc w R A)(h:∀d,A d↔a d):Disc w R a:=by
 have:A=a:=funext λd=>propext (h d)
 rw[<-this];exact D
def Full(w:W)(R:List Nat):Prop:=Disc w R λd=>aG w d/\¬cO R d.1 d.2
theorem Jq(c:(a++b).Nodup)(x y:Nat):cO (b++a) x y↔cO (a++b) x y:=by
 have mem:∀p,p∈b++a↔p∈a++b:=λp=>fQ.mem_iff
 constructor
 ·rintro⟨h,e⟩;exact⟨(mem x).mp h,by rw[e,fP c ((mem x).mp h)]⟩
 ·rintro⟨h,e⟩;exact⟨(mem x).mpr h,by rw[e,fP c h]⟩
theorem Full.FK(F:Full w (a++b)):Full w (b++a):=
 (Disc.FK F).congr λd=>by rw[Jq F.nd]
theorem cL.full(G:cL w R):Full w R:=G.JS
theorem mS.full(N:mS w m f)(g:Good w)(F:Full w R):Full m (R.map f):=by
 refine(N.JS g F).congr λd=>?_;have j:∀{x y},aG w (x,y)->x<w.length/\y<w.length:=λh=>⟨b9 h,g.rng _ _ h⟩;have b:∀p∈R,p<w.length:=λp a=>(j (F.ring p a).1).2;have inj:∀p∈R,∀y∈R,f y=f p->y=p:=λp a y k e=>N.inj y p (b y k) (b p a) e;have n:∀p∈R,af (R.map f) (f p)=f (af R p):=λp a=>r9 (inj p a) a
 have key:∀x y,x<w.length->y<w.length->(cO (R.map f) (f x) (f y)↔cO R x y):=λx y o k=>by
  constructor
  ·rintro⟨c,e⟩
   obtain⟨p,a,q⟩:=bY.mp c
   have:=N.inj p x (b p a) o q
   subst this;rw[n p a] at e;exact⟨a,N.inj y _ k (b _ (cc a)) e⟩
  ·rintro⟨c,e⟩
   exact⟨bY.mpr ⟨x,c,rfl⟩,by rw[n x c,e]⟩
 constructor
 ·rintro⟨x,y,⟨i,l⟩,rfl⟩
  have:=j i
  exact⟨(N.dart g this.1 this.2).mpr i,λz=>l ((key x y this.1 this.2).mp z)⟩
 ·rintro⟨i,l⟩
  obtain⟨x,y,h,rfl⟩:=N.all g i
  have:=j h
  exact⟨x,y,⟨h,λz=>l ((key x y this.1 this.2).mpr z)⟩,rfl⟩
theorem E6(g:Good w)(tri:∀d,aG w d->bp w (bp w (bp w d))=d)(m:aG w (a,b)):Full w [a,b,af (row w b) a]:=by
 have D:=E5 g tri m;refine D.congr λd=>?_;have f:=D.nd;generalize af (row w b) a=c at*;have j:af [a,b,c] a=b:=cB (a:= []) (b:= [c]) f;have k:af [a,b,c] b=c:=cB (a:= [a]) (b:= []) f;have l:af [a,b,c] c=a:=dX (b:= [b]) f;obtain⟨x,y⟩:=d;refine acg Iff.rfl ?_
 constructor
 ·rintro⟨n,o,p⟩ ⟨i,e⟩
  have e:y=af [a,b,c] x:=e;have i:x=a\/x=b\/x=c:=by simpa using i
  rcases i with rfl|rfl|rfl
  ·exact n (by rw[e,j])
  ·exact o (by rw[e,k])
  ·exact p (by rw[e,l])
 ·intro h
  refine⟨λz=>h ?_,λz=>h ?_,λz=>h ?_⟩
  ·obtain⟨rfl,rfl⟩:=aan .. ▸z;exact⟨by simp,j.symm⟩
  ·obtain⟨rfl,rfl⟩:=aan .. ▸z;exact⟨by simp,k.symm⟩
  ·obtain⟨rfl,rfl⟩:=aan .. ▸z;exact⟨by simp,l.symm⟩
theorem Good.Ha(g:Good w)(f:2<=w.length)(b:p<w.length):row w p≠ []:=by
 obtain⟨a,d,ne⟩:∃a,a<w.length/\a≠p:=by
  by_cases c:p=0
  ·exact⟨1,by lia,by lia⟩
  ·exact⟨0,by lia,by lia⟩
 have r:=((g.con a d).symm g.sym).trans (g.con p b);cases r with
 |refl=>exact absurd rfl ne
 |step _ h=>
  have:=g.sym _ _ h
  intro e;rw[e] at this;cases this
end Wb
namespace ou
open PySem L2 Wb
variable {P:Program} {w:World} {mg:Str->Option Value} {base:Heap} {Z:DC} (T:Txt Z mg)
theorem ug(I:Nat->DN->Prop)(c:I 0 a)(d:∀(j:Nat)(a:DN),j<n->I j a->∀A:DN->Prop,(∀a,I (j+1) a->A a)->g (ae j) a λe=>b {nx:=A,ct:=A,bk:=E.nx,rt:=E.rt,xc:=E.xc} e)
  (f:∀a,I n a->E.nx a):oU g b E (eU 0 n) a:=wZ I c (λj a i h A k=>by
 have:=d j a i h A k
 unfold ae at this;rw[Int.zero_add];exact this) f
theorem Ie(r:List Nat)(i x:Nat):ins (r.map ae) i (ae x)=(ins r i x).map ae:=by
 unfold ins;simp[jk,j8]
def Au(n:Nat)(a:List Nat):Prop:=a.length=n/\a.Nodup/\∀x∈a,x<n
theorem Fm(N:Au n a)(h:x<n):x∈a:=by
 apply GE;intro c
 have:(x::a).length<=(bb n).length:=aI (ie.mpr ⟨c,N.2.1⟩) λy b=>by
  rcases cC.mp b with rfl|b
  ·exact bV.mpr h
  ·exact bV.mpr (N.2.2 y b)
 rw[iR,dM,N.1] at this;lia
theorem pD{f:DN->Prop}{a:DN}(b:DN)(e:a=b)(h:f b):f a:=by rw[e];exact h
structure NR (w F:W) (ns:List Nat) (k:Nat):Prop where
 l:F.length=w.length
 r:∀i,i<k->∃a b,row w i=a++b/\row F (ns.getD i 0)=(b++a).map λx=>ns.getD x 0
theorem NR.step{w F:W}{k a:Nat}(h:NR w F b k)(N:Au w.length b)(d:k<w.length):NR w (F.set (b.getD k 0) (((row w k).drop a++(row w k).take a).map λx=>b.getD x 0)) b (k+1):=by
 have lt:b.getD k 0<F.length:=by rw[h.l];exact N.2.2 _ (aS (by rw[N.1];exact d))
 refine⟨by rw[mJ];exact h.l,λi g=>?_⟩
 by_cases c:i=k
 ·subst c
  exact⟨(row w i).take a,(row w i).drop a,(hV _ _).symm,by rw[tK lt,tz rfl]⟩
 ·obtain⟨x,y,e,f⟩:=h.r i (by lia)
  exact⟨x,y,e,by rw[tK lt,ir (λz=>c (getD_inj N.2.1 (by rw[N.1];lia) (by rw[N.1];lia) z.symm)),f]⟩
theorem NR.ren{w F:W}(h:NR w F b w.length)(N:Au w.length b):mS w F λx=>b.getD x 0 where
 len:=h.l
 lt:=λx a=>N.2.2 _ (aS (by rw[N.1];exact a))
 inj:=λx y a c e=>getD_inj N.2.1 (by rw[N.1];exact a) (by rw[N.1];exact c) e
 onto:=λy c=>by
  obtain⟨i,d,e⟩:=gh.mp (Fm N c);exact⟨i,by rw[N.1] at d;exact d,by rw[aU,bB d];exact e⟩
 rows:=λx a=>h.r x a
def IT:cK:=λc P=>∃(w:W)(R:List Nat)(a:Int),c= [aM w,aq R, .int a]/\Good w/\vD w/\3<=w.length/\w.length<=14/\Full w R/\∀F b,Good F->vD F->F.length=w.length->Full F b->P (.tup [aM F,aq b])
theorem Full.uI{w:W}(g:Good w)(F:Full w R):R.length<=w.length:=by
 have:=aI F.nd (m:=bb w.length) λx a=>bV.mpr (g.rng _ _ (F.ring x a).1)
 rw[iR] at this;exact this
theorem xO:FnOk P w Z.K mg base cq 1 T.d__law_named.f T.d__law_named.fd ["_law_turns","_law_ring","_law_number"] (aR Z IT):=by
 have m:=pU.nd;refine aV T.d__law_named.F pU [0,0,0,1,0,1,0,0] (by decide) (λds R h=>by obtain⟨_,_,_,rfl,_⟩:=h;rfl) (λbI A outer s H E ds R hr h=>?_)
 have hu:=hr.units
 refine⟨_,(ao (gS 3 m (kr ag))
   (ao (oM rfl GT (rD rfl T.B.range (ab (az aX rfl T.B.len aW (ab (aa 0) ag)) ag)) (aT 4 m) (ao (MH false 3 (ay cP (aa 2) (ay bH (aa 4) aw)) (aa 4))
   (ar (aE false 2 m (ay fW (aa 2) (ay bH (aa 4) aw))))))
   (ao (zG 5 (NC:= ["_law_row"]) (src:= [none]) rfl m (oh (av fo)) trivial (bL (aa 0)) (λ_ _ _=>(bK 0 (show(["_law_row"]:List Str).Nodup from by decide+kernel))) (λ_ _ _=>df) (λ_ _ _=>(dS ag)))
   (ao (eO rfl GT (iL rfl T.B.enumerate (ab (aa 0) ag)) (gT 2 rfl (bF (aT 4 m) (bF (aT 6 m) eX))) (ao (aE false 7 m (ay cP (aa 2) (az aX rfl T.B.len aW (ab (aa 6) ag))))
   (ao (aE false 2 m (ay fW (aa 2) (az aX rfl T.B.len aW (ab (aa 6) ag))))
   (ar (jK 5 (br (aa 3) (aa 4)) (JP (NC:= ["_law_other","_law_names"]) (src:= [none,some 3]) rfl (oh (av fo)) ⟨rfl,rfl,trivial⟩ (bL (ay bH (ba (aa 6) (bo (aa 7)) bE) (ba (aa 6) bE (bo (aa 7))))) (λ_ _ _=>(bK 0 (show(["_law_other","_law_names"]:List Str).Nodup from by decide+kernel))) (λ_ _ _=>df) (λ_ _ _=>(br (aa 1) (aa 0)))))))))
   (ao (aE false 7 m (ay cP (aa 2) (az aX rfl T.B.len aW (ab (aa 1) ag))))
   (ar (aK (e9 (ab (aa 5) (ab (kQ (NC:= ["_law_point","_law_names"]) (src:= [none,some 3]) rfl (oh (av fo)) ⟨rfl,rfl,trivial⟩ (bL (ay bH (ba (aa 1) (bo (aa 7)) bE) (ba (aa 1) bE (bo (aa 7))))) (λ_ _ _=>(bK 0 (show(["_law_point","_law_names"]:List Str).Nodup from by decide+kernel))) (λ_ _ _=>df) (λ_ _ _=>(br (aa 1) (aa 0)))) ag)))))))))),?_⟩
 obtain⟨e,b,Q,rfl,g,B,h3,bD,Fl,q⟩:=h;have lw:(e.map aq).length=e.length:=aD _;refine⟨by show 0<=sizeLine;decide,?_⟩
 refine⟨_,rfl,⟨by lia,by show((e.map aq).length:Int)<2^62;lia⟩,?_⟩
 rw[show(((e.map aq).length:Int)).toNat=e.length by lia]
 refine ug (λj ρ=>∃(y:Int)(c:List Nat)(u L p t:Option D),ρ= [some (aM e),some (aq b),some (.int y),some (aq c),u,L,p,t]/\Au j c) ⟨Q,[],_,_,_,_,rfl,rfl,jj,λx h=>by cases h⟩ ?_ ?_
 ·rintro j _ hj ⟨y,c,u,L,p,t,rfl,hl,m,lt⟩ A S
  have mq:=iW y ((j:Int)+1) (by lia)
  have n:(c.map ae).length=j:=by rw[aD,hl]
  refine⟨_,rfl,_,rfl,_,rfl,by show(0:Int)<(j:Int)+1;lia,_,rfl,_,rfl,trivial,⟨mq.1,by rw[n];show y%((j:Int)+1)<=_;lia,eG (by rw[n];lia)⟩,?_⟩
  refine⟨_,rfl,_,rfl,⟨by show(0:Int)<(j:Int)+1;lia,by show(j:Int)+1<1073741824;lia⟩,trivial,?_⟩
  refine S _ ⟨y / ((j:Int)+1),ins c (y%((j:Int)+1)).toNat j,some (ae j),L,p,t,?_,by rw[CT,hl],rT m (λz=>by have:=lt j z;lia),λx U=>?_⟩
  ·unfold aq;rw[<-Ie];rfl
  ·rcases dU.mp U with rfl|U
   ·lia
   ·have:=lt x U;lia
 ·rintro _ ⟨y,c,u,L,p,t,rfl,N⟩
  refine⟨_,rfl,iD (ρ:= [none]) aq (λ_=> .lst []) e _ (λy hy Y h=>⟨by show 0<=sizeLine;decide,h⟩) rfl (small (by lia)) λaC=>?_⟩
  have e0:(.lst (e.map λ_=>(.lst []:D)):D)=aM (e.map λ_=> []):=by unfold aM;rw[dN];rfl
  refine(?_:u7 _ _ _ [some (aM e),some (aq b),some (.int y),some (aq c),u,some (.lst (e.map λ_=>(.lst []:D))),p,t]);rw[e0];refine⟨_,rfl,cR (λk ρ=>∃(y:Int)(F:W)(u p t:Option D),ρ= [some (aM e),some (aq b),some (.int y),some (aq c),u,some (aM F),p,t]/\NR e F c k) ⟨_,_,_,_,_,rfl,by simp,λi h=>by lia⟩ ?_ ?_⟩
  ·rintro k d _ hd ⟨y,F,p4,p6,p7,rfl,v⟩ A S
   obtain⟨d',hy,rfl⟩:=mW hd;obtain⟨r,A8,rfl⟩:=dD hy;have X:k<e.length:=(dQ.mp A8).1;have M:row e k=r:=Hb A8
   have YM:0<r.length:=by
    have:=g.Ha (by lia) X
    rw[M] at this;exact t6.mpr this
   have rl:=dg g k;rw[M] at rl;have n:(r.map ae).length=r.length:=aD _;have C:(0:Int)<((r.map ae).length:Int):=by rw[n];lia
   refine⟨rfl,rfl,?_⟩;refine⟨_,rfl,_,rfl,C,trivial,?_⟩;refine⟨_,rfl,_,rfl,⟨C,by rw[n];lia⟩,trivial,?_⟩
   have G:=iW y ((r.map ae).length:Int) C;refine pD [some (aM e),some (aq b),some (.int (y / ((r.map ae).length:Int))),some (aq c),some (ae k),some (aM F),some (aq r),some (.int (y%((r.map ae).length:Int)))] rfl ?_;generalize Rb:y%((r.map ae).length:Int)=at_ at G;obtain⟨a,rfl⟩:∃a:Nat,at_=(a:Int):=⟨at_.toNat,by lia⟩
   rw[n] at G;have I:cutD (r.map ae) (some (a:Int)) none=(r.drop a).map ae:=by rw[cN _ _ (by rw[n];lia),j8]
   have J:cutD (r.map ae) none (some (a:Int))=(r.take a).map ae:=by rw[cw _ _ (by rw[n];lia),jk]
   have l2:(r.drop a++r.take a).length=r.length:=by rw[b7,fR,cm];lia
   have kh:(cutD (r.map ae) (some (a:Int)) none).length+(cutD (r.map ae) none (some (a:Int))).length<=sizeLine:=by
    rw[I,J,aD,aD];exact small (by rw[b7] at l2;lia)
   refine⟨_,rfl,_,rfl,_,rfl,_,rfl,kh,?_⟩;refine(?_:lcW _ _ _ (cutD (r.map ae) (some (a:Int)) none++cutD (r.map ae) none (some (a:Int))) _ _ _);rw[I,J,<-cJ];refine iD (ρ:= [none,some (aq c)]) ae (λo=>ae (c.getD o 0)) (r.drop a++r.take a) _ (λo ho Y hY=>?_) rfl (small (by lia)) λaC=>?_
   ·have:o∈r:=by
     have:o∈r.take a++r.drop a:=fQ.mem_iff.mp ho
     rw[hV] at this;exact this
    have bT:o<c.length:=by rw[N.1];exact g.rng k o (by rw[M];exact this)
    exact⟨_,rfl,_,rfl,_,dE bT,hY⟩
   ·have Rr:k<c.length:=by rw[N.1];exact X
    have nlt:c.getD k 0<F.length:=by rw[v.l];exact N.2.2 _ (aS Rr)
    refine⟨?_,_,rfl,_,rfl,_,rfl,_,dE Rr,_,c.getD k 0,rfl,iq (by rw[aD];exact nlt),?_⟩
    ·rw[List.all_map,yR];intro x _;rfl
    ·have Xe:=v.step (a:=a) N X
     rw[M] at Xe;refine S _ ⟨y / ((r.map ae).length:Int),_,some (ae k),some (aq r),some (.int (a:Int)),?_,Xe⟩
     have es:(.lst ((F.map aq).set (c.getD k 0) (.lst ((r.drop a++r.take a).map λo=>ae (c.getD o 0)))):D)=aM (F.set (c.getD k 0) ((r.drop a++r.take a).map λx=>c.getD x 0)):=by
      unfold aM;rw[<-uM];unfold aq;rw[dN];rfl
     rw[<-es];rfl
  ·rintro _ ⟨y,F,p4,p6,p7,rfl,v⟩
   rw[rF,lw] at v;have Rn:=v.ren N;have O:(b.map ae).length=b.length:=aD _;have hR3:=Fl.len;have hRw:=Full.uI g Fl;have C:(0:Int)<((b.map ae).length:Int):=by rw[O];lia
   refine⟨_,rfl,_,rfl,C,trivial,?_⟩;have G:=iW y ((b.map ae).length:Int) C;refine pD [some (aM e),some (aq b),some (.int y),some (aq c),p4,some (aM F),p6,some (.int (y%((b.map ae).length:Int)))] rfl ?_;generalize Rb:y%((b.map ae).length:Int)=at_ at G;obtain⟨a,rfl⟩:∃a:Nat,at_=(a:Int):=⟨at_.toNat,by lia⟩
   rw[O] at G;have I:cutD (b.map ae) (some (a:Int)) none=(b.drop a).map ae:=by rw[cN _ _ (by rw[O];lia),j8]
   have J:cutD (b.map ae) none (some (a:Int))=(b.take a).map ae:=by rw[cw _ _ (by rw[O];lia),jk]
   have l2:(b.drop a++b.take a).length=b.length:=by rw[b7,fR,cm];lia
   have kh:(cutD (b.map ae) (some (a:Int)) none).length+(cutD (b.map ae) none (some (a:Int))).length<=sizeLine:=by
    rw[I,J,aD,aD];exact small (by rw[b7] at l2;lia)
   have Fr:Full e (b.drop a++b.take a):=by
    have:=Fl
    rw[<-hV a b] at this;exact this.FK
   refine⟨_,rfl,_,rfl,_,rfl,_,rfl,_,rfl,kh,?_⟩;refine(?_:lcW _ _ _ (cutD (b.map ae) (some (a:Int)) none++cutD (b.map ae) none (some (a:Int))) _ _ _);rw[I,J,<-cJ];refine iD (ρ:= [none,some (aq c)]) ae (λo=>ae (c.getD o 0)) (b.drop a++b.take a) _ (λo ho Y hY=>?_) rfl (small (by lia)) λaC=>?_
   ·have bT:o<c.length:=by rw[N.1];exact g.rng _ _ (Fr.ring o ho).1
    exact⟨_,rfl,_,rfl,_,dE bT,hY⟩
   ·refine⟨by show 2<=sizeLine;decide,?_⟩
    have e2:(.lst ((b.drop a++b.take a).map λo=>ae (c.getD o 0)):D)=aq ((b.drop a++b.take a).map λx=>c.getD x 0):=by unfold aq;rw[dN];rfl
    have:=q F ((b.drop a++b.take a).map λx=>c.getD x 0) (Rn.good g) (Rn.bnd g B) v.l (Rn.full g Fr)
    rw[<-e2] at this;exact this
variable {P:Program} {w:World} {mg:Str->Option Value} {base:Heap} {Z:DC} (T:Txt Z mg)
theorem Bm:∀(b:List Nat)(m:Nat),m<b.idxOf x->b[m]? ≠some x
 | [],m,h=>by simp at h
 |a::b,m,h=>by
  rw[uT] at h
  by_cases e:(a==x)=true
  ·rw[e] at h;simp at h
  ·rw[y2.mpr e] at h
   cases m with
   |zero=>intro z;simp at z;exact e (by simp[z])
   |succ m=>rw[vz];exact Bm b m (by simpa using h)
theorem EW{a:List Nat}{x:Nat}{P:D->Prop}(h:x∈a)(q:P (ae (a.idxOf x))):fv (ae x)=true/\(a.map ae).all fv=true/\∃(j:Nat)(z:D),(a.map ae)[j]? =some z/\kv z (ae x)=true/\(∀(m:Nat) z,m<j->(a.map ae)[m]? =some z->kv z (ae x)=false)/\P (.int (j:Nat)):=by
 have b:=h8.mpr h;have e:a[a.idxOf x]? =some x:=by rw[bB b];exact Gc some (kN b)
 refine⟨rfl,bG _,a.idxOf x,ae x,by rw[dF,e];rfl,by simp[kv,ae],λm z c d=>?_,q⟩
 obtain⟨y,f,rfl⟩:=dD d
 have:y≠x:=by
  rintro rfl;exact Bm _ _ c f
 have:¬((y:Int)=(x:Int)):=by lia
 simpa [kv,ae] using this
theorem aL{a:List Nat}{x:Nat}(h:x∈a):(a.map ae)[a.idxOf x]? =some (ae x)/\kv (ae x) (ae x)=true/\∀(m:Nat) z,m<a.idxOf x->(a.map ae)[m]? =some z->kv z (ae x)=false:=by
 have:=EW (P:=λd=>d=ae (a.idxOf x)) h rfl
 obtain⟨_,_,j,z,i,k,l,n⟩:=this;have b:=h8.mpr h;have e:a[a.idxOf x]? =some x:=by rw[bB b];exact Gc some (kN b)
 refine⟨by rw[dF,e];rfl,by simp[kv,ae],λm z c f=>?_⟩
 obtain⟨y,g,rfl⟩:=dD f
 have:y≠x:=by
  rintro rfl;exact Bm _ _ c g
 have:¬((y:Int)=(x:Int)):=by lia
 simpa [kv,ae] using this
theorem JJ(h:t {E with nx:=u E} a):u7 t u E a:=h
theorem rY(n:Nat):eU 0 n=(bb n).map λ(x:Nat)=>ae x:=by unfold eU ae;simp
def LQ:cK:=λa P=>∃(b:List Int),a= [.qa b]/\∀F R,Good F->vD F->3<=F.length->F.length<=14->Full F R->P (.tup [aM F,aq R])
theorem xK:FnOk P w Z.K mg base cq 2 T.d__law_built.f T.d__law_built.fd ["_law_script"] (aR Z LQ):=by
 have k:=pQ.nd;refine aV T.d__law_built.F pQ [0,0,0,0,0,0,0] (by decide) (λN R h=>by obtain⟨_,rfl,_⟩:=h;rfl) (λbI A outer s H E N R j h=>?_)
 have O:=j.units
 refine⟨_,(ao (wc (ax T.d__law_grown (xN T) j (ab (ax T.d__law_drawn (g5 T) j (ab (ax T.d__law_cell_at (fX T) j (ab (aa 0) (ab aw ag))) ag)) ag)) (gT 2 rfl (bF (aT 1 k) (bF (aT 2 k) eX))))
   (ao (aE false 3 k (ax T.d__law_drawn (g5 T) j (ab (ax T.d__law_cell_at (fX T) j (ab (aa 0) (ab aw ag))) ag)))
   (ao (bZ (bf (lg O) (az aX rfl T.B.len aW (ab (aa 2) ag)) aw (bR _)) (ao (aE false 4 k (ay cP (aa 3) (az aX rfl T.B.len aW (ab (aa 1) ag))))
   (ao (aE false 5 k (br (br (aa 1) (aa 4)) (ay cP (ay fW (aa 3) (az aX rfl T.B.len aW (ab (aa 1) ag))) (az aX rfl T.B.len aW (ab (br (aa 1) (aa 4)) ag)))))
   (ao (aE false 6 k (br (aa 1) (aa 5)))
   (ar (aE false 2 k (dS (ab (aa 4) (ab (aa 5) (ab (br (aa 6) (ay cP (ay bH (gI (aa 6) (aa 4)) aw) (az aX rfl T.B.len aW (ab (aa 6) ag)))) ag))))))))) aZ)
   (ar (aK (ax T.d__law_named (xO T) j (ab (aa 1) (ab (aa 2) (ab (ax T.d__law_drawn (g5 T) j (ab (ax T.d__law_cell_at (fX T) j (ab (aa 0) (ab aw ag))) ag)) ag))))))))),?_⟩
 obtain⟨ns,rfl,q⟩:=h;refine⟨_,rfl,ns,0,rfl,λQ=>⟨Q,rfl,λS=>⟨S,rfl,λb l c G I=>?_⟩⟩⟩;refine⟨rfl,rfl,?_⟩;refine⟨_,rfl,ns,4,rfl,λU=>⟨U,rfl,λi=>⟨trivial,?_⟩⟩⟩;have lR:(l.map ae).length=l.length:=aD _;have t:(b.map aq).length=b.length:=aD _;refine⟨_,rfl,?_⟩;dsimp only[wN,Ck];refine JY ⟨_,rfl,bX (λe=>?_) (λe=>?_)⟩
 ·have X:l.length=3:=by have:=KM e;lia
  have tri:=λd Y=>c.three X (d:=d) Y;have u:(0:Int)<((b.map aq).length:Int):=by rw[t];lia
  refine⟨_,rfl,_,rfl,u,trivial,?_⟩;have J:=iW i ((b.map aq).length:Int) u;refine pD [some (.qa ns),some (aM b),some (aq l),some (.int i),some (.int (i%((b.map aq).length:Int))),none,none] rfl ?_;generalize i%((b.map aq).length:Int)=L at J;obtain⟨p,rfl⟩:∃a:Nat,L=(a:Int):=⟨L.toNat,by lia⟩
  rw[t] at J;have v:p<b.length:=by lia
  have YM:0<(row b p).length:=t6.mpr (c.g.Ha (by lia) v)
  have rl:=dg c.g p;have lr:((row b p).map ae).length=(row b p).length:=aD _;have M:(0:Int)<(((row b p).map ae).length:Int):=by rw[lr];lia
  have m2:=iW (i / ((b.map aq).length:Int)) (((row b p).map ae).length:Int) M
  have m:gn ((row b p).map ae) (i / ((b.map aq).length:Int)%(((row b p).map ae).length:Int))=some (ae ((row b p).getD (i / ((b.map aq).length:Int)%(((row b p).map ae).length:Int)).toNat 0)):=by
   have:=dE (ns:=row b p) (p:=(i / ((b.map aq).length:Int)%(((row b p).map ae).length:Int)).toNat) (by lia)
   rw[Int.toNat_of_nonneg m2.1] at this;exact this
  have n:(row b p).getD (i / ((b.map aq).length:Int)%(((row b p).map ae).length:Int)).toNat 0∈row b p:=aS (by lia)
  generalize (row b p).getD (i / ((b.map aq).length:Int)%(((row b p).map ae).length:Int)).toNat 0=o at m n;refine⟨_,rfl,_,rfl,_,dW v,_,rfl,_,rfl,⟨u,by rw[t];lia⟩,_,rfl,_,rfl,_,dW v,M,_,m,trivial,?_⟩
  have ho:o<b.length:=c.g.rng _ _ n;refine⟨_,rfl,_,rfl,_,dW ho,trivial,?_⟩;have r:p∈row b o:=c.g.sym _ _ n;have X9:0<(row b o).length:=Ea r;have lo:((row b o).map ae).length=(row b o).length:=aD _;have e4:(0:Int)<(((row b o).map ae).length:Int):=by rw[lo];lia
  have e5:(((row b o).idxOf p:Int)+1)%(((row b o).map ae).length:Int)=((((row b o).idxOf p+1)%(row b o).length:Nat):Int):=by rw[lo,ab3];rfl
  have x:gn ((row b o).map ae) ((((row b o).idxOf p:Int)+1)%(((row b o).map ae).length:Int))=some (ae (af (row b o) p)):=by
   rw[e5];exact dE (lN _ X9)
  refine⟨_,rfl,_,rfl,_,rfl,_,rfl,_,rfl,_,rfl,rfl,bG _,_,_,(aL r).1,(aL r).2.1,(aL r).2.2,_,rfl,e4,_,x,by show 3<=sizeLine;decide,trivial,?_⟩
  exact⟨_,rfl,_,rfl,_,rfl,ns,1,rfl,λy=>⟨y,rfl,λz=>⟨b,[p,o,af (row b o) p],z,rfl,c.g,c.bnd,G,I,E6 c.g tri n,λF R2 g B hl C=>q F R2 g B (by lia) (by lia) C⟩⟩⟩
 ·exact⟨_,rfl,_,rfl,_,rfl,ns,1,rfl,λy=>⟨y,rfl,λz=>⟨b,l,z,rfl,c.g,c.bnd,G,I,c.full,λF R2 g B hl C=>q F R2 g B (by lia) (by lia) C⟩⟩⟩
def Oh:cK:=λa P=>∃(w:W),a= [aM w]/\Good w/\1<=w.length/\w.length<=14/\P (.dY w)
theorem Bz:FnOk P w Z.K mg base cq 6 T.d__law_web.f T.d__law_web.fd ["_law_turns"] (aR Z Oh):=by
 have i:=tO.nd;refine aV T.d__law_web.F tO [0] (by decide) (λc R h=>by obtain⟨_,rfl,_⟩:=h;rfl) (λj A outer s H E c R a h=>?_)
 have k:=a.units;refine⟨_,(ar (aK (Cy T.mkW (mj T) (a.mono (by decide)) rfl T.mC T.m___init__b (ab (kQ (NC:= ["_law_row"]) (src:= [none]) rfl (oh (av kF)) trivial (bL (aa 0)) (λ_ _ _=>(bK 0 (show(["_law_row"]:List Str).Nodup from by decide+kernel))) (λ_ _ _=>df) (λ_ _ _=>(gD jG rfl T.B.list gr (ab (aa 0) ag)))) ag)))),?_⟩
 obtain⟨b,rfl,g,d,e,q⟩:=h;exact⟨_,rfl,iD (ρ:= [none]) aq aq b _ (λy l Y h=>⟨_,rfl,h⟩) rfl (small (by lia)) λm=>⟨b,rfl,g,d,e,q⟩⟩
end ou
namespace Wb
structure cH (w:W) (R:List Nat):Prop where
 nd:R.Nodup
 len:3<=R.length
 tie:∀p∈R,af R p∈row w p
theorem Disc.Hl(D:Disc w R A)(g:Good w):cH w R:=⟨D.nd,D.len,λp a=>g.sym _ _ (D.ring p a).1⟩
section
variable {w:W} {R:List Nat}
def iZ(l:List Nat)(a:Nat):List Nat:=l.drop (l.idxOf a+1)++l.take (l.idxOf a)
theorem f7(w:W)(R:List Nat)(i:Nat):withinL w R i=(iZ (row w (R.getD i 0)) (R.getD ((i+1)%R.length) 0)).take ((iZ (row w (R.getD i 0)) (R.getD ((i+1)%R.length) 0)).idxOf (R.getD (bM R i) 0)):=rfl
theorem FH(b:a∈l)(c:x∈l)(ne:x≠a):x∈iZ l a:=by
 have:=(iA l a).mem_iff.mpr c
 rw[jV b] at this
 rcases cC.mp this with e|e
 ·exact absurd e ne
 ·exact e
theorem ni(b:a∈l):(iZ l a).length+1=l.length:=by
 have:=qB l a
 rw[jV b,dM] at this;exact this
theorem cH.lt(T:cH w R)(g:Good w)(h:x∈R):x<w.length:=b9 (T.tie x h)
theorem cH.next(T:cH w R){i:Nat}(a:i<R.length):R.getD ((i+1)%R.length) 0∈row w (R.getD i 0):=by
 rw[<-jB T.nd a];exact T.tie _ (aS a)
theorem cH.prev(T:cH w R)(g:Good w)(a:i<R.length):R.getD (bM R i) 0∈row w (R.getD i 0):=by
 have:=T.tie _ (aS (jz a))
 rw[kI T.nd a] at this;exact g.sym _ _ this
theorem cH.pn(T:cH w R){i:Nat}(a:i<R.length):R.getD (bM R i) 0≠R.getD ((i+1)%R.length) 0:=by
 intro e;have len:=T.len
 have:=getD_inj T.nd (jz a) (lN _ (by lia)) e
 unfold bM at this
 by_cases c:i+1<R.length
 ·rw[ji c] at this
  split at this<;>lia
 ·rw[show i+1=R.length by lia,rj] at this
  split at this<;>lia
theorem cH.Ls(T:cH w R)(g:Good w)(a:i<R.length):R.getD (bM R i) 0∈iZ (row w (R.getD i 0)) (R.getD ((i+1)%R.length) 0):=FH (T.next a) (T.prev g a) (T.pn a)
theorem cH.uI(T:cH w R)(g:Good w):R.length<=w.length:=by
 have:=aI T.nd (m:=bb w.length) λx a=>bV.mpr (T.lt g a)
 rw[iR] at this;exact this
end
end Wb
namespace ou
open PySem L2 Wb
variable {P:Program} {w:World} {mg:Str->Option Value} {base:Heap} {Z:DC} (T:Txt Z mg)
theorem qy{R:List Nat}{i:Nat}(a:i<R.length):gn (R.map ae) ((i:Int)-1)=some (ae (R.getD (bM R i) 0)):=by
 have b:(R.map ae).length=R.length:=aD _;have lt:=jz a;refine Mt (j:=bM R i) b ?_ (by rw[dF,aU,bB lt];rfl)
 unfold rK bM
 by_cases c:i=0
 ·rw[tz c,ir (by lia),tz (by lia)]
  congr 1
  lia
 ·rw[ir c,tz (by lia),tz (by lia)]
  congr 1
  lia
theorem z5{R:List Nat}(b:i<R.length):gn (R.map ae) (((i:Int)+1)%((R.map ae).length:Int))=some (ae (R.getD ((i+1)%R.length) 0)):=by
 have a:(R.map ae).length=R.length:=aD _;have e:((i:Int)+1)%((R.map ae).length:Int)=(((i+1)%R.length:Nat):Int):=by rw[a,ab3];rfl
 rw[e];exact dE (lN _ (by lia))
def IW:cK:=λa P=>∃(w:W)(R:List Nat)(i:Nat),a= [aM w,aq R,ae i]/\Good w/\w.length<=14/\cH w R/\i<R.length/\P (aq (withinL w R i))
theorem iX:FnOk P w Z.K mg base cq 1 T.d__law_within.f T.d__law_within.fd ["_law_turns","_law_ring","_law_i"] (aR Z IW):=by
 have k:=nQ.nd;refine aV T.d__law_within.F nQ [0,0,0,0,0] (by decide) (λp R h=>by obtain⟨_,_,_,rfl,_⟩:=h;rfl) (λz A outer s H E p R r h=>?_)
 have C:=r.units
 refine⟨_,(ao (aE false 3 k (br (aa 0) (br (aa 1) (aa 2))))
   (ao (aE false 4 k (gI (aa 3) (br (aa 1) (ay cP (ay bH (aa 2) aw) (az aX rfl T.B.len aW (ab (aa 1) ag))))))
   (ao (aE false 3 k (ay bH (ba (aa 3) (bo (ay bH (aa 4) aw)) bE) (ba (aa 3) bE (bo (aa 4)))))
   (ar (aK (ba (aa 3) bE (bo (gI (aa 3) (br (aa 1) (ay iF (aa 2) aw)))))))))),?_⟩
 obtain⟨b,a,i,rfl,g,G,e,c,q⟩:=h;have t:(a.map ae).length=a.length:=aD _;have I:=e.len;have u:(0:Int)<((a.map ae).length:Int):=by rw[t];lia
 have v:=e.lt g (aS c);have J:=dg g (a.getD i 0);have d:=e.next c;have l:((row b (a.getD i 0)).map ae).length=(row b (a.getD i 0)).length:=aD _;refine⟨_,rfl,_,rfl,_,rfl,_,dE c,_,dW v,trivial,?_⟩;refine⟨_,rfl,_,rfl,_,rfl,_,rfl,_,rfl,u,_,z5 c,rfl,bG _,_,_,(aL d).1,(aL d).2.1,(aL d).2.2,trivial,?_⟩;have L:=h8.mpr d
 have m:cutD ((row b (a.getD i 0)).map ae) (some (((row b (a.getD i 0)).idxOf (a.getD ((i+1)%a.length) 0):Int)+1)) none=((row b (a.getD i 0)).drop ((row b (a.getD i 0)).idxOf (a.getD ((i+1)%a.length) 0)+1)).map ae:=by
  have:=cN ((row b (a.getD i 0)).map ae) ((row b (a.getD i 0)).idxOf (a.getD ((i+1)%a.length) 0)+1) (by rw[l];lia)
  rw[j8];exact this
 have n:cutD ((row b (a.getD i 0)).map ae) none (some ((row b (a.getD i 0)).idxOf (a.getD ((i+1)%a.length) 0):Int))=((row b (a.getD i 0)).take ((row b (a.getD i 0)).idxOf (a.getD ((i+1)%a.length) 0))).map ae:=by rw[cw _ _ (by rw[l];lia),jk]
 have o:=ni d
 have sz:(cutD ((row b (a.getD i 0)).map ae) (some (((row b (a.getD i 0)).idxOf (a.getD ((i+1)%a.length) 0):Int)+1)) none).length+(cutD ((row b (a.getD i 0)).map ae) none (some ((row b (a.getD i 0)).idxOf (a.getD ((i+1)%a.length) 0):Int))).length<=sizeLine:=by
  rw[m,n,aD,aD];unfold iZ at o;rw[b7] at o;exact small (by lia)
 have x:(.lst (cutD ((row b (a.getD i 0)).map ae) (some (((row b (a.getD i 0)).idxOf (a.getD ((i+1)%a.length) 0):Int)+1)) none++cutD ((row b (a.getD i 0)).map ae) none (some ((row b (a.getD i 0)).idxOf (a.getD ((i+1)%a.length) 0):Int))):D)=aq (iZ (row b (a.getD i 0)) (a.getD ((i+1)%a.length) 0)):=by rw[m,n];unfold aq iZ;rw[cJ]
 refine⟨_,rfl,_,rfl,_,rfl,_,rfl,sz,trivial,?_⟩;refine pD [some (aM b),some (aq a),some (ae i),some (.lst (cutD ((row b (a.getD i 0)).map ae) (some (((row b (a.getD i 0)).idxOf (a.getD ((i+1)%a.length) 0):Int)+1)) none++cutD ((row b (a.getD i 0)).map ae) none (some ((row b (a.getD i 0)).idxOf (a.getD ((i+1)%a.length) 0):Int)))),some (ae ((row b (a.getD i 0)).idxOf (a.getD ((i+1)%a.length) 0)))] rfl ?_;rw[x];have j:=e.Ls g c;have pl:=h8.mpr j;refine⟨_,rfl,_,rfl,_,rfl,_,rfl,_,rfl,_,qy c,rfl,bG _,_,_,(aL j).1,(aL j).2.1,(aL j).2.2,?_⟩
 have y:aq (withinL b a i)= .lst (cutD ((iZ (row b (a.getD i 0)) (a.getD ((i+1)%a.length) 0)).map ae) none (some ((iZ (row b (a.getD i 0)) (a.getD ((i+1)%a.length) 0)).idxOf (a.getD (bM a i) 0):Int))):=by
  rw[f7,cw _ _ (by rw[aD];lia),<-jk];rfl
 rw[y] at q;exact q
variable {P:Program} {w:World} {mg:Str->Option Value} {base:Heap} {Z:DC} (T:Txt Z mg)
def fk(w:W)(R:List Nat)(i:Nat):List (Nat×Nat):=((bb (R.length-(i+1))).filter λk=>decide (R.getD (i+1+k) 0∈withinL w R i)).map λk=>(i,i+1+k)
def aF(w:W)(R:List Nat)(m:Nat):List (Nat×Nat):=(bb m).flatMap (fk w R)
theorem u3{w:W}(h:(i,j)∈aF w R m):i<j/\j<R.length/\R.getD j 0∈withinL w R i:=by
 unfold aF at h;obtain⟨d,_,h⟩:=y4.mp h;unfold fk at h;obtain⟨k,a,e⟩:=bY.mp h;obtain⟨rfl,rfl⟩:=aan .. ▸e;obtain⟨b,c⟩:=mL.mp a
 have:=bV.mp b
 exact⟨by lia,by lia,KM c⟩
theorem oJ{w:W}{R:List Nat}{i j:Nat}(b:i<j)(c:j<R.length)(a:R.getD j 0∈withinL w R i):(i,j)∈aF w R R.length:=by
 unfold aF;refine y4.mpr ⟨i,bV.mpr (by lia),?_⟩
 unfold fk;refine bY.mpr ⟨j-(i+1),mL.mpr ⟨bV.mpr (by lia),FS ?_⟩,?_⟩
 ·rw[show i+1+(j-(i+1))=j by lia];exact a
 ·rw[show i+1+(j-(i+1))=j by lia]
theorem qP(w:W)(R:List Nat)(i:Nat):(fk w R i).length<=R.length:=by
 unfold fk;rw[aD]
 have:=yL (λk=>decide (R.getD (i+1+k) 0∈withinL w R i)) (bb (R.length-(i+1)))
 rw[iR] at this;lia
theorem kq(w:W)(R:List Nat):∀m,(aF w R m).length<=m*R.length
 |0=>by simp[aF]
 |m+1=>by
  have:=kq w R m
  have a:=qP w R m;unfold aF at this ⊢;rw[sA,yN,b7,mI,yQ,j7,acz];lia
def IL:cK:=λa P=>∃(w:W)(R:List Nat),a= [aM w,aq R]/\Good w/\w.length<=14/\cH w R/\P (.lst ((aF w R R.length).map pairD))
theorem nI:FnOk P w Z.K mg base cq 2 T.d__law_chords.f T.d__law_chords.fd ["_law_turns","_law_ring"] (aR Z IL):=by
 have c:=nM.nd;refine aV T.d__law_chords.F nM [0,0,0,0,0] (by decide) (λo R h=>by obtain⟨_,_,rfl,_⟩:=h;rfl) (λJ A outer s H E o R m h=>?_)
 have L:=m.units
 refine⟨_,(ao (aE false 2 c (dS ag))
   (ao (oM rfl GT (rD rfl T.B.range (ab (az aX rfl T.B.len aW (ab (aa 1) ag)) ag)) (aT 3 c) (ao (aE false 4 c (ax T.d__law_within (iX T) m (ab (aa 0) (ab (aa 1) (ab (aa 3) ag)))))
   (ar (aE false 2 c (ay bH (aa 2) (kQ (NC:= ["_law_j","_law_i","_law_inner","_law_ring"]) (src:= [none,some 3,some 4,some 1]) rfl (oh (av g8)) ⟨rfl,rfl,rfl,rfl,rfl,rfl,trivial⟩ (Es rfl T.B.range (ab (ay bH (aa 3) aw) (ab (az aX rfl T.B.len aW (ab (aa 1) ag)) ag))) (λ_ _ _=>(bK 0 (show(["_law_j","_law_i","_law_inner","_law_ring"]:List Str).Nodup from by decide+kernel))) (λ_ _ _=>(oO (bf xJ (br (aa 3) (aa 0)) (aa 2) (by with_unfolding_all rfl)))) (λ_ _ _=>(e9 (ab (aa 1) (ab (aa 0) ag))))))))))
   (ar (aK (aa 2))))),?_⟩
 obtain⟨b,a,rfl,g,r,d,q⟩:=h;have M:(a.map ae).length=a.length:=aD _;have N:=d.len;have O:=d.uI g;refine⟨by show 0<=sizeLine;decide,trivial,?_⟩
 refine⟨_,rfl,⟨by lia,by show((a.map ae).length:Int)<2^62;lia⟩,?_⟩
 rw[show(((a.map ae).length:Int)).toNat=a.length by lia]
 refine ug (λi ρ=>∃(j l:Option D),ρ= [some (aM b),some (aq a),some (.lst ((aF b a i).map pairD)),j,l]) ⟨_,_,rfl⟩ ?_ ?_
 ·rintro i _ t ⟨j,l,rfl⟩ A u
  refine⟨_,rfl,_,rfl,_,rfl,b,a,i,rfl,g,r,d,t,trivial,?_⟩;have Q:=kq b a i;have S:i*a.length<=14*14:=uV (by lia) (by lia)
  have U:=qP b a i;refine⟨_,rfl,_,rfl,_,rfl,⟨by show-(2^62)<=(i:Int)+1;lia,by show(i:Int)+1<2^62;lia,by show-(2^62)<=((a.map ae).length:Int);lia,by show((a.map ae).length:Int)<2^62;lia⟩,?_⟩
  have v:eU ((i:Int)+1) (((a.map ae).length:Int)-((i:Int)+1)).toNat=(bb (a.length-(i+1))).map λ(k:Nat)=>D.int ((i:Int)+1+(k:Int)):=by
   unfold eU;rw[show(((a.map ae).length:Int)-((i:Int)+1)).toNat=a.length-(i+1) by lia]
  refine(?_:lcW _ _ _ (eU ((i:Int)+1) (((a.map ae).length:Int)-((i:Int)+1)).toNat) _ _ _);rw[v];refine ph (ρ:= [none,some (ae i),some (aq (withinL b a i)),some (aq a)]) (λ(k:Nat)=>D.int ((i:Int)+1+(k:Int))) (λk=>decide (a.getD (i+1+k) 0∈withinL b a i)) (λk=>pairD (i,i+1+k)) (bb (a.length-(i+1))) _ [] _ (λk n Y X x y=>?_) ⟨none,rfl⟩ (by rw[mK,iR];exact small (by lia)) λaC=>?_
  ·have n:=bV.mp n
   have z:gn (a.map ae) ((i:Int)+1+(k:Int))=some (ae (a.getD (i+1+k) 0)):=by
    have:=dE (ns:=a) (p:=i+1+k) (by lia)
    rw[show(i:Int)+1+(k:Int)=((i+1+k:Nat):Int) by lia]
    exact this
   refine⟨_,rfl,_,rfl,_,z,_,rfl,rfl,bG _,_,rfl,?_⟩;refine(?_:if (if false=true then _ else inD (ae (a.getD (i+1+k) 0)) ((withinL b a i).map ae))=true then _ else _);rw[ir di,gx];refine bX (λe=>?_) (λe=>y e)
   have:=x e
   refine⟨_,rfl,_,rfl,by show 2<=sizeLine;decide,?_⟩
   have C:pairD (i,i+1+k)= .tup [.int (i:Int), .int ((i:Int)+1+(k:Int))]:=by
    unfold pairD;rw[show(((i+1+k:Nat)):Int)=(i:Int)+1+(k:Int) by lia]
   rw[C] at this;exact this
  ·have G: []++((bb (a.length-(i+1))).filter λk=>decide (a.getD (i+1+k) 0∈withinL b a i)).map (λk=>pairD (i,i+1+k))=(fk b a i).map pairD:=by
    unfold fk;rw[n5,dN];rfl
   rw[G];refine⟨by rw[aD,aD];exact small (by lia),trivial,?_⟩
   refine u _ ⟨some (ae i),some (aq (withinL b a i)),?_⟩
   have I:(aF b a (i+1)).map pairD=(aF b a i).map pairD++(fk b a i).map pairD:=by
    unfold aF;rw[sA,yN,mI,yQ,j7,cJ]
   rw[I];rfl
 ·rintro _ ⟨j,l,rfl⟩
  exact⟨_,rfl,q⟩
def IQ:cK:=λa P=>∃(R:List Nat)(i j:Nat),a= [aq R,ae i,ae j]/\R.length<=14/\i<j/\j<R.length/\P (.lst [aq ((R.take (j+1)).drop i),aq (R.drop j++R.take (i+1))])
theorem zF(l:List a)(i j:Nat)(h:i<=j)(d:j<=l.length):cutD l (some (i:Int)) (some (j:Int))=(l.take j).drop i:=by
 unfold cutD
 have b:HT.bU l.length 0 (some (i:Int))=i:=by
  simp only[HT.bU]
  split<;>lia
 have c:HT.bU l.length l.length (some (j:Int))=j:=by
  simp only[HT.bU]
  split<;>lia
 rw[b,c,acr]
theorem vR:FnOk P w Z.K mg base cq 1 T.d__law_halves.f T.d__law_halves.fd ["_law_ring","_law_i","_law_j"] (aR Z IQ):=by
 have m:=nN.nd;refine aV T.d__law_halves.F nN [0,0,0] (by decide) (λg R h=>by obtain⟨_,_,_,rfl,_⟩:=h;rfl) (λn A outer s H E g R k h=>?_)
 have o:=k.units;refine⟨_,(ar (aK (dS (ab (ba (aa 0) (bo (aa 1)) (bo (ay bH (aa 2) aw))) (ab (ay bH (ba (aa 0) (bo (aa 2)) bE) (ba (aa 0) bE (bo (ay bH (aa 1) aw)))) ag))))),?_⟩;obtain⟨a,i,j,rfl,p,r,t,q⟩:=h;have b:(a.map ae).length=a.length:=aD _
 have l:cutD (a.map ae) (some (i:Int)) (some ((j:Int)+1))=((a.take (j+1)).drop i).map ae:=by
  have:=zF (a.map ae) i (j+1) (by lia) (by rw[b];lia)
  rw[j8,jk];exact this
 have c:cutD (a.map ae) (some (j:Int)) none=(a.drop j).map ae:=by rw[cN _ _ (by rw[b];lia),j8]
 have d:cutD (a.map ae) none (some ((i:Int)+1))=(a.take (i+1)).map ae:=by
  have:=cw (a.map ae) (i+1) (by rw[b];lia)
  rw[jk];exact this
 have sz:(cutD (a.map ae) (some (j:Int)) none).length+(cutD (a.map ae) none (some ((i:Int)+1))).length<=sizeLine:=by
  rw[c,d,aD,aD,fR,cm];exact small (by lia)
 refine⟨_,rfl,_,rfl,_,rfl,_,rfl,_,rfl,_,rfl,_,rfl,sz,by show 2<=sizeLine;decide,?_⟩
 have e:(.lst [.lst (cutD (a.map ae) (some (i:Int)) (some ((j:Int)+1))), .lst (cutD (a.map ae) (some (j:Int)) none++cutD (a.map ae) none (some ((i:Int)+1)))]:D)= .lst [aq ((a.take (j+1)).drop i),aq (a.drop j++a.take (i+1))]:=by
  rw[l,c,d];unfold aq;rw[cJ]
 rw[<-e] at q;exact q
variable {P:Program} {w:World} {mg:Str->Option Value} {base:Heap} {Z:DC} (T:Txt Z mg)
theorem fN{g:b->PyData}(h:∀a,(f a).py=some (g a)):∀l:List b,dA (l.map f)=some (l.map g)
 | []=>rfl
 |a::l=>by
  have:=fN h l
  rw[h7,dA,h a,this];rfl
theorem ne_nil{P:D->Prop}(h:dA l=some c)(f:(PyData.list c).depth<=64)(q:P (.bl (!l.isEmpty))):Hz (.lst l) (.lst []) P:=by
 refine⟨.list c, .list [],by rw[D.py,h];rfl,rfl,f,?_⟩
 have:PyData.eqv (.list c) (.list [])=l.isEmpty:=by
  cases l with
  |nil=>
   have:c= []:=(FB h).symm
   rw[this];decide
  |cons a l=>
   cases c with
   |nil=>
    rw[dA] at h;cases e:a.py with
    |none=>rw[e] at h;cases h
    |some x=>
     rw[e] at h;cases d:dA l with
     |none=>rw[d] at h;cases h
     |some y=>rw[d] at h;cases h
   |cons b c=>rw[PyData.eqv];rfl
 rw[tz rfl,this];exact q
theorem Du(t:Nat×Nat):(pairD t).py=some (.tuple [.int (t.1:Nat), .int (t.2:Nat)]):=rfl
theorem Hm{x:Int}{a b:D}:gn [a,b] (x%2)=some a\/gn [a,b] (x%2)=some b:=by
 have h:x%2=0\/x%2=1:=by lia
 rcases h with e|e
 ·left;rw[e];rfl
 ·right;rw[e];rfl
theorem wK(l:List a)(h:0<l.length):cutD l none (some (-1))=l.dropLast:=by
 unfold cutD;have b:HT.bU l.length 0 none=0:=rfl
 have c:HT.bU l.length l.length (some (-1))=l.length-1:=by
  simp only[HT.bU]
  split<;>lia
 rw[b,c,List.drop_zero,abd,ab1]
def IS:cK:=λc P=>∃(w:W)(R:List Nat)(a:Int),c= [aM w,aq R, .int a]/\Good w/\vD w/\w.length<=14/\∃A,Disc w R A/\∀R2,(R2.length=2\/∃b,Disc w R2 b/\cnt w b<cnt w A)->P (aq R2)
theorem vS:FnOk P w Z.K mg base cq 3 T.d__law_lesser.f T.d__law_lesser.fd ["_law_turns","_law_ring","_law_number"] (aR Z IS):=by
 have M:=nO.nd;refine aV T.d__law_lesser.F nO [0,0,0,0,0,0,0] (by decide) (λds R h=>by obtain⟨_,_,_,rfl,_⟩:=h;rfl) (λbI A outer s H E ds R N h=>?_)
 have O:=N.units
 refine⟨_,(ao (aE false 3 M (ax T.d__law_chords (nI T) N (ab (aa 0) (ab (aa 1) ag))))
   (ao (aE false 4 M (ay iF (az aX rfl T.B.len aW (ab (aa 1) ag)) aw))
   (ao (bZ (DW.dt (sN (bf (uz O) (aa 3) (dS ag) (bR _)) (oP (DW.dt (mV (bf (lg O) (ay cP (aa 2) aw) aw (bR _)) (jq (bf (uz O) (kQ (NC:= ["_law_two","_law_last"]) (src:= [none,some 4]) rfl (oh (av g9)) ⟨rfl,rfl,trivial⟩ (bL (aa 3)) (λ_ _ _=>(bK 0 (show(["_law_two","_law_last"]:List Str).Nodup from by decide+kernel))) (λ_ _ _=>(oO (bf (lg O) (br (aa 0) aw) (aa 1) (bR _)))) (λ_ _ _=>(aa 0))) (dS ag) (bR _)))))))) (ao (wc (br (aa 3) (ay cP (ay fW (aa 2) aw) (az aX rfl T.B.len aW (ab (aa 3) ag)))) (gT 2 rfl (bF (aT 5 M) (bF (aT 6 M) eX))))
   (ar (aK (br (ax T.d__law_halves (vR T) N (ab (aa 1) (ab (aa 5) (ab (aa 6) ag)))) (ay cP (ay fW (ay fW (aa 2) aw) (az aX rfl T.B.len aW (ab (aa 3) ag))) aw))))) aZ)
   (ar (aK (ay bH (ba (aa 1) bE (bo (MD aw))) (u9 rfl rfl T.B.list rfl T.B.reversed (ab (ax T.d__law_within (iX T) N (ab (aa 0) (ab (aa 1) (ab (aa 4) ag)))) ag)))))))),?_⟩
 obtain⟨n,c,o,rfl,g,B,U,AA,v,q⟩:=h;have C:=v.Hl g;have lR:(c.map ae).length=c.length:=aD _;have h3:=C.len;have hR:=C.uI g;refine⟨_,rfl,_,rfl,n,c,rfl,g,U,C,trivial,?_⟩;refine⟨_,rfl,trivial,?_⟩;refine pD [some (aM n),some (aq c),some (.int o),some (.lst ((aF n c c.length).map pairD)),some (.int (((c.map ae).length:Int)-1)),none,none] rfl ?_;have cl:=kq n c c.length;have c2:c.length*c.length<=14*14:=uV (by lia) (by lia)
 have X:((aF n c c.length).map pairD).length=(aF n c c.length).length:=aD _
 have Vr:∀l:List (Nat×Nat),(PyData.list (l.map λt=>PyData.tuple [.int (t.1:Nat), .int (t.2:Nat)])).depth<=64:=λl=>by
  rw[PyData.depth]
  have:=iC (f:=λt:Nat×Nat=>PyData.tuple [.int (t.1:Nat), .int (t.2:Nat)]) (k:=2) (λt=>by simp[PyData.depth,PyData.depthAll]) l
  lia
 have Ey:((c.map ae).length:Int)-1=((c.length-1:Nat):Int):=by rw[lR];lia
 have wl:(withinL n c (c.length-1)).length<=14:=by
  rw[f7]
  have:=ni (C.next (i:=c.length-1) (by lia))
  have h2:=dg g (c.getD (c.length-1) 0);rw[cm];lia
 have Zm:(cutD (c.map ae) none (some (-1))).length+((withinL n c (c.length-1)).map ae).reverse.length<=sizeLine:=by
  rw[wK _ (by lia),List.length_dropLast,Aq,aD,aD]
  exact small (by lia)
 have eB:(.lst (cutD (c.map ae) none (some (-1))++((withinL n c (c.length-1)).map ae).reverse):D)=aq (c.dropLast++(withinL n c (c.length-1)).reverse):=by
  rw[wK _ (by lia)]
  unfold aq;rw[cJ,List.map_dropLast,List.map_reverse]
 have P6:aF n c c.length≠ []->(0:Int)<(((aF n c c.length).map pairD).length:Int)/\∃u r,gn ((aF n c c.length).map pairD) (o / 3%(((aF n c c.length).map pairD).length:Int))=some (pairD (u,r))/\u<r/\r<c.length/\c.getD r 0∈withinL n c u:=λne=>by
  have pos:=t6.mpr ne;have y:(0:Int)<(((aF n c c.length).map pairD).length:Int):=by rw[X];lia
  have m:=iW (o / 3) (((aF n c c.length).map pairD).length:Int) y;rw[X] at m;have bT:(o / 3%((aF n c c.length).length:Int)).toNat<(aF n c c.length).length:=by lia
  refine⟨y,((aF n c c.length)[(o / 3%((aF n c c.length).length:Int)).toNat]).1,((aF n c c.length)[(o / 3%((aF n c c.length).length:Int)).toNat]).2,?_,u3 (n0 bT)⟩
  have:=ij (l:=(aF n c c.length).map pairD) (p:=(o / 3%((aF n c c.length).length:Int)).toNat) (d:=pairD ((aF n c c.length)[(o / 3%((aF n c c.length).length:Int)).toNat])) (by rw[dF,bB bT];rfl)
  rw[Int.toNat_of_nonneg m.1] at this;rw[X];exact this
 refine JJ ?_;refine⟨_,rfl,by show 0<=sizeLine;decide,ne_nil (fN Du (aF n c c.length)) (Vr _) ⟨_,rfl,bX (λe=>?_) (λe=>ck ?_)⟩⟩
 ·have ne:aF n c c.length≠ []:=by
   intro z;rw[z] at e;simp at e
  obtain⟨y,u,r,J,G,I,Q⟩:=P6 ne;refine⟨_,rfl,(by show(0:Int)<3;decide),JY ⟨_,rfl,bX (λe3=>dJ ?_) (λe3=>?_)⟩⟩
  ·refine⟨_,rfl,_,rfl,⟨by decide,by decide⟩,_,rfl,y,_,J,?_⟩
   refine⟨rfl,rfl,?_⟩;refine⟨_,rfl,_,rfl,_,rfl,c,u,r,rfl,by lia,G,I,?_⟩
   refine⟨_,rfl,⟨by decide,by decide⟩,_,rfl,⟨y,by lia⟩,(by show(0:Int)<2;decide),?_⟩
   rcases Hm (x:=o / 3 / (((aF n c c.length).map pairD).length:Int)) (a:=aq ((c.take (r+1)).drop u)) (b:=aq (c.drop r++c.take (u+1))) with e|e
   ·exact⟨_,e,q _ (.inr (ko g B v G I Q).1)⟩
   ·exact⟨_,e,q _ (.inr (ko g B v G I Q).2)⟩
  ·refine⟨_,rfl,ph (ρ:= [none,some (.int (((c.map ae).length:Int)-1))]) pairD (λt=>decide ((t.2:Int)=((c.map ae).length:Int)-1)) pairD (aF n c c.length) _ [] _ (λt ht Y Nn t1 t2=>?_) ⟨none,rfl⟩ (by rw[mK,n6];exact small (by lia)) λaC=>?_⟩
   ·refine⟨_,rfl,_,rfl,_,rfl,wM ⟨_,rfl,?_⟩⟩
    exact bX (λe=>⟨_,rfl,t1 e⟩) (λe=>t2 e)
   ·rw[n5]
    refine⟨by show 0<=sizeLine;decide,ne_nil (fN Du _) (Vr _) ⟨_,rfl,bX (λe4=>?_) (λe4=>?_)⟩⟩
    ·refine⟨_,rfl,_,rfl,⟨by decide,by decide⟩,_,rfl,y,_,J,?_⟩
     refine⟨rfl,rfl,?_⟩;refine⟨_,rfl,_,rfl,_,rfl,c,u,r,rfl,by lia,G,I,?_⟩
     refine⟨_,rfl,⟨by decide,by decide⟩,_,rfl,⟨y,by lia⟩,(by show(0:Int)<2;decide),?_⟩
     rcases Hm (x:=o / 3 / (((aF n c c.length).map pairD).length:Int)) (a:=aq ((c.take (r+1)).drop u)) (b:=aq (c.drop r++c.take (u+1))) with e|e
     ·exact⟨_,e,q _ (.inr (ko g B v G I Q).1)⟩
     ·exact⟨_,e,q _ (.inr (ko g B v G I Q).2)⟩
    ·have nc:∀i,i<c.length-1->c.getD (c.length-1) 0∉withinL n c i:=λi hi hm=>by
      have S:=oJ (w:=n) (R:=c) (i:=i) (j:=c.length-1) hi (by lia) hm
      have V3:(i,c.length-1)∈(aF n c c.length).filter (λt=>decide ((t.2:Int)=((c.map ae).length:Int)-1)):=mL.mpr ⟨S,FS Ey.symm⟩;cases L:(aF n c c.length).filter (λt=>decide ((t.2:Int)=((c.map ae).length:Int)-1)) with
      |nil=>rw[L] at V3;cases V3
      |cons x l=>rw[L] at e4;simp at e4
     refine⟨_,rfl,_,rfl,_,rfl,_,rfl,n,c,c.length-1,by rw[Ey];rfl,g,U,C,by lia,?_⟩
     refine⟨Zm,?_⟩
     have:=q _ (xu g v nc)
     rw[<-eB] at this;exact this
 ·have nc:∀i,i<c.length-1->c.getD (c.length-1) 0∉withinL n c i:=λi hi hm=>by
   have S:=oJ (w:=n) (R:=c) (i:=i) (j:=c.length-1) hi (by lia) hm
   cases L:aF n c c.length with
   |nil=>rw[L] at S;cases S
   |cons x l=>rw[L] at e;simp at e
  refine⟨_,rfl,_,rfl,_,rfl,_,rfl,n,c,c.length-1,by rw[Ey];rfl,g,U,C,by lia,?_⟩
  refine⟨Zm,?_⟩
  have:=q _ (xu g v nc)
  rw[<-eB] at this;exact this
variable {P:Program} {w:World} {mg:Str->Option Value} {base:Heap} {Z:DC} (T:Txt Z mg)
theorem Mx{w:W}(g:Good w)(A:Nat×Nat->Prop):cnt w A<=w.length*w.length:=by
 unfold cnt;exact mM (yL _ _) (rA g)
def L0:cK:=λc P=>∃(w:W)(R:List Nat)(a:Int),c= [aM w,aq R, .int a]/\Good w/\vD w/\w.length<=14/\(∃A,Disc w R A)/\∀b:List (List Nat),(∀R∈b,∃A,Disc w R A)->b.length<=300->P (.lst (b.map aq))
theorem xQ:FnOk P w Z.K mg base cq 4 T.d__law_rings.f T.d__law_rings.fd ["_law_turns","_law_ring","_law_number"] (aR Z L0):=by
 have i:=pX.nd;refine aV T.d__law_rings.F pX [0,0,0,1,0] (by decide) (λL R h=>by obtain⟨_,_,_,rfl,_⟩:=h;rfl) (λbI A outer s H E L R x h=>?_)
 have hu:=x.units
 refine⟨_,(ao (gS 3 i (kr ag))
   (ao (lU GT (bf Br (az aX rfl T.B.len aW (ab (aa 1) ag)) aw (bR _)) (ao (ku false 3 (aa 1))
   (ao (aE false 1 i (ax T.d__law_lesser (vS T) x (ab (aa 0) (ab (aa 1) (ab (ay cP (aa 2) aw) ag)))))
   (ao (aE false 2 i (ay fW (aa 2) aw))
   (ar (bZ (bf Br (az aX rfl T.B.len aW (ab (aa 1) ag)) aw (bR _)) (ao (aE false 4 i (ay cP (aa 2) (az aX rfl T.B.len aW (ab (aa 1) ag))))
   (ao (aE false 2 i (ay fW (aa 2) (az aX rfl T.B.len aW (ab (aa 1) ag))))
   (ar (aE false 1 i (ay bH (ba (aa 1) (bo (aa 4)) bE) (ba (aa 1) bE (bo (aa 4)))))))) aZ))))))
   (ar (aK (aa 3))))),?_⟩
 obtain⟨d,j,b,rfl,g,B,t,⟨n,M⟩,q⟩:=h;have c0:=Mx g n;have c1:d.length*d.length<=14*14:=uV t t;refine⟨by show 0<=sizeLine;decide,?_⟩
 refine j6 (λm N=>∃(R:List Nat)(b:Int)(c:List (List Nat))(o:Option D),N= [some (aM d),some (aq R),some (.int b),some (.lst (c.map aq)),o]/\(R.length=2\/∃A,Disc d R A/\cnt d A<m)/\(∀R∈c,∃A,Disc d R A)/\c.length+m<=200) (cnt d n+1) ⟨j,b,[],_,rfl, .inr ⟨n,M,by lia⟩,(λR h=>nomatch h),(by show 0+(cnt d n+1)<=200;lia)⟩ ?_
 rintro m _ ⟨R,b,c,o,rfl,O,y,hm⟩;have lR:(R.map ae).length=R.length:=aD _;have Q:(c.map aq).length=c.length:=aD _;refine⟨_,rfl,?_⟩;dsimp only[wN,Ck];refine⟨_,rfl,bX (λe=>?_) (λe=>?_)⟩
 ·have e2:2<R.length:=by have:=KM e;lia
  obtain⟨A,z,hc⟩:=O.resolve_left (by lia)
  refine⟨_,rfl,_,rfl,trivial,eG (by rw[Q];lia),?_⟩
  refine⟨_,rfl,_,rfl,_,rfl,(by show(0:Int)<90;decide),d,R,_,rfl,g,B,t,A,z,λR2 p=>⟨trivial,?_⟩⟩
  refine⟨_,rfl,⟨by decide,by decide⟩,trivial,?_⟩
  have S:(.lst (c.map aq++ [aq R]):D)= .lst ((c++ [R]).map aq):=by rw[cJ];rfl
  have C:∀j∈c++ [R],∃A,Disc d j A:=λj k=>by
   rcases cV.mp k with k|k
   ·exact y j k
   ·rw[e7.mp k];exact⟨A,z⟩
  have l:(R2.map ae).length=R2.length:=aD _;refine pD [some (aM d),some (aq R2),some (.int (b / 90)),some (.lst (c.map aq++ [aq R])),o] rfl ?_;rw[S];refine⟨_,rfl,?_⟩;dsimp only[wN,Ck];refine⟨_,rfl,bX (λe=>?_) (λe=>?_)⟩
  ·have e3:2<R2.length:=by have:=KM e;lia
   obtain⟨u,r,U⟩:=p.resolve_left (by lia)
   have LA:=(r.Hl g).uI g;have v:(0:Int)<((R2.map ae).length:Int):=by rw[l];lia
   refine⟨_,rfl,_,rfl,v,trivial,?_⟩;refine⟨_,rfl,_,rfl,⟨v,by rw[l];lia⟩,trivial,?_⟩
   have G:=iW (b / 90) ((R2.map ae).length:Int) v;refine pD [some (aM d),some (aq R2),some (.int (b / 90 / ((R2.map ae).length:Int))),some (.lst ((c++ [R]).map aq)),some (.int (b / 90%((R2.map ae).length:Int)))] rfl ?_;generalize b / 90%((R2.map ae).length:Int)=at_ at G;obtain⟨a,rfl⟩:∃a:Nat,at_=(a:Int):=⟨at_.toNat,by lia⟩
   rw[l] at G;have I:cutD (R2.map ae) (some (a:Int)) none=(R2.drop a).map ae:=by rw[cN _ _ (by rw[l];lia),j8]
   have J:cutD (R2.map ae) none (some (a:Int))=(R2.take a).map ae:=by rw[cw _ _ (by rw[l];lia),jk]
   have X:(R2.drop a++R2.take a).length=R2.length:=by rw[b7,fR,cm];lia
   have Y:(cutD (R2.map ae) (some (a:Int)) none).length+(cutD (R2.map ae) none (some (a:Int))).length<=sizeLine:=by
    rw[I,J,aD,aD];exact small (by rw[b7] at X;lia)
   have er:(.lst (cutD (R2.map ae) (some (a:Int)) none++cutD (R2.map ae) none (some (a:Int))):D)=aq (R2.drop a++R2.take a):=by rw[I,J];unfold aq;rw[cJ]
   refine⟨_,rfl,_,rfl,_,rfl,_,rfl,Y,trivial,?_⟩;refine⟨m-1,by lia,R2.drop a++R2.take a,b / 90 / ((R2.map ae).length:Int),c++ [R],some (.int (a:Int)),?_, .inr ⟨u,?_,by lia⟩,C,by rw[b7];simp;lia⟩
   ·rw[<-er];rfl
   ·have:=r
    rw[<-hV a R2] at this;exact this.FK
  ·refine⟨m-1,by lia,R2,b / 90,c++ [R],o,rfl,?_,C,by rw[b7];simp;lia⟩
   rcases p with p| ⟨u,r,U⟩
   ·exact .inl p
   ·exact .inr ⟨u,r,by lia⟩
 ·exact⟨_,rfl,q c y (by lia)⟩
def IU:cK:=λa P=>∃(l:List Nat),a= [aq l,aq l]/\l.length<=100/\P (.bl true)
end ou
namespace L2
open PySem PySem.Spec PyProof.Rows
section
variable {Z:DC} {X:Cx} {md:List Nat} {rn:Nat} {e:Expr} {pos p2:Pos} {te:bh} {t:mN} {lo hi:Option Expr} {tl th:Cb}
def fSl(b:bh)(c d:Cb):mN:=λa P=>b a λx=>c a λlo=>d a λf=>match x with
 | .lst l=>P (cutD l lo f)
 |_=>False
theorem HF(m:DE Z X e te)(f:DO Z X lo tl)(a:DO Z X hi th):DF Z X 1 (.Subscript e (.Slice lo hi none p2) pos) (fSl te tl th):=by
 refine(Aa DB m f a).imp ?_;intro C H Q n;rfl';obtain⟨G,g,P,s,i,h,q⟩:=n;ac_rfl;refine⟨G,g,_,s,i,h,λd r v w F b dv=>?_⟩;refine⟨w,g,_,b.sub,i.mono b.gg,r,λl f y I c=>?_⟩;refine⟨y,g,_,c.sub,(i.mono b.gg).mono c.gg,f,λu a J L j=>?_⟩;have x:=(b.trans c).trans j;have dv:=(dv.mono c.gg).mono j.gg;cases dv<;>first|exact a.elim|skip
 rename_i h e
 refine⟨_,_,rfl,cM.of (j.sub _ _ h),λp k=>?_⟩;obtain⟨z,A,B⟩:=mm x k (AE e l u);exact q _ a _ _ _ _ (x.side k) z A B
def QG(t:mN):e8:=λE a=>t a λb=>E.rt (.lst b)
theorem oN(g:DF Z X rn e t):DSt Z X md rn (.Return (some e) pos) (QG t):=by
 refine(GX g).imp λD C H j=>?_;rfl';obtain⟨B,l,E,⟨G,m,S⟩,h,M⟩:=j;ac_rfl
 let F:Addr->Prop:=λb=>∃i,b∈m i
 have s:=S.ex.sub
 have n:Ext B.G₀ B.H₀ (plus G H F) H:=⟨S.ex.gg.trans (jy s),mz s,S.ex.hh,λb a p=>by
  rw[mw (λ⟨i,q⟩=>a (S.nw i b q).1)];exact S.ex.off b a p⟩
 refine⟨plus G H F,l,_,mz s,⟨S.len,λi d h=>?_⟩,h,λJ r v f w y x o z c=>M.rt _ r v f w y (n.trans x) o z λb a=>⟨S.ex.hh.free (c b a).1,(c b a).2⟩⟩;obtain⟨v,A,o⟩:=S.at_ i d h;exact⟨v,A,o.dv (jy s) λb a u e=>by rw[pI ⟨i,a⟩];exact e⟩
end
end L2
namespace ou
open PySem L2 Wb
variable {P:Program} {w:World} {mg:Str->Option Value} {base:Heap} {Z:DC} (T:Txt Z mg)
theorem kD(r:List Nat):(aq r).py=some (iO r):=by
 unfold aq iO;rw[D.py,fN (g:=nD) (λn=>rfl)];rfl
theorem oR(a b:List Nat):PyData.eqv (iO a) (iO b)=decide (a=b):=by
 by_cases e:a=b
 ·rw[FS e];exact(zJ a b).mpr e
 ·rw[FM e]
  apply y2.mpr;exact λz=>e ((zJ a b).mp z)
theorem Cw{v w:List Nat}{P:D->Prop}(h:P (.bl (decide (v=w)))):Hx (aq v) (aq w) P:=by
 refine⟨_,_,kD v,kD w,by have:=iK v;lia,?_⟩
 rw[ir di,oR];exact h
theorem JE{v w:List Nat}{P:D->Prop}(h:P (.bl (!decide (v=w)))):Hz (aq v) (aq w) P:=by
 refine⟨_,_,kD v,kD w,by have:=iK v;lia,?_⟩
 rw[tz rfl,oR];exact h
theorem nJ:FnOk P w Z.K mg base cq 1 T.d__law_points.f T.d__law_points.fd ["_law_found","_law_due"] (aR Z IU):=by
 have d:=nP.nd;refine aV T.d__law_points.F nP [0,0] (by decide) (λa R h=>by obtain⟨_,rfl,_⟩:=h;rfl) (λe A outer s H E a R b h=>?_)
 have c:=b.units
 refine⟨_,(ao (bZ (DW.dt (mV (eQ (dG (mU "list" (aa 0) rfl T.B.isinstance rfl T.B.list gr))) (jq (bf (uz c) (aa 0) (aa 1) (bR _))))) (ar (aK jH)) aZ)
   (ar (aK (az (Mw rfl) rfl T.B.all Mv (ab (kQ (NC:= ["_law_point"]) (src:= [none]) rfl (oh (av hE)) trivial (bL (aa 0)) (λ_ _ _=>(bK 0 (show(["_law_point"]:List Str).Nodup from by decide+kernel))) (λ_ _ _=>df) (λ_ _ _=>(mT (mU "int" (aa 0) rfl T.B.isinstance rfl T.B.int Gj) (v9 (Gm (mU "bool" (aa 0) rfl T.B.isinstance rfl T.B.bool Cn)))))) ag))))),?_⟩
 obtain⟨l,rfl,g,q⟩:=h;refine⟨_,rfl,rfl,rfl,ck ⟨_,rfl,_,rfl,JE ⟨_,rfl,GB (by rw[FS rfl];rfl) ?_⟩⟩⟩
 refine⟨_,rfl,iD (ρ:= [none]) ae (λ_=> .bl true) l _ (λy i Y h=>⟨_,rfl,rfl,true,rfl,dJ ⟨_,rfl,rfl,false,rfl,h⟩⟩) rfl (small (by lia)) λj=>?_⟩
 refine⟨l.map λ_=>true,by rw[dN];rfl,?_⟩
 have:(l.map λ_=>true).all id=true:=by simp
 rw[this];exact q
def LP:cK:=λa P=>∃(l:List Nat)(x:Nat),a= [aq l,ae x]/\l.length<=100/\x∈l/\P (aq (cz l x))
theorem BA:FnOk P w Z.K mg base cq 1 T.d_begun_at.f T.d_begun_at.fd ["ring","p"] (aR Z LP):=by
 have e:=tP.nd;refine aV T.d_begun_at.F tP [0,0,0] (by decide) (λg R h=>by obtain⟨_,_,rfl,_⟩:=h;rfl) (λm A outer s H E g R i h=>?_)
 have n:=i.units
 refine⟨_,(ao (aE false 2 e (gI (aa 0) (aa 1)))
   (ar (aK (ay bH (ba (aa 0) (bo (aa 2)) bE) (ba (aa 0) bE (bo (aa 2))))))),?_⟩
 obtain⟨l,x,rfl,o,a,q⟩:=h;have b:(l.map ae).length=l.length:=aD _;have p:=h8.mpr a;refine⟨_,rfl,_,rfl,_,rfl,rfl,bG _,_,_,(aL a).1,(aL a).2.1,(aL a).2.2,trivial,?_⟩;have c:cutD (l.map ae) (some ((l.idxOf x:Nat):Int)) none=(l.drop (l.idxOf x)).map ae:=by rw[cN _ _ (by rw[b];lia),j8]
 have d:cutD (l.map ae) none (some ((l.idxOf x:Nat):Int))=(l.take (l.idxOf x)).map ae:=by rw[cw _ _ (by rw[b];lia),jk]
 have j:(cutD (l.map ae) (some ((l.idxOf x:Nat):Int)) none).length+(cutD (l.map ae) none (some ((l.idxOf x:Nat):Int))).length<=sizeLine:=by
  rw[c,d,aD,aD,fR,cm];exact small (by lia)
 have k:(.lst (cutD (l.map ae) (some ((l.idxOf x:Nat):Int)) none++cutD (l.map ae) none (some ((l.idxOf x:Nat):Int))):D)=aq (cz l x):=by rw[c,d];unfold aq cz;rw[cJ]
 rw[<-k] at q;exact⟨_,rfl,_,rfl,_,rfl,_,rfl,j,q⟩
def DP:cK:=λa P=>∃(w:W)(R:List Nat)(i:Nat),a= [.dY w,aq R,ae i]/\Good w/\w.length<=14/\cH w R/\i<R.length/\P (aq (withinL w R i))
theorem pF:FnOk P w Z.K mg base cq 2 T.d_within_at.f T.d_within_at.fd ["web","ring","i"] (fg Z 1 DP):=by
 have r:=qU.nd;refine jt 1 T.d_within_at.F qU [0,0,0,0] (by decide) (λt R h=>by obtain⟨_,_,_,rfl,_⟩:=h;rfl) (λG A outer s H E t R j h=>?_)
 have I:=j.units
 refine⟨_,(ao (aE false 3 r (ax T.d_begun_at (BA T) j (ab (br (js T.W (aa 0) T.m_turns.m (qR T) (j.mono (by decide)) T.m_turns.b) (br (aa 1) (aa 2))) (ab (br (aa 1) (ay cP (ay bH (aa 2) aw) (az aX rfl T.B.len aW (ab (aa 1) ag)))) ag))))
   (ar (oN (HF (aa 3) (bo aw) (bo (gI (aa 3) (br (aa 1) (ay iF (aa 2) aw)))))))),?_⟩
 obtain⟨c,a,i,rfl,g,u,e,d,q⟩:=h;have v:(a.map ae).length=a.length:=aD _;have J:=e.len;have x:(0:Int)<((a.map ae).length:Int):=by rw[v];lia
 have y:=e.lt g (aS d);have L:=dg g (a.getD i 0);have k:=e.next d;refine⟨_,rfl,c,rfl,c,rfl,u,_,rfl,_,rfl,_,dE d,_,dW y,_,rfl,_,rfl,_,rfl,x,_,z5 d,row c (a.getD i 0),a.getD ((i+1)%a.length) 0,rfl,by lia,k,trivial,?_⟩
 have l:=jV k;have o:=e.Ls g d;have n:a.getD (bM a i) 0∈cz (row c (a.getD i 0)) (a.getD ((i+1)%a.length) 0):=by rw[l];exact cG _ o
 refine⟨_,rfl,_,rfl,_,rfl,_,rfl,_,rfl,_,qy d,rfl,bG _,_,_,(aL n).1,(aL n).2.1,(aL n).2.2,?_⟩
 have z:(a.getD ((i+1)%a.length) 0==a.getD (bM a i) 0)=false:=by
  rw[aao];exact(e.pn d).symm
 have p:(cz (row c (a.getD i 0)) (a.getD ((i+1)%a.length) 0)).idxOf (a.getD (bM a i) 0)=(iZ (row c (a.getD i 0)) (a.getD ((i+1)%a.length) 0)).idxOf (a.getD (bM a i) 0)+1:=by
  rw[l,uT,z];rfl
 have pl:=h8.mpr o;have M:=ni k
 have C:(.lst (cutD ((cz (row c (a.getD i 0)) (a.getD ((i+1)%a.length) 0)).map ae) (some (1:Int)) (some (((cz (row c (a.getD i 0)) (a.getD ((i+1)%a.length) 0)).idxOf (a.getD (bM a i) 0):Nat):Int))):D)=aq (withinL c a i):=by
  have:=zF (cz (row c (a.getD i 0)) (a.getD ((i+1)%a.length) 0)) 1 ((cz (row c (a.getD i 0)) (a.getD ((i+1)%a.length) 0)).idxOf (a.getD (bM a i) 0)) (by lia) (by rw[qB,p];lia)
  rw[zE,show(some (1:Int))=some ((1:Nat):Int) from rfl,this,p,l,List.take_succ_cons,f7];rfl
 rw[<-C] at q;exact q
end ou
namespace L2
open PySem PySem.Spec PyProof.Rows
theorem gd.ok{P:Program}{w:World}{H:Hp}(x:gd b a d h):dO P w H h a (.ext (gd b a d)):=by
 refine⟨x,let ⟨o,_,_,_,c,_⟩:=x;⟨o,c⟩,λg i p k=>?_⟩;obtain⟨o,e,f,t,c,r⟩:=p;exact⟨o,e,f,t,k o c,r⟩
theorem uY.elems(i:uY a b):ElemsOf (intKind P w) a.toList:=λe c=>by
 obtain⟨k,t,rfl⟩:=i.1 e c;exact⟨⟨k,by simp[intKind,Value.isInt],rfl⟩,rfl⟩
theorem zU:∀{b:List (Int×Value)}{c:List Int},(∀e∈b,∃k t,e=(hashInt k,Value.int k t))->IntsAre (b.map (·.2)) c->∀k,k∈c↔∃e∈b,Value.isInt k e.2=true
 | [],_,_,h,k=>by cases h;simp
 |e::b,c,d,h,k=>by
  obtain⟨j,t,rfl⟩:=d e (cg ..);cases h with
  |cons n g h=>
   have f:=zU (λe a=>d e (cG _ a)) h k;rw[cC,f]
   constructor
   ·rintro(rfl| ⟨e,a,q⟩)
    ·exact⟨_,cg ..,by simp[Value.isInt]⟩
    ·exact⟨e,cG _ a,q⟩
   ·rintro⟨e,a,q⟩
    rcases cC.mp a with rfl|a
    ·left;simp[Value.isInt] at q;exact q.symm
    ·exact .inr ⟨e,a,q⟩
theorem uY.mem(i:uY d f)(k:Int):k∈f↔∃e∈d.toList,(intKind P w).is k e.2=true:=by
 obtain⟨a,_,g,b,c⟩:=i;rw[<-c.mem_iff];exact zU a b k
theorem zT:∀{a:List Value}{b:List Int},IntsAre a b->a.length=b.length
 |_,_, .nil=>rfl
 |_,_, .cons _ _ h=>Gc (·+1) (zT h)
theorem uY.size{a:Array (Int×Value)}(i:uY a d):a.size=d.length:=by
 obtain⟨_,_,e,b,c⟩:=i;rw[<-c.length_eq,<-zT b,aD,eN]
theorem _root_.PySem.fB.LN(S:fB b o a c t):a.size<=306:=by
 have:=S.few
 rcases S.tok.few with h|h|h|h<;>lia
theorem gd.setOf(x:gd b a c h):h.SetOf (intKind P w) a (λk=>decide (k∈c)) c.length:=by
 rfl';obtain⟨o,d,f,t,g,S,i⟩:=x;ac_rfl;refine⟨o,d,f,t,g,S.ex,S.dat,i.elems,λk=>?_,?_,S.fits,i.size⟩
 ·rw[aaE];exact i.mem k
 ·have:=S.LN
  show d.size<4096;lia
def zS(a:List Int)(k:Int):List Int:=if k∈a then a else a++ [k]
section
variable {X:Cx}
theorem Inv.Hf(I:Inv X c e H s)(h:H a=some (.ext (gd b a d))):gd b a d s.heap:=(I.hok a _ h).1
theorem Lk(c:Gl X "set")(d:X.mg "set"=none):PE X (.Call (.Name "set" p) [] [] pos) (λf H Q=>∀q,H q=none->Q (.ref q) (upd H q (.ext (gd (cD X.w) q [])))):=by
 intro a s f H Q I h;refine UV (iE I c d (u:= .type "set") (by decide+kernel) ?_ (by decide) (by decide))
 refine abL rfl (abM (sE ?_));have g:=I.hok.fresh (bJ _);refine⟨.ref s.heap.objs.size,_,I.laid (t':=s.toks) (λb o e=>AC _ e) (bJ _) (o:= .ext (gd (cD X.w) s.heap.objs.size [])) (gd.ok ⟨_,_,_,_,GM _ rfl,fB.new X.w,?_⟩),rfl,h _ g⟩;exact⟨λe i=>by simp at i,jj,[],by simpa using IntsAre.nil, .refl _⟩
theorem Fx:OpR X (compareOp .NotIn) (λx y H Q=>∃k p b a,x= .int k/\y= .ref p/\H p=some (.ext (gd b p a))/\Q (.bl (!decide (k∈a))) H):=by
 intro c s g H x y v u Q I d e h;obtain⟨k,p,b,a,rfl,rfl,f,q⟩:=h;obtain⟨t,rfl⟩:=d;cases e;exact wpAny_notInSet_of (knd:=intKind X.prog X.w) (k:=k) (by simp[intKind,Value.isInt]) rfl (I.Hf f).setOf ⟨.bl _,H,I.tok _,rfl,q⟩
def Sa(w:World):V->List V->Hp->VK->Prop:=λx c H Q=>∃l b a k,x= .ref l/\c= [.int k]/\H l=some (.ext (gd b l a))/\b=cD w/\a.length<=300/\Q .bA (upd H l (.ext (gd b l (zS a k))))
theorem KZ:Ef X "set.add" (Sa X.w):=by
 intro p s σ H x N v us Q I O P h;rfl';obtain⟨l,b,a,k,rfl,rfl,g,rfl,hz,q⟩:=h;subst O;obtain⟨u,rfl,T⟩:=P.one;obtain⟨d,rfl⟩:=T;obtain⟨o,r,ep,t,A,S,i⟩:=I.Hf g;have U:s.TypeIs (.ref l) "set":=⟨o,A,S.ex.1⟩;ac_rfl;refine Re F.slot_set_add U F.entry_set_add ?_ (F.args_set_add_2 _ _);unfold Builtin.«set.add» Builtin.Frozenset.oneOther;simp only[aa9,bind_assoc];unfold Builtin.Frozenset.addrOf setAdd;refine be (mo ?_)
 try dsimp only
 refine be (mo ?_)
 try dsimp only
 refine be ?_;refine KF ?_;have B:(intKind X.prog X.w).is k (.int k d)=true:=by simp[intKind,Value.isInt]
 refine be ((intKind X.prog X.w).pyHash B ?_);refine BR (s:={s with toks:=s.toks+1}) A S i.elems B (by rw[i.size];lia) (λY=>?_) λZ h' C E wW t' sb G S' j=>?_
 ·show wpAny _ _ (ret Value.none) _ _ _
  have f:k∈a:=(i.mem k).mpr Y;rw[zS,tz f] at q
  have e:upd H l (.ext (gd (cD X.w) l a))=H:=by
   funext c
   by_cases z:c=l
   ·subst z;rw[aB];exact g.symm
   ·rw[aN z]
  rw[e] at q;exact mo ⟨_,rfl, .bA,H,I.tok _,rfl,q⟩
 ·show wpAny _ _ (ret Value.none) _ _ _
  have f:k∉a:=λz=>Z ((i.mem k).mp z);rw[zS,ir f] at q
  have i':uY E (a++ [k]):=by
   obtain⟨a1,a2,ms,J,L⟩:=i;refine⟨λe he=>?_,?_,?_⟩
   ·rcases cV.mp (j.mem_iff.mp he) with h|h
    ·exact a1 e h
    ·rw[e7] at h;exact⟨k,d,h⟩
   ·rw[fI]
    refine⟨a2,by simp,λx hx y M z=>f ?_⟩
    rw[e7] at M;rw[<-M,<-z];exact hx
   ·have a5:IntsAre ((r.toList++ [((intKind X.prog X.w).hash k,Value.int k d)]).map (·.2)) (ms++ [k]):=by
     rw[cJ];clear L j;generalize r.toList.map (·.2)=N at J
     induction J with
     |nil=>exact .cons k d .nil
     |cons n t _ ih=>exact .cons n t ih
    obtain⟨m,b1,b2⟩:=xo (j.map (·.2)) a5;exact⟨m,b1,b2.trans (L.append_right _)⟩
  have I':=I.write (h':=h') (t':=s.toks+1) (x:=l) (e:=l) (o:= .ext (gd (cD X.w) l (a++ [k]))) (by rw[g];trivial) (.inl rfl) (λb u hb e=>sb.extBut b u hb e) ⟨C,G⟩ (gd.ok ⟨C,E,wW,t',G,S',i'⟩)
  exact mo ⟨_,rfl, .bA,_,I',rfl,q⟩
def Zq(r:V->List V->Hp->VK->Prop)(d:TE)(t:TA):TE:=λa H Q=>d a H λx c=>(∃p b e,x= .ref p/\c p=some (.ext (gd b p e)))/\t a c λf g=>r x f g Q
variable {o e:Expr} {es:List Expr} {to:TE} {t:TA} {name:Str} {apos aQ:Pos} {id:String} {r:V->List V->Hp->VK->Prop}
theorem NN(n:PlainAttrs "set")(slot:Slot "set" name id)(q:typeOf (.builtin id)=pure (.type "method_descriptor"))(u:Ef X id r)(w:PE X o to)(y:PA X (e::d) t)
  (z:attributeBase o name X.env (eval o X.env)=eval o X.env:=by rfl)
  (A:((backTo f (starEach (e::d) X.env)).all (λx=>!x.1)&&(backToKw f (keywordEach [] X.env)).all (λx=>x.1.isSome)
   &&decide ((e::d).length+([]:List Keyword).length+(if ([]:List Keyword).isEmpty then 0 else 1)<30))=true:=by rfl)
  (B:(apos.endLine==f.line)=true:=by rfl) (C:starEach (e::d) X.env=(false,eval e X.env)::starEach d X.env:=by rfl) (E:(backTo f (starEach d X.env)).any (·.1)=false:=by rfl):
  PE X (.Call (.Attribute o name apos) (e::d) [] f) (Zq r to t):=by
 intro c s g H Q I h;refine aaZ z A B rfl (thn (w c s g H _ I h) λv F G=>?_);rfl';obtain⟨x,L,j,M,N,O⟩:=G;ac_rfl;rfl';obtain⟨p,b,ns,rfl,P⟩:=N;subst M;obtain⟨k,_,_,_,l,S,_⟩:=j.Hf P;ac_rfl;refine⟨"set",id,n,slot,q,⟨k,l,S.ex.1⟩,λa R=>?_,?_⟩
 ·cases R;exact⟨k,l,S.ex.2.1⟩
 have m:=y f c F g L _ j O;rw[C] at m ⊢;refine aaD (by show(false|| (backTo f (starEach d X.env)).any (·.1))=false;rw[E]<;>rfl) (abi ?_)
 exact thn m λT U ⟨Y,Z,I2,r2,q2⟩=>u c U g Z (.ref p) Y (.ref p) T Q I2 rfl r2 q2
theorem ze(l:X.calm=true):dZ X (.builtin "sorted") (λf H Q=>∃(p:Addr)(b:List Int),f= [.ref p]/\H p=some (.ext (gd (cD X.w) p b))/\b.length<64/\∀(q:Addr)(a:List Int),H q=none->a.Perm b->a.Pairwise (·<=·)->Q (.ref q) (upd H q (.lst (a.map V.int)))):=by
 intro g s L H f M Q I m h;rfl';obtain⟨p,b,rfl,v,x,q⟩:=h;obtain⟨u,rfl,y⟩:=m.one;subst y;obtain⟨o,O,P,t,z,S,i⟩:=I.Hf v;obtain⟨_,_,A,B,j⟩:=id i;ac_rfl;refine DJ (I.ok.hd l) z S B (by rw[i.size];exact x) λR C c out e a d le E F k G=>?_
 have J:H c=none:=I.hok.fresh le;have T:64<=sizeLine:=by decide
 have U:=(k.trans j).length_eq;exact⟨.ref c,_,I.laid (t':=C) d le (o:= .lst (a.map V.int)) ⟨by rw[aD];lia,out.toList,e,nz F,by simpa using E⟩,rfl,q c a J (k.trans j) G⟩
end
section
variable {Z:DC} {X:Cx} {B:Bs} {md:List Nat} {rn:Nat} {ρ:DN} {σ:St} {H G:Hp} {fp:Nat->List Addr} {a e k o:Expr} {ta te tk tp:bh} {pos apos aQ p2:Pos}
def UJ(neg:Bool):gz:=λa b P=>∃k d c,a= .int k/\b= .set d c/\P (.bl (if neg=true then !decide (k∈c) else decide (k∈c)))
theorem Fs:OpR X (compareOp .NotIn) (bW Z (UJ true)):=by
 refine Fx.imp ?_;rintro x y H Q ⟨G,a,b,P,s,c,d,⟨k,i,f,rfl,rfl,h⟩,q⟩;cases c;cases d with
 |set g=>exact⟨k,_,_,f,rfl,rfl,s _ _ g,q _ h _ G H (.refl s) (.bl _)⟩
def QI(w:World)(i:Nat):e8:=λE b=>E.nx (b.set i (some (.set (cD w) [])))
theorem JV(i:Nat)(m:X.N.Nodup)(n:Gl X "set")(q:X.mg "set"=none)(r:s.getD i 0=99:=by rfl)(t:X.N[i]? =some x:=by rfl)(u:Loc X.env.scope x:=by first|exact Or.inl rfl|exact Or.inr rfl)(v:swapsWith (.Call (.Name "set" p) [] [] y) (some (.Name x d)) pos.line X.env=pure false:=by rfl)
  (A:X.fn x=true\/X.env.scope.names.lookup x=some .local:=by first|exact .inl rfl|exact .inr rfl|assumption):DSt Z X s L (.Assign [.Name x d] (.Call (.Name "set" p) [] [] y) pos) (QI X.w i):=by
 refine(qz m t u (Lk n q) v A).imp ?_;intro D O H C;rfl';obtain⟨B,Q,E,⟨G,R,S⟩,h,M⟩:=C;ac_rfl;intro c g;have I:G c=none:=S.ex.sub.free g;have x:Ext G H G (upd H c (.ext (gd (cD X.w) c []))):=⟨.refl _,S.ex.sub.trans (aY g _),aY g _,λ_ _ z=>z⟩;refine M.nx _ h _ _ ⟨G,_,(S.grow x).He r (f:= [c]) (.inr (.inr ⟨c,_,rfl,aB,rfl, .inl ⟨rfl,_,[],rfl,rfl⟩⟩)) (by simp) (λb l=>?_) λb l j _ J=>?_⟩
 ·rw[e7] at l;subst l
  exact⟨S.ex.hh.free g,(by rw[aB];exact λz=>nomatch z),I⟩
 ·rw[e7] at l;subst l
  exact(S.nw j _ J).2.1 g
def Qx(w:World)(f:List Nat)(m:Bool)(i:Nat)(g:bh):e8:=λE b=>∃c,b[i]? =some (some (.set (cD w) c))/\g (DY f m b) λd=>∃k,d= .int k/\c.length<=300/\E.nx (b.set i (some (.set (cD w) (zS c k))))
theorem JU(m:Bool)(i:Nat)(A:DE Z X e te)(g:md.getD i 0=99:=by rfl)(C:X.N[i]? =some x:=by rfl)(I:ub X.env.scope x:=by first|exact Or.inl rfl|exact Or.inr (Or.inl rfl) |exact Or.inr (Or.inr rfl))(j:(x==("__debug__":Str))=false:=by decide)(J:(x==("__classdict__":Str))=false:=by decide)
  (L:attributeBase (.Name x c) "add" X.env (eval (.Name x c) X.env)=eval (.Name x c) X.env:=by rfl)
  (O:((backTo aQ (starEach [e] X.env)).all (λx=>!x.1)&&(backToKw aQ (keywordEach [] X.env)).all (λx=>x.1.isSome)&&decide (([e]:List Expr).length+([]:List Keyword).length+(if ([]:List Keyword).isEmpty then 0 else 1)<30))=true:=by rfl)
  (P:(apos.endLine==aQ.line)=true:=by rfl) (p:starEach [e] X.env=(false,eval e X.env)::starEach [] X.env:=by rfl) (Q:(backTo aQ (starEach [] X.env)).any (·.1)=false:=by rfl)
  (R:swapsWith (.Call (.Attribute (.Name x c) "add" apos) [e] [] aQ) none pos.line X.env=pure false:=by rfl):
  DSt Z X md rn (.Expr (.Call (.Attribute (.Name x c) "add" apos) [e] [] aQ) pos) (Qx X.w md m i te):=by
 refine(pJ (NN acp PySem.F.slot_set_add PySem.F.type_set_add KZ (pv i C I j J) (eZ A g6 p) L O P p Q) R).imp ?_;intro D σ H T;rfl';obtain⟨B,ρ,E,⟨G,U,S⟩,⟨Y,r,h⟩,M⟩:=T;ac_rfl;rfl';obtain⟨v0,n,s⟩:=S.at_ i _ r;rw[g] at s;obtain⟨l,rfl,a,_⟩:=s.PK;ac_rfl;refine⟨_,n,⟨l,_,_,rfl,a⟩,S.ev m h λd j=>?_⟩;obtain⟨k,rfl,o,hn⟩:=j;refine⟨by cases m<;>trivial,λv G' H' t x dv=>?_⟩
 cases dv.ofInt;obtain⟨v1,u,y⟩:=t.at_ i _ r;rw[n] at u;cases FB u;rfl';rw[g] at y;obtain⟨l',e',Rt,z⟩:=y.PK;cases e';ac_rfl;refine⟨l,_,Y,k,rfl,rfl,Rt,rfl,o,M.nx _ hn _ _ ⟨G',U,t.mut n (b:=l) (by rw[z];simp) ?_⟩⟩
 rw[g,z];exact .inr (.inr ⟨l,_,rfl,aB,rfl, .inl ⟨rfl,_,_,rfl,rfl⟩⟩)
def UG(g:List Nat)(i:Nat)(h:bh):e8:=λE b=>∃c,b[i]? =some (some (.lst c))/\h (eE g b) λd=>∃f,d= .lst f/\c.length+f.length<=sizeLine/\E.nx (b.set i (some (.lst (c++f))))
theorem MG(i:Nat)(w:DE Z X e te)(j:md.getD i 0=1:=by rfl)(y:X.N[i]? =some x:=by rfl)(z:ub X.env.scope x:=by first|exact Or.inl rfl|exact Or.inr (Or.inl rfl) |exact Or.inr (Or.inr rfl))(g:(x==("__debug__":Str))=false:=by decide)(A:(x==("__classdict__":Str))=false:=by decide)
  (C:attributeBase (.Name x c) "extend" X.env (eval (.Name x c) X.env)=eval (.Name x c) X.env:=by rfl)
  (I:((backTo aQ (starEach [e] X.env)).all (λx=>!x.1)&&(backToKw aQ (keywordEach [] X.env)).all (λx=>x.1.isSome)&&decide (([e]:List Expr).length+([]:List Keyword).length+(if ([]:List Keyword).isEmpty then 0 else 1)<30))=true:=by rfl)
  (J:(apos.endLine==aQ.line)=true:=by rfl) (m:starEach [e] X.env=(false,eval e X.env)::starEach [] X.env:=by rfl) (L:(backTo aQ (starEach [] X.env)).any (·.1)=false:=by rfl)
  (O:swapsWith (.Call (.Attribute (.Name x c) "extend" apos) [e] [] aQ) none pos.line X.env=pure false:=by rfl):
  DSt Z X md rn (.Expr (.Call (.Attribute (.Name x c) "extend" apos) [e] [] aQ) pos) (UG md i te):=by
 refine(pJ (xV W1 PySem.F.slot_list_extend PySem.F.type_list_extend Fh (pv i y z g A) (eZ w g6 m) C I J m L) O).imp ?_;intro D σ H P;rfl';obtain⟨B,ρ,E,⟨G,Q,S⟩,⟨ds,p,h⟩,M⟩:=P;ac_rfl;rfl';obtain⟨l,xs,_,_,q,R,_⟩:=S.one j p;ac_rfl;refine⟨_,q,ty_list R,S.ev false h λd g=>⟨trivial,λv T H' r x dv=>?_⟩⟩;rfl';obtain⟨zs,rfl,U,Y⟩:=g;obtain⟨l',a,rE,k,s,o,t,put⟩:=r.one j p;cases k;ac_rfl;rw[q] at s;cases s;cases dv with
 | @lst b ys _ hb u=>
  exact⟨l,b,a,ys,rfl,rfl,o,r.ex.sub _ _ hb,by rw[t.length,u.length];exact U,M.nx _ Y _ _ ⟨T,Q,put _ _ (t.append u)⟩⟩
end
section
variable {Z:DC} {X:Cx} {md:List Nat} {rn:Nat} {elt t0 i0 t1 i1:Expr} {f0 f1:List Expr} {scope:Scope} {pos:Pos} {wi cY:iI} {g g1:eV} {tt cI:eo} {te:bh} {src:List (Option Nat)} {NC:List Str}
def Ph(b:iI)(g:eV)(c:eo)(d:iI)(e:eV)(f:eo)(h:bh)(src:List (Option Nat)):mN:=λa P=>b a λi=>iM g c d e f h i (yq src a) [] λout=>P out
theorem Il:∀σ H Q,xE Z 1 (Ph wi g tt cY g1 cI te src) σ H Q->Hk (rP Z wi) (pj Z g) (liftT Z tt) (rP Z cY) (pj Z g1) (liftT Z cI) (eC Z te) src σ H Q:=by
 intro σ H Q aO;rfl';obtain⟨G,ρ,P,s,en,h,q⟩:=aO;ac_rfl;refine⟨G,ρ,_,s,en,h,λr hd J E t F it a hA=>?_⟩;refine⟨λi m fA I=>m=r.length-i/\i<=r.length/\∃u f,CS Z E t a u f fA I/\iM g tt cY g1 cI te (r.drop i) u f λout=>P out,⟨_,rfl,cF _,_,[], .begin F.sub hA ((en.mono F.gg).src src),hd⟩,?_⟩;intro i m fA I gH;rfl';obtain⟨rfl,hi,u,f,c,hl⟩:=gH;ac_rfl
 by_cases bT:i<r.length
 ·have c0:=c
  obtain⟨R,j,S,s2,U,off,gA,T,bx,QO⟩:=c;obtain⟨go,_,yld⟩:=it R I S s2 i;refine .inr ⟨go bT,λY L=>∃X cE,CS Z E t a X cE Y L/\iM g tt cY g1 cI te (r.drop (i+1)) X cE λout=>P out,λY L n=>⟨r.length-(i+1),by lia,rfl,bT,n⟩,λx H3 y=>?_⟩
  rfl';obtain⟨G3,d,x3,Kg,dv⟩:=yld x H3 bT y;rw[lQ Kg] at hl;ac_rfl;refine⟨G3,u,d,_,x3.sub,QO.mono x3.gg,dv,hl,λbq M fJ sO=>?_⟩;refine⟨G3,bq,_,x3.sub,sO,M,λb l G5 H5 x5=>?_⟩;have w:=x3.trans x5;have tD:∀{G N:Hp},Ext R I G N->G a=none:=λx=>x.off a (by rw[T];exact λz=>nomatch z) gA
  have mh:∀{G N:Hp},Ext R I G N->∀b,t b≠none->E b=none->G b=none:=λx b M h2=>x.off b (fO U M) (off b M h2);cases b with
  |false=>exact ck ⟨bq,f,⟨G5,j,S.trans w.gg,w.sub,U.trans w.hh,mh w,tD w,w.hh _ _ T,bx.mono w.gg,sO.mono x5.gg⟩,by simpa using l⟩
  |true=>
   refine dJ ⟨G5,bq,_,x5.sub,sO.mono x5.gg,(by simpa using l),λO Ri J1 G6 H6 x6 CY=>?_⟩
   have x:=w.trans x6;have c6:CS Z G6 H6 a bq f fJ H6->True:=λ_=>trivial
   refine⟨λk m qk A=>m=O.length-k/\k<=O.length/\∃(y8:DN)(oG:List D),(∃(G:Hp)(j:List V),aP G6 G/\aP G A/\aP t A/\(∀b,t b≠none->E b=none->G b=none)/\G a=none/\A a=some (.lst j)/\DvAll Z G j oG/\dR Z G qk y8)/\
    lcW g1 cI te (O.drop k) y8 oG λu lO=>iM g tt cY g1 cI te (r.drop (i+1)) u lO λout=>P out,
    ⟨_,rfl,cF _,bq,f,⟨G6,j, .refl _,x.sub,U.trans x.hh,mh x,tD x,x.hh _ _ T,bx.mono x.gg,(sO.mono x5.gg).mono x6.gg⟩,Ri⟩,?_⟩
   intro k m qk A gH;rfl';obtain⟨rfl,hk,y8,oG,⟨G7,BZ,a1,a2,a3,a4,a5,a6,a7,a8⟩,A2⟩:=gH;ac_rfl;have QV:aP E G6:=S.trans x.gg
   by_cases xh:k<O.length
   ·obtain⟨QY,_,Mj⟩:=CY G7 A a1 a2 k
    refine .inr ⟨QY xh,λY L=>∃(X:DN)(cE:List D),(∃(G:Hp)(j:List V),aP G6 G/\aP G L/\aP t L/\(∀b,t b≠none->E b=none->G b=none)/\G a=none/\L a=some (.lst j)/\DvAll Z G j cE/\dR Z G Y X)/\
     lcW g1 cI te (O.drop (k+1)) X cE λu lO=>iM g tt cY g1 cI te (r.drop (i+1)) u lO λout=>P out,λY L n=>⟨O.length-(k+1),by lia,rfl,xh,n⟩,λy H8 hy=>?_⟩
    rfl';obtain⟨G8,d8,x8,Rg,QM⟩:=Mj y H8 xh hy;rw[lQ Rg] at A2;ac_rfl;refine⟨G8,y8,d8,_,x8.sub,a8.mono x8.gg,QM,A2,λCa h9 σ9 AM=>?_⟩;refine⟨G8,Ca,_,x8.sub,AM,h9,λb l Je Jf yJ=>?_⟩;have B:=x8.trans yJ;have oA:∀{G N:Hp},Ext G7 A G N->G a=none:=λx=>x.off a (by rw[a6];exact λz=>nomatch z) a5
    have oB:∀{G N:Hp},Ext G7 A G N->∀b,t b≠none->E b=none->G b=none:=λx b M h2=>x.off b (fO a3 M) (a4 b M h2);cases b with
    |false=>exact ck ⟨Ca,oG,⟨Je,BZ,a1.trans B.gg,B.sub,a3.trans B.hh,oB B,oA B,B.hh _ _ a6,a7.mono B.gg,AM.mono yJ.gg⟩,by simpa using l⟩
    |true=>
     refine dJ ⟨Je,Ca,_,yJ.sub,AM.mono yJ.gg,(by simpa using l),λd' qJ v PX Mq Mi JW=>?_⟩
     have C:=B.trans Mi;refine⟨BZ,C.hh _ _ a6,by rw[a7.length];exact qJ.1,Ca,_,⟨PX,BZ++ [v],a1.trans C.gg,λb o e=>?_,λb o e=>?_,oB C,oA C,aB,(a7.mono C.gg).snoc JW,(AM.mono yJ.gg).mono Mi.gg⟩,qJ.2⟩
     ·rw[aN (bu e (oA C))];exact C.sub _ _ e
     ·rw[aN (bu e hA)];exact(a3.trans C.hh) _ _ e
   ·have e:O.drop k= []:=yX (by lia)
    rw[e] at A2;exact .inl ⟨(CY G7 A a1 a2 k).2.1 (by lia),y8,oG,⟨G7,BZ,QV.trans a1,a2,a3,a4,a5,a6,a7,a8⟩,A2⟩
 ·have e:r.drop i= []:=yX (by lia)
  rw[e] at hl;obtain⟨R,j,S,s2,U,off,gA,T,bx,en⟩:=c;refine .inl ⟨(it R I S s2 i).2.1 (by lia),q _ hl (.ref a) [a] R I ⟨F.gg.trans S,s2,F.hh.trans U,λb l hg=>off b (fO F.hh l) (F.off b l hg)⟩ (.inl ⟨a,j,f,[],rfl,rfl,T,rfl,bx.own⟩) (by simp) λb l=>?_⟩
  have:b=a:=by simpa using l
  subst this;exact⟨F.hh.free hA,(by rw[T];exact λz=>nomatch z),gA⟩
theorem Et(i:Nat)(e:X.calm=true)(f:X.N.Nodup)(c:cu X scope)(j:dk scope X.N src NC)(k:DI Z X t0 i0 wi)
  (l:∀a s H,DG Z (b8 X scope NC a s H) t0 g) (m:∀a s H,vE Z (b8 X scope NC a s H) f0 tt) (n:∀a s H,DI Z (b8 X scope NC a s H) t1 i1 cY) (o:∀a s H,DG Z (b8 X scope NC a s H) t1 g1)
  (p:∀a s H,vE Z (b8 X scope NC a s H) f1 cI) (q:∀a s H,DE Z (b8 X scope NC a s H) elt te)
  (r:swapsWith (.ListComp elt [⟨t0,i0,f0,0⟩,⟨t1,i1,f1,0⟩] scope pos) (some (.Name x b)) d.line X.env=pure true:=by rfl) (t:md.getD i 0=1:=by rfl) (u:X.N[i]? =some x:=by rfl) (v:Loc X.env.scope x:=by first|exact Or.inl rfl|exact Or.inr rfl)
  (w:X.fn x=true\/X.env.scope.names.lookup x=some .local:=by first|exact .inl rfl|exact .inr rfl|assumption)
  (y:∀x,foldedSetIterable i0 X.env x=pure x:=by intro _;rfl) (z:∀env x,foldedSetIterable i1 env x=pure x:=by intro _ _;rfl):
  DSt Z X md rn (.Assign [.Name x b] (.ListComp elt [⟨t0,i0,f0,0⟩,⟨t1,i1,f1,0⟩] scope pos) d) (JF md i (Ph wi g tt cY g1 cI te src)):=by
 refine(xZ e f u v c j k l m n o p q r w y z).imp ?_;intro D A H C;rfl';obtain⟨B,J,E,⟨G,L,S⟩,h,M⟩:=C;ac_rfl;exact Il A H _ (uy t S h M)
end
section
variable {Z:DC} {X:Cx}
end
theorem fK.ok{P:Program}{w:World}{H:Hp}(x:fK b a d h):dO P w H h a (.ext (fK b a d)):=by
 refine⟨x,let ⟨o,_,_,_,c,_⟩:=x;⟨o,c⟩,λg i p k=>?_⟩;obtain⟨o,e,f,t,c,r⟩:=p;exact⟨o,e,f,t,k o c,r⟩
theorem jE.mem:∀{b:List (Int×Addr)}{c:List (Int×Int)},jE H b c->∀e∈b,∃p∈c,e.1=gK p/\H e.2=some (.tup [.int p.1, .int p.2])
 |_,_, .nil,e,a=>nomatch a
 |_,_, .cons (p:=p) h t,e,a=>by
  rcases cC.mp a with rfl|a
  ·exact⟨p,cg ..,rfl,h⟩
  ·obtain⟨q,d,f⟩:=t.mem e a
   exact⟨q,cG _ d,f⟩
theorem jE.Pq:∀{c:List (Int×Addr)}{d:List (Int×Int)},jE H c d->∀p∈d,∃a,(gK p,a)∈c/\H a=some (.tup [.int p.1, .int p.2])
 |_,_, .nil,p,b=>nomatch b
 |_,_, .cons (a:=a) h t,p,b=>by
  rcases cC.mp b with rfl|b
  ·exact⟨a,cg ..,h⟩
  ·obtain⟨e,f,g⟩:=t.Pq p b
   exact⟨e,cG _ f,g⟩
theorem jE.len:∀{a:List (Int×Addr)}{b:List (Int×Int)},jE H a b->a.length=b.length
 |_,_, .nil=>rfl
 |_,_, .cons _ t=>Gc (·+1) t.len
theorem jE.snoc(h:H a=some (.tup [.int p.1, .int p.2])):∀{b:List (Int×Addr)}{c:List (Int×Int)},jE H b c->jE H (b++ [(gK p,a)]) (c++ [p])
 |_,_, .nil=> .cons h .nil
 |_,_, .cons h' t=> .cons h' (jE.snoc h t)
section
variable {X:Cx} {pins:List (Addr×Obj)} {σ:St} {H:Hp} {s:Shared}
theorem Inv.Dr{p:Int×Int}(I:Inv X pins σ H s)(h:H a=some (.tup [.int p.1, .int p.2])):IsTupleKey (intKind X.prog X.w) s.heap [p.1,p.2] a:=by
 rfl';obtain⟨c,r,⟨o,d,e,n,f⟩,_⟩:=I.tuple (gO.of h);obtain⟨i,j,rfl,⟨t,rfl⟩,⟨u,rfl⟩⟩:=Vals.two r;ac_rfl;exact⟨o,_,n,d,e,f, .cons (by simp[intKind,Value.isInt]) (.cons (by simp[intKind,Value.isInt]) .nil)⟩
theorem Inv.qb(I:Inv X pins σ H s)(h:H a=some (.ext (fK b a c))):fK b a c s.heap:=(I.hok a _ h).1
theorem tG(P:Program)(w:World)(p:Int×Int):tupleKeyHash (intKind P w) [p.1,p.2]=gK p:=rfl
theorem Inv.Yc(I:Inv X pins σ H s)(g:jE H b f)(h:a.toList.Perm (b.map λe=>(e.1,Value.ref e.2))):Jn X.prog X.w s.heap a:=λi e c=>by
 rfl';have k:e∈a.toList:=by rw[<-fi] at c;exact fH c
 obtain⟨d,l,rfl⟩:=bY.mp (h.mem_iff.mp k);obtain⟨p,_,m,n⟩:=g.mem d l;ac_rfl;exact⟨[p.1,p.2],d.2,by rw[tG,m],I.Dr n⟩
theorem Inv.oW{h:List (Int×Addr)}{j:List (Int×Int)}{b:Array (Int×Value)}(I:Inv X pins σ H s)(k:jE H h j)(l:b.toList.Perm (h.map λe=>(e.1,Value.ref e.2)))(p:Int×Int):
  (∃(i:Nat)(c:Addr),b[i]? =some (tupleKeyHash (intKind X.prog X.w) [p.1,p.2], .ref c)/\IsTupleKey (intKind X.prog X.w) s.heap [p.1,p.2] c)↔p∈j:=by
 constructor
 ·rintro⟨i,c,d,f⟩
  have g:(tupleKeyHash (intKind X.prog X.w) [p.1,p.2],Value.ref c)∈b.toList:=by rw[<-fi] at d;exact fH d
  obtain⟨m,r,t⟩:=bY.mp (l.mem_iff.mp g);obtain⟨q,u,x,n⟩:=k.mem m r
  have:m.2=c:=by have:=(aal t).2;injection this
  rw[this] at n
  have:=(I.Dr n).inj f
  simp at this
  have:q=p:=aaC this.1 this.2
  rw[<-this];exact u
 ·intro v
  obtain⟨a,d,f⟩:=k.Pq p v;have g:(gK p,Value.ref a)∈b.toList:=l.mem_iff.mpr (bY.mpr ⟨_,d,rfl⟩);obtain⟨i,o⟩:=List.mem_iff_getElem?.mp g;rw[fi] at o;exact⟨i,a,by rw[tG];exact o,I.Dr f⟩
theorem Iy(c:Gl X "set")(d:X.mg "set"=none):PE X (.Call (.Name "set" p) [] [] pos) (λf H Q=>∀q,H q=none->Q (.ref q) (upd H q (.ext (fK (cD X.w) q [])))):=by
 intro a s f H Q I h;refine UV (iE I c d (u:= .type "set") (by decide+kernel) ?_ (by decide) (by decide))
 refine abL rfl (abM (sE ?_));have g:=I.hok.fresh (bJ _);exact⟨.ref s.heap.objs.size,_,I.laid (t':=s.toks) (λb o e=>AC _ e) (bJ _) (o:= .ext (fK (cD X.w) s.heap.objs.size [])) (fK.ok ⟨_,_,_,_,GM _ rfl,fB.new X.w, .refl _⟩),rfl,h _ g⟩
theorem Wr(i:X.A.units+64<cLine)(I:Inv X pins σ H s)(j:H c=some (.tup [.int p.1, .int p.2]))(k:H a=some (.ext (fK (cD X.w) a e)))(f:jE H e b)
  (h:∀d,Q (decide (p∈b)) {s with toks:=d}):wpAny (model X.prog X.w) X.A (contains (.ref a) (.ref c)) Q E s:=by
 rfl';obtain⟨o,m,r,t,n,S,g⟩:=I.qb k;ac_rfl;refine tW i n S (I.Yc f g) (I.Dr j) λd=>?_
 have:PySem.oW X.prog X.w s.heap m [p.1,p.2]=decide (p∈b):=by
  classical
  unfold PySem.oW;exact aar.mpr (I.oW f g p)
 rw[this];exact h d
theorem Fw(f:X.A.units+64<cLine):OpR X (compareOp .NotIn) (λx y H Q=>∃c a b d p,x= .ref c/\y= .ref a/\H c=some (.tup [.int p.1, .int p.2])/\H a=some (.ext (fK (cD X.w) a b))/\jE H b d/\Q (.bl (!decide (p∈d))) H):=by
 intro e s n H x y v u Q I g i h;rfl';obtain⟨c,a,b,d,p,rfl,rfl,k,l,m,q⟩:=h;ac_rfl;cases g;cases i;exact be (Wr f I k l m λr=>mo ⟨.bl _,H,I.tok _,rfl,q⟩)
theorem KY(hu:X.A.units+64<cLine):Ef X "set.add" (λx k H Q=>∃l c d a p,x= .ref l/\k= [.ref c]/\H c=some (.tup [.int p.1, .int p.2])/\H l=some (.ext (fK (cD X.w) l d))/\jE H d a/\a.length<=300/\
  (p∈a->Q .bA H)/\(p∉a->Q .bA (upd H l (.ext (fK (cD X.w) l (d++ [(gK p,c)])))))):=by
 intro m s σ H x k v us Q I C E h;rfl';obtain⟨l,c,d,a,p,rfl,rfl,J,n,g,hz,L,M⟩:=h;subst C;obtain⟨u,rfl,N⟩:=E.one;subst N;obtain⟨o,O,ep,t,q,S,f⟩:=I.qb n;have P:s.TypeIs (.ref l) "set":=⟨o,q,S.ex.1⟩;ac_rfl;refine Re F.slot_set_add P F.entry_set_add ?_ (F.args_set_add_2 _ _);unfold Builtin.«set.add» Builtin.Frozenset.oneOther;simp only[aa9,bind_assoc];unfold Builtin.Frozenset.addrOf setAdd;refine be (mo ?_)
 try dsimp only
 refine be (mo ?_)
 try dsimp only
 refine be ?_;refine KF ?_;have r:=I.Dr J;refine be (wpAny_pyHash_tuple ?_ r ?_)
 ·show X.A.units+1<cLine;lia
 have sz:O.size=a.length:=by
  have:=f.length_eq
  rw[eN,aD,g.len] at this;exact this
 refine BS (s:={s with toks:=s.toks+([p.1,p.2].length+1)}) (by show X.A.units+1<cLine;lia) q S (I.Yc g f) r (by lia) (λR=>?_) λT h' y U Y t' Z B S' j=>?_
 ·show wpAny _ _ (ret Value.none) _ _ _
  exact mo ⟨_,rfl, .bA,H,I.tok _,rfl,L ((I.oW g f p).mp R)⟩
 ·show wpAny _ _ (ret Value.none) _ _ _
  have oZ:p∉a:=λz=>by
   obtain⟨i,c',h1,h2⟩:=(I.oW g f p).mpr z;exact T i _ h1 c' rfl h2
  have I':=I.write (h':=h') (t':=s.toks+([p.1,p.2].length+1)) (x:=l) (e:=l) (o:= .ext (fK (cD X.w) l (d++ [(gK p,c)]))) (by rw[n];trivial) (.inl rfl) (λb u hb e=>Z.extBut b u hb e) ⟨y,B⟩ (fK.ok ⟨y,U,Y,t',B,S',by
   rw[cJ];exact j.trans (f.append_right _)⟩)
  exact mo ⟨_,rfl, .bA,_,I',rfl,M oZ⟩
def Zp(b:Bool)(r:V->List V->Hp->VK->Prop)(d:TE)(t:TA):TE:=λa H Q=>d a H λx c=>(∃p e,x= .ref p/\c p=some (.ext (fK b p e)))/\t a c λf g=>r x f g Q
variable {o e:Expr} {es:List Expr} {to:TE} {t:TA} {name:Str} {apos aQ:Pos} {id:String} {r:V->List V->Hp->VK->Prop}
theorem NM{b:Bool}(n:PlainAttrs "set")(slot:Slot "set" name id)(q:typeOf (.builtin id)=pure (.type "method_descriptor"))(u:Ef X id r)(w:PE X o to)(y:PA X (e::d) t)
  (z:attributeBase o name X.env (eval o X.env)=eval o X.env:=by rfl)
  (A:((backTo f (starEach (e::d) X.env)).all (λx=>!x.1)&&(backToKw f (keywordEach [] X.env)).all (λx=>x.1.isSome)
   &&decide ((e::d).length+([]:List Keyword).length+(if ([]:List Keyword).isEmpty then 0 else 1)<30))=true:=by rfl)
  (B:(apos.endLine==f.line)=true:=by rfl) (C:starEach (e::d) X.env=(false,eval e X.env)::starEach d X.env:=by rfl) (E:(backTo f (starEach d X.env)).any (·.1)=false:=by rfl):
  PE X (.Call (.Attribute o name apos) (e::d) [] f) (Zp b r to t):=by
 intro c s g H Q I h;refine aaZ z A B rfl (thn (w c s g H _ I h) λv F G=>?_);rfl';obtain⟨x,L,j,M,N,O⟩:=G;ac_rfl;rfl';obtain⟨p,gW,rfl,P⟩:=N;subst M;obtain⟨k,_,_,_,l,S,_⟩:=j.qb P;ac_rfl;refine⟨"set",id,n,slot,q,⟨k,l,S.ex.1⟩,λa R=>?_,?_⟩
 ·cases R;exact⟨k,l,S.ex.2.1⟩
 have m:=y f c F g L _ j O;rw[C] at m ⊢;refine aaD (by show(false|| (backTo f (starEach d X.env)).any (·.1))=false;rw[E]<;>rfl) (abi ?_)
 exact thn m λT U ⟨Y,Z,I2,r2,q2⟩=>u c U g Z (.ref p) Y (.ref p) T Q I2 rfl r2 q2
end
def CQ(a:List (Int×Int))(p:Int×Int):List (Int×Int):=if p∈a then a else a++ [p]
section
variable {Z:DC} {X:Cx} {B:Bs} {md:List Nat} {rn:Nat} {ρ:DN} {σ:St} {H G:Hp} {fp:Nat->List Addr} {a e k o:Expr} {ta te tk tp:bh} {pos apos aQ p2:Pos}
def R4(p:Int×Int):D:= .tup [.int p.1, .int p.2]
theorem Dv.Px(h:Dv Z G v (R4 p)):∃c,v= .ref c/\G c=some (.tup [.int p.1, .int p.2]):=by
 rfl';obtain⟨c,l,rfl,b,f⟩:=Dv.uA h;obtain⟨m,n,rfl,g,i⟩:=f.Bw;rw[g.ofInt,i.ofInt] at b;ac_rfl;exact⟨c,rfl,b⟩
def UI(w:World)(neg:Bool):gz:=λa b P=>∃p c,a=R4 p/\b= .x (.tJ (cD w) c)/\P (.bl (if neg=true then !decide (p∈c) else decide (p∈c)))
theorem Fq(d:X.A.units+64<cLine):OpR X (compareOp .NotIn) (bW Z (UI X.w true)):=by
 refine(Fw d).imp ?_;rintro x y H Q ⟨G,a,b,P,s,f,g,⟨p,i,rfl,rfl,h⟩,q⟩;obtain⟨c,rfl,j⟩:=f.Px;cases g with
 |x l ok=>
  rfl';obtain⟨_,n,rfl,r⟩:=ok;ac_rfl;exact⟨c,_,n,i,p,rfl,rfl,s _ _ j,s _ _ l,r.mono s,q _ h _ G H (.refl s) (.bl _)⟩
def MB(w:World)(i:Nat):e8:=λE b=>E.nx (b.set i (some (.x (.tJ (cD w) []))))
theorem HI(i:Nat)(m:X.N.Nodup)(n:Gl X "set")(q:X.mg "set"=none)(r:s.getD i 0=98:=by rfl)(t:X.N[i]? =some x:=by rfl)(u:Loc X.env.scope x:=by first|exact Or.inl rfl|exact Or.inr rfl)(v:swapsWith (.Call (.Name "set" p) [] [] y) (some (.Name x d)) pos.line X.env=pure false:=by rfl)
  (A:X.fn x=true\/X.env.scope.names.lookup x=some .local:=by first|exact .inl rfl|exact .inr rfl|assumption):DSt Z X s L (.Assign [.Name x d] (.Call (.Name "set" p) [] [] y) pos) (MB X.w i):=by
 refine(qz m t u (Iy n q) v A).imp ?_;intro D O H C;rfl';obtain⟨B,Q,E,⟨G,R,S⟩,h,M⟩:=C;ac_rfl;intro c g;have I:G c=none:=S.ex.sub.free g;have x:Ext G H G (upd H c (.ext (fK (cD X.w) c []))):=⟨.refl _,S.ex.sub.trans (aY g _),aY g _,λ_ _ z=>z⟩;refine M.nx _ h _ _ ⟨G,_,(S.grow x).He r (f:= [c]) (.inr (.inr ⟨c,_,rfl,aB,rfl, .inr ⟨rfl,_,rfl,jj,[],rfl, .nil⟩⟩)) (by simp) (λb l=>?_) λb l j _ J=>?_⟩
 ·rw[e7] at l;subst l
  exact⟨S.ex.hh.free g,(by rw[aB];exact λz=>nomatch z),I⟩
 ·rw[e7] at l;subst l
  exact(S.nw j _ J).2.1 g
def Qw(w:World)(f:List Nat)(m:Bool)(i:Nat)(g:bh):e8:=λE b=>∃c,b[i]? =some (some (.x (.tJ (cD w) c)))/\g (DY f m b) λd=>∃p,d=R4 p/\c.length<=300/\E.nx (b.set i (some (.x (.tJ (cD w) (CQ c p)))))
theorem JT(m:Bool)(i:Nat)(hu:X.A.units+64<cLine)(he:DE Z X e te)(s:md.getD i 0=98:=by rfl)(hi:X.N[i]? =some x:=by rfl)(hv:ub X.env.scope x:=by first|exact Or.inl rfl|exact Or.inr (Or.inl rfl) |exact Or.inr (Or.inr rfl))(t:(x==("__debug__":Str))=false:=by decide)(gE:(x==("__classdict__":Str))=false:=by decide)
  (dB:attributeBase (.Name x g) "add" X.env (eval (.Name x g) X.env)=eval (.Name x g) X.env:=by rfl)
  (gY:((backTo aQ (starEach [e] X.env)).all (λx=>!x.1)&&(backToKw aQ (keywordEach [] X.env)).all (λx=>x.1.isSome)&&decide (([e]:List Expr).length+([]:List Keyword).length+(if ([]:List Keyword).isEmpty then 0 else 1)<30))=true:=by rfl)
  (cy:(apos.endLine==aQ.line)=true:=by rfl) (I:starEach [e] X.env=(false,eval e X.env)::starEach [] X.env:=by rfl) (dq:(backTo aQ (starEach [] X.env)).any (·.1)=false:=by rfl)
  (kW:swapsWith (.Call (.Attribute (.Name x g) "add" apos) [e] [] aQ) none pos.line X.env=pure false:=by rfl):
  DSt Z X md rn (.Expr (.Call (.Attribute (.Name x g) "add" apos) [e] [] aQ) pos) (Qw X.w md m i te):=by
 refine(pJ (NM (b:=cD X.w) acp PySem.F.slot_set_add PySem.F.type_set_add (KY hu) (pv i hi hv t gE) (eZ he g6 I) dB gY cy I dq) kW).imp ?_;intro D σ H aO;rfl';obtain⟨B,J,E,⟨G,L,S⟩,⟨O,n,h⟩,M⟩:=aO;ac_rfl;rfl';obtain⟨v0,y,P⟩:=S.at_ i _ n;rw[s] at P;obtain⟨l,φ,rfl,hl,_,nd,es,rfl,pe⟩:=P.xA;ac_rfl;refine⟨_,y,⟨l,_,rfl,hl⟩,S.ev m h λd t=>?_⟩;obtain⟨p,rfl,hz,q⟩:=t;refine⟨by cases m<;>trivial,λv Q H' C x dv=>?_⟩
 rfl';obtain⟨c,rfl,R⟩:=dv.Px;obtain⟨v1,T,U⟩:=C.at_ i _ n;rw[y] at T;ac_rfl;cases FB T;rfl';rw[s] at U;obtain⟨l',φ',e',Rt,Y,kg,gW,rfl,k⟩:=U.xA;cases e';ac_rfl;refine⟨l,c,gW,O,p,rfl,rfl,x.sub _ _ R,Rt,k.mono x.sub,hz,λr=>?_,λr=>?_⟩
 ·rw[CQ,tz r] at q
  refine M.nx _ q _ _ ⟨Q,L,?_⟩
  have e:J.set i (some (.x (.tJ (cD X.w) O)))=J:=by
   refine uO λj=>?_
   by_cases z:i=j
   ·subst z
    have bT:=(dQ.mp n).1;rw[qZ bT,n]
   ·rw[yY z]
  rw[e];exact C
 ·rw[CQ,ir r] at q
  refine M.nx _ q _ _ ⟨Q,L,C.mut y (b:=l) (by rw[Y];simp) ?_⟩
  rw[s,Y];refine .inr (.inr ⟨l,_,rfl,aB,rfl, .inr ⟨rfl,_,rfl,?_,_,rfl,k.snoc R⟩⟩);rw[fI];refine⟨kg,by simp,λa ha b o z=>r ?_⟩
  rw[e7] at o;rw[<-o,<-z];exact ha
end
section
variable {Z:DC} {X:Cx}
def Jv:cK:=λa P=>∃L:List (List Nat),a= [.lst (L.map aq)]/\L.length<=1000/\∀M:List (List Nat),M.Perm L->M.Pairwise tq->P (.lst (M.map aq))
theorem MK(h:Dv Z G v (aq r)):∃a,v= .ref a/\G a=some (.lst ((kj r).map V.int)):=by
 obtain⟨a,d,rfl,b,c⟩:=Dv.iw h
 have:d=(kj r).map V.int:=by
  have e:r.map ae=(kj r).map D.int:=by unfold kj;rw[dN];rfl
  rw[e] at c;exact wV c
 rw[this] at b;exact⟨a,rfl,b⟩
theorem N8(h:G a=some (.lst ((kj r).map V.int))):Dv Z G (.ref a) (aq r):=by
 have e:aq r= .lst ((kj r).map D.int):=by unfold aq kj;rw[dN];rfl
 rw[e];exact .lst h (.ints _)
theorem zI:∀{b:List V}{L:List (List Nat)},DvAll Z G b (L.map aq)->∃A:List (Addr×List Nat),b=A.map (λe=>V.ref e.1)/\A.map (·.2)=L/\Ed G A
 |b,[],h=>by cases h;exact⟨[],rfl,rfl,λp c=>by cases c⟩
 |b,r::L,h=>by
  cases h with
  |cons a f=>
   obtain⟨A,g,i,j⟩:=zI f;obtain⟨p,rfl,c⟩:=MK a;refine⟨(p,r)::A,by rw[g];rfl,by rw[<-i];rfl,λq d=>?_⟩
   rcases cC.mp d with rfl|d
   ·exact c
   ·exact j q d
theorem Ed.dv:∀{L:List (Addr×List Nat)},Ed G L->DvAll Z G (L.map λe=>V.ref e.1) ((L.map (·.2)).map aq)
 | [],_=> .nil
 |x::L,h=> .cons (N8 (h x (cg ..))) (Ed.dv λp a=>h p (cG _ a))
theorem Ek(j:X.A.units+64<cLine):dZ X (.builtin "sorted") (kY Z Jv):=by
 refine(wF j).imp ?_;rintro t H Q ⟨G,k,P,s,dv,⟨c,rfl,u,b⟩,q⟩;cases dv with
 |cons a l=>
  cases l;cases a with
  | @lst p v k h e=>
   obtain⟨L,rfl,d,f⟩:=zI e;have w:L.length=c.length:=by rw[<-d];simp
   refine⟨_,L,rfl,cM.of (s _ _ h),λp b=>s _ _ (f p b),by lia,λp M g i m=>?_⟩
   have n:(M.map (·.2)).Perm c:=by rw[<-d];exact i.map _
   have o:Ed (upd G p (.lst (M.map λe=>V.ref e.1))) M:=λx r=>aY (s.free g) _ _ _ (f x (i.mem_iff.mp r));exact q _ (b _ n m) _ _ _ (.new s g) (.lst aB o.dv)
end
section
variable {Z:DC} {X:Cx} {md:List Nat} {rn:Nat} {a b:Expr} {pos:Pos} {ta:iH}
def UR(d:List Nat)(i j:Nat)(e:iH):e8:=λE c=>e (eE d c) λf=>∃a b,f= [a,b]/\E.nx ((c.set i (some a)).set j (some b))
theorem AK(i j:Nat){kt k2 FE}(d:X.calm=true)(e:X.N.Nodup)(f:DA Z X [a,b] ta)(g:X.N[i]? =some x:=by rfl)(k:X.N[j]? =some y:=by rfl)(l:i≠j:=by decide)(m:md.getD i 0=0:=by rfl)(n:md.getD j 0=0:=by rfl)
  (o:X.env.scope.names.lookup x=some .local:=by rfl) (p:X.env.scope.names.lookup y=some .local:=by rfl)
  (hw:swappedStores [.Tuple [.Name x c, .Name y py] kt pt] (.Tuple [a,b] k2 FE) X.env=pure (some [x,y]):=by rfl)
  (q:swapsWithSole [.Tuple [.Name x c, .Name y py] kt pt] (.Tuple [a,b] k2 FE) pos.line X.env=pure false:=by rfl):
  DSt Z X md rn (.Assign [.Tuple [.Name x c, .Name y py] kt pt] (.Tuple [a,b] k2 FE) pos) (UR md i j ta):=by
 refine(NZ d e g k l o p f hw q).imp ?_;intro D I H r;rfl';obtain⟨B,t,E,⟨G,L,S⟩,h,M⟩:=r;ac_rfl;refine⟨G,eE md t,_,S.ex.sub,S.Gs,h,?_⟩;rintro _ ⟨a,b,rfl,w⟩ O z P x A;obtain⟨v,u,rfl,C,F⟩:=A.Bw;exact⟨v,u,rfl,M.nx _ w _ _ ⟨z,_,((S.grow x).qb m C).qb n F⟩⟩
end
end L2
namespace Wb
section
variable {w:W} {R:List Nat} {A:Nat×Nat->Prop}
theorem LJ(R:List Nat)(k:Nat):(R.drop k++R.take k).length=R.length:=by
 rw[b7,fR,cm];lia
end
theorem tB{c d:Type}{f:c->d}{l:List c}(g:l.Nodup)(inj:∀a∈l,∀b∈l,f a=f b->a=b):(l.map f).Nodup:=by
 rw[yV,hZ];exact(yV.mp g).imp_of_mem λ {a b} h i j e=>j (inj a h b i e)
section
variable {w:W} {R:List Nat} {A:Nat×Nat->Prop}
theorem pC{h k:Type}{f:h->List k}:∀{l:List h},l.Nodup->(∀a∈l,(f a).Nodup)->(∀a∈l,∀b∈l,∀x,x∈f a->x∈f b->a=b)->(l.flatMap f).Nodup
 | [],_,_,_=>jj
 |a::l,m,i,j=>by
  obtain⟨n,o⟩:=ie.mp m;rw[mI,fI];refine⟨i a (cg ..),pC o (λb d=>i b (cG _ d)) (λb d c p=>j b (cG _ d) c (cG _ p)),λx q y g e=>?_⟩;obtain⟨b,d,g⟩:=y4.mp g;subst e
  have:=j a (cg ..) b (cG _ d) x q g
  exact n (by rw[this];exact d)
end
end Wb
namespace ou
open PySem L2 Wb
variable {P:Program} {w:World} {mg:Str->Option Value} {base:Heap} {Z:DC} (T:Txt Z mg)
theorem yc{a b:List Nat}(c:a.Pairwise (·<·))(d:b.Pairwise (·<·))(h:∀p,p∈a↔p∈b):a=b:=by
 have e:a.Nodup:=c.imp λh=>cn h;have f:b.Nodup:=d.imp λh=>cn h;exact aaz (λ_ _ _ _ g i=>absurd g (Nat.lt_asymm i)) c d ((Am e f).mpr h)
theorem lex_uniq{a b:List (Nat×Nat)}(c:a.Pairwise lexLe)(d:b.Pairwise lexLe)(e:a.Nodup)(f:b.Nodup)(h:∀p,p∈a↔p∈b):a=b:=
 aaz (λ_ _ _ _=>qu) c d ((Am e f).mpr h)
theorem II{P:D->Prop}(g:L.length<64)(h:∀M:List Nat,M.Perm L->M.Pairwise (·<=·)->P (aq M)):Ay [aq L] P:=by
 refine⟨L.map λ(n:Nat)=>(n:Int),by unfold aq;rw[dN];rfl,by rw[aD];exact g,λc f i=>?_⟩
 have e:∀m∈c,((m.toNat:Nat):Int)=m:=λm d=>by
  obtain⟨n,_,rfl⟩:=bY.mp (f.mem_iff.mp d);simp
 have pn:(c.map Int.toNat).Perm L:=by
  have:=f.map Int.toNat
  rw[dN] at this;rw[show(Int.toNat∘λ(n:Nat)=>(n:Int))=id from by funext n;simp] at this
  simpa using this
 have:=h (c.map Int.toNat) pn (by
  rw[hZ];exact i.imp λ {a b} j=>Int.toNat_le_toNat j)
 unfold aq at this;rw[dN] at this;rw[show c.map D.int=c.map (ae∘Int.toNat) from B7 λm d=>by show D.int m=ae m.toNat;unfold ae;rw[e m d]]
 exact this
theorem KL{L:List Nat}(h:L.Pairwise (·<=·))(c:L.Nodup):L.Pairwise (·<·):=by
 rw[yV] at c;exact(h.and c).imp λ {a b} ⟨d,e⟩=>by lia
def iy(k:Nat×Nat):PyData:= .tuple [nD k.1,nD k.2]
theorem FG(k:Nat×Nat):(pairD k).py=some (iy k):=by
 unfold pairD;rw[D.py,dA,dA,dA];rfl
theorem qq(a b:Nat×Nat):PyData.eqv (iy a) (iy b)=true↔a=b:=by
 unfold iy nD;simp[PyData.eqv,PyData.eqvAll]
 constructor
 ·rintro⟨c,d⟩;exact aaC (by lia) (by lia)
 ·rintro rfl;exact⟨rfl,rfl⟩
theorem sL(l:List (Nat×Nat)):(PyData.list (l.map iy)).depth<=64:=by
 rw[PyData.depth]
 have:=iC (f:=iy) (k:=10) (λn=>by unfold iy nD;simp[PyData.depth,PyData.depthAll]) l
 lia
theorem qA(l:List (Nat×Nat)):(D.lst (l.map pairD)).py=some (.list (l.map iy)):=by rw[D.py,fN FG];rfl
theorem wY(l m:List (Nat×Nat)):PyData.eqv (.list (l.map iy)) (.list (m.map iy))=decide (l=m):=by
 rw[PyData.eqv]
 by_cases e:l=m
 ·rw[FS e];exact(kz qq l m).mpr e
 ·rw[FM e]
  apply y2.mpr;exact λz=>e ((kz qq l m).mp z)
theorem Em{l m:List (Nat×Nat)}{P:D->Prop}(h:P (.bl (decide (l=m)))):Hx (.lst (l.map pairD)) (.lst (m.map pairD)) P:=by
 refine⟨_,_,qA l,qA m,sL l,?_⟩;rw[ir di,wY];exact h
theorem Eo{l m:List (Nat×Nat)}{P:D->Prop}(h:P (.bl (!decide (l=m)))):Hz (.lst (l.map pairD)) (.lst (m.map pairD)) P:=by
 refine⟨_,_,qA l,qA m,sL l,?_⟩;rw[tz rfl,wY];exact h
end ou
namespace Wb
def kP(w:W)(d:Nat×Nat)(r:List (Nat×Nat)):Prop:=∃k,0<k/\gk w k d=d/\(∀j,0<j->j<k->gk w j d≠d)/\r=walk w d k
theorem lZ:e∈walk w d k↔∃i,i<k/\e=gk w i d:=by
 unfold walk;rw[bY]
 constructor
 ·rintro⟨i,a,rfl⟩;exact⟨i,bV.mp a,rfl⟩
 ·rintro⟨i,a,rfl⟩;exact⟨i,bV.mpr a,rfl⟩
theorem kP.first(h:kP w d r):d∈r:=by
 obtain⟨k,a,_,_,rfl⟩:=h;exact lZ.mpr ⟨0,a,rfl⟩
theorem kP.next(h:kP w d r)(a:e∈r):bp w e∈r:=by
 obtain⟨k,b,f,_,rfl⟩:=h;obtain⟨i,g,rfl⟩:=lZ.mp a
 by_cases c:i+1<k
 ·exact lZ.mpr ⟨i+1,c,rfl⟩
 ·have:i+1=k:=by lia
  refine lZ.mpr ⟨0,b,?_⟩;show gk w (i+1) d=d;rw[this];exact f
theorem kP.iter(h:kP w d r)(a:e∈r):∀n,gk w n e∈r
 |0=>a
 |n+1=>h.next (h.iter a n)
theorem kP.back(h:kP w d r)(a:e∈r):∃n,gk w n e=d:=by
 obtain⟨k,c,b,_,rfl⟩:=h;obtain⟨i,f,rfl⟩:=lZ.mp a;refine⟨k-i,?_⟩;rw[<-xp i (k-i),show k-i+i=k by lia]
 exact b
theorem kP.nodup(g:Good w)(h:kP w d r)(a:aG w d):r.Nodup:=by
 obtain⟨k,c,e,b,rfl⟩:=h;exact vw g a b
theorem kP.bP(g:Good w)(h:kP w d r)(a:aG w d):∀e∈r,aG w e:=by
 obtain⟨k,b,c,f,rfl⟩:=h;exact yy g a
structure Wk (w:W) (ds:List (Nat×Nat)) (i:Nat) (rs:List (List (Nat×Nat))):Prop where
 rnd:∀r∈rs,∃d,kP w d r/\aG w d/\∀e∈r,lexLe d e
 nod:rs.flatten.Nodup
 met:∀j e,j<i->ds[j]? =some e->e∈rs.flatten
theorem Wk.zero(w:W)(a:List (Nat×Nat)):Wk w a 0 []:=⟨(λr h=>by cases h),jj,(λj e h=>by lia)⟩
theorem Wk.skip(h:Wk w a i b)(g:a[i]? =some d)(k:d∈b.flatten):Wk w a (i+1) b:=
 ⟨h.rnd,h.nod,λj e l f=>by
  by_cases c:j=i
  ·subst c;rw[g] at f;cases f;exact k
  ·exact h.met j e (by lia) f⟩
theorem Wk.take{w:W}(g:Good w)(all:∀e,aG w e->e∈k)(dart:∀e∈k,aG w e)(u:k.Pairwise lexLe){o:List (List (Nat×Nat))}(h:Wk w k i o)(p:k[i]? =some d)(v:d∉o.flatten)(l:kP w d r):Wk w k (i+1) (o++ [r]):=by
 have s:aG w d:=dart d (fH p)
 have off:∀e∈r,e∉o.flatten:=λe f x=>by
  obtain⟨q,t,y⟩:=uS.mp x;obtain⟨M,A,_,_⟩:=h.rnd q t;obtain⟨n,B⟩:=l.back f;exact v (uS.mpr ⟨q,t,by rw[<-B];exact A.iter y n⟩)
 refine⟨λq C=>?_,?_,λj e m f=>?_⟩
 ·rcases cV.mp C with z|z
  ·exact h.rnd q z
  ·rw[e7.mp z]
   refine⟨d,l,s,λe f=>?_⟩;obtain⟨j,m⟩:=t5 (all e (l.bP g s e f))
   by_cases c:j<i
   ·exact absurd (h.met j e c m) (off e f)
   ·by_cases E:j=i
    ·subst E;rw[p] at m;cases m
     exact .inr ⟨rfl,bJ _⟩
    ·obtain⟨F,G⟩:=dQ.mp p
     obtain⟨H,I⟩:=dQ.mp m;rw[<-G,<-I];exact D8.mp u i j F H (by lia)
 ·rw[B8,fI]
  refine⟨h.nod,by simpa using l.nodup g s,λa J b L e=>?_⟩
  subst e;exact off a (by simpa using L) J
 ·rw[B8,cV]
  by_cases c:j=i
  ·subst c;rw[p] at f;cases f
   exact .inr (by simpa using l.first)
  ·exact .inl (h.met j e (by lia) f)
theorem Wk.fin(g:Good w)(all:∀e,aG w e->e∈a)(h:Wk w a a.length b):b.flatten.Perm (bP w):=by
 have sub:∀e,e∈b.flatten↔e∈bP w:=λe=>by
  rw[cX]
  constructor
  ·intro c
   obtain⟨r,k,f⟩:=uS.mp c;obtain⟨d,R,l,_⟩:=h.rnd r k;exact R.bP g l e f
  ·intro c
   obtain⟨j,i⟩:=t5 (all e c);exact h.met j e (dQ.mp i).1 i
 exact(Am h.nod (jo g)).mpr sub
structure dj (w:W) (rs:List (List (Nat×Nat))):Prop where
 rnd:∀r∈rs,∃d,kP w d r/\aG w d/\∀e∈r,lexLe d e
 perm:rs.flatten.Perm (bP w)
theorem dj.K8(R:dj w a)(p:b.Perm a):dj w b:=
 ⟨λr c=>R.rnd r (p.mem_iff.mp c),(p.flatten).trans R.perm⟩
theorem JM(g:Good w)(h:aG w d):d.1≠d.2:=λe=>g.irr d.1 (by have:d.2∈row w d.1:=h;rw[<-e] at this;exact this)
theorem Ej{w:W}(g:Good w){f:List (Nat×Nat)}(l:f.Perm (kJ (row w) w.length)):(f++f.map λt=>(t.2,t.1)).Perm (bP w):=by
 have e:=qe w;have n:=jo g
 have m:∀t,t∈f↔aG w t/\t.1<t.2:=λt=>by
  rw[l.mem_iff,e,mL,cX,aaE]
 have i:f.Nodup:=l.nodup_iff.mpr (by rw[e];exact n.filter _)
 refine(Am ?_ n).mpr λd=>?_
 ·rw[fI]
  refine⟨i,?_,λa o b p z=>?_⟩
  ·rw[yV,hZ]
   rw[yV] at i;exact i.imp λ {a b} h z=>h (aaC (aal z).2 (aal z).1)
  ·obtain⟨c,j,rfl⟩:=bY.mp p
   have k:=((m a).mp o).2;have q:=((m c).mp j).2;rw[z] at k;have k:c.2<c.1:=k;lia
 ·rw[cV,bY,cX]
  constructor
  ·rintro(h| ⟨c,j,rfl⟩)
   ·exact((m d).mp h).1
   ·exact g.sym _ _ ((m c).mp j).1
  ·intro h
   rcases Nat.lt_or_gt_of_ne (JM g h) with c|c
   ·exact .inl ((m d).mpr ⟨h,c⟩)
   ·exact .inr ⟨(d.2,d.1),(m _).mpr ⟨g.sym _ _ h,c⟩,rfl⟩
theorem kP.uniq(h:kP w d r)(b:kP w d a):r=a:=by
 obtain⟨k,e,f,g,rfl⟩:=h;obtain⟨m,i,j,l,rfl⟩:=b
 rcases Nat.lt_trichotomy k m with c|c|c
 ·exact absurd f (l k e c)
 ·rw[c]
 ·exact absurd j (g m i c)
theorem dj.sub(R:dj w c)(f:dj w a):∀r∈c,r∈a:=λr j=>by
 obtain⟨d,b,k,l⟩:=R.rnd r j;have m:d∈a.flatten:=f.perm.mem_iff.mpr (cX.mpr k);obtain⟨o,g,h⟩:=uS.mp m;obtain⟨p,i,u,q⟩:=f.rnd o g;obtain⟨n,s⟩:=i.back h;have t:lexLe d p:=by rw[<-s];exact l _ (b.iter b.first n)
 have e:=qu t (q d h);subst e;rw[b.uniq i];exact g
theorem dj.ne{a:List (List (Nat×Nat))}(R:dj w a):∀r∈a,r≠ []:=λr b z=>by
 obtain⟨d,c,_⟩:=R.rnd r b
 have:=c.first
 rw[z] at this;cases this
theorem vc:∀{l:List (List c)},l.flatten.Nodup->(∀r∈l,r≠ [])->l.Nodup
 | [],_,_=>jj
 |a::l,h,b=>by
  rw[t7,fI] at h;refine ie.mpr ⟨λd=>?_,vc h.2.1 λr e=>b r (cG _ e)⟩;cases a with
  |nil=>exact b [] (cg ..) rfl
  |cons x a=>exact h.2.2 x (cg ..) x (uS.mpr ⟨_,d,cg ..⟩) rfl
theorem dj.nodup(g:Good w)(R:dj w a):a.Nodup:=vc (R.perm.nodup_iff.mpr (jo g)) R.ne
abbrev jL(a:List (List (Nat×Nat))):List (List Nat):=a.map λr=>r.map (·.1)
theorem Fc(h:L2.tq a b)(c:L2.tq b a):a=b:=by
 have:=L2.tm (L2.kj a) (L2.kj b) c h
 exact L2.DS (by rw[this])
theorem dj.uniq(g:Good w)(R:dj w a)(c:dj w b)(s:(jL a).Pairwise L2.tq)(d:(jL b).Pairwise L2.tq):jL a=jL b:=by
 have e:a.Perm b:=(Am (R.nodup g) (c.nodup g)).mpr λr=>⟨R.sub c r,c.sub R r⟩;exact aaz (λ_ _ _ _=>Fc) s d (e.map _)
open Classical in
noncomputable def cS(w:W):List (List Nat):=if h:∃rs,dj w rs/\(jL rs).Pairwise L2.tq then jL h.choose else[]
theorem Ii(g:Good w)(R:dj w a)(s:(jL a).Pairwise L2.tq):cS w=jL a:=by
 have h:∃a,dj w a/\(jL a).Pairwise L2.tq:=⟨a,R,s⟩;unfold cS;rw[dif_pos h];exact h.choose_spec.1.uniq g R h.choose_spec.2 s
theorem LH(h:kP w d r)(a:i<r.length):r.getD ((i+1)%r.length) (0,0)=bp w (r.getD i (0,0)):=by
 obtain⟨k,b,f,l,rfl⟩:=h;rw[uL] at a ⊢
 have at_:∀j,j<k->(walk w d k).getD j (0,0)=gk w j d:=λj g=>by
  unfold walk;rw[aU,dF,Ap g];rfl
 rw[at_ i a]
 by_cases c:i+1<k
 ·rw[ji c,at_ _ c];rfl
 ·have e:i+1=k:=by lia
  rw[e,rj,at_ 0 b];show d=gk w (i+1) d;rw[e,f]
theorem zP(r:List (Nat×Nat))(i:Nat):(r.map (·.1)).getD i 0=(r.getD i (0,0)).1:=by
 rw[aU,aU,dF];cases r[i]? <;>rfl
theorem LI(g:Good w)(h:kP w d r)(b:aG w d)(a:i<r.length):(r.map (·.1)).getD ((i+1)%r.length) 0∈row w ((r.map (·.1)).getD i 0):=by
 rw[zP,zP,LH h a]
 have c:r.getD i (0,0)∈r:=by
  rw[aU,bB a];exact n0 a
 exact h.bP g b _ c
end Wb
namespace L2
open PySem PySem.Spec PyProof.Rows
section
variable {Z:DC} {X:Cx} {e:Expr} {te:bh} {pos p:Pos}
def MO(c:bh):mN:=λf P=>c f λd=>∃a:List (Nat×Nat),d= .lst (a.map pairD)/\a.length<=1000/\∀b:List (Nat×Nat),b.Perm a->b.Pairwise Wb.lexLe->P (b.map pairD)
theorem HG(n:Gl X "sorted")(o:X.mg "sorted"=none)(r:DE Z X e te)(g:starEach [e] X.env=(false,eval e X.env)::starEach [] X.env:=by rfl)(t:(backTo pos (starEach [] X.env)).any (·.1)=false:=by rfl):DF Z X 1 (.Call (.Name "sorted" p) [e] [] pos) (MO te):=by
 refine(qx qO n o ik (eZ r g6 g) (by decide) (by decide) g t).imp ?_
 intro S H Q u;rfl';obtain⟨G,y,P,s,z,h,q⟩:=u;ac_rfl;refine⟨G,y,_,s,z,h,?_⟩;rintro _ ⟨i,rfl,T,f⟩ v A U b dv;rfl';obtain⟨c,Y,rfl,B,C⟩:=dv.iw;obtain⟨L,rfl,j,k⟩:=uf C;have hL:L.length=i.length:=by rw[<-j];simp
 ac_rfl;refine⟨c,L,rfl,cM.of (b.sub _ _ B),λp f=>b.sub _ _ (k p f),by lia,λa M l m E=>?_⟩
 have F:(M.map (·.2)).Perm i:=by rw[<-j];exact m.map _
 have I:Aw A M:=λx J=>k x (m.mem_iff.mp J);obtain⟨N,O,R⟩:=mm b l (Aw.dv (Z:=Z) I);exact q _ (f _ F E) _ _ _ _ (b.side l) N O R
def MP(w:World)(c:bh):mN:=λf P=>c f λd=>∃a:List Int,d= .set (cD w) a/\a.length<64/\∀b:List Int,b.Perm a->b.Pairwise (·<=·)->P (b.map D.int)
theorem HH(f:X.calm=true)(g:Gl X "sorted")(i:X.mg "sorted"=none)(j:DE Z X e te)(c:starEach [e] X.env=(false,eval e X.env)::starEach [] X.env:=by rfl)(k:(backTo pos (starEach [] X.env)).any (·.1)=false:=by rfl):DF Z X 1 (.Call (.Name "sorted" p) [e] [] pos) (MP X.w te):=by
 refine(qx (ze f) g i ik (eZ j g6 c) (by decide) (by decide) c k).imp ?_
 intro I H Q l;rfl';obtain⟨G,n,P,s,o,h,q⟩:=l;ac_rfl;refine⟨G,n,_,s,o,h,?_⟩;rintro _ ⟨r,rfl,t,u⟩ v x L b dv;cases dv with
 |set y=>
  refine⟨_,r,rfl,b.sub _ _ y,t,λa z d A B=>?_⟩;obtain⟨C,E,F⟩:=mm b d (DvAll.ints (Z:=Z) (H:=x) z);exact q _ (u _ A B) _ _ _ _ (b.side d) C E F
variable {o:Expr} {ta:bh} {m:Str} {f:Addr} {fd:FuncData} {ps:List Str} {sd:cK} {k n:Nat} {apos:Pos}
def QQ(b:cK)(c:bh):mN:=λg P=>c g λd=>∃w,d= .dY w/\b [.dY w] λd=>∃a,d= .lst a/\P a
theorem HE(T:Ce Z)(r:DE Z X o ta)(t:Meth Z.K Z.C m f)(F:FnOk X.prog X.w X.K X.mg X.base cq k f fd ps (fg Z n sd))(u:cU k X.A)(a:Binds X.K fd ps [])(i:X.K=Z.K:=by rfl)
  (x:([("rows",V.ref 0)]:List (Str×V)).lookup m=none:=by decide)
  (y:eval (.Call (.Attribute o m apos) [] [] pos) X.env=(do
   let j <-eval o X.env
   standAt apos.atName
   let (f,first) <-holding [j] (getMethod j m pl)
   callWith pos f first (backTo pos (starEach [] X.env)) (backToKw pos (keywordEach [] X.env))):=by rfl):DF Z X n (.Call (.Attribute o m apos) [] [] pos) (QQ sd ta):=by
 refine(z9 (pl:=pl) r (by rw[i];exact T.cl) (by rw[i];exact t) F u a .nil uD y).imp ?_
 intro σ H Q B;rfl';obtain⟨G,I,P,s,J,h,q⟩:=B;ac_rfl;refine⟨G,I,_,s,J,h,?_⟩;rintro _ ⟨w,rfl,L⟩ v M N c dv;have O:=dv;cases dv with
 | @dY p S R w U A8 g h1 h2=>
  refine⟨p,S,_,rfl,c.sub _ _ U,?_,?_⟩
  ·have Y:(m==("rows":Str))=false:=by
    cases z:(m==("rows":Str)) with
    |false=>rfl
    |true=>simp[bz,z] at x
   simp[bz,Y]
  ·show fg Z n sd (V.ref p::([]++ [])) N Q E0
   refine⟨M,_,_,c.sub, .cons O .nil,L,?_⟩;intro _ e v f G2 H2 x2 o nd l;rfl';obtain⟨ds,rfl,gw⟩:=e;ac_rfl;exact q _ gw v f G2 H2 (c.trans x2) o nd λb a=>⟨c.hh.free (l b a).1,(l b a).2⟩
end
section
variable {Z:DC} {X:Cx} {pins:List (Addr×Obj)} {σ:St} {H:Hp} {s:Shared} {o e:Expr} {ta tb:bh} {apos:Pos}
theorem zW(I:Inv X pins σ H s):∀{c:List V}{f:List PyData}{g:List Value},DpAll X.K H c f->Vals c g->∀(i:Nat)(e:PyData)(u:Value),f[i]? =some e->g[i]? =some u->zg s.heap d u=PyData.eqv e d
 |_,_,_, .nil, .nil,i,e,u,h,_=>by simp at h
 |_,_,_, .cons (d:=n) a j, .cons r k,0,e,u,h,b=>by
  simp at h b;subst h;subst b;obtain⟨⟨p,l⟩,m⟩:=a.reads I r;exact Gu (d:=d) l m
 |_,_,_, .cons a j, .cons r k,i+1,e,u,h,b=>zW I j k i e u (by simpa using h) (by simpa using b)
theorem DpAll.len{K:ac}{H:Hp}:∀{a:List V}{b:List PyData},DpAll K H a b->a.length=b.length
 |_,_, .nil=>rfl
 |_,_, .cons _ t=>Gc (·+1) t.len
theorem Fi(J:X.A.units+64<cLine):Ef X "list.index" (λx B H Q=>∃l i y d b j,x= .ref l/\B= [y]/\H l=some (.lst i)/\Dp X.K H y d/\DpAll X.K H i b/\d.depth<=60/\(∃e,b[j]? =some e/\PyData.eqv e d=true)/\(∀(m:Nat) e,m<j->b[m]? =some e->PyData.eqv e d=false)/\Q (.int (j:Nat)) H):=by
 intro C s Z H x B v us Q I L k h;rfl';obtain⟨l,i,y,d,b,j,rfl,rfl,N,O,p,P,⟨ej,E,t⟩,R,q⟩:=h;subst L;obtain⟨u,rfl,S⟩:=k.one;obtain⟨⟨bs,k⟩,T⟩:=O.reads I S;obtain⟨fz,a,n,r,hl,e⟩:=I.pk N;obtain⟨_,U⟩:=uo I k T P J p r;have ll:=r.length;have ld:=p.len;have zj:j<b.length:=(dQ.mp E).1;have G:j<a.toArray.size:=by rw[cT];lia
 ac_rfl
 have at_:∀m,(f:m<a.toArray.size)->∃c,b[m]? =some c/\zg s.heap d a.toArray[m]=PyData.eqv c d:=λm f=>by
  have Y:m<a.length:=by simpa using f
  refine⟨b[m]'(by lia),bB (by lia),zW I p r m _ _ (bB (by lia)) ?_⟩
  rw[bB Y];simp
 have bT:=kC;refine aaA F.slot_list_index ⟨_,e,rfl⟩ F.entry_list_index (F.args_list_index_2 _ _) (SeqAt.list_indexAt l a.toArray n none #[] u (zg s.heap d) j G (by lia) ?_ ?_) ⟨e,λw hw=>U w (by simpa using hw),?_⟩
 ·obtain⟨c,g,z⟩:=at_ j G
  rw[E] at g;obtain rfl:=FB g;rw[z];exact t
 ·intro m f o
  obtain⟨c,g,z⟩:=at_ m f;rw[z];exact R m c o g
 ·exact⟨.int j,H,I.tok _,⟨_,rfl⟩,q⟩
def JC(f g:bh):bh:=λc P=>f c λd=>∃l,d= .lst l/\g c λy=>∃(b:List PyData)(a:PyData)(j:Nat),dA l=some b/\y.py=some a/\a.depth<=60/\(∃e,b[j]? =some e/\PyData.eqv e a=true)/\(∀(m:Nat) e,m<j->b[m]? =some e->PyData.eqv e a=false)/\P (.int (j:Nat))
theorem Er(n:X.A.units+64<cLine)(r:DE Z X o ta)(t:DE Z X e tb)
  (w:attributeBase o "index" X.env (eval o X.env)=eval o X.env:=by rfl)
  (z:((backTo b (starEach [e] X.env)).all (λx=>!x.1)&&(backToKw b (keywordEach [] X.env)).all (λx=>x.1.isSome)&&decide (([e]:List Expr).length+([]:List Keyword).length+(if ([]:List Keyword).isEmpty then 0 else 1)<30))=true:=by rfl)
  (B:(apos.endLine==b.line)=true:=by rfl) (g:starEach [e] X.env=(false,eval e X.env)::starEach [] X.env:=by rfl) (C:(backTo b (starEach [] X.env)).any (·.1)=false:=by rfl):
  DE Z X (.Call (.Attribute o "index" apos) [e] [] b) (JC ta tb):=by
 refine(xV W1 ab7 ab8 (Fi n) r (eZ t g6 g) w z B g C).imp ?_;intro σ H Q E;rfl';obtain⟨G,i,P,s,k,h,q⟩:=E;ac_rfl;refine⟨G,i,_,s,k,h,?_⟩;rintro _ ⟨l,rfl,I⟩ v J H1 c dv;cases dv with
 | @lst p L ds m e=>
  refine⟨ty_list (c.sub _ _ m),J,i,_,c.sub,k.mono c.gg,I,λy M u N O d R=>?_⟩;rfl';obtain⟨S,a,j,T,U,Y,h4,h5,h6⟩:=M;ac_rfl;exact⟨p,L,u,a,S,j,rfl,rfl,d.hh _ _ (c.sub _ _ m),(R.dp U).mono d.sub,((e.mono d.gg).dp T).mono d.sub,Y,h4,h5,q _ h6 _ N O (c.trans d) (.int _)⟩
end
end L2
namespace Wb
theorem vn(b:a∈l):(a::iZ l a).Perm l:=by
 have:=iA l a
 rw[jV b] at this;exact this
section
variable {w:W} {R:List Nat}
theorem cH.zv(T:cH w R)(g:Good w)(a:i<R.length):(withinL w R i).Nodup:=by
 rw[f7]
 have:=(vn (T.next a)).nodup_iff.mpr (g.nod _)
 exact(ie.mp this).2.sublist (abP _ _)
theorem cH.D2(T:cH w R)(a:i<R.length)(h:z∈withinL w R i):z∈row w (R.getD i 0):=by
 rw[f7] at h;exact(vn (T.next a)).mem_iff.mp (cG _ (abm h))
inductive Fl (w:W) (R:List Nat):Nat->Prop
 |start {i z:Nat}:i<R.length->z∈withinL w R i->z∉R->Fl w R z
 |step {p q:Nat}:Fl w R p->q∈row w p->q∉R->Fl w R q
theorem Fl.lt(g:Good w)(T:cH w R)(h:Fl w R p):p<w.length:=by
 cases h with
 |start a h _=>exact g.rng _ _ (T.D2 a h)
 |step _ h _=>exact g.rng _ _ h
theorem Fl.all{M:Nat->Prop}(a:∀i z,i<R.length->z∈withinL w R i->z∉R->M z)(b:∀p q,M p->q∈row w p->q∉R->M q){p:Nat}(h:Fl w R p):M p:=by
 induction h with
 |start c h n=>exact a _ _ c h n
 |step _ h n d=>exact b _ _ d h n
end
end Wb
namespace ou
open PySem L2 Wb
variable {P:Program} {w:World} {mg:Str->Option Value} {base:Heap} {Z:DC} (T:Txt Z mg)
def zz(d:Nat×Nat):Int×Int:=(d.1,d.2)
theorem OA(h:zz a=zz b):a=b:=aaC (by have:=(aal h).1;lia) (by have:=(aal h).2;lia)
theorem Ho{d:Nat×Nat}{l:List (Nat×Nat)}:zz d∈l.map zz↔d∈l:=by
 rw[bY];exact⟨λ⟨a,b,e⟩=>by rw[<-OA e];exact b,λh=>⟨d,h,rfl⟩⟩
def Og:cK:=λb P=>∃(w:W),b= [.dY w]/\Good w/\w.length<=14/\∀a:List (Nat×Nat),a.Perm (kJ (row w) w.length)->a.Pairwise lexLe->P (.lst (a.map pairD))
theorem KJ(I:DN->Prop)(J:o->DN->Prop)(m:o->D)(f:o->List u)(v:u->D)(p:o->u->Bool)(k:o->u->B)(i:B->D)(G:∀y H,J y H->I H):∀(l:List o)(j:DN)(a:List B)(P:List D->Prop),
  (∀y∈l,∀j,I j->∀(Y:DN->List D->Prop),(∀d,J y d->Y d ((f y).map v))->g (m y) j λd=>A d (Y d))->
  (∀y∈l,∀b∈f y,∀j,J y j->∀(Y:DN->D->Prop)(x:DN->Prop),(∀d,J y d->p y b=true->Y d (i (k y b)))->(∀d,J y d->p y b=false->x d)->r (v b) j λd=>s d λc=>if c=true then t d (Y d) else x d)->
  I j->a.length+(l.flatMap λy=>((f y).filter (p y)).map (k y)).length<=sizeLine->(∀y∈l,a.length+(l.flatMap λy=>((f y).filter (p y)).map (k y)).length+(f y).length<=sizeLine)->P ((a++l.flatMap λy=>((f y).filter (p y)).map (k y)).map i)->iM g nE A r s t (l.map m) j (a.map i) P
 | [],j,a,P,_,_,L,_,_,h=>by
  show P (a.map i);simpa using h
 |y::l,j,a,P,M,N,L,n,O,h=>by
  have C:=O y (cg ..);rw[mI,b7] at n C;refine M y (cg ..) j L (λd Q=>lcW r s t Q d (a.map i) λq R=>iM g nE A r s t (l.map m) q R P) λd E=>?_;refine m6 (J y) v (p y) (λb=>i (k y b)) (f y) d (a.map i) _ (λb S q F Y x U X=>?_) E (by rw[aD];lia) λq F=>?_
  ·exact N y (cg ..) b S q F Y x U X
  ·have e:a.map i++((f y).filter (p y)).map (λb=>i (k y b))=(a++((f y).filter (p y)).map (k y)).map i:=by rw[cJ,dN];rfl
   rw[e];refine KJ I J m f v p k i G l q (a++((f y).filter (p y)).map (k y)) P (λz n=>M z (cG _ n)) (λz n=>N z (cG _ n)) (G y q F) (by rw[b7];lia) (λz n=>?_) ?_
   ·have:=O z (cG _ n)
    rw[mI,b7] at this;rw[b7];lia
   ·rw[mI] at h
    rw[nZ];exact h
theorem tE:FnOk P w Z.K mg base cq 1 T.m_ties.f T.m_ties.fd ["self"] (aR Z Og):=by
 have J:=tN.nd;refine aV T.m_ties.F tN [0] (by decide) (λu R h=>by obtain⟨_,rfl,_⟩:=h;rfl) (λL A outer s H E u R v h=>?_)
 have M:=v.units;refine⟨_,(ar (aK (az zB rfl T.B.sorted ik (ab (MC (NC:= ["p","row","q"]) (src:= [none,none,none]) rfl (oh (av kE)) trivial (iL rfl T.B.enumerate (ab (jI T.W (aa 0)) ag)) (λ_ _ _=>(wb 2 rfl (gJ (bK 0 (show(["p","row","q"]:List Str).Nodup from by decide+kernel)) (gJ (bK 1 (show(["p","row","q"]:List Str).Nodup from by decide+kernel)) sM)))) (λ_ _ _=>df) (λ_ _ _=>(bL (aa 1))) (λ_ _ _=>(bK 2 (show(["p","row","q"]:List Str).Nodup from by decide+kernel))) (λ_ _ _=>(oO (bf Bu (aa 0) (aa 2) (bR _)))) (λ_ _ _=>(e9 (ab (aa 0) (ab (aa 2) ag))))) ag)))),?_⟩
 obtain⟨a,rfl,g,N,q⟩:=h
 have x:gU (a.map aq)=(bb a.length).map λ(j:Nat)=>D.tup [.int (j:Int),aq (row a j)]:=by
  refine uO λj=>?_;rw[dF]
  by_cases lt:j<a.length
  ·rw[Ap lt]
   cases e:(gU (a.map aq))[j]? with
   |none=>
    have:=List.getElem?_eq_none_iff.mp e
    rw[rF,aD] at this;lia
   |some d=>rw[(DZ e).2];rfl
  ·rw[nX (by rw[rF,aD];lia),nX (by rw[iR];lia)];rfl
 have k:((bb a.length).flatMap λp=>((row a p).filter λq=>decide (p<q)).map λq=>(p,q))=kJ (row a) a.length:=rfl
 have z:∀n,n<=a.length->(kJ (row a) n).length<=n*14:=λn=>by
  induction n with
  |zero=>intro _;exact bJ _
  |succ n C=>
   intro h
   have:=C (by lia)
   have O:=dg g n;have Q:=yL (λq=>decide (n<q)) (row a n);unfold kJ at this ⊢;rw[sA,yN,b7];simp only[mI,yQ,j7,aD];lia
 have S:=z a.length (bJ _);refine⟨_,rfl,a,rfl,?_⟩;refine(?_:iM _ _ _ _ _ _ (gU (a.map aq)) _ _ _);rw[x];refine KJ (λi=>∃o r c,i= [o,r,c]) (λp i=>∃c,i= [some (ae p),some (aq (row a p)),c]) _ (λp=>row a p) ae (λp q=>decide (p<q)) (λp q=>(p,q)) pairD (λy i ⟨c,e⟩=>⟨_,_,_,e⟩) (bb a.length) _ [] _ (λp t G l Y m=>?_) (λp t b U G l Y X m I=>?_) ⟨none,none,none,rfl⟩ ?_ (λp t=>?_) ?_
 ·obtain⟨o,r,c,rfl⟩:=l
  exact⟨rfl,rfl,_,rfl,m _ ⟨_,rfl⟩⟩
 ·obtain⟨c,rfl⟩:=l
  refine⟨_,rfl,_,rfl,_,rfl,?_⟩;refine(?_:if decide ((p:Int)<(b:Int))=true then _ else _);rw[show decide ((p:Int)<(b:Int))=decide (p<b) from aar.mpr (by lia)]
  exact bX (λe=>⟨_,rfl,_,rfl,by show 2<=sizeLine;decide,m _ ⟨_,rfl⟩ e⟩) (λe=>I _ ⟨_,rfl⟩ e)
 ·rw[k,mK,n6];exact small (by lia)
 ·have:=dg g p
  rw[k,mK,n6];exact small (by lia)
 ·rw[k,n5]
  exact⟨_,rfl,by lia,q⟩
def IJ:cK:=λa P=>∃(w:W)(p q:Nat),a= [.dY w,ae p,ae q]/\Good w/\q∈row w p/\P (ae (af (row w p) q))
theorem pG:FnOk P w Z.K mg base cq 1 T.m_behind.f T.m_behind.fd ["self","p","q"] (aR Z IJ):=by
 have e:=pP.nd;refine aV T.m_behind.F pP [0,0,0,0] (by decide) (λk R h=>by obtain⟨_,_,_,rfl,_⟩:=h;rfl) (λr A outer s H E k R l h=>?_)
 have t:=l.units
 refine⟨_,(ao (aE false 3 e (br (jI T.W (aa 0)) (aa 1)))
   (ar (aK (br (aa 3) (ay cP (ay bH (gI (aa 3) (aa 2)) aw) (az aX rfl T.B.len aW (ab (aa 3) ag))))))),?_⟩
 obtain⟨a,p,b,rfl,g,c,q⟩:=h;have m:=b9 c;have u:=dg g p;have d:((row a p).map ae).length=(row a p).length:=aD _;have pos:0<(row a p).length:=Ea c;have n:(0:Int)<(((row a p).map ae).length:Int):=by rw[d];lia
 refine⟨_,rfl,a,rfl,_,rfl,_,dW m,trivial,?_⟩;refine⟨_,rfl,_,rfl,_,rfl,_,rfl,rfl,bG _,_,_,(aL c).1,(aL c).2.1,(aL c).2.2,?_⟩;refine⟨_,rfl,n,?_⟩;have em:(((row a p).idxOf b:Nat):Int)+1=(((row a p).idxOf b+1:Nat):Int):=by lia
 have o:((((row a p).idxOf b:Nat):Int)+1)%(((row a p).map ae).length:Int)=((((row a p).idxOf b+1)%(row a p).length:Nat):Int):=by rw[d,em,ab3]
 refine⟨ae (af (row a p) b),?_,q⟩;show gn ((row a p).map ae) ((λi j=>i%j) _ _)=_;dsimp only;rw[o];exact dE (lN _ pos)
theorem HA{P:D->Prop}(h:P (.bl (!decide (a=b)))):Hz (pairD a) (pairD b) P:=by
 refine⟨_,_,FG a,FG b,by unfold iy nD;simp[PyData.depth,PyData.depthAll],?_⟩
 have:PyData.eqv (iy a) (iy b)=decide (a=b):=by
  by_cases e:a=b
  ·rw[FS e];exact(qq a b).mpr e
  ·rw[FM e]
   apply y2.mpr;exact λz=>e ((qq a b).mp z)
 rw[tz rfl,this];exact h
def L1:cK:=λa P=>∃(w:W)(d:Nat×Nat),a= [.dY w,pairD d]/\Good w/\w.length<=14/\aG w d/\∀r,kP w d r->P (.lst (r.map pairD))
theorem xS:FnOk P w Z.K mg base cq 2 T.d_round_from.f T.d_round_from.fd ["web","side"] (aR Z L1):=by
 have i:=p5.nd;refine aV T.d_round_from.F p5 [0,0,1,0,0] (by decide) (λv R h=>by obtain⟨_,_,rfl,_⟩:=h;rfl) (λB A outer s H E v R n h=>?_)
 have x:=n.units
 refine⟨_,(ao (gS 2 i (kr (ab (aa 1) ag)))
   (ao (wc (aa 1) (gT 2 rfl (bF (aT 3 i) (bF (aT 4 i) eX))))
   (ao (AK 3 4 rfl i (ab (aa 4) (ab (wQ T.W (aa 0) T.m_behind.m (pG T) (n.mono (by decide)) T.m_behind.b (ab (aa 4) (ab (aa 3) ag))) ag)))
   (ao (lU GT (bf (uz x) (e9 (ab (aa 3) (ab (aa 4) ag))) (aa 1) (bR _)) (ao (ku false 2 (e9 (ab (aa 3) (ab (aa 4) ag))))
   (ar (AK 3 4 rfl i (ab (aa 4) (ab (wQ T.W (aa 0) T.m_behind.m (pG T) (n.mono (by decide)) T.m_behind.b (ab (aa 4) (ab (aa 3) ag))) ag))))))
   (ar (aK (aa 2))))))),?_⟩
 obtain⟨a,d,rfl,g,t,o,q⟩:=h;have C:=rA g;have G:a.length*a.length<=14*14:=uV t t;refine⟨_,rfl,by show 1<=sizeLine;decide,?_⟩
 refine⟨_,rfl,rfl,rfl,?_⟩;refine⟨_,rfl,_,rfl,a,rfl,_,rfl,_,rfl,a,d.2,d.1,rfl,g,g.sym _ _ o,_,_,rfl,?_⟩;refine j6 (λm y=>∃k,0<k/\m+k=(bP a).length+1/\(∀j,0<j->j<k->gk a j d≠d)/\y= [some (.dY a),some (pairD d),some (.lst ((walk a d k).map pairD)),some (ae (gk a k d).1),some (ae (gk a k d).2)]) (bP a).length ⟨1,by lia,rfl,λj l u=>by lia,rfl⟩ ?_
 rintro m _ ⟨k,z,I,p,rfl⟩;have r:=jw g o k;refine⟨_,rfl,_,rfl,by show 2<=sizeLine;decide,_,rfl,?_⟩
 refine(?_:Hz (pairD (gk a k d)) (pairD d) _);refine HA ⟨_,rfl,bX (λe=>?_) (λe=>?_)⟩
 ·have ne:gk a k d≠d:=by simpa using e
  have lt:k<(bP a).length:=by
   have:=Mf g o (k:=k+1) λj l u=>by
    by_cases c:j=k
    ·subst c;exact ne
    ·exact p j l (by lia)
   lia
  refine⟨_,rfl,_,rfl,_,rfl,by show 2<=sizeLine;decide,trivial,eG (by rw[aD,uL];lia),?_⟩
  refine⟨_,rfl,_,rfl,a,rfl,_,rfl,_,rfl,a,(gk a k d).2,(gk a k d).1,rfl,g,g.sym _ _ r,_,_,rfl,?_⟩;refine⟨m-1,by lia,k+1,by lia,by lia,λj l u=>?_,?_⟩
  ·by_cases c:j=k
   ·subst c;exact ne
   ·exact p j l (by lia)
  ·rw[F3,cJ];rfl
 ·have e:gk a k d=d:=by simpa using e
  exact⟨_,rfl,q _ ⟨k,z,e,p,rfl⟩⟩
def we(a:List (List (Nat×Nat))):D:= .lst ((a.map λr=>r.map (·.1)).map aq)
def LV:cK:=λb P=>∃(w:W),b= [.dY w]/\Good w/\1<=w.length/\w.length<=14/\(w.length=1->P (.lst [aq [0]]))/\(2<=w.length->∀a,dj w a->cS w=jL a->P (.lst ((cS w).map aq)))
theorem Ic(h:d∉l):CQ (l.map zz) (zz d)=(l++ [d]).map zz:=by
 unfold CQ;rw[ir (λz=>h (Ho.mp z)),cJ];rfl
theorem uB:FnOk P w Z.K mg base cq 3 T.d_lands.f T.d_lands.fd ["web"] (aR Z LV):=by
 have I:=Ah.nd;refine aV T.d_lands.F Ah [0,98,1,0,0,0] (by decide) (λv R h=>by obtain⟨_,rfl,_⟩:=h;rfl) (λbI A outer s H E v R o h=>?_)
 have Q:=o.units
 refine⟨_,(ao (bZ (bf (lg Q) (js T.W (aa 0) T.m_many.m (Bx T) (o.mono (by decide)) T.m_many.b) aw (bR _)) (ar (aK (dS (ab (dS (ab aw ag)) ag)))) aZ)
   (ao (HI 1 I rfl T.x_set)
   (ao (gS 2 I (kr ag))
   (ao (eO rfl GT (bL (az zB rfl T.B.sorted ik (ab (ay bH (js T.W (aa 0) T.m_ties.m (tE T) (o.mono (by decide)) T.m_ties.b) (kQ (NC:= ["a","b"]) (src:= [none,none]) rfl (oh (av pO)) trivial (bL (js T.W (aa 0) T.m_ties.m (tE T) (o.mono (by decide)) T.m_ties.b)) (λ_ _ _=>(wb 2 rfl (gJ (bK 0 (show(["a","b"]:List Str).Nodup from by decide+kernel)) (gJ (bK 1 (show(["a","b"]:List Str).Nodup from by decide+kernel)) sM)))) (λ_ _ _=>df) (λ_ _ _=>(e9 (ab (aa 1) (ab (aa 0) ag)))))) ag))) (aT 3 I) (ar (bZ (bf (Fq Q) (aa 3) (aa 1) (by with_unfolding_all rfl)) (ao (aE false 4 I (ax T.d_round_from (xS T) o (ab (aa 0) (ab (aa 3) ag))))
   (ao (eO rfl GT (bL (aa 4)) (aT 5 I) (ar (JT false 1 Q (aa 5))))
   (ar (ku false 2 (kQ (NC:= ["p","q"]) (src:= [none,none]) rfl (oh (av pO)) trivial (bL (aa 4)) (λ_ _ _=>(wb 2 rfl (gJ (bK 0 (show(["p","q"]:List Str).Nodup from by decide+kernel)) (gJ (bK 1 (show(["p","q"]:List Str).Nodup from by decide+kernel)) sM)))) (λ_ _ _=>df) (λ_ _ _=>(aa 0))))))) aZ)))
   (ar (aK (az (Ek Q) rfl T.B.sorted ik (ab (aa 2) ag)))))))),?_⟩
 obtain⟨n,rfl,g,h1,J,q1,q2⟩:=h;have c1:=rA g;have c2:n.length*n.length<=14*14:=uV J J;have lw:(n.map aq).length=n.length:=aD _;refine⟨_,rfl,n,rfl,n,rfl,?_⟩;refine JY ⟨_,rfl,bX (λe=>?_) (λe=>?_)⟩
 ·have e:n.length=1:=by have:=KM e;lia
  exact⟨by show 1<=sizeLine;decide,by show 1<=sizeLine;decide,q1 e⟩
 have n2:2<=n.length:=by have:=aak e;lia
 refine⟨by show 0<=sizeLine;decide,?_⟩
 refine⟨_,rfl,n,rfl,n,rfl,g,J,λts G S=>?_⟩;have tl:=F0 g;rw[<-wO] at tl;have tl2:=G.length_eq;refine⟨_,rfl,n,rfl,n,rfl,g,J,λy xY PL=>?_⟩;have e2:y=ts:=aaz (λ_ _ _ _=>qu) PL S (xY.trans G.symm);subst e2;refine m6 (λC=>∃L N,C= [L,N]) pairD (λ_=>true) (λt=>pairD (t.2,t.1)) y _ [] _ (λt ht aC O Y Nn hY hN=>?_) ⟨none,none,rfl⟩ (by rw[mK,n6];exact small (by lia)) λaC O=>?_
 ·obtain⟨L,N,rfl⟩:=O
  exact⟨rfl,rfl,PU ⟨_,rfl,_,rfl,by show 2<=sizeLine;decide,hY _ ⟨_,_,rfl⟩ rfl⟩⟩
 have pd:=Ej g G;have pl:=pd.length_eq;rw[b7,aD] at pl;have ef:y.filter (λ_=>true)=y:=by simp
 rw[n5,ef];refine⟨by rw[aD,aD];exact small (by lia),?_⟩
 have ej:(.lst (y.map pairD++y.map λt=>pairD (t.2,t.1)):D)= .lst ((y++y.map λt=>(t.2,t.1)).map pairD):=by rw[cJ,dN];rfl
 dsimp only[wN];rw[ej];refine⟨_,rfl,by rw[b7,aD];lia,λv U Zi=>?_⟩
 have U:=U.trans pd;have all:∀e,aG n e->e∈v:=λe h=>U.mem_iff.mpr (cX.mpr h);have dart:∀e∈v,aG n e:=λe h=>cX.mp (U.mem_iff.mp h);clear G xY S PL ej pd ef;refine cR (λi C=>∃(j:List (List (Nat×Nat)))(o3 o4 q:Option D),C= [some (.dY n),some (.x (.tJ (cD w) (j.flatten.map zz))),some (we j),o3,o4,q]/\Wk n v i j) ⟨[],none,none,none,rfl,Wk.zero n v⟩ ?_ ?_
 ·rintro i d _ hd ⟨j,o3,o4,q,rfl,hw⟩ A X
  obtain⟨e,he,rfl⟩:=dD hd;have de:=dart e (fH he);refine⟨_,rfl,_,rfl,zz e,j.flatten.map zz,rfl,rfl,_,rfl,?_⟩;refine(?_:if (if true=true then !decide (zz e∈j.flatten.map zz) else _)=true then _ else _);rw[tz rfl,show decide (zz e∈j.flatten.map zz)=decide (e∈j.flatten) from aar.mpr Ho]
  have sub:∀x∈j.flatten,x∈bP n:=λx u=>by
   obtain⟨r,o,hxr⟩:=uS.mp u;obtain⟨d,R,dd,_⟩:=hw.rnd r o;exact cX.mpr (R.bP g dd x hxr)
  have fl:=aI hw.nod sub;refine bX (λc=>?_) (λc=>?_)
  ·have c:e∉j.flatten:=by simpa using c
   refine⟨_,rfl,_,rfl,n,e,rfl,g,J,de,λr R=>⟨trivial,?_⟩⟩;have Wj:=hw.take g all dart Zi he c R;have rd:∀x∈r,x∈bP n:=λx u=>cX.mpr (R.bP g de x u);have rl:=aI (R.nodup g de) rd;have RM:(j.flatten++r).Nodup:=by have:=Wj.nod;rw[B8] at this;simpa using this
   have fl2:(j.flatten++r).length<=(bP n).length:=aI RM λx u=>(cV.mp u).elim (sub x) (rd x);rw[b7] at fl2;refine⟨_,rfl,?_⟩;refine cR (λk C=>∃q,C= [some (.dY n),some (.x (.tJ (cD w) ((j.flatten++r.take k).map zz))),some (we j),some (pairD e),some (.lst (r.map pairD)),q]) ⟨q,by rw[uU,j7];rfl⟩ ?_ ?_
   ·rintro k d _ hd ⟨q,rfl⟩ A X
    obtain⟨x,u,rfl⟩:=dD hd;have hk:=(dQ.mp u).1;have tk:r.take (k+1)=r.take k++ [x]:=by rw[abz,u];rfl
    have nx:x∉j.flatten++r.take k:=λz=>by
     have sp:j.flatten++r=(j.flatten++r.take k)++(x::r.drop (k+1)):=by
      rw[nZ,<-dQ.mp u|>.2,List.getElem_cons_drop,hV]
     rw[sp] at RM;exact(fI.mp RM).2.2 x z x (cg ..) rfl
    refine⟨_,rfl,_,rfl,zz x,rfl,by rw[aD,b7,cm];lia,?_⟩
    rw[Ic nx,nZ,<-tk];exact X _ ⟨_,rfl⟩
   ·rintro _ ⟨q,rfl⟩
    rw[aD,List.take_length]
    have dl:j.length<=300:=by
     have h:∀p:List (List (Nat×Nat)),(∀r∈p,r≠ [])->p.length<=p.flatten.length:=λp=>by
      induction p with
      |nil=>intro _;exact bJ _
      |cons a l ih=>
       intro h;have h1:=t6.mpr (h a (cg ..));have h2:=ih λr o=>h r (cG _ o);rw[t7,b7,dM];lia
     have:=h j λr o z=>by
      obtain⟨d,R,_,_⟩:=hw.rnd r o
      have:=R.first
      rw[z] at this;cases this
     lia
    refine⟨_,rfl,_,rfl,?_⟩;refine m6 (λC=>∃L N,C= [L,N]) pairD (λ_=>true) (λt=>ae t.1) r _ [] _ (λt ht aC O Y Nn hY hN=>?_) ⟨none,none,rfl⟩ (by rw[mK,n6];exact small (by lia)) λaC O=>?_
    ·obtain⟨L,N,rfl⟩:=O
     exact⟨rfl,rfl,PU ⟨_,rfl,hY _ ⟨_,_,rfl⟩ rfl⟩⟩
    rw[n5,show r.filter (λ_=>true)=r by simp]
    refine⟨trivial,eG (by rw[aD,aD];lia),?_⟩
    refine X _ ⟨j++ [r],some (pairD e),some (.lst (r.map pairD)),q,?_,Wj⟩
    have e1:we (j++ [r])= .lst ((j.map λr=>r.map (·.1)).map aq++ [.lst (r.map λt=>ae t.1)]):=by
     unfold we aq;rw[cJ,cJ];simp only[h7,acy,dN];rfl
    rw[e1,B8,show[r].flatten=r by simp];rfl
  ·have c:e∈j.flatten:=by simpa using c
   exact X _ ⟨j,_,_,_,rfl,hw.skip he c⟩
 ·rintro _ ⟨j,o3,o4,q,rfl,hw⟩
  have hw:Wk n v v.length j:=by rw[aD] at hw;exact hw
  have fin:=hw.fin g all;have R:dj n j:=⟨hw.rnd,fin⟩
  have dl:j.length<=300:=by
   have h:∀p:List (List (Nat×Nat)),(∀r∈p,r≠ [])->p.length<=p.flatten.length:=λp=>by
    induction p with
    |nil=>intro _;exact bJ _
    |cons a l ih=>
     intro h;have h1:=t6.mpr (h a (cg ..));have h2:=ih λr o=>h r (cG _ o);rw[t7,b7,dM];lia
   have:=h j λr o z=>by
    obtain⟨d,R,_,_⟩:=hw.rnd r o
    have:=R.first
    rw[z] at this;cases this
   have:=fin.length_eq
   lia
  refine⟨_,rfl,j.map (λr=>r.map (·.1)),rfl,by rw[aD];lia,λM G S=>?_⟩
  obtain⟨p,p',rfl⟩:=L2.jr (λr:List (Nat×Nat)=>r.map (·.1)) M j G;have R':=R.K8 p';have e:=Ii g R' S
  have:=q2 n2 p R' e
  rw[e] at this;exact this
variable {P:Program} {w:World} {mg:Str->Option Value} {base:Heap} {Z:DC} (T:Txt Z mg)
theorem Ig{c:List Int}(g:c.Perm (d.map λ(n:Nat)=>(n:Int)))(i:c.Pairwise (·<=·))(j:d.Nodup):∃L:List Nat,c.map D.int=L.map ae/\L.Pairwise (·<·)/\L.Perm d:=by
 have e:∀m∈c,((m.toNat:Nat):Int)=m:=λm f=>by
  obtain⟨n,_,rfl⟩:=bY.mp (g.mem_iff.mp f);simp
 have pn:(c.map Int.toNat).Perm d:=by
  have:=g.map Int.toNat
  rw[dN] at this;rw[show(Int.toNat∘λ(n:Nat)=>(n:Int))=id from by funext n;simp] at this
  simpa using this
 refine⟨c.map Int.toNat,?_,?_,pn⟩
 ·rw[dN]
  exact B7 λm f=>by show D.int m=ae m.toNat;unfold ae;rw[e m f]
 ·have h:=pn.nodup_iff.mpr j
  rw[yV,hZ] at h;rw[hZ]
  exact(i.and h).imp λ {a b} ⟨k,l⟩=>by
   have:a.toNat<=b.toNat:=Int.toNat_le_toNat k
   lia
theorem qf{w:W}(g:Good w)(c:w.length<=14)(a:cH w R)(b:i<R.length):(withinL w R i).length<=14:=by
 rw[f7]
 have:=ni (a.next (i:=i) b)
 have d:=dg g (R.getD i 0);rw[cm];lia
def FR:cK:=λa P=>∃(w:W)(R:List Nat),a= [.dY w,aq R]/\Good w/\w.length<=14/\cH w R/\∀L:List Nat,L.Pairwise (·<·)->(∀p,p∈L↔Fl w R p)->P (aq L)
theorem jR:FnOk P w Z.K mg base cq 3 T.d_points_within.f T.d_points_within.fd ["web","ring"] (fg Z 1 FR):=by
 have nd:=kG.nd;refine jt 1 T.d_points_within.F kG [0,0,0,1,99,0] (by decide) (λds R h=>by obtain⟨_,_,rfl,_⟩:=h;rfl) (λbI A outer s H E ds R hr h=>?_)
 have hu:=hr.units
 refine⟨_,(ao (aE false 2 nd (js T.W (aa 0) T.m_turns.m (qR T) (hr.mono (by decide)) T.m_turns.b))
   (ao (Et 3 (NC:= ["i","p","web","ring"]) (src:= [none,none,some 0,some 1]) rfl nd (oh (av f6)) ⟨rfl,rfl,rfl,rfl,trivial⟩ (rB rfl T.B.range (ab (az aX rfl T.B.len aW (ab (aa 1) ag)) ag)) (λ_ _ _=>(bK 0 (show(["i","p","web","ring"]:List Str).Nodup from by decide+kernel))) (λ_ _ _=>df) (λ_ _ _=>(bL (ax T.d_within_at ((pF T).imp IM) hr (ab (aa 2) (ab (aa 3) (ab (aa 0) ag)))))) (λ_ _ _=>(bK 1 (show(["i","p","web","ring"]:List Str).Nodup from by decide+kernel))) (λ_ _ _=>df) (λ_ _ _=>(aa 1)))
   (ao (JV 4 nd rfl T.x_set)
   (ao (lU PassesOwn.never (dG (aa 3)) (ao (AL 5 3 nd)
   (ar (bZ (DW.dt (sN (bf me (aa 5) (aa 1) (by with_unfolding_all rfl)) (oP (bf Fs (aa 5) (aa 4) (by with_unfolding_all rfl))))) (ao (JU false 4 (aa 5))
   (ar (MG 3 (br (aa 2) (aa 5))))) aZ))))
   (ar (oN (HH rfl rfl T.B.sorted (aa 4)))))))),?_⟩
 obtain⟨w',R',rfl,g,bD,Ti,q⟩:=h;have LA:=Ti.uI g;have lR:(R'.map ae).length=R'.length:=aD _;have wl:∀i,i<R'.length->(withinL w' R' i).length<=14:=λi hi=>qf g bD Ti hi;refine⟨_,rfl,w',rfl,w',rfl,bD,trivial,?_⟩;refine⟨_,rfl,⟨by lia,by show((R'.map ae).length:Int)<2^62;lia⟩,?_⟩
 rw[show(((R'.map ae).length:Int)).toNat=R'.length by lia,rY]
 have fl:∀n,n<=R'.length->((bb n).flatMap λi=>withinL w' R' i).length<=n*14:=λn=>by
  induction n with
  |zero=>intro _;simp
  |succ n ih=>
   intro h
   have:=ih (by lia)
   have:=wl n (by lia)
   rw[sA,yN,b7];simp only[mI,yQ,j7];lia
 have J3:=fl R'.length (bJ _);refine C1 (λρ=>∃o0 o1,ρ= [o0,o1,some (.dY w'),some (aq R')]) ae (λi=>withinL w' R' i) ae (bb R'.length) _ [] _ (λi hi aC hI Y hY=>?_) (λi hi b hb aC hI Y hY=>?_) ⟨none,none,rfl⟩ (by rw[mK,n6];exact small (by lia)) ?_
 ·obtain⟨o0,o1,rfl⟩:=hI
  exact⟨_,rfl,_,rfl,_,rfl,w',R',i,rfl,g,bD,Ti,bV.mp hi,hY _ ⟨_,_,rfl⟩⟩
 ·obtain⟨o0,o1,rfl⟩:=hI
  exact⟨_,rfl,hY _ ⟨_,_,rfl⟩⟩
 rw[n5]
 have start:∀z,z∈((bb R'.length).flatMap λi=>withinL w' R' i)↔∃i,i<R'.length/\z∈withinL w' R' i:=λz=>by
  rw[y4];exact⟨λ⟨i,hi,h⟩=>⟨i,bV.mp hi,h⟩,λ⟨i,hi,h⟩=>⟨i,bV.mpr hi,h⟩⟩
 generalize ((bb R'.length).flatMap λi=>withinL w' R' i)=yI at start J3
 refine j6 (λm ρ=>∃(ws ms:List Nat)(o5:Option D),ρ= [some (.dY w'),some (aq R'),some (aM w'),some (.lst (ws.map ae)),some (.set (cD w) (ms.map λ(n:Nat)=>(n:Int))),o5]/\ms.Nodup/\(∀p∈ms,Fl w' R' p)/\(∀z∈ws,z∉R'->Fl w' R' z)/\
  (∀z∈yI,z∉R'->z∈ms\/z∈ws)/\(∀p∈ms,∀q∈row w' p,q∉R'->q∈ms\/q∈ws)/\m=ws.length+20*(20-ms.length)/\ws.length<=200+20*ms.length) (yI.length+400) ?_ ?_
 ·exact⟨yI,[],_,rfl,jj,(λp hp=>nomatch hp),λz hz n=>let ⟨i,hi,h⟩:=(start z).mp hz;Fl.start hi h n,λz hz _=> .inr hz,(λp hp=>nomatch hp),rfl,(by show yI.length<=200+0;lia)⟩
 rintro m _ ⟨ws,ms,o5,rfl,nm,hm,hw,c1,c2,em,hz⟩
 have ml:ms.length<=14:=by
  have:=aI (m:=bb w'.length) nm λp hp=>bV.mpr (Fl.lt g Ti (hm p hp))
  rw[iR] at this;lia
 refine⟨_,rfl,rfl,?_⟩
 rcases B5 ws with rfl| ⟨i9,p,e⟩
 ·refine ck ?_
  refine⟨_,rfl,_,rfl,by rw[aD];lia,λks pm oq=>?_⟩
  obtain⟨L,e1,e2,e3⟩:=Ig pm oq nm;refine(?_:R (.lst (ks.map D.int)));rw[e1];refine q L e2 λp=>?_;rw[e3.mem_iff];refine⟨hm p,λhp=>?_⟩;refine Fl.all (M:=λx=>x∈ms) (λi z hi h n=>?_) (λp q hp hq n=>?_) hp
  ·rcases c1 z ((start z).mpr ⟨i,hi,h⟩) n with h|h
   ·exact h
   ·cases h
  ·rcases c2 p hp q hq n with h|h
   ·exact h
   ·cases h
 ·rw[yK] at e
  subst e;rw[show Aj (.lst ((i9++ [p]).map ae))=true by simp[Aj]]
  refine dJ ?_;rw[b7] at em hz;simp only[q0] at em hz;refine⟨i9.map ae,ae p,by rw[cJ];rfl,?_⟩
  have Pr:∀x:Nat,decide ((x:Int)∈ms.map λ(n:Nat)=>(n:Int))=decide (x∈ms):=λx=>by
   refine decide_eq_decide.mpr ?_;rw[bY]
   exact⟨λ⟨y,hy,e⟩=>by have:y=x:=by lia
                       rw[<-this];exact hy,λh=>⟨x,h,rfl⟩⟩
  have keep:∀(F:DN->Prop),(p∈R'\/p∈ms)->(∀ρ,(∃(ws ms:List Nat)(o5:Option D),ρ= [some (.dY w'),some (aq R'),some (aM w'),some (.lst (ws.map ae)),some (.set (cD w) (ms.map λ(n:Nat)=>(n:Int))),o5]/\ms.Nodup/\(∀p∈ms,Fl w' R' p)/\(∀z∈ws,z∉R'->Fl w' R' z)/\
    (∀z∈yI,z∉R'->z∈ms\/z∈ws)/\(∀p∈ms,∀q∈row w' p,q∉R'->q∈ms\/q∈ws)/\m-1=ws.length+20*(20-ms.length)/\ws.length<=200+20*ms.length)->F ρ)->
    F [some (.dY w'),some (aq R'),some (aM w'),some (.lst (i9.map ae)),some (.set (cD w) (ms.map λ(n:Nat)=>(n:Int))),some (ae p)]:=λF hp hF=>by
   have drop:∀z,z∉R'->(z∈ms\/z∈i9++ [p])->(z∈ms\/z∈i9):=λz n h=>by
    rcases h with h|h
    ·exact .inl h
    ·rcases cV.mp h with h|h
     ·exact .inr h
     ·rw[e7] at h
      subst h
      rcases hp with hp|hp
      ·exact absurd hp n
      ·exact .inl hp
   exact hF _ ⟨i9,ms,_,rfl,nm,hm,λz hz=>hw z (fG _ hz),λz hz n=>drop z n (c1 z hz n),λx hx y hy n=>drop y n (c2 x hx y hy n),by lia,by lia⟩
  refine⟨_,rfl,_,rfl,rfl,bG _,_,rfl,?_⟩;refine(?_:if (if true=true then !inD (ae p) (R'.map ae) else _)=true then _ else _);rw[if_pos rfl,gx];refine bX (λnr=>?_) (λnr=>?_)
  ·have nr:p∉R':=by simpa using nr
   refine⟨_,rfl,_,rfl,_,_,_,rfl,rfl,_,rfl,?_⟩;refine(?_:if (if true=true then !decide ((p:Int)∈ms.map λ(n:Nat)=>(n:Int)) else _)=true then _ else _);rw[if_pos rfl,Pr];refine bX (λnq=>?_) (λnq=>?_)
   ·have nq:p∉ms:=by simpa using nq
    have ip:Fl w' R' p:=hw p (by simp) nr
    have bT:=Fl.lt g Ti ip;have rl:=dg g p;refine⟨_,rfl,_,rfl,p,rfl,by rw[aD];lia,?_⟩
    refine⟨_,rfl,_,rfl,_,rfl,_,dW bT,_,rfl,(by rw[aD,aD];exact small (by lia)),?_⟩
    have e1:zS (ms.map λ(n:Nat)=>(n:Int)) (p:Int)=(ms++ [p]).map λ(n:Nat)=>(n:Int):=by
     unfold zS;rw[if_neg (by have:=Pr p;rw[decide_eq_false nq] at this;exact of_decide_eq_false this),cJ];rfl
    refine⟨(i9++row w' p).length+20*(20-(ms++ [p]).length),by rw[b7,b7,q0];lia,i9++row w' p,ms++ [p],some (ae p),?_,?_,?_,?_,?_,?_,rfl,?_⟩
    ·rw[<-e1,show(i9++row w' p).map ae=i9.map ae++(row w' p).map ae from cJ ..];rfl
    ·rw[fI]
     refine⟨nm,by simp,λx hx y hy z=>nq ?_⟩
     rw[e7] at hy;rw[<-hy,<-z];exact hx
    ·intro x hx
     rcases cV.mp hx with hx|hx
     ·exact hm x hx
     ·rw[e7] at hx;rw[hx];exact ip
    ·intro z hz n
     rcases cV.mp hz with hz|hz
     ·exact hw z (fG _ hz) n
     ·exact Fl.step ip hz n
    ·intro z hz n
     rcases c1 z hz n with h|h
     ·exact .inl (fG _ h)
     ·rcases cV.mp h with h|h
      ·exact .inr (fG _ h)
      ·exact .inl (gm _ h)
    ·intro x hx y hy n
     rcases cV.mp hx with hx|hx
     ·rcases c2 x hx y hy n with h|h
      ·exact .inl (fG _ h)
      ·rcases cV.mp h with h|h
       ·exact .inr (fG _ h)
       ·exact .inl (gm _ h)
     ·rw[e7] at hx
      subst hx;exact .inr (gm _ hy)
    ·rw[b7,b7,q0];lia
   ·have nq:p∈ms:=by simpa using nq
    exact keep _ (.inr nq) λρ h=>⟨m-1,by lia,h⟩
  ·have nr:p∈R':=by simpa using nr
   refine ck ?_;exact keep _ (.inl nr) λρ h=>⟨m-1,by lia,h⟩
def FQ:cK:=λb P=>∃(w:W)(R:List Nat),b= [.dY w,aq R]/\Good w/\w.length<=14/\cH w R/\∀a:List (Nat×Nat),a.Nodup->a.Pairwise lexLe->(∀i j,(i,j)∈a↔i<j/\j<R.length/\R.getD j 0∈withinL w R i)->P (.lst (a.map pairD))
theorem vi:FnOk P w Z.K mg base cq 3 T.d_chords.f T.d_chords.fd ["web","ring"] (fg Z 1 FQ):=by
 have nd:=yh.nd;refine jt 1 T.d_chords.F yh [0,0,0] (by decide) (λds R h=>by obtain⟨_,_,rfl,_⟩:=h;rfl) (λbI A outer s H E ds R Q h=>?_)
 have hu:=Q.units
 refine⟨_,(ao (Eu 2 (NC:= ["i","p","ring","web"]) (src:= [none,none,some 1,some 0]) rfl nd (oh (av mD)) ⟨rfl,rfl,rfl,rfl,trivial⟩ (rB rfl T.B.range (ab (az aX rfl T.B.len aW (ab (aa 1) ag)) ag)) (λ_ _ _=>(bK 0 (show(["i","p","ring","web"]:List Str).Nodup from by decide+kernel))) (λ_ _ _=>df) (λ_ _ _=>(bL (ax T.d_within_at ((pF T).imp IM) Q (ab (aa 3) (ab (aa 2) (ab (aa 0) ag)))))) (λ_ _ _=>(bK 1 (show(["i","p","ring","web"]:List Str).Nodup from by decide+kernel))) (λ_ _ _=>(oO (bf xJ (aa 1) (aa 2) (by with_unfolding_all rfl)))) (λ_ _ _=>(e9 (ab (aa 0) (ab (gI (aa 2) (aa 1)) ag)))))
   (ar (oN (HG rfl T.B.sorted (kQ (NC:= ["i","j"]) (src:= [none,none]) rfl (oh (av mD)) trivial (bL (aa 2)) (λ_ _ _=>(wb 2 rfl (gJ (bK 0 (show(["i","j"]:List Str).Nodup from by decide+kernel)) (gJ (bK 1 (show(["i","j"]:List Str).Nodup from by decide+kernel)) sM)))) (λ_ _ _=>(oO (bf Bu (aa 0) (aa 1) (bR _)))) (λ_ _ _=>(e9 (ab (aa 0) (ab (aa 1) ag))))))))),?_⟩
 obtain⟨d,c,rfl,g,S,v,q⟩:=h;have LA:=v.uI g;have lR:(c.map ae).length=c.length:=aD _;have U:∀i,i<c.length->(withinL d c i).length<=14:=λi l=>qf g S v l;refine⟨_,rfl,⟨by lia,by show((c.map ae).length:Int)<2^62;lia⟩,?_⟩
 rw[show(((c.map ae).length:Int)).toNat=c.length by lia,rY]
 have fl:∀n,n<=c.length->((bb n).flatMap λi=>((withinL d c i).filter λb=>decide (b∈c)).map λb=>(i,c.idxOf b)).length<=n*14:=λn=>by
  induction n with
  |zero=>intro _;simp
  |succ n ih=>
   intro h
   have:=ih (by lia)
   have:=U n (by lia)
   have o:=yL (λb=>decide (b∈c)) (withinL d c n);rw[sA,yN,b7];simp only[mI,yQ,j7,aD];lia
 have J3:=fl c.length (bJ _);refine KJ (λp=>∃z m,p= [z,m,some (aq c),some (.dY d)]) (λi p=>∃m,p= [some (ae i),m,some (aq c),some (.dY d)]) ae (λi=>withinL d c i) ae (λi b=>decide (b∈c)) (λi b=>(i,c.idxOf b)) pairD (λy p ⟨o2,e⟩=>⟨_,_,e⟩) (bb c.length) _ [] _ (λi l J r Y C=>?_) (λi l b u J r Y Nn C L=>?_) ⟨none,none,rfl⟩ (by rw[mK,n6];exact small (by lia)) (λi l=>by have:=U i (bV.mp l);rw[mK,n6];exact small (by lia)) ?_
 ·obtain⟨z,m,rfl⟩:=r
  exact⟨_,rfl,_,rfl,_,rfl,d,c,i,rfl,g,S,v,bV.mp l,C _ ⟨_,rfl⟩⟩
 ·obtain⟨m,rfl⟩:=r
  refine⟨_,rfl,_,rfl,rfl,bG _,_,rfl,?_⟩;refine(?_:if (if false=true then _ else inD (ae b) (c.map ae))=true then _ else _);rw[ir di,gx];refine bX (λe=>?_) (λe=>L _ ⟨_,rfl⟩ e);have M:b∈c:=KM e;exact⟨_,rfl,_,rfl,_,rfl,_,rfl,rfl,bG _,_,_,(aL M).1,(aL M).2.1,(aL M).2.2,by show 2<=sizeLine;decide,C _ ⟨_,rfl⟩ e⟩
 rw[n5]
 have mem:∀t,t∈((bb c.length).flatMap λi=>((withinL d c i).filter λb=>decide (b∈c)).map λb=>(i,c.idxOf b))↔t.1<c.length/\t.2<c.length/\c.getD t.2 0∈withinL d c t.1:=λt=>by
  rw[y4]
  constructor
  ·rintro⟨i,l,h⟩
   obtain⟨b,u,rfl⟩:=bY.mp h;obtain⟨G,k⟩:=mL.mp u;have k:b∈c:=KM k;have lt:=h8.mpr k;have ej:c.getD (c.idxOf b) 0=b:=by rw[aU,bB lt,kN lt];rfl
   exact⟨bV.mp l,lt,by show c.getD (c.idxOf b) 0∈withinL d c i;rw[ej];exact G⟩
  ·rintro⟨G,k,o⟩
   refine⟨t.1,bV.mpr G,bY.mpr ⟨c.getD t.2 0,mL.mpr ⟨o,FS (aS k)⟩,?_⟩⟩;have e:c.getD t.2 0=c[t.2]:=by rw[aU,bB k];rfl
   rw[e,v.nd.idxOf_getElem t.2 k]
 have nod:((bb c.length).flatMap λi=>((withinL d c i).filter λb=>decide (b∈c)).map λb=>(i,c.idxOf b)).Nodup:=by
  refine pC sC (λi l=>?_) λi l j hj x hx hy=>?_
  ·refine tB ((v.zv g (bV.mp l)).filter _) λa N b u e=>?_
   have N:a∈c:=KM (mL.mp N).2;have u:b∈c:=KM (mL.mp u).2;have e:c.idxOf a=c.idxOf b:=(aal e).2;have la:=h8.mpr N;have lb:=h8.mpr u;have e1:=kN la;have e2:=kN lb;rw[<-e1,<-e2]
   congr 1
  ·obtain⟨_,_,rfl⟩:=bY.mp hx
   obtain⟨_,_,e⟩:=bY.mp hy;exact(aal e).1.symm
 generalize ((bb c.length).flatMap λi=>((withinL d c i).filter λb=>decide (b∈c)).map λb=>(i,c.idxOf b))=O at mem nod J3;refine⟨trivial,?_⟩;refine⟨_,rfl,m6 (λp=>∃z m,p= [z,m]) pairD (λt=>decide (t.1<t.2)) pairD O _ [] _ (λt ht J r Y Nn C L=>?_) ⟨none,none,rfl⟩ (by rw[mK,n6];exact small (by lia)) λJ r=>?_⟩
 ·obtain⟨z,m,rfl⟩:=r
  refine⟨rfl,rfl,?_⟩;refine⟨_,rfl,_,rfl,_,rfl,?_⟩;refine(?_:if decide ((t.1:Int)<(t.2:Int))=true then _ else _);rw[show decide ((t.1:Int)<(t.2:Int))=decide (t.1<t.2) from aar.mpr (by lia)]
  exact bX (λe=>⟨_,rfl,_,rfl,by show 2<=sizeLine;decide,C _ ⟨_,_,rfl⟩ e⟩) (λe=>L _ ⟨_,_,rfl⟩ e)
 ·rw[n5]
  have mc:∀i j,(i,j)∈O.filter (λt:Nat×Nat=>decide (t.1<t.2))↔i<j/\j<c.length/\c.getD j 0∈withinL d c i:=λi j=>by
   rw[mL,mem,aaE]
   constructor
   ·rintro⟨⟨G,k,o⟩,I⟩;exact⟨I,k,o⟩
   ·rintro⟨I,k,o⟩;exact⟨⟨Nat.lt_trans I k,k,o⟩,I⟩
  exact⟨_,rfl,by have:=yL (λt:Nat×Nat=>decide (t.1<t.2)) O;lia,λcs X oq=>q cs (X.nodup_iff.mpr (nod.filter _)) oq λi j=>by rw[X.mem_iff];exact mc i j⟩
variable {P:Program} {w:World} {mg:Str->Option Value} {base:Heap} {Z:DC} (T:Txt Z mg)
def L4:cK:=λc P=>∃(w:W)(a b:Nat),c= [.dY w,ae a,ae b]/\Good w/\a<w.length/\b<w.length/\P (.bl (decide (b∈row w a)))
theorem By:FnOk P w Z.K mg base cq 2 T.m_tied.f T.m_tied.fd ["self","a","b"] (aR Z L4):=by
 have i:=tM.nd;refine aV T.m_tied.F tM [0,0,0,0] (by decide) (λj R h=>by obtain⟨_,_,_,rfl,_⟩:=h;rfl) (λn A outer s H E j R d h=>?_)
 have o:=d.units
 refine⟨_,(ao (aE false 3 i (az aX rfl T.B.len aW (ab (jI T.W (aa 0)) ag)))
   (ar (aK (mT (ax T.d_is_among (fY T) d (ab (aa 1) (ab (aa 3) ag))) (mT (ax T.d_is_among (fY T) d (ab (aa 2) (ab (aa 3) ag))) (v9 (v8 xJ (aa 2) (br (jI T.W (aa 0)) (aa 1)) (by with_unfolding_all rfl)))))))),?_⟩
 obtain⟨c,a,b,rfl,g,k,p,q⟩:=h;have e:(c.map aq).length=c.length:=aD _;refine⟨_,rfl,c,rfl,trivial,?_⟩;have l:decide ((0:Int)<=(a:Int)/\(a:Int)<((c.map aq).length:Int))=true:=by rw[e];exact FS (by lia)
 have m:decide ((0:Int)<=(b:Int)/\(b:Int)<((c.map aq).length:Int))=true:=by rw[e];exact FS (by lia)
 refine⟨_,rfl,_,rfl,_,_,rfl,_,Gc D.bl l,dJ ?_⟩;refine⟨_,rfl,_,rfl,_,_,rfl,_,Gc D.bl m,dJ ?_⟩;refine⟨_,rfl,_,rfl,c,rfl,_,rfl,_,dW k,rfl,bG _,?_⟩;rw[ir di];rw[gx];exact q
theorem pE:FnOk P w Z.K mg base cq 1 T.m_turns.f T.m_turns.fd ["self"] (fg Z 1 DM):=by
 have d:=iG.nd;refine jt 1 T.m_turns.F iG [0] (by decide) (λb R h=>by obtain⟨_,rfl,_⟩:=h;rfl) (λe A outer s H E b R c h=>?_)
 have g:=c.units;refine⟨_,(ar (oN (JP (NC:= ["row"]) (src:= [none]) rfl (oh (av g7)) trivial (bL (jI T.W (aa 0))) (λ_ _ _=>(bK 0 (show(["row"]:List Str).Nodup from by decide+kernel))) (λ_ _ _=>df) (λ_ _ _=>(gD jG rfl T.B.list gr (ab (aa 0) ag)))))),?_⟩
 obtain⟨a,rfl,i,q⟩:=h;exact⟨_,rfl,a,rfl,iD (ρ:= [none]) aq aq a _ (λy j Y h=>⟨_,rfl,h⟩) rfl (small (by lia)) λk=>q⟩
def qT(l:List Nat)(x p:Nat):List Nat:=ins l (l.idxOf x+1) p
def Of:cK:=λa P=>∃(l:List Nat)(x p:Nat),a= [aq l,ae x,ae p]/\l.length<=100/\x∈l/\P (aq (qT l x p))
theorem nH:FnOk P w Z.K mg base cq 1 T.d_put_behind.f T.d_put_behind.fd ["row","ahead","p"] (fg Z 1 Of):=by
 have g:=pZ.nd;refine jt 1 T.d_put_behind.F pZ [0,0,0,0] (by decide) (λi R h=>by obtain⟨_,_,_,rfl,_⟩:=h;rfl) (λm A outer s H E i R j h=>?_)
 have n:=j.units
 refine⟨_,(ao (aE false 3 g (ay bH (gI (aa 0) (aa 1)) aw))
   (ar (oN (AJ (ay bH (ba (aa 0) bE (bo (aa 3))) (dS (ab (aa 2) ag))) (ba (aa 0) (bo (aa 3)) bE))))),?_⟩
 obtain⟨l,x,p,rfl,o,a,q⟩:=h;have c:(l.map ae).length=l.length:=aD _;have r:=h8.mpr a;refine⟨_,rfl,_,rfl,_,rfl,rfl,bG _,_,_,(aL a).1,(aL a).2.1,(aL a).2.2,trivial,?_⟩
 have b:cutD (l.map ae) none (some (((l.idxOf x:Nat):Int)+1))=(l.take (l.idxOf x+1)).map ae:=by
  have:=cw (l.map ae) (l.idxOf x+1) (by rw[c];lia)
  rw[jk];exact this
 have d:cutD (l.map ae) (some (((l.idxOf x:Nat):Int)+1)) none=(l.drop (l.idxOf x+1)).map ae:=by
  have:=cN (l.map ae) (l.idxOf x+1) (by rw[c];lia)
  rw[j8];exact this
 have sz:(cutD (l.map ae) none (some (((l.idxOf x:Nat):Int)+1))).length+1<=sizeLine:=by rw[b,aD,cm];exact small (by lia)
 have k:(cutD (l.map ae) none (some (((l.idxOf x:Nat):Int)+1))++ [ae p]).length+(cutD (l.map ae) (some (((l.idxOf x:Nat):Int)+1)) none).length<=sizeLine:=by
  rw[b,d,b7,aD,aD,cm,fR];exact small (by simp;lia)
 have e:(.lst ((cutD (l.map ae) none (some (((l.idxOf x:Nat):Int)+1))++ [ae p])++cutD (l.map ae) (some (((l.idxOf x:Nat):Int)+1)) none):D)=aq (qT l x p):=by
  rw[b,d];unfold aq qT ins;rw[cJ,h7,nZ];rfl
 rw[<-e] at q;exact⟨_,rfl,_,rfl,_,rfl,by show 1<=sizeLine;decide,sz,_,rfl,_,rfl,_,rfl,_,rfl,k,q⟩
theorem IA(a:R.length=n)(b:i<n):(bM R i+1)%n=i:=by
 unfold bM
 split
 ·next h=>rw[h,a,show n-1+1=n by lia,rj]
 ·next h=>rw[show i-1+1=i by lia,ji b]
theorem E7{w:W}(g:Good w)(R:dj w a)(c:k<a.length){i:Nat}(b:i<((jL a).getD k []).length):((jL a).getD k []).getD (bM ((jL a).getD k []) i) 0∈row w (((jL a).getD k []).getD i 0):=by
 have e:(jL a).getD k []=(a[k]).map (·.1):=by rw[aU,dF,bB c];rfl
 obtain⟨d,f,h,_⟩:=R.rnd a[k] (n0 c);rw[e] at b ⊢;have j:i<a[k].length:=by simpa using b
 have l:bM (a[k].map (·.1)) i<a[k].length:=by have:=jz b;simpa using this
 have:=LI g f h l
 rw[IA (by rw[aD]) j] at this
 exact g.sym _ _ this
def qd(w:W)(a:List Nat)(i j:Nat):W:=tie w (a.getD i 0) ((row w (a.getD i 0)).idxOf (a.getD (bM a i) 0)+1) (a.getD j 0) ((row w (a.getD j 0)).idxOf (a.getD (bM a j) 0)+1)
def LY:cK:=λb P=>∃(w:W)(a i j:Nat),b= [.dY w,ae a,ae i,ae j]/\Good w/\2<=w.length/\w.length<=14/\a<(cS w).length/\i<((cS w).getD a []).length/\j<((cS w).getD a []).length/\
 ((cS w).getD a []).getD i 0≠((cS w).getD a []).getD j 0/\((cS w).getD a []).getD j 0∉row w (((cS w).getD a []).getD i 0)/\(Good (qd w ((cS w).getD a []) i j)->P (.dY (qd w ((cS w).getD a []) i j)))
theorem Fu:FnOk P w Z.K mg base cq 6 T.d_put_in.f T.d_put_in.fd ["web","land","i","j"] (aR Z LY):=by
 have v:=yk.nd;refine aV T.d_put_in.F yk [0,0,0,0,0,0,0,0,1] (by decide) (λds R h=>by obtain⟨_,_,_,_,rfl,_⟩:=h;rfl) (λbI A outer s H E ds R l h=>?_)
 have hu:=l.units
 refine⟨_,(ao (aE false 4 v (ax T.d_lands (uB T) l (ab (aa 0) ag)))
   (ao (bZ (eQ (dG (ax T.d_is_among (fY T) l (ab (aa 1) (ab (az aX rfl T.B.len aW (ab (aa 4) ag)) ag))))) (ar lT) aZ)
   (ao (aE false 5 v (br (aa 4) (aa 1)))
   (ao (bZ (DW.dt (mV (eQ (dG (ax T.d_is_among (fY T) l (ab (aa 2) (ab (az aX rfl T.B.len aW (ab (aa 5) ag)) ag))))) (jq (eQ (dG (ax T.d_is_among (fY T) l (ab (aa 3) (ab (az aX rfl T.B.len aW (ab (aa 5) ag)) ag)))))))) (ar lT) aZ)
   (ao (AK 6 7 rfl v (ab (br (aa 5) (aa 2)) (ab (br (aa 5) (aa 3)) ag)))
   (ao (bZ (DW.dt (mV (bf (lg hu) (aa 6) (aa 7) (bR _)) (jq (dG (wQ T.W (aa 0) T.m_tied.m (By T) (l.mono (by decide)) T.m_tied.b (ab (aa 6) (ab (aa 7) ag))))))) (ar lT) aZ)
   (ao (gS 8 v (HE T.W (aa 0) T.m_turns.m (pE T) (l.mono (by decide)) T.m_turns.b))
   (ao (jK 8 (aa 6) (qo T.d_put_behind (nH T) l (ab (br (aa 8) (aa 6)) (ab (br (aa 5) (ay iF (aa 2) aw)) (ab (aa 7) ag)))))
   (ao (jK 8 (aa 7) (qo T.d_put_behind (nH T) l (ab (br (aa 8) (aa 7)) (ab (br (aa 5) (ay iF (aa 3) aw)) (ab (aa 6) ag)))))
   (ar (aK (Cy T.mkW (mj T) (l.mono (by decide)) rfl T.mC T.m___init__b (ab (aa 8) ag))))))))))))),?_⟩
 obtain⟨c,d,i,j,rfl,g,h2,O,n,C,G,ne,o,q⟩:=h;refine⟨_,rfl,c,rfl,g,by lia,O,λz=>by lia,λ_ rs R Q=>⟨trivial,?_⟩⟩
 have lk:d<rs.length:=by rw[Q,aD] at n;exact n
 have I:=λk hk=>E7 g R lk (i:=k) hk;rw[<-Q] at I;have S:((cS c).map aq).length=(cS c).length:=aD _;have N:gn ((cS c).map aq) (d:Int)=some (aq ((cS c).getD d [])):=ij (by rw[dF,bB n,aU,bB n];rfl)
 generalize (cS c).getD d []=e at C G ne o q N I;generalize cS c=U at n S N;have X:(e.map ae).length=e.length:=aD _;have d1:decide ((0:Int)<=(d:Int)/\(d:Int)<((U.map aq).length:Int))=true:=by rw[S];exact FS (by lia)
 refine⟨_,rfl,_,rfl,_,_,rfl,rfl,?_⟩;refine(?_:if (!decide ((0:Int)<=(d:Int)/\(d:Int)<((U.map aq).length:Int)))=true then _ else _);rw[d1];refine ck ?_;refine⟨_,rfl,_,rfl,_,N,trivial,?_⟩;have d2:decide ((0:Int)<=(i:Int)/\(i:Int)<((e.map ae).length:Int))=true:=by rw[X];exact FS (by lia)
 have d3:decide ((0:Int)<=(j:Int)/\(j:Int)<((e.map ae).length:Int))=true:=by rw[X];exact FS (by lia)
 refine⟨_,rfl,_,rfl,_,_,rfl,rfl,?_⟩;refine(?_:if (!decide ((0:Int)<=(i:Int)/\(i:Int)<((e.map ae).length:Int)))=true then _ else _);rw[d2];refine ck ?_;refine⟨_,rfl,_,rfl,_,_,rfl,rfl,?_⟩;refine(?_:if (!decide ((0:Int)<=(j:Int)/\(j:Int)<((e.map ae).length:Int)))=true then _ else _);rw[d3];refine ck ?_;refine⟨_,rfl,_,rfl,_,dE C,_,rfl,_,rfl,_,dE G,_,_,rfl,?_⟩;have J:=I i C;have L:=I j G;have Y:=qy C;have pb:=qy G;unfold qd at q;generalize e.getD i 0=a at ne o J q;generalize e.getD j 0=b at ne o L q;generalize e.getD (bM e i) 0=x at J q Y;generalize e.getD (bM e j) 0=y at L q pb;have t:=b9 J;have M:=b9 L;refine⟨_,rfl,_,rfl,?_⟩;refine(?_:Hx (.int (a:Int)) (.int (b:Int)) _);refine wM ⟨_,rfl,GB (FM (by lia)) ?_⟩
 refine⟨_,rfl,c,rfl,_,rfl,_,rfl,c,a,b,rfl,g,t,M,rfl,GB (FM o) ?_⟩;refine⟨_,rfl,c,rfl,c,rfl,O,_,rfl,?_⟩;have g2:Good (tie c a ((row c a).idxOf x+1) b ((row c b).idxOf y+1)):=HN g t M (λz=>ne z.symm) o;have rla:=dg g a;have rlb:=dg g b;have lw:(c.map aq).length=c.length:=aD _;have fl:∀r:List Nat,(r.map ae).all fv=true:=bG;refine⟨_,rfl,_,rfl,_,dW t,_,rfl,_,rfl,_,Y,_,rfl,row c a,x,b,rfl,by lia,J,_,rfl,fl _,_,rfl,_,rfl,(a:Int),a,rfl,iq (by rw[lw];exact t),?_⟩
 have e1:(c.map aq).set a (.lst ((qT (row c a) x b).map ae))=(c.set a (qT (row c a) x b)).map aq:=by rw[uX];rfl
 have rb:row (c.set a (qT (row c a) x b)) b=row c b:=by rw[yf t,ir ne]
 have W7:(c.set a (qT (row c a) x b)).length=c.length:=mJ ..;rw[e1];have u:=dW (w:=c.set a (qT (row c a) x b)) (p:=b) (by rw[W7];exact M)
 rw[rb] at u;refine⟨_,rfl,_,rfl,_,u,_,rfl,_,rfl,_,pb,_,rfl,row c b,y,a,rfl,by lia,L,_,rfl,fl _,_,rfl,_,rfl,(b:Int),b,rfl,iq (by rw[aD,W7];exact M),?_⟩
 have e2:((c.set a (qT (row c a) x b)).map aq).set b (.lst ((qT (row c b) y a).map ae))=(tie c a ((row c a).idxOf x+1) b ((row c b).idxOf y+1)).map aq:=by
  unfold tie;rw[uX,uX,uX];rfl
 rw[e2];have tl:=tU c a ((row c a).idxOf x+1) b ((row c b).idxOf y+1);exact⟨_,rfl,_,rfl,g2,by lia,by lia,q g2⟩
end ou
namespace Wb
section
variable {w w':W} {R:List Nat}
theorem cH.RP(b:R.Nodup)(len:3<=R.length)(h:∀i,i<R.length->R.getD ((i+1)%R.length) 0∈row w (R.getD i 0)):cH w R:=⟨b,len,λp c=>by
 obtain⟨i,a,e⟩:=gh.mp c;have d:R.getD i 0=p:=by rw[aU,bB a];exact e
 rw[<-d,jB b a];exact h i a⟩
theorem qX(a:2<=k)(b:k<R.length):(R.take (k-1)++R.drop k).getD i 0=if i<k-1 then R.getD i 0 else R.getD (i+1) 0:=by
 rw[aU,abn,cm,Nat.min_eq_left (by lia)]
 split
 ·next c=>rw[t4 c,<-aU]
 ·next c=>rw[rf,<-aU,show k+(i-(k-1))=i+1 by lia]
theorem cH.without(T:cH w R)(j:4<=R.length)(b:2<=k)(d:k<R.length)(a:∀p q,q∈row w p->q∈row w' p)(new:R.getD k 0∈row w' (R.getD (k-2) 0)):cH w' (R.take (k-1)++R.drop k):=by
 have len:(R.take (k-1)++R.drop k).length=R.length-1:=by rw[b7,cm,fR];lia
 have e:(R.take (k-1)++R.drop k).Nodup:=by
  have:=T.nd
  rw[<-hV (k-1) R] at this;refine this.sublist (List.Sublist.append_left ?_ _);rw[show R.drop k=(R.drop (k-1)).drop 1 by rw[abu];congr 1;lia]
  exact List.drop_sublist _ _
 refine cH.RP e (by lia) λi f=>?_
 rw[len] at f;rw[len,qX b d,qX b d]
 by_cases c:i<k-2
 ·rw[tz (by lia:i<k-1),ji (by lia),tz (by lia)]
  have:=T.next (i:=i) (by lia)
  rw[ji (by lia)] at this
  exact a _ _ this
 ·by_cases g:i=k-2
  ·subst g
   rw[tz (by lia:k-2<k-1),ji (by lia),ir (by lia),show k-2+1+1=k by lia]
   exact new
  ·rw[ir (by lia:¬i<k-1)]
   have:=T.next (i:=i+1) (by lia)
   by_cases h:i+1<R.length-1
   ·rw[ji h,ir (by lia)]
    rw[ji (by lia)] at this
    exact a _ _ this
   ·rw[show i+1=R.length-1 by lia,rj,tz (by lia)]
    rw[show i+1+1=R.length by lia,rj] at this
    rw[show R.length-1=i+1 by lia]
    exact a _ _ this
theorem Mc(a:p<w.length)(b:u<w.length)(ne:u≠p):(∀x q,q∈row w x->q∈row (tie w p i u j) x)/\u∈row (tie w p i u j) p:=by
 refine⟨λx q h=>?_,?_⟩
 ·rw[yg a b]
  split
  ·next e=>subst e;exact dU.mpr (.inr h)
  ·split
   ·next e=>subst e;exact dU.mpr (.inr h)
   ·exact h
 ·rw[yg a b,ir ne,tz rfl]
  exact dU.mpr (.inl rfl)
end
end Wb
namespace ou
open PySem L2 Wb
variable {P:Program} {w:World} {mg:Str->Option Value} {base:Heap} {Z:DC} (T:Txt Z mg)
theorem vH(w:W)(R:List Nat)(m:Nat):(aF w R m).Pairwise lexLe:=by
 unfold aF;refine jU (λi _=>?_) ?_
 ·unfold fk
  rw[hZ];exact(yO.filter _).imp λ {a b} h=> .inr ⟨rfl,by show i+1+a<=i+1+b;lia⟩
 ·refine yO.imp λ {a b} h x c y d=>?_
  obtain⟨_,_,rfl⟩:=bY.mp c;obtain⟨_,_,rfl⟩:=bY.mp d;exact .inl h
theorem wG(w:W)(R:List Nat)(m:Nat):(aF w R m).Nodup:=by
 unfold aF;refine pC sC (λi _=>?_) λa _ b _ x c d=>?_
 ·unfold fk
  exact tB (sC.filter _) λa _ b _ e=>by have:=(aal e).2;lia
 ·obtain⟨_,_,rfl⟩:=bY.mp c
  obtain⟨_,_,e⟩:=bY.mp d;exact(aal e).1.symm
theorem u0{w:W}(b:a.Nodup)(c:a.Pairwise lexLe)(d:∀i j,(i,j)∈a↔i<j/\j<R.length/\R.getD j 0∈withinL w R i):a=aF w R R.length:=
 lex_uniq c (vH w R _) b (wG w R _) λt=>(d t.1 t.2).trans ⟨λh=>oJ h.1 h.2.1 h.2.2,λh=>u3 h⟩
def LS:cK:=λa P=>∃(w:W)(R:List Nat),a= [aM w,aq R]/\Good w/\w.length<=14/\cH w R/\∀L:List Nat,L.Pairwise (·<·)->(∀p,p∈L↔Fl w R p)->P (aq L)
theorem xM:FnOk P w Z.K mg base cq 2 T.d__law_flood.f T.d__law_flood.fd ["_law_turns","_law_ring"] (aR Z LS):=by
 have N:=pS.nd;refine aV T.d__law_flood.F pS [0,0,1,0,1,0] (by decide) (λds R h=>by obtain⟨_,_,rfl,_⟩:=h;rfl) (λbI A outer s H E ds R hr h=>?_)
 have hu:=hr.units
 refine⟨_,(ao (gS 2 N (kr ag))
   (ao (oM rfl GT (rD rfl T.B.range (ab (az aX rfl T.B.len aW (ab (aa 1) ag)) ag)) (aT 3 N) (ar (Cz 2 N (ax T.d__law_within (iX T) hr (ab (aa 0) (ab (aa 1) (ab (aa 3) ag)))))))
   (ao (gS 4 N (kr ag))
   (ao (lU GT (bf (uz hu) (aa 2) (dS ag) (bR _)) (ao (AL 5 2 N)
   (ar (bZ (DW.dt (sN (bf me (aa 5) (aa 1) (by with_unfolding_all rfl)) (oP (bf me (aa 5) (aa 4) (by with_unfolding_all rfl))))) (ao (ku false 4 (aa 5))
   (ar (Cz 2 N (br (aa 0) (aa 5))))) aZ))))
   (ar (aK (az Hw rfl T.B.sorted ik (ab (aa 4) ag)))))))),?_⟩
 obtain⟨j,b,rfl,g,bD,S,q⟩:=h;have LA:=S.uI g;have lR:(b.map ae).length=b.length:=aD _;have wl:∀i,i<b.length->(withinL j b i).length<=14:=λi v=>qf g bD S v;refine⟨by show 0<=sizeLine;decide,?_⟩
 refine⟨_,rfl,⟨by lia,by show((b.map ae).length:Int)<2^62;lia⟩,?_⟩
 rw[show(((b.map ae).length:Int)).toNat=b.length by lia]
 refine ug (λi C=>∃(d:List Nat)(O:Option D),C= [some (aM j),some (aq b),some (.lst (d.map ae)),O,none,none]/\d.length<=14*i/\∀z,z∈d↔∃k,k<i/\z∈withinL j b k) ⟨[],none,rfl,cF _,λz=>⟨(λh=>nomatch h),λ⟨k,h,_⟩=>by lia⟩⟩ ?_ ?_
 ·rintro i _ v ⟨d,O,rfl,hl,Q⟩ A hA
  have:=wl i v
  refine⟨_,rfl,_,rfl,_,rfl,_,rfl,j,b,i,rfl,g,bD,S,v,?_⟩;refine⟨_,rfl,by rw[aD,aD];exact small (by lia),?_⟩
  refine hA _ ⟨d++withinL j b i,some (ae i),by rw[cJ];rfl,by rw[b7];lia,λz=>?_⟩
  rw[cV,Q]
  constructor
  ·rintro(⟨k,h1,X⟩ |h)
   ·exact⟨k,by lia,X⟩
   ·exact⟨i,by lia,h⟩
  ·rintro⟨k,h1,X⟩
   by_cases c:k=i
   ·subst c;exact .inr X
   ·exact .inl ⟨k,by lia,X⟩
 ·rintro _ ⟨U,O,rfl,J3,start⟩
  refine⟨by show 0<=sizeLine;decide,?_⟩
  refine j6 (λm C=>∃(d a:List Nat)(Y:Option D),C= [some (aM j),some (aq b),some (.lst (d.map ae)),O,some (.lst (a.map ae)),Y]/\a.Nodup/\(∀p∈a,Fl j b p)/\(∀z∈d,z∉b->Fl j b z)/\
   (∀z∈U,z∉b->z∈a\/z∈d)/\(∀p∈a,∀q∈row j p,q∉b->q∈a\/q∈d)/\m=d.length+20*(20-a.length)/\d.length<=200+20*a.length) (U.length+400) ?_ ?_
  ·exact⟨U,[],_,rfl,jj,(λp t=>nomatch t),λz o n=>let ⟨i,v,h⟩:=(start z).mp o;Fl.start v h n,λz o _=> .inr o,(λp t=>nomatch t),rfl,(by show U.length<=200+0;lia)⟩
  rintro m _ ⟨d,a,Y,rfl,nm,Q,hw,c1,c2,em,o⟩
  have ml:a.length<=14:=by
   have:=aI (m:=bb j.length) nm λp t=>bV.mpr (Fl.lt g S (Q p t))
   rw[iR] at this;lia
  have Vs:∀l:List Nat,(PyData.list (l.map nD)).depth<=64:=λl=>by have:=iK l;unfold iO at this;lia
  refine⟨_,rfl,by show 0<=sizeLine;decide,ne_nil (fN (g:=nD) (λn=>rfl) d) (Vs d) ⟨_,rfl,?_⟩⟩
  rcases B5 d with rfl| ⟨u,p,e⟩
  ·refine ck ?_
   refine⟨_,rfl,?_⟩;dsimp only[wN];refine(?_:Ay [aq a] _);refine II (by lia) λL pm oq=>?_
   refine q L (KL oq (pm.nodup_iff.mpr nm)) λp=>?_;rw[pm.mem_iff];refine⟨Q p,λt=>?_⟩;refine Fl.all (M:=λx=>x∈a) (λi z v h n=>?_) (λp q t hq n=>?_) t
   ·rcases c1 z ((start z).mpr ⟨i,v,h⟩) n with h|h
    ·exact h
    ·cases h
   ·rcases c2 p t q hq n with h|h
    ·exact h
    ·cases h
  ·rw[yK] at e
   subst e;refine Wv (by cases u<;>rfl) ?_
   rw[b7] at em o;simp only[q0] at em o;refine⟨u.map ae,ae p,by rw[cJ];rfl,?_⟩
   have keep:∀(F:DN->Prop),(p∈b\/p∈a)->(∀C,(∃(d a:List Nat)(Y:Option D),C= [some (aM j),some (aq b),some (.lst (d.map ae)),O,some (.lst (a.map ae)),Y]/\a.Nodup/\(∀p∈a,Fl j b p)/\(∀z∈d,z∉b->Fl j b z)/\
     (∀z∈U,z∉b->z∈a\/z∈d)/\(∀p∈a,∀q∈row j p,q∉b->q∈a\/q∈d)/\m-1=d.length+20*(20-a.length)/\d.length<=200+20*a.length)->F C)->
     F [some (aM j),some (aq b),some (.lst (u.map ae)),O,some (.lst (a.map ae)),some (ae p)]:=λF t hF=>by
    have drop:∀z,z∉b->(z∈a\/z∈u++ [p])->(z∈a\/z∈u):=λz n h=>by
     rcases h with h|h
     ·exact .inl h
     ·rcases cV.mp h with h|h
      ·exact .inr h
      ·rw[e7] at h
       subst h
       rcases t with t|t
       ·exact absurd t n
       ·exact .inl t
    exact hF _ ⟨u,a,_,rfl,nm,Q,λz o=>hw z (fG _ o),λz o n=>drop z n (c1 z o n),λx r y G n=>drop y n (c2 x r y G n),by lia,by lia⟩
   refine⟨_,rfl,_,rfl,rfl,bG _,_,rfl,?_⟩;refine(?_:if (if true=true then !inD (ae p) (b.map ae) else _)=true then _ else _);rw[tz rfl,gx];refine bX (λI=>?_) (λI=>?_)
   ·have I:p∉b:=by simpa using I
    refine⟨_,rfl,_,rfl,rfl,bG _,_,rfl,?_⟩;refine(?_:if (if true=true then !inD (ae p) (a.map ae) else _)=true then _ else _);rw[tz rfl,gx];refine bX (λJ=>?_) (λJ=>?_)
    ·have J:p∉a:=by simpa using J
     have ip:Fl j b p:=hw p (by simp) I
     have bT:=Fl.lt g S ip;have rl:=dg g p;refine⟨_,rfl,_,rfl,trivial,eG (by rw[aD];lia),?_⟩
     refine⟨_,rfl,_,rfl,_,rfl,_,dW bT,_,rfl,(by rw[aD,aD];exact small (by lia)),?_⟩
     refine⟨(u++row j p).length+20*(20-(a++ [p]).length),by rw[b7,b7,q0];lia,u++row j p,a++ [p],some (ae p),?_,?_,?_,?_,?_,?_,rfl,?_⟩
     ·rw[show(u++row j p).map ae=u.map ae++(row j p).map ae from cJ ..,show(a++ [p]).map ae=a.map ae++ [ae p] from cJ ..];rfl
     ·rw[fI]
      refine⟨nm,by simp,λx r y G z=>J ?_⟩
      rw[e7] at G;rw[<-G,<-z];exact r
     ·intro x r
      rcases cV.mp r with r|r
      ·exact Q x r
      ·rw[e7] at r;rw[r];exact ip
     ·intro z o n
      rcases cV.mp o with o|o
      ·exact hw z (fG _ o) n
      ·exact Fl.step ip o n
     ·intro z o n
      rcases c1 z o n with h|h
      ·exact .inl (fG _ h)
      ·rcases cV.mp h with h|h
       ·exact .inr (fG _ h)
       ·exact .inl (gm _ h)
     ·intro x r y G n
      rcases cV.mp r with r|r
      ·rcases c2 x r y G n with h|h
       ·exact .inl (fG _ h)
       ·rcases cV.mp h with h|h
        ·exact .inr (fG _ h)
        ·exact .inl (gm _ h)
      ·rw[e7] at r
       subst r;exact .inr (gm _ G)
     ·rw[b7,b7,q0];lia
    ·have J:p∈a:=by simpa using J
     exact keep _ (.inr J) λC h=>⟨m-1,by lia,h⟩
   ·have I:p∈b:=by simpa using I
    refine ck ?_;exact keep _ (.inl I) λC h=>⟨m-1,by lia,h⟩
def LX:cK:=λb P=>∃(a:List (Nat×Nat)),b= [.lst (a.map pairD), .lst (a.map pairD)]/\P (.bl true)
theorem xP:FnOk P w Z.K mg base cq 2 T.d__law_pairs.f T.d__law_pairs.fd ["_law_found","_law_due"] (aR Z LX):=by
 have e:=pV.nd;refine aV T.d__law_pairs.F pV [0,0,0] (by decide) (λg R h=>by obtain⟨_,rfl,_⟩:=h;rfl) (λn A outer s H E g R b h=>?_)
 have i:=b.units
 refine⟨_,(ao (bZ (DW.dt (mV (eQ (dG (mU "list" (aa 0) rfl T.B.isinstance rfl T.B.list gr))) (jq (bf (uz i) (aa 0) (aa 1) (bR _))))) (ar (aK jH)) aZ)
   (ao (eO rfl GT (bL (aa 0)) (aT 2 e) (ar (bZ (DW.dt (mV (eQ (dG (mU "tuple" (aa 2) rfl T.B.isinstance rfl T.B.tuple Ht))) (jq (eQ (dG (ax T.d__law_points (nJ T) b (ab (gD jG rfl T.B.list gr (ab (aa 2) ag)) (ab (gD jG rfl T.B.list gr (ab (aa 2) ag)) ag)))))))) (ar (aK jH)) aZ)))
   (ar (aK jH)))),?_⟩
 obtain⟨c,rfl,q⟩:=h;refine⟨_,rfl,rfl,rfl,ck ⟨_,rfl,_,rfl,Eo ⟨_,rfl,GB (by rw[FS rfl];rfl) ?_⟩⟩⟩
 refine⟨_,rfl,?_⟩;refine cR (λ_ k=>∃a,k= [some (.lst (c.map pairD)),some (.lst (c.map pairD)),a]) ⟨none,rfl⟩ ?_ ?_
 ·rintro j d _ l ⟨a,rfl⟩ A m
  obtain⟨t,o,rfl⟩:=dD l;refine⟨_,rfl,rfl,rfl,ck ?_⟩;exact⟨_,rfl,_,rfl,[t.1,t.2],rfl,by show 2<=100;decide,rfl,ck (m _ ⟨_,rfl⟩)⟩
 ·rintro _ ⟨a,rfl⟩
  exact q
def LZ:cK:=λa P=>∃(w:W)(R:List Nat),a= [.dY w,aM w,aq R]/\Good w/\w.length<=14/\cH w R/\P (.bl true)
theorem jS:FnOk P w Z.K mg base cq 4 T.d__law_right.f T.d__law_right.fd ["_law_web_here","_law_turns","_law_ring"] (aR Z LZ):=by
 have i:=pW.nd;refine aV T.d__law_right.F pW [0,0,0,0,0,0,1,1] (by decide) (λx R h=>by obtain⟨_,_,rfl,_⟩:=h;rfl) (λQ A outer s H E x R b h=>?_)
 have j:=b.units
 refine⟨_,(ao (aE false 3 i (gD jG rfl T.B.list gr (ab (aa 2) ag)))
   (ao (aE false 4 i (ax T.d__law_chords (nI T) b (ab (aa 1) (ab (aa 2) ag))))
   (ao (aE false 5 i (ax T.d__law_flood (xM T) b (ab (aa 1) (ab (aa 2) ag))))
   (ao (gS 6 i (qo T.d_chords (vi T) b (ab (aa 0) (ab (aa 3) ag))))
   (ao (gS 7 i (qo T.d_points_within (jR T) b (ab (aa 0) (ab (aa 3) ag))))
   (ao (bZ (DW.dt (mV (eQ (dG (ax T.d__law_pairs (xP T) b (ab (aa 6) (ab (aa 4) ag))))) (jq (eQ (dG (ax T.d__law_points (nJ T) b (ab (aa 7) (ab (aa 5) ag)))))))) (ar (aK jH)) aZ)
   (ao (ku false 6 (e9 (ab aw (ab aw ag))))
   (ao (ku false 7 aw)
   (ar (aK (mT (v8 (lg j) (ax T.d_chords ((vi T).imp IM) b (ab (aa 0) (ab (aa 3) ag))) (aa 4) (bR _)) (mT (v8 (lg j) (ax T.d_points_within ((jR T).imp IM) b (ab (aa 0) (ab (aa 3) ag))) (aa 5) (bR _)) (v9 (v8 (lg j) (aa 3) (aa 2) (bR _))))))))))))))),?_⟩
 obtain⟨c,a,rfl,g,e,d,q⟩:=h;have S:=d.uI g;refine⟨_,rfl,trivial,?_⟩;refine⟨_,rfl,_,rfl,c,a,rfl,g,e,d,trivial,?_⟩;refine⟨_,rfl,_,rfl,c,a,rfl,g,e,d,λL r t=>⟨trivial,?_⟩⟩
 have U:(aF c a a.length).length<=400:=by
  have:=kq c a a.length
  have X:a.length*a.length<=14*14:=uV (by lia) (by lia)
  lia
 have Y:L.length<=14:=by
  have:=aI (m:=bb c.length) (r.imp λh=>cn h) λp y=>bV.mpr (Fl.lt g d ((t p).mp y))
  rw[iR] at this;lia
 refine⟨_,rfl,_,rfl,c,a,rfl,g,e,d,λz k l n=>?_⟩;have C:=u0 k l n;subst C;refine⟨_,rfl,?_⟩;refine⟨_,rfl,_,rfl,c,a,rfl,g,e,d,λo u v=>?_⟩;have G:o=L:=yc u r λp=>by rw[t,v]
 subst G;refine⟨_,rfl,?_⟩;refine⟨_,rfl,_,rfl,_,rfl,rfl,ck ?_⟩;refine⟨_,rfl,_,rfl,o,rfl,by lia,rfl,ck ?_⟩
 refine⟨_,rfl,by show 2<=sizeLine;decide,trivial,eG (by rw[aD];lia),?_⟩
 refine⟨_,rfl,trivial,eG (by rw[aD];lia),?_⟩
 refine⟨_,rfl,_,rfl,c,a,rfl,g,e,d,λz k l n=>?_⟩;have I:=u0 k l n;subst I;refine⟨_,rfl,Em ⟨true,Gc D.bl (FS rfl),dJ ?_⟩⟩;refine⟨_,rfl,_,rfl,c,a,rfl,g,e,d,λJ M N=>?_⟩;have O:J=o:=yc M u λp=>by rw[N,v]
 subst O;refine⟨_,rfl,Cw ⟨true,Gc D.bl (FS rfl),dJ ?_⟩⟩;refine⟨_,rfl,_,rfl,Cw ?_⟩;rw[FS rfl];exact q
def LW:cK:=λa P=>∃(w:W)(R:List Nat),a= [.dY w,aM w,aq R]/\Good w/\2<=w.length/\w.length<=14/\cH w R/\P (.bl true)
theorem N7{R:List Nat}(k:Nat)(a:k<=R.length):(.lst (cutD (R.map ae) (some (k:Int)) none++cutD (R.map ae) none (some (k:Int))):D)=aq (R.drop k++R.take k):=by
 rw[cN _ _ (by rw[aD];exact a),cw _ _ (by rw[aD];exact a)]
 unfold aq;rw[cJ,j8,jk]
theorem Jb{w:W}(T:cH w R)(k:Nat):cH w (R.drop k++R.take k):=by
 have a:=T.nd;rw[<-hV k R] at a;refine⟨(fQ).nodup_iff.mp a,by rw[LJ];exact T.len,λp c=>?_⟩
 have b:p∈R.take k++R.drop k:=(fQ).mem_iff.mp c;rw[fP a b,hV];exact T.tie p (by rw[hV] at b;exact b)
theorem rV:FnOk P w Z.K mg base cq 7 T.d__law_of_put_in.f T.d__law_of_put_in.fd ["_law_web_here","_law_turns","_law_ring"] (aR Z LW):=by
 have L:=j4.nd;refine aV T.d__law_of_put_in.F j4 [0,0,0,0,0,0,0,0] (by decide) (λds R h=>by obtain⟨_,_,rfl,_⟩:=h;rfl) (λbI A outer s H E ds R o h=>?_)
 have hu:=o.units
 refine⟨_,(ao (eO rfl GT (bL (ax T.d_lands (uB T) o (ab (aa 0) ag))) (aT 3 L) (ar (bZ (bf (Nv hu) (aa 3) (kQ (NC:= ["_law_k","_law_ring"]) (src:= [none,some 2]) rfl (oh (av fD)) ⟨rfl,rfl,trivial⟩ (rB rfl T.B.range (ab (az aX rfl T.B.len aW (ab (aa 2) ag)) ag)) (λ_ _ _=>(bK 0 (show(["_law_k","_law_ring"]:List Str).Nodup from by decide+kernel))) (λ_ _ _=>df) (λ_ _ _=>(ay bH (ba (aa 1) (bo (aa 0)) bE) (ba (aa 1) bE (bo (aa 0)))))) (by with_unfolding_all rfl)) (ao (aE false 4 L (Er hu (ax T.d_lands (uB T) o (ab (aa 0) ag)) (aa 3)))
   (ar (oM rfl GT (wR rfl T.B.range (ab aw (ab (az aX rfl T.B.len aW (ab (aa 3) ag)) ag))) (aT 5 L) (ar (bZ (DW.dt (sN (bf Br (az aX rfl T.B.len aW (ab (aa 3) ag)) aw (bR _)) (oP (bf me (br (aa 3) (aa 5)) (br (aa 1) (br (aa 3) (ay iF (aa 5) aw))) (by with_unfolding_all rfl))))) (ao (aE false 6 L (ax T.d_put_in (Fu T) o (ab (aa 0) (ab (aa 4) (ab (ay iF (aa 5) aw) (ab (aa 5) ag))))))
   (ao (aE false 7 L (ay bH (ba (aa 3) bE (bo (ay iF (aa 5) aw))) (ba (aa 3) (bo (aa 5)) bE)))
   (ar (bZ (DW.dt (mV (eQ (dG (ax T.d__law_right (jS T) o (ab (aa 6) (ab (js T.W (aa 6) T.m_turns.m ((pE T).imp IM) (o.mono (by decide)) T.m_turns.b) (ab (aa 7) ag)))))) (jq (eQ (dG (ax T.d__law_right (jS T) o (ab (aa 0) (ab (aa 1) (ab (aa 2) ag))))))))) (ar (aK jH)) aZ)))) aZ))))) aZ)))
   (ar (aK jH))),?_⟩
 obtain⟨a,n,rfl,g,h2,N,X,q⟩:=h;have LA:=X.uI g;have lR:(n.map ae).length=n.length:=aD _;refine⟨_,rfl,a,rfl,g,by lia,N,λz=>by lia,λ_ rs Rd eL=>?_⟩
 refine cR (λ_ ρ=>∃o3 o4 t u v,ρ= [some (.dY a),some (aM a),some (aq n),o3,o4,t,u,v]) ⟨none,none,none,none,none,rfl⟩ ?_ ?_
 ·rintro i0 d _ hd ⟨o3,o4,t,u,v,rfl⟩ A hA
  obtain⟨r,o,rfl⟩:=dD hd;have hrm:=fH o;refine⟨_,rfl,?_⟩;refine⟨_,rfl,⟨by lia,by show((n.map ae).length:Int)<2^62;lia⟩,?_⟩
  rw[show(((n.map ae).length:Int)).toNat=n.length by lia,rY]
  refine iD (ρ:= [none,some (aq n)]) ae (λk=>aq (n.drop k++n.take k)) (bb n.length) _ (λk hk Y h=>?_) rfl (small (by rw[iR];lia)) λaC=>?_
  ·have hk:=bV.mp hk
   have er:=N7 (R:=n) k (by lia)
   refine⟨_,rfl,_,rfl,_,rfl,_,rfl,?_,?_⟩
   ·show _+_<=sizeLine
    rw[cN _ _ (by rw[lR];lia),cw _ _ (by rw[lR];lia),fR,cm,lR];exact small (by lia)
   ·refine(?_:Y (.lst (cutD (n.map ae) (some (k:Int)) none++cutD (n.map ae) none (some (k:Int)))))
    rw[er];exact h
  refine⟨iO r,(bb n.length).map λk=>iO (n.drop k++n.take k),kD r,fN (λk=>kD _) _,by have:=iK r;lia,_,rfl,?_⟩
  refine(?_:if (if false=true then _ else((bb n.length).map λk=>iO (n.drop k++n.take k)).any λe=>PyData.eqv e (iO r))=true then _ else _);rw[ir di];refine bX (λc=>?_) (λc=>hA _ ⟨_,_,_,_,_,rfl⟩);obtain⟨e,y,e1⟩:=ab0.mp c;obtain⟨k0,xg,rfl⟩:=bY.mp y;rw[oR,aaE] at e1;have G:cH a r:=by rw[<-e1];exact Jb X k0
  have rz:=G.uI g;have r3:=G.len;have lr:(r.map ae).length=r.length:=aD _;refine⟨_,rfl,a,rfl,g,by lia,N,λz=>by lia,λ_ _ _ _=>?_⟩
  have I:=h8.mpr hrm;have J:(cS a).getD ((cS a).idxOf r) []=r:=by rw[aU,bB I,kN I];rfl
  refine⟨_,rfl,_,rfl,(cS a).map iO,iO r,(cS a).idxOf r,fN kD _,kD r,by have:=iK r;lia,⟨iO r,by rw[dF,bB I,kN I];rfl,by rw[oR,FS rfl]⟩,λm e hm y=>?_,trivial,?_⟩
  ·rw[dF] at y
   cases O:(cS a)[m]? with
   |none=>rw[O] at y;cases y
   |some x=>
    rw[O] at y;cases y;rw[oR];refine FM λz=>?_;subst z;have vN:=(dQ.mp O).1
    have:=List.not_of_lt_findIdx (xs:=cS a) (p:=(·==x)) (i:=m) hm
    rw[(dQ.mp O).2] at this;simp at this
  generalize (cS a).idxOf r=C at I J;refine⟨_,rfl,?_⟩;refine⟨⟨by decide,by decide,by lia,by lia⟩,?_⟩
  refine wZ (λ_ ρ=>∃t u v,ρ= [some (.dY a),some (aM a),some (aq n),some (aq r),some (ae C),t,u,v]) ⟨t,u,v,rfl⟩ ?_ ?_
  ·rintro j _ Q ⟨t,u,v,rfl⟩ A' xa
   have Q:j+2<r.length:=by rw[lr] at Q;lia
   have ek:(2:Int)+(j:Int)=((j+2:Nat):Int):=by lia
   rw[ek];refine⟨_,rfl,_,rfl,?_⟩;refine bX (λc3=>?_) (λc3=>ck (xa _ ⟨_,_,_,rfl⟩));have c3:3<r.length:=by have:=KM c3;lia
   have ak:=dE (ns:=r) (p:=j+2) Q;have aj:=dE (ns:=r) (p:=j) (by lia)
   have ej:((j+2:Nat):Int)-2=(j:Int):=by lia
   have lj:=G.lt g (aS (l:=r) (i:=j) (by lia))
   refine⟨_,rfl,_,rfl,_,ak,_,rfl,_,rfl,_,rfl,ae (r.getD j 0),(by show gn (r.map ae) (((j+2:Nat):Int)-2)=_;rw[ej];exact aj),aq (row a (r.getD j 0)),dW lj,rfl,bG _,_,rfl,?_⟩
   refine(?_:if (if true=true then !inD (ae (r.getD (j+2) 0)) ((row a (r.getD j 0)).map ae) else _)=true then _ else _);rw[tz rfl,gx];refine bX (λS=>?_) (λS=>xa _ ⟨_,_,_,rfl⟩);have S:r.getD (j+2) 0∉row a (r.getD j 0):=by simpa using S
   have ne:r.getD j 0≠r.getD (j+2) 0:=λz=>by have:=getD_inj G.nd (by lia) (by lia) z;lia
   have lk:=G.lt g (aS (l:=r) (i:=j+2) (by lia))
   refine⟨_,rfl,_,rfl,_,rfl,_,rfl,a,C,j,j+2,by show[_,_,D.int (((j+2:Nat):Int)-2),_]=_;rw[ej];rfl,g,h2,N,I,by rw[J];lia,by rw[J];lia,by rw[J];exact ne,by rw[J];exact S,?_⟩
   rw[J];intro g2;refine⟨trivial,?_⟩;have M:(∀x q,q∈row a x->q∈row (qd a r j (j+2)) x)/\r.getD (j+2) 0∈row (qd a r j (j+2)) (r.getD j 0):=Mc lj lk (λz=>ne z.symm);have l2:(qd a r j (j+2)).length=a.length:=tU ..;have T2:cH (qd a r j (j+2)) (r.take (j+2-1)++r.drop (j+2)):=G.without (by lia) (by lia) Q M.1 (by rw[show j+2-2=j by lia];exact M.2)
   generalize qd a r j (j+2)=U at g2 l2 T2;have ek1:((j+2:Nat):Int)-1=((j+1:Nat):Int):=by lia
   have ca:cutD (r.map ae) none (some (((j+2:Nat):Int)-1))=(r.take (j+1)).map ae:=by rw[ek1,cw _ _ (by rw[lr];lia),jk]
   have cb:cutD (r.map ae) (some ((j+2:Nat):Int)) none=(r.drop (j+2)).map ae:=by rw[cN _ _ (by rw[lr];lia),j8]
   have sz:(cutD (r.map ae) none (some (((j+2:Nat):Int)-1))).length+(cutD (r.map ae) (some ((j+2:Nat):Int)) none).length<=sizeLine:=by
    rw[ca,cb,aD,aD,cm,fR];exact small (by lia)
   refine⟨_,rfl,_,rfl,_,rfl,_,rfl,sz,trivial,?_⟩
   have el:(.lst (cutD (r.map ae) none (some (((j+2:Nat):Int)-1))++cutD (r.map ae) (some ((j+2:Nat):Int)) none):D)=aq (r.take (j+2-1)++r.drop (j+2)):=by
    rw[ca,cb];unfold aq;rw[cJ];rfl
   refine pD [some (.dY a),some (aM a),some (aq n),some (aq r),some (ae C),some (ae (j+2)),some (.dY U),some (aq (r.take (j+2-1)++r.drop (j+2)))] (by rw[<-el];rfl) ?_
   refine⟨_,rfl,_,rfl,U,rfl,U,rfl,by lia,_,rfl,U,_,rfl,g2,by lia,T2,rfl,ck ?_⟩
   refine⟨_,rfl,_,rfl,_,rfl,a,n,rfl,g,N,X,rfl,ck ?_⟩;exact xa _ ⟨_,_,_,rfl⟩
  ·rintro _ ⟨t,u,v,rfl⟩
   exact hA _ ⟨_,_,_,_,_,rfl⟩
 ·rintro _ ⟨o3,o4,t,u,v,rfl⟩
  exact q
variable {P:Program} {w:World} {mg:Str->Option Value} {base:Heap} {Z:DC} (T:Txt Z mg)
theorem Nw:FnOk P w Z.K mg base cq 8 T.d_law.f T.d_law.fd ["_law_script"] (aR Z Hg):=by
 have b:=Hd.nd;refine aV T.d_law.F Hd [0,0,0,0,0] (by decide) (λm R h=>by obtain⟨_,rfl,_⟩:=h;rfl) (λz A outer s H E m R a h=>?_)
 have C:=a.units
 refine⟨_,(ao (wc (ax T.d__law_built (xK T) a (ab (aa 0) ag)) (gT 2 rfl (bF (aT 1 b) (bF (aT 2 b) eX))))
   (ao (aE false 3 b (ax T.d__law_web (Bz T) a (ab (aa 1) ag)))
   (ao (eO rfl GT (bL (ax T.d__law_rings (xQ T) a (ab (aa 1) (ab (aa 2) (ab (ax T.d__law_drawn (g5 T) a (ab (ax T.d__law_cell_at (fX T) a (ab (aa 0) (ab aw ag))) ag)) ag))))) (aT 4 b) (ar (bZ (eQ (dG (ax T.d__law_right (jS T) a (ab (aa 3) (ab (aa 1) (ab (aa 4) ag)))))) (ar (aK jH)) aZ)))
   (ar (aK (ax T.d__law_of_put_in (rV T) a (ab (aa 3) (ab (aa 1) (ab (aa 2) ag))))))))),?_⟩
 obtain⟨e,rfl,G,q⟩:=h;refine⟨_,rfl,e,rfl,λF i g B I c Fl=>?_⟩;have n:=Disc.Hl Fl g;refine⟨rfl,rfl,?_⟩;refine⟨_,rfl,F,rfl,g,by lia,c,trivial,?_⟩
 refine⟨_,rfl,_,rfl,_,rfl,e,2,rfl,λo=>⟨o,rfl,λp=>⟨F,i,p,rfl,g,B,c,⟨_,Fl⟩,λJ r L=>?_⟩⟩⟩;refine cR (λj t=>∃k,t= [some (.qa e),some (aM F),some (aq i),some (.dY F),k]) ⟨none,rfl⟩ ?_ ?_
 ·rintro j d _ u ⟨k,rfl⟩ A v
  obtain⟨l,x,rfl⟩:=dD u;obtain⟨M,y⟩:=r l (fH x);refine⟨_,rfl,_,rfl,_,rfl,F,l,rfl,g,c,y.Hl g,rfl,ck ?_⟩;exact v _ ⟨some (aq l),rfl⟩
 ·rintro _ ⟨k,rfl⟩
  exact⟨_,rfl,_,rfl,_,rfl,F,i,rfl,g,by lia,c,n,q⟩
theorem all_mk{l:cp}{w:World}(X:K.In h)(G:h.Ns mainGlobals b)(k:b "law"=some (.ref fa)) 
  
  
  
  
  
  
  
  
  
  
  
  
  
  
  
  
  
  
  
  
  
  
  
  
  
  
  
  
  
  
  
  
  
  
  
  
  
  
  
  (gC:bj K mainGlobals "Web"=some (some (.ref C)))
  (a0:fS K "round_from" m)
  (l0:eW K "round_from" "round_from" lL m n o p q r t u TM x)
  (c0:am K TM "round_from"=true)
  (k0:ai K (.ref m)=true)
  (a1:fS K "lands" y)
  (l1:eW K "lands" "lands" pO y z A B E F H BE TN I)
  (c1:am K TN "lands"=true)
  (k1:ai K (.ref y)=true)
  (a2:fS K "is_among" J)
  (l2:eW K "is_among" "is_among" pN J L M yl N O Q xY TQ R)
  (c2:am K TQ "is_among"=true)
  (k2:ai K (.ref J)=true)
  (a3:fS K "alien_fault" S)
  (l3:eW K "alien_fault" "alien_fault" jY S U Y sl3 oc3 kV3 dc3 pm3 TR ct3)
  (c3:am K TR "alien_fault"=true)
  (k3:ai K (.ref S)=true)
  (a4:fS K "self_fault" d4)
  (l4:eW K "self_fault" "self_fault" lM d4 od4 an4 sl4 oc4 kV4 dc4 pm4 TU ct4)
  (c4:am K TU "self_fault"=true)
  (k4:ai K (.ref d4)=true)
  (a5:fS K "twice_fault" d5)
  (l5:eW K "twice_fault" "twice_fault" j3 d5 od5 an5 sl5 oc5 kV5 dc5 pm5 TV ct5)
  (c5:am K TV "twice_fault"=true)
  (k5:ai K (.ref d5)=true)
  (a6:fS K "lone_fault" d6)
  (l6:eW K "lone_fault" "lone_fault" lJ d6 od6 an6 sl6 oc6 kV6 dc6 pm6 TX ct6)
  (c6:am K TX "lone_fault"=true)
  (k6:ai K (.ref d6)=true)
  (a7:fS K "reached_from_first" d7)
  (l7:eW K "reached_from_first" "reached_from_first" dH d7 od7 an7 sl7 oc7 kV7 dc7 pm7 TY ct7)
  (c7:am K TY "reached_from_first"=true)
  (k7:ai K (.ref d7)=true)
  (a8:fS K "apart_fault" d8)
  (l8:eW K "apart_fault" "apart_fault" jZ d8 od8 an8 sl8 oc8 kV8 dc8 pm8 TZ ct8)
  (c8:am K TZ "apart_fault"=true)
  (k8:ai K (.ref d8)=true)
  (a9:fS K "first_fault" d9)
  (l9:eW K "first_fault" "first_fault" j0 d9 od9 an9 sl9 oc9 kV9 dc9 pm9 T3 ct9)
  (c9:am K T3 "first_fault"=true)
  (k9:ai K (.ref d9)=true)
  (ZV:fS K "begun_at" P8)
  (l10:eW K "begun_at" "begun_at" pM P8 XF Tc YT Xg WC U0 Yd OH T8)
  (c10:am K OH "begun_at"=true)
  (k10:ai K (.ref P8)=true)
  (ZW:fS K "within_at" P9)
  (l11:eW K "within_at" "within_at" nj P9 XG Td YU Xh WD U2 Ye OI T9)
  (c11:am K OI "within_at"=true)
  (k11:ai K (.ref P9)=true)
  (ZX:fS K "chords" Qa)
  (l12:eW K "chords" "chords" mD Qa XH Te YV Xi WE U3 Yf OJ Ub)
  (c12:am K OJ "chords"=true)
  (k12:ai K (.ref Qa)=true)
  (ZY:fS K "points_within" Qb)
  (l13:eW K "points_within" "points_within" f6 Qb XI Tf YW Xj WG U4 Yg OK Uc)
  (c13:am K OK "points_within"=true)
  (k13:ai K (.ref Qb)=true)
  (ZZ:fS K "put_behind" Qc)
  (l14:eW K "put_behind" "put_behind" lK Qc XJ Tg YX Xk WH U5 Yh OL Ud)
  (c14:am K OL "put_behind"=true)
  (k14:ai K (.ref Qc)=true)
  (Z0:fS K "put_in" Qd)
  (l15:eW K "put_in" "put_in" uK Qd XM Th YY Xl WI U6 Yi OM Ue)
  (c15:am K OM "put_in"=true)
  (k15:ai K (.ref Qd)=true)
  (Z1:fS K "_law_cell_at" Qe)
  (l16:eW K "_law_cell_at" "_law_cell_at" i7 Qe XO Tj YZ Xm WJ U7 Yj ON Ug)
  (c16:am K ON "_law_cell_at"=true)
  (k16:ai K (.ref Qe)=true)
  (Z2:fS K "_law_drawn" Qf)
  (l17:eW K "_law_drawn" "_law_drawn" lD Qf XQ Tn Y0 Xn WK U8 Yk OO Uh)
  (c17:am K OO "_law_drawn"=true)
  (k17:ai K (.ref Qf)=true)
  (Z3:fS K "_law_grown" Qg)
  (l18:eW K "_law_grown" "_law_grown" lF Qg XR To Y1 Xo WL U9 Yl OP Ui)
  (c18:am K OP "_law_grown"=true)
  (k18:ai K (.ref Qg)=true)
  (Z4:fS K "_law_named" Qh)
  (l19:eW K "_law_named" "_law_named" fo Qh XS Tp Y2 Xp WM Va Ym OQ Uj)
  (c19:am K OQ "_law_named"=true)
  (k19:ai K (.ref Qh)=true)
  (Z5:fS K "_law_built" Qi)
  (l20:eW K "_law_built" "_law_built" lA Qi XT Tq Y3 Xq WN Vb Yn OR Uk)
  (c20:am K OR "_law_built"=true)
  (k20:ai K (.ref Qi)=true)
  (Z6:fS K "_law_web" Qj)
  (l21:eW K "_law_web" "_law_web" kF Qj XU Ts Y4 Xr WO Vc Yo OS Ul)
  (c21:am K OS "_law_web"=true)
  (k21:ai K (.ref Qj)=true)
  (Z7:fS K "_law_within" Qk)
  (l22:eW K "_law_within" "_law_within" jX Qk XW Tt Y5 Xs WQ Vd Yp OT Um)
  (c22:am K OT "_law_within"=true)
  (k22:ai K (.ref Qk)=true)
  (Z8:fS K "_law_chords" Ql)
  (l23:eW K "_law_chords" "_law_chords" g8 Ql XX Tu Y6 Xt WR Ve Yq OU Up)
  (c23:am K OU "_law_chords"=true)
  (k23:ai K (.ref Ql)=true)
  (Z9:fS K "_law_halves" Qm)
  (l24:eW K "_law_halves" "_law_halves" jW Qm XY Tv Y7 Xu WS Vf Yr OV Uq)
  (c24:am K OV "_law_halves"=true)
  (k24:ai K (.ref Qm)=true)
  (a25:fS K "_law_lesser" Qn)
  (l25:eW K "_law_lesser" "_law_lesser" g9 Qn XZ Tw Y8 Xv WT Vg Ys OW Ur)
  (c25:am K OW "_law_lesser"=true)
  (k25:ai K (.ref Qn)=true)
  (a26:fS K "_law_rings" Qo)
  (l26:eW K "_law_rings" "_law_rings" lI Qo X0 Tx Y9 Xw WU Vh Yt OX Us)
  (c26:am K OX "_law_rings"=true)
  (k26:ai K (.ref Qo)=true)
  (a27:fS K "_law_points" Qp)
  (l27:eW K "_law_points" "_law_points" hE Qp X1 Tz Za Xx WV Vi Yu OY Ut)
  (c27:am K OY "_law_points"=true)
  (k27:ai K (.ref Qp)=true)
  (a28:fS K "_law_flood" Qq)
  (l28:eW K "_law_flood" "_law_flood" lE Qq X2 TB Zb Xy WW Vj Yv OZ Uu)
  (c28:am K OZ "_law_flood"=true)
  (k28:ai K (.ref Qq)=true)
  (a29:fS K "_law_pairs" Qr)
  (l29:eW K "_law_pairs" "_law_pairs" lG Qr X3 TC Zc Xz WX Vk Yw O0 Uw)
  (c29:am K O0 "_law_pairs"=true)
  (k29:ai K (.ref Qr)=true)
  (a30:fS K "_law_right" Qs)
  (l30:eW K "_law_right" "_law_right" lH Qs X4 TF Zd XA WY Vl Yx O1 Uy)
  (c30:am K O1 "_law_right"=true)
  (k30:ai K (.ref Qs)=true)
  (a31:fS K "_law_of_put_in" Qt)
  (l31:eW K "_law_of_put_in" "_law_of_put_in" fD Qt X5 TH Ze XB WZ Vm Yy O2 Uz)
  (c31:am K O2 "_law_of_put_in"=true)
  (k31:ai K (.ref Qt)=true)
  (S8:fS K "law" Qu)
  (l32:eW K "law" "law" FO Qu X6 TJ Zf XE W0 Vn Yz O3 UA)
  (c32:am K O3 "law"=true)
  (k32:ai K (.ref Qu)=true)
  (m0:bd K (.ref C) "__init__"=some (some (.ref c)))
  (f0:b4 K (.ref c)=true)
  (ml0:eW K "__init__" "Web.__init__" fh c jd0 jn0 js0 jc0 jk0 jo0 jp0 Ww jt0)
  (mc0:am K Ww "Web.__init__"=true)
  (mk0:ai K (.ref c)=true)
  (m1:bd K (.ref C) "many"=some (some (.ref d)))
  (f1:b4 K (.ref d)=true)
  (ml1:eW K "many" "Web.many" pK d jd1 jn1 js1 jc1 jk1 jo1 jp1 Wx jt1)
  (mc1:am K Wx "Web.many"=true)
  (mk1:ai K (.ref d)=true)
  (m2:bd K (.ref C) "turns"=some (some (.ref f)))
  (f2:b4 K (.ref f)=true)
  (ml2:eW K "turns" "Web.turns" g7 f jd2 jn2 js2 jc2 jk2 jo2 jp2 Wy jt2)
  (mc2:am K Wy "Web.turns"=true)
  (mk2:ai K (.ref f)=true)
  (m3:bd K (.ref C) "ties"=some (some (.ref g)))
  (f3:b4 K (.ref g)=true)
  (ml3:eW K "ties" "Web.ties" kE g jd3 jn3 js3 jc3 jk3 jo3 jp3 Wz jt3)
  (mc3:am K Wz "Web.ties"=true)
  (mk3:ai K (.ref g)=true)
  (m4:bd K (.ref C) "tied"=some (some (.ref i)))
  (f4:b4 K (.ref i)=true)
  (ml4:eW K "tied" "Web.tied" pL i jd4 jn4 js4 jc4 jk4 jo4 jp4 WA jt4)
  (mc4:am K WA "Web.tied"=true)
  (mk4:ai K (.ref i)=true)
  (m5:bd K (.ref C) "behind"=some (some (.ref j)))
  (f5:b4 K (.ref j)=true)
  (ml5:eW K "behind" "Web.behind" lu j jd5 jn5 js5 jc5 jk5 jo5 jp5 WB jt5)
  (mc5:am K WB "Web.behind"=true)
  (mk5:ai K (.ref j)=true)
  (pgC:b6 K C Str.empty=true)
  (EG:ce K C=true)
  (poC:cA K C=true)
  (saC:bd K (.ref C) "__setattr__"=some (some (.builtin "object.__setattr__")))
  (mkC:dc K C=true)
  (kpC:ai K (.ref C)=true)
  (nR:bd K (.ref C) "rows"=some none)
  (T7:bj K mainGlobals "__name__"=some (some (.str "law_mapdye_k32_chords_and_points_within" ZF)))
  (cc1:bj K mainGlobals "MOST_POINTS"=some (some (.int 14 Sy)))
  (ZK:bj K mainGlobals "len"=some none)
  (Oy:bj K mainGlobals "range"=some none)
  (ZL:bj K mainGlobals "max"=some none)
  (ZM:bj K mainGlobals "min"=some none)
  (D6:bj K mainGlobals "enumerate"=some none)
  (ZP:bj K mainGlobals "zip"=some none)
  (Ml:bj K mainGlobals "sorted"=some none)
  (ZI:bj K mainGlobals "all"=some none)
  (B0:bj K mainGlobals "isinstance"=some none)
  (ZJ:bj K mainGlobals "int"=some none)
  (SJ:bj K mainGlobals "bool"=some none)
  (SK:bj K mainGlobals "list"=some none)
  (Oz:bj K mainGlobals "tuple"=some none)
  (ZO:bj K mainGlobals "sum"=some none)
  (Gd:bj K mainGlobals "reversed"=some none)
  (ZN:bj K mainGlobals "set"=some none)
  :∃fd:FuncData,(∀(s:Shared)(v:Value),BindsTo s fd ⟨[v],[]⟩ [("_law_script",v)])/\∀base:Heap,K.In base->base.Ns mainGlobals b->FnOk l.prog w K b base cq 40 fa fd ["_law_script"] (L2.tT K):=by
 have e:=k.symm.trans (aa6 X G S8);cases e;have E0:=sT (st:=fh) ml0 mc0 mk0;have e0:=E0.binds (ps:= ["self","turns"]) (λ_ _ _ _ _ _ _ a=>by obtain⟨_,_,rfl⟩:=L2.nF a;rfl)
 let Z:DC:=⟨K,C⟩
 let T:Txt Z b:=⟨⟨KB X G ZK,KB X G Oy,KB X G ZL,KB X G ZM,KB X G D6,KB X G ZP,KB X G Ml,KB X G ZI,KB X G B0,KB X G ZJ,KB X G SJ,KB X G SK,KB X G Oz,KB X G ZO,KB X G Gd⟩,KB X G ZN, .of X G a0 l0 c0 k0 (λ_ _ _ _ _ _ _ a=>by obtain⟨_,_,rfl⟩:=L2.nF a;rfl), .of X G a1 l1 c1 k1 (λ_ _ _ _ _ _ _ a=>by obtain⟨_,rfl⟩:=L2.iN a;rfl), .of X G a2 l2 c2 k2 (λ_ _ _ _ _ _ _ a=>by obtain⟨_,_,rfl⟩:=L2.nF a;rfl), .of X G a3 l3 c3 k3 (λ_ _ _ _ _ _ _ a=>by obtain⟨_,rfl⟩:=L2.iN a;rfl), .of X G a4 l4 c4 k4 (λ_ _ _ _ _ _ _ a=>by obtain⟨_,rfl⟩:=L2.iN a;rfl), .of X G a5 l5 c5 k5 (λ_ _ _ _ _ _ _ a=>by obtain⟨_,rfl⟩:=L2.iN a;rfl), .of X G a6 l6 c6 k6 (λ_ _ _ _ _ _ _ a=>by obtain⟨_,rfl⟩:=L2.iN a;rfl), .of X G a7 l7 c7 k7 (λ_ _ _ _ _ _ _ a=>by obtain⟨_,rfl⟩:=L2.iN a;rfl), .of X G a8 l8 c8 k8 (λ_ _ _ _ _ _ _ a=>by obtain⟨_,rfl⟩:=L2.iN a;rfl), .of X G a9 l9 c9 k9 (λ_ _ _ _ _ _ _ a=>by obtain⟨_,rfl⟩:=L2.iN a;rfl), .of X G ZV l10 c10 k10 (λ_ _ _ _ _ _ _ a=>by obtain⟨_,_,rfl⟩:=L2.nF a;rfl), .of X G ZW l11 c11 k11 (λ_ _ _ _ _ _ _ a=>by obtain⟨_,_,_,rfl⟩:=L2.nG a;rfl), .of X G ZX l12 c12 k12 (λ_ _ _ _ _ _ _ a=>by obtain⟨_,_,rfl⟩:=L2.nF a;rfl), .of X G ZY l13 c13 k13 (λ_ _ _ _ _ _ _ a=>by obtain⟨_,_,rfl⟩:=L2.nF a;rfl), .of X G ZZ l14 c14 k14 (λ_ _ _ _ _ _ _ a=>by obtain⟨_,_,_,rfl⟩:=L2.nG a;rfl), .of X G Z0 l15 c15 k15 (λ_ _ _ _ _ _ _ a=>by obtain⟨_,_,_,_,rfl⟩:=L2.W5 a;rfl), .of X G Z1 l16 c16 k16 (λ_ _ _ _ _ _ _ a=>by obtain⟨_,_,rfl⟩:=L2.nF a;rfl), .of X G Z2 l17 c17 k17 (λ_ _ _ _ _ _ _ a=>by obtain⟨_,rfl⟩:=L2.iN a;rfl), .of X G Z3 l18 c18 k18 (λ_ _ _ _ _ _ _ a=>by obtain⟨_,rfl⟩:=L2.iN a;rfl), .of X G Z4 l19 c19 k19 (λ_ _ _ _ _ _ _ a=>by obtain⟨_,_,_,rfl⟩:=L2.nG a;rfl), .of X G Z5 l20 c20 k20 (λ_ _ _ _ _ _ _ a=>by obtain⟨_,rfl⟩:=L2.iN a;rfl), .of X G Z6 l21 c21 k21 (λ_ _ _ _ _ _ _ a=>by obtain⟨_,rfl⟩:=L2.iN a;rfl), .of X G Z7 l22 c22 k22 (λ_ _ _ _ _ _ _ a=>by obtain⟨_,_,_,rfl⟩:=L2.nG a;rfl), .of X G Z8 l23 c23 k23 (λ_ _ _ _ _ _ _ a=>by obtain⟨_,_,rfl⟩:=L2.nF a;rfl), .of X G Z9 l24 c24 k24 (λ_ _ _ _ _ _ _ a=>by obtain⟨_,_,_,rfl⟩:=L2.nG a;rfl), .of X G a25 l25 c25 k25 (λ_ _ _ _ _ _ _ a=>by obtain⟨_,_,_,rfl⟩:=L2.nG a;rfl), .of X G a26 l26 c26 k26 (λ_ _ _ _ _ _ _ a=>by obtain⟨_,_,_,rfl⟩:=L2.nG a;rfl), .of X G a27 l27 c27 k27 (λ_ _ _ _ _ _ _ a=>by obtain⟨_,_,rfl⟩:=L2.nF a;rfl), .of X G a28 l28 c28 k28 (λ_ _ _ _ _ _ _ a=>by obtain⟨_,_,rfl⟩:=L2.nF a;rfl), .of X G a29 l29 c29 k29 (λ_ _ _ _ _ _ _ a=>by obtain⟨_,_,rfl⟩:=L2.nF a;rfl), .of X G a30 l30 c30 k30 (λ_ _ _ _ _ _ _ a=>by obtain⟨_,_,_,rfl⟩:=L2.nG a;rfl), .of X G a31 l31 c31 k31 (λ_ _ _ _ _ _ _ a=>by obtain⟨_,_,_,rfl⟩:=L2.nG a;rfl), .of X G S8 l32 c32 k32 (λ_ _ _ _ _ _ _ a=>by obtain⟨_,rfl⟩:=L2.iN a;rfl),⟨⟨pgC,EG,poC,saC⟩,nR⟩,aa6 X G gC,c,_,E0,⟨mkC,m0,f0,kpC⟩,e0, .of m1 f1 ml1 mc1 mk1 (λ_ _ _ _ _ _ _ a=>by obtain⟨_,rfl⟩:=L2.iN a;rfl), .of m2 f2 ml2 mc2 mk2 (λ_ _ _ _ _ _ _ a=>by obtain⟨_,rfl⟩:=L2.iN a;rfl), .of m3 f3 ml3 mc3 mk3 (λ_ _ _ _ _ _ _ a=>by obtain⟨_,rfl⟩:=L2.iN a;rfl), .of m4 f4 ml4 mc4 mk4 (λ_ _ _ _ _ _ _ a=>by obtain⟨_,_,_,rfl⟩:=L2.nG a;rfl), .of m5 f5 ml5 mc5 mk5 (λ_ _ _ _ _ _ _ a=>by obtain⟨_,_,_,rfl⟩:=L2.nG a;rfl),⟨ZF,aa6 X G T7⟩,⟨Sy,aa6 X G cc1⟩⟩
 exact⟨_,λs v=> .of_eq rfl,λbase _ _=>(((Nw (P:=l.prog) (w:=w) (base:=base) T).mono (by decide)).imp (L2.Nd (Z:=Z)))⟩
theorem walk{l:cp}{q:Program}{a:List Str}{i:(Str->Option Value)->Heap->Prop}{c:World->Heap->Prop}{d:DefRec}{K:Params->ac}(j:l.most=some 63)(k:d.params.defaults= [])
  (m:∀(w:World)(h:Heap),c w h->(K w.params).In h)
  (F:∀(w:World)(b:Str->Option Value)(e:Addr)(h:Heap),(K w.params).In h->h.Ns mainGlobals b->b d.name=some (.ref e)->
   ∃g:FuncData,(∀(s:Shared)(u:Value),BindsTo s g ⟨[u],[]⟩ [("_law_script",u)])/\∀base:Heap,(K w.params).In base->base.Ns mainGlobals b->FnOk l.prog w (K w.params) b base cq 40 e g ["_law_script"] (tT (K w.params))):
  dL q a i c l.row.toRowW d [] (λf n=>dz f n):=L2.SD 40 (by decide) j k m F
end ou
namespace PySem.W.Fast
def tw13207643707845263914:=0
def tw13952428653357495916:=0
def tw4630112122255753809:=0
def tw8109863300160370811:=0
def tw16725162816137212233:=0
def tw2638825013017157134:=0
def tw9163094832009254928:=0
def tw4279537253811403362:=0
def tw8864760447312830887:=0
def tw13075442437655407544:=0
def tw9273511031338112792:=0
def tw4354309002292426543:=0
def tw17482233355855972119:=0
def tw2524869123013099657:=0
def tw16894228559791881415:=0
def tw14678960348295061718:=0
def tw3732595216455206418:=0
def tw10680559979295399263:=0
def tw2588452062210360820:=0
def tw14430713876404847363:=0
def tw18339545752714668985:=0
def tw12821819775067762383:=0
def tw4718805558198501493:=0
def tw13143873939860560007:=0
def tw9833408256946371705:=0
def tw18350295732201799930:=0
def tw10068991220380082019:=0
def tw12345382120048576942:=0
def tw14368105645954000344:=0
def tw6458458203975628134:=0
def tw9339649167441688397:=0
def tw633307348282529185:=0
def tw16704130142201484235:=0
def tw2508927436744328301:=0
def tw11107535982278360077:=0
def tw14986144053039068111:=0
def tw15595057973832873557:=0
def tw14671776496270506959:=0
def tw5933610677382391264:=0
def tw10102504070339162651:=0
def tw4975108440694399084:=0
def tw16390251449715819141:=0
def tw1652405739523794804:=0
def tw16943766009887960219:=0
def tw12854822895077494386:=0
def tw9808510509571946954:=0
def tw12083373684034300821:=0
def tw7040132761141851427:=0
def tw7913764434052799574:=0
def tw14697645351528358568:=0
def tw14161014194411473711:=0
def tw11116555859570596081:=0
def tw3643182111173758250:=0
def tw7097082509693138530:=0
def tw8903470200217898323:=0
def tw1510500456113017554:=0
def tw8794584251367143080:=0
def tw9824007027249084283:=0
def tw13158619414684209901:=0
def tw16192761429153742892:=0
def tw7275086012892274064:=0
def tw5776056736303144590:=0
def tw2189712432253886033:=0
def tw911963094737922689:=0
def tw15732118339834705701:=0
def tw6438859614237403008:=0
def tw7657662625530663888:=0
def tw5184195311821894653:=0
def tw7403888433127090281:=0
def tw4651331385567017641:=0
def tw13831917613153401823:=0
def tw16010055420792381228:=0
def tw12820132680975297382:=0
def tw11625526591677978834:=0
def tw279282231626986129:=0
def tw10482283643933660346:=0
def tw8409471640240681019:=0
def tw13178393272402729144:=0
def tw10822018946312767586:=0
def tw15239113241844439133:=0
def tw10528469259886521766:=0
def tw4875090706054152649:=0
def tw13840464216165669115:=0
def tw6182696465197233776:=0
def tw5492291058684040465:=0
def tw4100323557835465793:=0
def tw10729397839872380654:=0
def tw14891900085915441868:=0
def tw12204272723098686319:=0
def tw10215435804328572666:=0
def tw1196515533512348306:=0
def tw10136722323312798379:=0
def tw15519014456025996753:=0
def tw1682354394357023578:=0
def tw13756388596591513855:=0
def tw6123709058444963836:=0
def tw13165930711429646797:=0
def tw11873703769716697943:=0
def tw11107797592908241315:=0
def tw1591230724686420343:=0
def tw6370117289986174630:=0
def tw7516306083023581716:=0
def tw17673715322518626310:=0
def tw11791737315211340202:=0
def tw13155557539361481972:=0
def tw6375788510479487113:=0
def tw13875867743309538916:=0
def tw16185888418611001440:=0
def tw7775072885632788793:=0
def tw198623577118028949:=0
def tw12502364319334664630:=0
def tw1872572427300307787:=0
def tw4840856549062764742:=0
def tw4170915116285175940:=0
def tw2247929884654671878:=0
def tw5879007341829281285:=0
def tw15186307948743680480:=0
def tw12017758460175170931:=0
def tw2856230421866799205:=0
def tw13773514522628119750:=0
def tw14460647299328531532:=0
def tw12327331057251669674:=0
def tw15129805754325964731:=0
def tw2366123475076874604:=0
def tw11107159242917375875:=0
def tw14244053777133181075:=0
def tw6816659281153144079:=0
def tw5701409280025573835:=0
def tw10183503638323439940:=0
def tw15035050482976106227:=0
def tw13692004426897102093:=0
def tw9832654526564430997:=0
def tw11151127424630732780:=0
def tw9472907769396817000:=0
def tw3177815504907389859:=0
def tw15768377442924521855:=0
def tw14370385179625914618:=0
def tw15224959117522907692:=0
def tw13587989190101427749:=0
def tw6204228298361176051:=0
def tw9377478315683572089:=0
def tw652475190067314235:=0
def tw16783838999660207436:=0
def tw4904982791066123524:=0
def tw10302356638646111601:=0
def tw9387474159346263661:=0
def tw15011305696758341020:=0
def tw14222142843761353874:=0
def tw13360359845550798643:=0
def tw606757439126056007:=0
def tw7756839838894875335:=0
def tw12433514734464004888:=0
def tw11703591104459506256:=0
def tw10878155435734112563:=0
def tw9557553491698542015:=0
def tw2902625161090539718:=0
def tw4203045479772093592:=0
def tw4930076475513064728:=0
def tw2838475352857492843:=0
def tw5172439592961512103:=0
def tw13748536382301523782:=0
def tw1547076572969981843:=0
def tw8607541493633539352:=0
def tw14646187132456152970:=0
def tw12020997332836850094:=0
def tw14247484035997341848:=0
def tw16658684692471669200:=0
def tw8039975283633356859:=0
def tw17424812265229709163:=0
def tw14396646721500169531:=0
def tw8937691039895777851:=0
def tw8338773270488240853:=0
def tw1688940969292512752:=0
def tw1675816309345469650:=0
def tw9145899257229317331:=0
def tw10655269385289713989:=0
def tw17673065031493991172:=0
def tw5503547700673772581:=0
def tw7435770344715270402:=0
def tw11388253808726398200:=0
def tw1834248545495879319:=0
def tw4390297158059208241:=0
def tw11505055325216511510:=0
def tw15027962303778152371:=0
def tw388612019205726514:=0
def tw3489817009171383558:=0
def tw18069303533708883618:=0
def tw12534204644931245375:=0
def tw10410765458954307933:=0
def tw2675478749648877710:=0
def tw6299230205306696704:=0
def tw15191265558346567754:=0
def tw5006472334255067372:=0
def tw1797531064280251489:=0
def tw14130514038456420619:=0
def tw8824772185683196070:=0
def tw10345312353991740889:=0
def tw16042823001914297483:=0
end PySem.W.Fast
open PySem PySem.W PyProof.Rows
set_option maxRecDepth 100000 in
set_option maxHeartbeats 0 in
theorem PySem.Challenge.cw_mapdye_k32_chords_and_points_within_holds : PySem.Challenge.rw_mapdye_k32_chords_and_points_within.Holds := by
 w_on;o_law;k_head;(case hw=>w_witness2)
 k_fill
 refine ou.walk (l:=PySem.Challenge.rw_mapdye_k32_chords_and_points_within) rfl rfl (λw h Y=>PySem.W.kIn_of Y) ?F
 case F=>
  intro w c d h a G b
  refine' ou.all_mk a G b ?_ ?_ ?_ ?_ ?_ ?_ ?_ ?_ ?_ ?_ ?_ ?_ ?_ ?_ ?_ ?_ ?_ ?_ ?_ ?_ ?_ ?_ ?_ ?_ ?_ ?_ ?_ ?_ ?_ ?_ ?_ ?_ ?_ ?_ ?_ ?_ ?_ ?_ ?_ ?_ ?_ ?_ ?_ ?_ ?_ ?_ ?_ ?_ ?_ ?_ ?_ ?_ ?_ ?_ ?_ ?_ ?_ ?_ ?_ ?_ ?_ ?_ ?_ ?_ ?_ ?_ ?_ ?_ ?_ ?_ ?_ ?_ ?_ ?_ ?_ ?_ ?_ ?_ ?_ ?_ ?_ ?_ ?_ ?_ ?_ ?_ ?_ ?_ ?_ ?_ ?_ ?_ ?_ ?_ ?_ ?_ ?_ ?_ ?_ ?_ ?_ ?_ ?_ ?_ ?_ ?_ ?_ ?_ ?_ ?_ ?_ ?_ ?_ ?_ ?_ ?_ ?_ ?_ ?_ ?_ ?_ ?_ ?_ ?_ ?_ ?_ ?_ ?_ ?_ ?_ ?_ ?_ ?_ ?_ ?_ ?_ ?_ ?_ ?_ ?_ ?_ ?_ ?_ ?_ ?_ ?_ ?_ ?_ ?_ ?_ ?_ ?_ ?_ ?_ ?_ ?_ ?_ ?_ ?_ ?_ ?_ ?_ ?_ ?_ ?_ ?_ ?_ ?_ ?_ ?_ ?_ ?_ ?_ ?_ ?_ ?_ ?_ ?_ ?_ ?_ ?_ ?_ ?_ ?_ ?_ ?_ ?_ ?_
  all_goals (try (show _=_;k_is))


