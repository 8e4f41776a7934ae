import PyProof.Rows.All
import Wide.All
import OpenK.AllK
import Wide.FinOn
import Lean
import PyProof.EqAt
import PyProof.EqKinds
import PyProof.TupleCall
import PyProof.RaisesMany
import KE.KSortTup
import PyProof.NeKinds
import PyProof.SetKind
import PyProof.SetRoads
import PyProof.SetNew
import PyProof.WalksS
import PyProof.CollectWalk
import PyProof.TupleKey
import PyProof.IsRules
import PyProof.InstEq
import KE.KRevIter
import PyProof.FitsBits
import PyProof.P3Eq
import PyProof.ListRange
import PyProof.RulesAs
import PyProof.NsDelKeeps
import PyProof.PassesOwn
import PyProof.FString
import PyProof.MeetsSeq
import PyProof.DictRoadsH
import PyProof.DictTruth
import PyProof.MinMaxWalk
import PyProof.Rows.SetFrom
import PySem.Challenge.RW_mapdye_k21_put_in
local macro_rules|`(tactic|subst_eqs)=>`(tactic|first|exact Or.inl rfl|exact Or.inr rfl|exact Or.inr (Or.inl rfl)|exact Or.inr (Or.inr rfl)|assumption)
local macro_rules|`(tactic|bv_omega)=>`(tactic|exact ⟨rfl,rfl,rfl,by decide+kernel,rfl,by decide+kernel,by decide+kernel⟩)
local macro_rules|`(#[$x,$y,*])=>`(⟨$x,$y,*⟩)
local macro_rules|`(#[$x])=>`(⟨$x⟩)
local macro_rules|`(tactic|exists $x,*)=>`(tactic|refine⟨$x,* ,?_⟩)
open PySem.W renaming Frag→ac,findIn→ad,kitOne→ak,keepIn→aA,nsIn→bc,emptyDict→bd,codeIn→bj,fnOf→bp,specialIn→bP,instObj→b4,hasDictIn→b5,mroIn→b6,isFn→ce,plainGet→cm,takesIn→cq,kitAny→cr,OpenLaw→cM,lookIn→c3,plainOver→da,methodObj→db,takerIn→dc,makesIn→dg,clsIn→d7,WalkO→ec
open List renaming replicate→am,range→aJ,lookup→bv,length→cb,Nodup→dV
open PySem renaming Spec→bi,Within→cv,SetTable→dy,call→dL
open Array renaming replicate→dn
abbrev mo:=@if_neg
abbrev tz:=@if_pos
abbrev FM:=@decide_eq_true
abbrev GM:=@decide_eq_false
abbrev IR:=@congrArg
abbrev KB:=@of_decide_eq_true
abbrev On:=@of_decide_eq_false
abbrev Os:=@if_false
abbrev aax:=@beq_iff_eq
abbrev aaz:=@beq_eq_false_iff_ne
abbrev aaB:=@if_true
abbrev aaP:=@getElem?_pos
abbrev abd:=@bne_self_eq_false
abbrev abp:=@decide_eq_decide
abbrev ab8:=@beq_self_eq_true
open PySem renaming wpAny_bind→ir,wpAny_pure→ls,wpAny_holding→M2,wpAny_newObj_type→P3,wpAny_call_entry→SC,wpAny_truthy_bool→UF,wpAny_setState_of→UV,codeAny_builtin→aao,wpAny_loadPart_at→aas,wpAny_isSubtype_exc→aat,wpAny_standAt→aav,wpAny_Call_Name_kw→aaw,codeAny_mono→aay,mem_of_lookup→aaA,wpAny_askSetting→aaC,wpAny_passesOwn→aaD,plainId_quiet→aaF,wpAny_call→aaG,wpAny_rule→aaK,codeAny_of_tree→aaM,wpAny_setField→aaO,codeAny_call_builtin→aaS,wpAny_attempt→aaT,sizeLine_eq→aaU,wpAny_field→aaV,wpAny_of_eq→aaW,wpAny_comprehension_free→aa0,call_meets→aa8,wpAny_callSpecial?_slot→abb,wpAny_Call_method_late→abf,wpAny_newList→abi,wpAny_execs_nil→abv,wpAny_ite_false→abz,wpAny_setEntries_of→abF,wpAny_ite_true→abJ,wpAny_pyHash_tuple→abR,wpAny_pyIter_list→abY,wpAny_typeOf→ab3,wpAny_forIn_list→ab9,wpAny_specialOf→ach,codeAny_compStart_list→acn,codeAny_loop→acw,sub_set_self→acC
open PySem.Heap renaming get?_push_of_some→AC,lt_size→Do,get?_push_size→FS,get?_update_self→Pi,get?_update_other→Pv,size_update→aaR,size_push→aa7,get?_push_ne→abe,get?_update_ne→abE
open PyProof.Rows renaming wpS_bind→Da,wpS_pure→FB,wpS_mono→SB,wpS_forRange→SL,callWith_type1→aaQ,wpS_get→aaX,size_push'→aa9,wpS_modify→aba,wpS_lift→abl,slot_tuple_getitem→abu,args_list_sort→abH,assignInOrder_cons→abM,listUpdate_at→abU,subscriptTail_builtinR→acm,seqEpoch_at→aco,sortedAll_old→acv,sortedAll_at→acx,plain_sorted→acy,entry_sorted→acz,args_sorted1→acA,collect_list→acB
open Option.some renaming inj→Fk
open Classical renaming byContradiction→GE
open PySem.PassesOwn renaming never→GT
open PySem.W renaming mg_none_of→KF,mg_of→PP,kia_one→SZ,callWith_K→aaL,plainGet_of→abD,cellsFrom_some→acj
open PyProof.Rows.KeyOrd renaming kle_trans→KM,kle_of_klt→Re,kle_refl→W1,klt_of_kle_of_klt→aa2
open PySem.Around renaming under_plainId→Wp
open PySem.Obj renaming data_mapFields→aap,isFreed_of_fields→aaE
open PySem.F renaming plainAttrs_list→aaq,slot_list_append→aa4,type_list_append→aa5,excBase_ValueError→abW,args_tuple_add_2→ab2,entry_tuple_add→acb,slot_tuple_add→ack
open Prod renaming ext→aar
open PySem.Heap.SameBut renaming update→aau
open Prod.mk renaming inj→aaH
open List.Pairwise renaming imp_of_mem→aaI
open PyProof.Rows.F renaming plain_set_update_loop→aaJ,entry_set_update_loop→acd
open PySem.Calls renaming callWith_builtin→aaN,call_function_entry→aaY,evalArgs_plain→abw,Name_function_global→abS
open PySem.SeqAt.EqAt renaming int_int→aaZ
open PySem.Code renaming quiet_builtin→aa1
open Array renaming size_setIfInBounds→aa3,getElem?_setIfInBounds→abI,toList_inj→ab4,toList_filterMap→acq
open List.Perm renaming eq_of_pairwise→aa6,append_left→abr
open List renaming pairwise_singleton→abc,pairwise_lt_range→abg,all_cons→abh,take_succ_eq_append_getElem→abm,nodup_range→abn,filter_cons→abo,length_singleton→abq,pairwise_reverse→abt,range_succ→abx,reverse_reverse→aby,eq_nil_iff_forall_not_mem→abA,exists_mem_of_length_pos→abB,filterMap_cons→abC,flatMap_append→abG,countP_eq_length_filter→abK,count_set→abL,mem_filterMap→abN,find?_eq_none→abP,any_cons→abT,sum_cons→abX,reverse_perm→abZ,mem_of_find?_eq_some→ab0,count_replicate_self→ab1,all_eq_true→ab5,isEmpty_nil→ab7,of_mem_zip→ace,getElem_replicate→acr
open Bool renaming not_true→abj,or_eq_true→aci,false_and→acs,and_false→acu
open Option renaming bind_some→abk
open Nat renaming lt_of_le_of_lt→abO,not_lt_zero→acg
open Int renaming emod_lt_of_pos→abQ,natCast_emod→aca,emod_nonneg→acf
open PySem.MeetsSeq3 renaming plain_eq_loop→abV
open PySem.SetTable renaming toList_insertAt→ab6,insertAt_perm→acp
open Nat.succ renaming inj→acD
theorem ah{g:Prop}(h:∀G:Prop,(g->G)->G):g:=h g id
set_option hygiene false in
local macro_rules|`(tactic|rfl')=>`(tactic|refine ah fun G0 k0=>?_)
set_option hygiene false in
local macro_rules|`(tactic|ac_rfl)=>`(tactic|refine k0 ?_)
set_option Elab.async false
set_option linter.all false
set_option maxRecDepth 100000
abbrev aH:= @List.length_map
abbrev c9:= @List.getElem?_eq_some_iff
abbrev eu:= @List.getElem?_eq_getElem
abbrev dh:= @List.mem_cons_of_mem
abbrev cP:= @List.mem_cons_self
abbrev fX:= @List.getD_eq_getElem?_getD
abbrev dJ:= @List.length_append
abbrev bJ:= @Nat.le_refl
abbrev eX:= @Array.length_toList
abbrev gb:= @List.mem_of_getElem?
abbrev cc:= @List.getElem?_map
abbrev dE:= @List.mem_append_right
abbrev bB:= @Nat.ne_of_lt
abbrev cO:= @Bool.false_ne_true
abbrev dX:= @Array.getElem?_toList
abbrev bL:= @List.mem_map
abbrev bV:= @List.map_cons
abbrev cT:= @List.size_toArray
abbrev dF:= @List.mem_singleton
abbrev dY:= @Bool.false_eq_true
abbrev cU:= @List.mem_append
abbrev df:= @List.map_append
abbrev dG:= @List.length_cons
abbrev dm:= @List.length_set
abbrev fk:= @Nat.lt_of_lt_of_le
abbrev cV:= @List.mem_cons
abbrev ig:= @List.mem_append_left
abbrev ji:= @List.getElem?_set_self
abbrev kD:= @List.getElem?_append_left
abbrev dH:= @List.map_map
abbrev fF:= @List.mem_range
abbrev f6:= @List.append_nil
abbrev ic:= @List.nodup_append
abbrev jj:= @List.getElem?_set_ne
abbrev j0:= @List.getElem?_eq_none
abbrev mP:= @List.getElem?_append_right
abbrev f7:= @List.nodup_nil
abbrev jk:= @Array.toList_append
abbrev iV:= @List.pairwise_map
abbrev ik:= @List.length_take
abbrev fm:= @Nat.zero_le
abbrev oY:= @Array.getElem?_eq_getElem
abbrev iY:= @Nat.le_of_not_lt
abbrev j1:= @List.append_assoc
abbrev mQ:= @List.take_append_drop
abbrev qc:= @List.drop_eq_getElem_cons
abbrev tj:= @List.nodup_iff_pairwise_ne
abbrev j2:= @List.nodup_cons
abbrev uW:= @Array.getElem?_eq_some_iff
abbrev mR:= @List.getElem?_set
abbrev j3:= @Nat.lt_irrefl
abbrev oZ:= @Nat.lt_succ_of_lt
abbrev uX:= @List.getElem?_replicate
abbrev uY:= @List.getElem?_cons_succ
abbrev mS:= @List.length_nil
abbrev tm:= @List.getElem?_of_mem
abbrev uZ:= @List.take_of_length_le
abbrev qd:= @Bool.eq_false_iff
abbrev kE:= @Nat.le_trans
abbrev xX:= @List.set_eq_of_length_le
abbrev u0:= @List.pairwise_append
abbrev zR:= @List.perm_ext_iff_of_nodup
abbrev xY:= @List.length_pos_of_mem
abbrev xZ:= @List.drop_eq_nil_of_le
abbrev tq:= @List.flatten_cons
abbrev ya:= @List.length_replicate
abbrev mT:= @List.map_set
abbrev tu:= @List.lookup_cons
abbrev zS:= @List.idxOf_lt_length_iff
abbrev zT:= @List.length_eq_zero_iff
abbrev u3:= @Int.toNat_natCast
abbrev tw:= @List.foldl_cons
abbrev EB:= @Array.getD_eq_getD_getElem?
abbrev yb:= @List.replicate_succ
abbrev yc:= @List.reverse_append
abbrev u4:= @List.length_drop
abbrev u5:= @Bool.and_eq_true
abbrev u6:= @Nat.mod_eq_of_lt
abbrev u7:= @List.mem_reverse
abbrev EC:= @List.pairwise_iff_getElem
abbrev o9:= @Nat.le_succ
abbrev qe:= @Nat.sub_self
abbrev yd:= @List.flatMap_cons
abbrev ye:= @Array.toList_push
abbrev ED:= @List.eraseIdx_cons_succ
abbrev u9:= @List.take_zero
abbrev EE:= @List.drop_of_length_le
abbrev tB:= @Nat.zero_add
abbrev zU:= @Array.size_extract
abbrev yf:= @List.nil_append
abbrev yg:= @List.mem_filter
abbrev HI:= @Array.perm_iff_toList_perm
abbrev zV:= @List.ext_getElem?
abbrev EF:= @Array.toList_reverse
abbrev zW:= @List.getElem_mem
abbrev HJ:= @List.getElem?_take_of_lt
abbrev zX:= @List.mem_flatMap
abbrev zY:= @List.mem_flatten
abbrev EG:= @List.getElem?_range
abbrev EH:= @List.flatten_append
abbrev qO:= @List.map_take
abbrev mw:= @Nat.mod_lt
abbrev xS:= @List.getElem?_drop
abbrev B3:= @Array.getElem?_eq_none
abbrev B4:= @List.range_succ_eq_map
abbrev xT:= @List.length_range
abbrev qP:= @Nat.le_of_lt
abbrev qQ:= @Nat.ne_of_gt
abbrev uw:= @Nat.mul_le_mul
abbrev xU:= @Nat.lt_succ_self
abbrev xV:= @List.take_length
abbrev B5:= @List.mem_of_mem_take
abbrev ux:= @List.map_drop
abbrev uy:= @List.map_nil
abbrev B6:= @List.getElem_idxOf
abbrev xW:= @List.take_succ
namespace L2
open PySem PySem.Spec PyProof.Rows
abbrev Key:=Sum Int Str
def LR:Key->Value->Bool
 | .inl k,v=>Value.isInt k v
 | .inr x,v=>Value.isStrOf x v
def We(w:World):Key->Int
 | .inl k=>hashInt k
 | .inr x=>hashStr w x
theorem cQ:∀{k:Key}{v:Value},LR k v=true->(∃i t,k=Sum.inl i/\v=Value.int i t)\/(∃x t,k=Sum.inr x/\v=Value.str x t)
 | .inl i,v,h=>by
  obtain⟨t,e⟩:=Value.isInt_shape (k:=i) (v:=v) h;exact .inl #[i,t,rfl,e]
 | .inr x,v,h=>by
  obtain⟨t,e⟩:=Value.isStrOf_shape (x:=x) (v:=v) h;exact .inr #[x,t,rfl,e]
theorem Oz(a b:Int):decide ((Sum.inl a:Key)=Sum.inl b)=(a==b):=by
 by_cases e:a=b
 .subst e;simp
 .have h:¬(Sum.inl a:Key)=Sum.inl b:=λq=>e (Sum.inl.inj q)
  rw[GM h];exact(aaz.mpr e).symm
theorem OD(a b:Str):decide ((Sum.inr a:Key)=Sum.inr b)=decide (a=b):=by
 by_cases e:a=b
 .subst e;simp
 .have h:¬(Sum.inr a:Key)=Sum.inr b:=λq=>e (Sum.inr.inj q)
  rw[GM h,GM e]
theorem OA(a:Int)(b:Str):decide ((Sum.inl a:Key)=Sum.inr b)=false:=GM (λq=>nomatch q)
theorem OC(a:Str)(b:Int):decide ((Sum.inr a:Key)=Sum.inl b)=false:=GM (λq=>nomatch q)
def wV(prog:Program)(w:World):PySem.KeyKind prog w Key where
 is:=LR
 hash:=We w
 inj:=λv a b g f=>by
  rcases cQ g with ⟨i,t,rfl,rfl⟩ | ⟨x,t,rfl,rfl⟩
  .rcases cQ f with ⟨j,u,rfl,e⟩ | ⟨y,u,rfl,e⟩
   .injection e with c _;rw[c]
   .exact nomatch e
  .rcases cQ f with ⟨j,u,rfl,e⟩ | ⟨y,u,rfl,e⟩
   .exact nomatch e
   .injection e with c _;rw[c]
 byValue:=λk v h=>by
  rcases cQ h with ⟨i,t,rfl,rfl⟩ | ⟨x,t,rfl,rfl⟩<;>rfl
 pyHash:=λd h=>by
  rcases cQ d with ⟨i,t,rfl,rfl⟩ | ⟨x,t,rfl,rfl⟩
  .exact wpAny_pyHash_int h
  .exact wpAny_pyHash_str h
 eqBool:=λl d h=>by
  rcases cQ l with ⟨i,t,rfl,rfl⟩ | ⟨x,t,rfl,rfl⟩
  .rcases cQ d with ⟨j,u,rfl,rfl⟩ | ⟨y,u,rfl,rfl⟩
   .rw[Oz] at h;exact wpAny_eqBool_int h
   .rw[OA] at h;exact SeqAt.EqAt.int_str i t y u _ _ _ _ h
  .rcases cQ d with ⟨j,u,rfl,rfl⟩ | ⟨y,u,rfl,rfl⟩
   .rw[OC] at h;exact SeqAt.EqAt.str_int x t j u _ _ _ _ h
   .rw[OD] at h;exact wpAny_eqBool_str h
 «strs»:=λk x t v h=>by
  rcases cQ h with ⟨i,u,rfl,e⟩ | ⟨y,u,rfl,e⟩
  .exact nomatch e
  .injection e with c _
   subst c;cases v<;>rfl
inductive V where
 |bu|bl (b:Bool) |int (i:Int) |str (x:Str) |HW (b:Array UInt8) |Fg (b:UInt64) |ref (a:Addr) |ty (n:String)
 deriving DecidableEq
def RelV:V->Value->Prop
 | .bu,u=>u=Value.none
 | .bl b,u=>u=Value.bool b
 | .int i,u=>∃t,u=Value.int i t
 | .str x,u=>∃t,u=Value.str x t
 | .HW b,u=>∃t,u=Value.bytes b t
 | .Fg b,u=>∃t,u=Value.float b t
 | .ref a,u=>u=Value.ref a
 | .ty n,u=>u=Value.type n
abbrev Vals:List V->List Value->Prop:=Paired RelV
theorem Vals.length{xs:List V}{a:List Value}(r:Vals xs a):xs.length=a.length:=Paired.length r
theorem Vals.get:∀{xs:List V}{a:List Value}{i:Nat}{x:V},Vals xs a->xs[i]? =some x->∃u,a[i]? =some u/\RelV x u
 |_,_,_,_, .nil,e=>by simp at e
 |_,_,0,_, .cons r _,e=>by simp at e;subst e;exact#[_,rfl,r]
 |_,_,i+1,x, .cons _ t,e=>by
  obtain⟨u,b,c⟩:=Vals.get (i:=i) (x:=x) t (by simpa using e)
  exact#[u,by simpa using b,c]
theorem Vals.set{x:V}(r:RelV x u):∀{a:List V}{b:List Value}(i:Nat),Vals a b->Vals (a.set i x) (b.set i u)
 |_,_,_, .nil=> .nil
 |_,_,0, .cons _ t=> .cons r t
 |_,_,i+1, .cons q t=> .cons q (Vals.set r i t)
theorem Vals.append:∀{a b:List V}{c d:List Value},Vals a c->Vals b d->Vals (a++b) (c++d)
 |_,_,_,_, .nil,s=>s
 |_,_,_,_, .cons r t,s=> .cons r (Vals.append t s)
theorem Vals.take:∀{xs:List V}{a:List Value}(n:Nat),Vals xs a->Vals (xs.take n) (a.take n)
 |_,_,0,_=> .nil
 |_,_,_+1, .nil=> .nil
 |_,_,n+1, .cons r t=> .cons r (Vals.take n t)
theorem Vals.drop:∀{xs:List V}{a:List Value}(n:Nat),Vals xs a->Vals (xs.drop n) (a.drop n)
 |_,_,0,r=>r
 |_,_,_+1, .nil=> .nil
 |_,_,n+1, .cons _ t=>Vals.drop n t
def mD:Option V->Option Value->Prop
 |some v,some u=>RelV v u
 |none,none=>True
 |_,_=>False
def KV{a:Type}:List (a×V)->List (a×Value)->Prop:=Paired λ(p:a×V)(q:a×Value)=>p.1=q.1/\RelV p.2 q.2
def kV:Key->V
 | .inl i=> .int i
 | .inr x=> .str x
inductive HO where
  |lst (xs:List V)
  |tup (xs:List V)
  |dK (e8:List (Key×V)) |dT (e8:List (List Key×V))
  |set (S:Int->Bool) (n:Nat)
  |ins (C dx:Addr) (fs:List (Str×V))
  |own (x:Addr)
  |xd (fs:List (Str×V))
  |met (f x:Addr)
  |rng (lo hi:Int)
  |rG (o:Obj) (u:HO)
  |Gk (ps:Array Value)
  |ext (φ:Heap->Prop)
abbrev Hp:=Addr->Option HO
def upd(H:Hp)(a:Addr)(o:HO):Hp:=λb=>if b=a then some o else H b
theorem aw{a:Addr}{o:HO}:upd H a o a=some o:=by unfold upd;rw[tz rfl]
theorem ay{a b:Addr}{o:HO}(h:b≠a):upd H a o b=H b:=by unfold upd;rw[mo h]
theorem aV{H:Hp}{a b:Addr}{o:HO}(h:H a=some o)(c:H b=none):a≠b:=by
 intro e;subst e;rw[h] at c;cases c
section
variable (P:Program) (w:World)
def cF(H:Hp)(h:Heap)(a:Addr):HO->Prop
 | .lst c=>c.length<=sizeLine/\∃(b:List Value)(n:Nat),Vals c b/\h.get? a=some {cls:= .type "list",data:= .seq b.toArray n}
 | .tup c=>c.length<=sizeLine/\∃b:List Value,Vals c b/\IsTup h a b.toArray
 | .dK e=>e.length<=sizeLine/\(a==sysModules)=false/\∃j,KV e j/\h.DictOf (wV P w) a j
 | .dT e=>e.length<=sizeLine/\(a==sysModules)=false/\∃c:List (List Key×Addr×Value),
   Paired (λ(p:List Key×V)(q:List Key×Addr×Value)=>p.1=q.1/\H q.2.1=some (.tup (p.1.map kV))/\RelV p.2 q.2.2) e c/\
   ∃o k r,h.get? a=some o/\o.ExactDict/\o.data= .dict k r/\k.toList=c.map (entryOfKey (tupleKind (wV P w)))/\(c.map (·.1)).Nodup
 | .set S n=>h.SetOf (intKind P w) a S n
 | .ins C g fs=>H g=some (.own a)/\fs.length<=1000/\g≠a/\h.get? a=some (b4 C g)/\
   ∃d,h.Ns1 g d/\(∀f,mD (fs.lookup f) (d f))/\cv d (fs.map (·.1))
 | .own _=>∃o,h.get? a=some o
 | .xd fs=>∃d,h.Ns1 a d/\∀f,mD (fs.lookup f) (d f)
 | .rng lo s=>∃t u v,h.get? a=some {cls:= .type "range",data:= .fields [.int lo t, .int s u, .int 1 v].toArray}
 | .rG o u=>h.get? a=some o/\cF H h a u
 | .Gk y=>h.get? a=some {cls:= .none,data:= .fields y}
 | .met f x=>h.get? a=some (db (.ref f) (.ref x))
 | .ext i=>i h/\(∃o,h.get? a=some o)/\∀l m:Heap,i l->(∀o,l.get? a=some o->m.get? a=some o)->i m
def gy(H:Hp)(h:Heap):Prop:=∀a o,H a=some o->cF P w H h a o
end
section
variable {P:Program} {w:World} {H H':Hp} {h h':Heap} {a:Addr} {o:HO}
theorem cF.lt(x:cF P w H h a o):a<h.objs.size:=by
 cases o with
 |lst b=>obtain⟨_,_,_,_,e⟩:=x;exact Do e
 |tup b=>obtain⟨_,_,_,p⟩:=x;exact p.lt
 |dK c=>obtain⟨_,_,_,_,o,_,_,e,_⟩:=x;exact Do e
 |dT c=>obtain⟨_,_,_,_,o,_,_,e,_⟩:=x;exact Do e
 |set S n=>obtain⟨o,_,_,_,e,_⟩:=x;exact Do e
 |ins C d fs=>obtain⟨_,_,_,e,_⟩:=x;exact Do e
 |own y=>obtain⟨_,e⟩:=x;exact Do e
 |xd fs=>obtain⟨_,⟨_,_,_,e,_⟩,_⟩:=x;exact Do e
 |rng lo g=>obtain⟨_,_,_,e⟩:=x;exact Do e
 |rG i u=>obtain⟨e,_⟩:=x;exact Do e
 |Gk j=>exact Do (show h.get? a=some _ from x)
 |met f y=>exact Do (show h.get? a=some _ from x)
 |ext k=>obtain⟨_,⟨_,e⟩,_⟩:=x;exact Do e
theorem Paired.Qy:∀{c:List e}{d:List g},Paired F c d->(∀a b,F a b->G a b)->Paired G c d
 |_,_, .nil,_=> .nil
 |_,_, .cons r t,f=> .cons (f _ _ r) (Paired.Qy t f)
theorem cF.p8(x:cF P w H h a o)(k:∀b u,(b=a\/H b=some (.own a))->h.get? b=some u->h'.get? b=some u)
  (E:∀b,H b=some (.own a)->H' b=some (.own a)) (F:∀b m,H b=some (.tup m)->H' b=some (.tup m)):cF P w H' h' a o:=by
 induction o with
 |lst m=>obtain⟨z,l,n,r,e⟩:=x;exact#[z,l,n,r,k _ _ (.inl rfl) e]
 |tup m=>obtain⟨z,l,r,g,e,c⟩:=x;exact#[z,l,r,g,k _ _ (.inl rfl) e,c]
 |dK G=>obtain⟨z,y,I,r,g,i,j,e,c⟩:=x;exact#[z,y,I,r,g,i,j,k _ _ (.inl rfl) e,c]
 |dT G=>
  obtain⟨z,y,m,r,g,i,j,e,c⟩:=x;exact#[z,y,m,Paired.Qy r λp q z=>#[z.1,F _ _ z.2.1,z.2.2],g,i,j,k _ _ (.inl rfl) e,c]
 |set S n=>obtain⟨g,i,j,t,e,c⟩:=x;exact#[g,i,j,t,k _ _ (.inl rfl) e,c]
 |ins C N fs=>
  rfl';obtain⟨d,z,ne,e,s,⟨A,i,j,L,c⟩,r⟩:=x;ac_rfl;exact#[E _ d,z,ne,k _ _ (.inl rfl) e,s,#[A,i,j,k _ _ (.inr d) L,c],r]
 |own y=>obtain⟨g,e⟩:=x;exact#[g,k _ _ (.inl rfl) e]
 |xd fs=>obtain⟨s,⟨A,i,j,e,c⟩,r⟩:=x;exact#[s,#[A,i,j,k _ _ (.inl rfl) e,c],r]
 |rng lo Q=>obtain⟨t,u,v,e⟩:=x;exact#[t,u,v,k _ _ (.inl rfl) e]
 |rG g u M=>obtain⟨e,q⟩:=x;exact#[k _ _ (.inl rfl) e,M q]
 |Gk B=>
  have e:h.get? a=some {cls:= .none,data:= .fields B}:=x;show h'.get? a=some {cls:= .none,data:= .fields B};exact k a _ (.inl rfl) e
 |met f y=>
  have e:h.get? a=some (db (.ref f) (.ref y)):=x;show h'.get? a=some (db (.ref f) (.ref y));exact k a _ (.inl rfl) e
 |ext R=>obtain⟨p,⟨o,e⟩,st⟩:=x;exact#[st _ _ p λo q=>k _ _ (.inl rfl) q,#[o,k _ _ (.inl rfl) e],st]
theorem gy.lt(x:gy P w H h)(e:H a=some o):a<h.objs.size:=(x a o e).lt
theorem gy.fresh(x:gy P w H h)(e:h.objs.size<=a):H a=none:=by
 cases q:H a with
 |none=>rfl
 |some u=>exact absurd (fk (x.lt q) e) (j3 _)
theorem gy.kept(x:gy P w H h)(k:∀b u,h.get? b=some u->h'.get? b=some u):gy P w H h':=λa o e=>
 (x a o e).p8 (λb u _ q=>k b u q) (λ_ q=>q) λ_ _ q=>q
theorem gy.laid(x:gy P w H h)(k:∀b u,h.get? b=some u->h'.get? b=some u)(g:h.objs.size<=a)(new:cF P w (upd H a o) h' a o):gy P w (upd H a o) h':=λb u e=>by
 have d:=x.fresh g
 by_cases f:b=a
 .subst f;rw[aw] at e;cases e;exact new
 .rw[ay f] at e
  exact(x b u e).p8 (λc v _ q=>k c v q) (λc q=>by rw[ay (aV q d)];exact q) λc i q=>by rw[ay (aV q d)];exact q
end
def Rd(H:Hp)(a:Addr)(u:HO):Prop:=H a=some u\/∃o,H a=some (.rG o u)
theorem Rd.ok{P:Program}{w:World}{H:Hp}{a:Addr}(r:Rd H a u)(x:gy P w H h):cF P w H h a u:=by
 rcases r with r| ⟨o,r⟩
 .exact x a u r
 .obtain⟨_,q⟩:=x a _ r
  exact q
def Nv:Option HO->Prop
 |some (.lst _)=>True
 |some (.dK _)=>True
 |some (.dT _)=>True
 |some (.set _ _)=>True
 |some (.ins _ _ _)=>True
 |some (.ext _)=>True
 |_=>False
section
variable {P:Program} {w:World} {H:Hp} {h h':Heap} {x e:Addr} {o':HO}
theorem gy.write(ok:gy P w H h)(a:Nv (H x))(j:e=x\/H e=some (.own x))(k:∀b u,b≠e->h.get? b=some u->h'.get? b=some u)(n:∃u,h'.get? e=some u)
  (new:cF P w (upd H x o') h' x o'):gy P w (upd H x o') h':=λb u q=>by
 have l:∀c y,H c=some (.own y)->c≠x:=λc y r z=>by subst z;rw[r] at a;exact a
 have o:∀c d,H c=some (.tup d)->c≠x:=λc d r z=>by subst z;rw[r] at a;exact a
 by_cases f:b=x
 .subst f;rw[aw] at q;cases q;exact new
 .rw[ay f] at q
  by_cases g:b=e
  .have m:H b=some (.own x):=by
    rcases j with z|z
    .exact absurd (g.trans z) f
    .rw[g];exact z
   obtain⟨v,p⟩:=n;rw[q] at m;cases m;exact#[v,by rw[g];exact p]
  .refine(ok b u q).p8 (λc v i r=>k c v ?_ r) (λc r=>by rw[ay (l c b r)];exact r) λc d r=>by rw[ay (o c d r)];exact r
   rcases i with rfl|i
   .exact g
   .rintro rfl
    rcases j with z|z
    .exact l c b i z
    .rw[i] at z;cases z;exact f rfl
end
structure Un (fs ex:List Addr) (H H':Hp) (h h':Heap):Prop where
 keep:∀b o,h.get? b=some o->H b=none->b∉fs->b∉ex->h'.get? b=some o
 slot:∀b o,h.get? b=some o->H b=none->b∈fs->b∉ex->∃sl,h'.get? b=some {o with slots:=sl}
 free:∀b o,h.get? b=some o->H b=none->b∉ex->H' b=none
 there:∀b o,h.get? b=some o->b∉ex->∃o',h'.get? b=some o'
 tups:∀b xs,H b=some (.tup xs)->H' b=some (.tup xs)
 frzs:∀b o u,H b=some (.rG o u)->H' b=some (.rG o u)
 tbls:∀b ps,H b=some (.Gk ps)->∃more,H' b=some (.Gk (ps++more))
section
variable {fs RF ex pS:List Addr} {H H1 H2:Hp} {h h1 h2 h':Heap} {a x e:Addr} {o:HO}
theorem Un.any(u:Un fs ex H H1 h h1)(q:h.get? b=some c)(n:H b=none)(d:b∉ex):∃g,h1.get? b=some {c with slots:=g}:=by
 by_cases f:b∈fs
 .exact u.slot b c q n f d
 .exact#[c.slots,u.keep b c q n f d]
theorem Un.kept(k:∀b u,h.get? b=some u->h'.get? b=some u):Un fs ex H H h h':=
 #[λb c q _ _ _=>k b c q,λb c q _ _ _=>#[c.slots,k b c q],λ_ _ _ n _=>n,λb c q _=>#[c,k b c q],λ_ _ q=>q,λ_ _ _ q=>q,λ_ d q=>#[#[],by rw[q];simp]]
theorem Un.refl:Un fs ex H H h h:=Un.kept λ_ _ q=>q
theorem Un.laid(k:∀b u,h.get? b=some u->h'.get? b=some u)(d:h.objs.size<=a)(c:H a=none):Un fs ex H (upd H a o) h h' where
 keep:=λb u q _ _ _=>k b u q
 slot:=λb u q _ _ _=>#[u.slots,k b u q]
 free:=λb u q n _=>by rw[ay (bB (fk (Do q) d))];exact n
 there:=λb u q _=>#[u,k b u q]
 tups:=λb f q=>by rw[ay (aV q c)];exact q
 frzs:=λb u f q=>by rw[ay (aV q c)];exact q
 tbls:=λb g q=>#[#[],by rw[ay (aV q c),q];simp]
theorem Un.write(c:Nv (H x))(j:e=x\/H e=some (.own x))(k:∀b u,b≠e->h.get? b=some u->h'.get? b=some u)(l:∃u,h'.get? e=some u):Un fs ex H (upd H x o) h h':=by
 have f:∀b,H b=none->b≠x:=λb n z=>by subst z;rw[n] at c;exact c
 have g:∀b,H b=none->b≠e:=λb n z=>by
  subst z
  rcases j with r|r
  .exact f b n r
  .rw[n] at r;cases r
 have d:∀b u,H b=some u->¬Nv (some u)->b≠x:=λb u q m z=>by subst z;rw[q] at c;exact m c
 refine#[λb u q n _ _=>k b u (g b n) q,λb u q n _ _=>#[u.slots,k b u (g b n) q],λb u q n _=>by rw[ay (f b n)];exact n,λb u q _=>?_,
  λb p q=>by rw[ay (d b _ q λz=>z)];exact q,λb u p q=>by rw[ay (d b _ q λz=>z)];exact q,λb s q=>#[#[],by rw[ay (d b _ q λz=>z),q];simp]]
 by_cases i:b=e
 .subst i;exact l
 .exact#[u,k b u i q]
end
def PU(h:Heap)(H:Hp):List Addr:=(aJ h.objs.size).filter λa=>(H a).isSome
def rP(h:Heap)(H:Hp):Heap:=PySem.W.hideAll h (PU h H)
theorem Ft(h:Heap)(H:Hp):(rP h H).objs.size=h.objs.size:=PySem.W.hideAll_size _ _
theorem ID(e:h.get? b=some o)(n:H b=none):(rP h H).get? b=some o:=
 PySem.W.hideAll_get _ e λa=>by
  have q:(H b).isSome=true:=(yg.mp a).2;rw[n] at q;simp at q
theorem Mf(e:(rP h H).get? b=some o):h.get? b=some o/\H b=none:=by
 have a:h.get? b=some o:=PySem.W.of_hideAll (PU h H) e;exists a;cases q:H b with
 |none=>rfl
 |some x=>
  have c:b∈PU h H:=yg.mpr #[fF.mpr (Do a),by simp[q]]
  have z:(rP h H).get? b=none:=PySem.W.hideAll_none (PU h H) c;rw[z] at e;cases e
structure Mod (K:ac) (mg:Str->Option Value) (base:Heap):Prop where
 kin:K.In base
 glob:base.Ns mainGlobals mg
 blt:∃mb,base.Ns builtinsNs mb/\∀x:Str,x≠"__name__"->mb x=bootBuiltins x
 nolimit:base.NoLimit
structure Cx where
 prog:Program
 w:World
 K:ac
 mg:Str->Option Value
 base:Heap
 A:Around
 N:List Str
 s₀:Shared
 H₀:Hp
 env:Env
 outer:List Env
 stack:List Env
 ex:List Addr
 fn:Str->Bool
 calm:Bool
 pn:List (Addr×Obj)
 xe:Value->Shared->Prop
def rF(l:List Env):List Addr:=l.filterMap (·.frame)
abbrev Cx.fs(X:Cx):List Addr:=rF X.outer
def mW(a:Scope)(x:Str):Prop:=a.names.lookup x=some .local\/a.names.lookup x=some .cell\/a.names.lookup x=some .free
def Loc(a:Scope)(x:Str):Prop:=a.names.lookup x=some .local\/a.names.lookup x=some .cell
def Look(env:Env)(h:Heap)(m:Str->Option Value)(x:Str)(u:Value):Prop:=
 (env.kindOf x=some .local/\m x=some u)\/((env.kindOf x=some .cell\/env.kindOf x=some .free)/\∃c,env.cells.lookup x=some c/\h.IsCell c (some u))
structure Cx.Ok (X:Cx):Prop where
 mod:Mod X.K X.mg X.base
 kind:X.env.scope.kind= .function
 glob:X.env.globals=mainGlobals
 blt:X.env.builtins=builtinsNs
 above:X.s₀.heap.objs.size<=X.env.locals
 inj:∀x y c,X.env.cells.lookup x=some c->X.env.cells.lookup y=some c->x=y
 has:∀x,(X.env.kindOf x=some .cell\/X.env.kindOf x=some .free)->∃c,X.env.cells.lookup x=some c
 cab:∀x c,X.fn x=true->X.env.cells.lookup x=some c->X.s₀.heap.objs.size<=c
 hd:X.calm=true->X.A.handled=none
 frames:X.A.frames=some X.stack
 stk:X.stack=X.outer\/(X.stack=X.env::X.outer/\X.env.frame=some X.env.locals)
 exf:∀b∈X.ex,b≠X.env.locals/\∀x c,X.env.cells.lookup x=some c->c≠b
 bs:∀b o,X.base.get? b=some o->X.s₀.heap.get? b=some o/\X.H₀ b=none
 bsz:X.base.objs.size<=X.s₀.heap.objs.size
 noex:∀b o,X.base.get? b=some o->b∉X.ex
 exfs:∀b∈X.ex,b∉X.fs
 funs:X.s₀.heap.FunFrames X.base X.outer
 frf:∀b∈X.fs,X.H₀ b=none
structure Inv (X:Cx) (pins:List (Addr×Obj)) (σ:List (Option V)) (H:Hp) (s:Shared):Prop where
 ok:X.Ok
 os:s.os=X.s₀.os
 bare:AllBare s.gens
 base:Un X.fs X.ex X.H₀ H X.s₀.heap s.heap
 loc:∃m,s.heap.Ns X.env.locals m/\∀(i:Nat)(x:Str)(v:V),X.N[i]? =some x->σ[i]? =some (some v)->mW X.env.scope x->∃u,RelV v u/\Look X.env s.heap m x u
 cell:∀x c,X.env.cells.lookup x=some c->∃v,s.heap.IsCell c v
 free:H X.env.locals=none
 freeC:∀x c,X.env.cells.lookup x=some c->H c=none
 pin:∀p∈X.pn++pins,s.heap.get? p.1=some p.2/\H p.1=none/\p.1≠X.env.locals/\p.1∉X.fs/\∀v,p.2.data≠ .cell v
 hok:gy X.prog X.w H s.heap
 len:σ.length=X.N.length
section
variable {X:Cx} {pins:List (Addr×Obj)} {σ:List (Option V)} {H H':Hp} {s:Shared} {h':Heap}
theorem Cx.Ok.Ws(ok:X.Ok)(e:X.base.get? b=some o):b∉X.fs:=λa=>by
 have:=(ok.funs.mem a).1
 rw[e] at this;cases this
theorem Inv.bs(I:Inv X pins σ H s):∀b o,X.base.get? b=some o->s.heap.get? b=some o/\H b=none:=λb o e=>
 #[I.base.keep b o (I.ok.bs b o e).1 (I.ok.bs b o e).2 (I.ok.Ws e) (I.ok.noex b o e),I.base.free b o (I.ok.bs b o e).1 (I.ok.bs b o e).2 (I.ok.noex b o e)]
theorem Inv.bk(I:Inv X pins σ H s):∀b o,X.base.get? b=some o->s.heap.get? b=some o:=λb o e=>(I.bs b o e).1
theorem Inv.mod(I:Inv X pins σ H s):Mod X.K X.mg X.base:=I.ok.mod
theorem Inv.fw(I:Inv X pins σ H s):X.K.In s.heap:=I.ok.mod.kin.keeps I.bk
theorem Inv.lt(I:Inv X pins σ H s):X.env.locals<s.heap.objs.size:=let #[_,a,_]:=I.loc;a.lt
theorem Inv.sz(I:Inv X pins σ H s):X.s₀.heap.objs.size<=s.heap.objs.size:=kE I.ok.above (qP I.lt)
theorem Inv.QB(I:Inv X pins σ H s)(h:s.heap.objs.size<=a):a∉X.fs:=λb=>by
 obtain⟨_,o,c,_⟩:=I.ok.funs.mem b;exact absurd (fk (Do c) (kE I.sz h)) (j3 _)
theorem Inv.wb(I:Inv X pins σ H s):∀x c,X.env.cells.lookup x=some c->c≠X.env.locals:=λx c e z=>by
 obtain⟨v,o,a,b⟩:=I.cell x c e;obtain⟨m,⟨g,h,i,d,f,_⟩,_⟩:=I.loc;rw[z,d] at a;cases a;rw[f] at b;cases b
theorem Inv.funs(I:Inv X pins σ H s):s.heap.FunFrames X.base X.outer:=by
 have all:∀(l:List Env),(∀b∈rF l,b∈X.fs)->X.s₀.heap.FunFrames X.base l->s.heap.FunFrames X.base l:=by
  intro l
  induction l with
  |nil=>intro _ _;trivial
  |cons env r g=>
   intro f h;rfl';obtain⟨j,⟨L,o,a,k,m,n⟩,p⟩:=h;have c:L∈X.fs:=f L (by unfold rF;rw[abC,a];exact cP)
   obtain⟨t,e⟩:=I.base.slot L o m (I.ok.frf L c) c λz=>I.ok.exfs L z c;ac_rfl;exact#[j,#[L,_,a,k,e,n],g (λb d=>f b (by unfold rF;rw[abC,a];exact dh _ d)) p]
 exact all X.outer (λ_ d=>d) I.ok.funs
theorem Inv.stack(I:Inv X pins σ H s):s.heap.FunFrames X.base X.stack:=by
 rcases I.ok.stk with e| ⟨e,a⟩
 .rw[e];exact I.funs
 .rw[e]
  obtain⟨m,b,_⟩:=I.loc;refine .cons (by rw[I.ok.kind];decide) a b ?_ I.funs
  exact Heap.get?_none_of_le (kE I.ok.bsz I.ok.above)
theorem Inv.BN(I:Inv X pins σ H s):∀b∈rF X.stack,b∈X.env.locals::X.fs:=λb a=>by
 rcases I.ok.stk with e| ⟨e,c⟩
 .rw[e] at a;exact dh _ a
 .rw[e] at a
  unfold rF at a;rw[abC,c] at a;exact a
theorem Inv.xF(I:Inv X pins σ H s):∀b∈rF X.stack,H b=none:=λb a=>by
 rcases cV.mp (I.BN b a) with e|a
 .rw[e];exact I.free
 .obtain⟨_,o,c,_⟩:=I.ok.funs.mem a
  exact I.base.free b o c (I.ok.frf b a) λz=>I.ok.exfs b z a
theorem Inv.step{g':Array GenState}{d':Drawn}{ch:List Addr}(I:Inv X pins σ H s)
  (t:∀b∈ch,(b∈X.ex\/X.s₀.heap.objs.size<=b)/\b≠X.env.locals/\(∀x c,X.env.cells.lookup x=some c->c≠b)/\∀p∈X.pn++pins,p.1≠b)
  (keep:∀b o,b≠X.env.locals->b∉X.fs->b∉ch->s.heap.get? b=some o->H b=none->h'.get? b=some o)
  (slot:∀b o,b≠X.env.locals->b∈X.fs->b∉ch->s.heap.get? b=some o->H b=none->∃F,h'.get? b=some {o with slots:=F}) (free:∀b o,b∉ch->s.heap.get? b=some o->H b=none->H' b=none)
  (there:∀b o,b∉ch->s.heap.get? b=some o->∃y,h'.get? b=some y)
  (tups:∀b xs,H b=some (.tup xs)->H' b=some (.tup xs)) (frzs:∀b o u,H b=some (.rG o u)->H' b=some (.rG o u)) (tbls:∀b C,H b=some (.Gk C)->∃more,H' b=some (.Gk (C++more)))
  (O:∀m,s.heap.Ns X.env.locals m->h'.Ns X.env.locals m) (hok:gy X.prog X.w H' h') (P:AllBare g'):
  Inv X pins σ H' {s with heap:=h',gens:=g',drawn:=d',toks:=t'}:=by
 have J:∀b o,X.s₀.heap.get? b=some o->b≠X.env.locals:=λb o e=>bB (fk (Do e) I.ok.above)
 have E:∀b o,X.s₀.heap.get? b=some o->b∉X.ex->b∉ch:=λb o e a h=>by
  rcases(t b h).1 with z|z
  .exact a z
  .exact absurd (fk (Do e) z) (j3 _)
 have f:∀x c,X.env.cells.lookup x=some c->∀v,s.heap.IsCell c v->h'.IsCell c v:=λx c e v #[o,j,G]=>by
  have A:c∉ch:=λz=>(t c z).2.2.1 x c e rfl
  by_cases L:c∈X.fs
  .obtain⟨F,q⟩:=slot c o (I.wb x c e) L A j (I.freeC x c e)
   exact#[_,q,G]
  .exact#[o,keep c o (I.wb x c e) L A j (I.freeC x c e),G]
 refine#[I.ok,I.os,P,#[λb o e n h a=>?_,λb o e n h a=>?_,λb o e n a=>?_,λb o e a=>?_,λb xs e=>tups b xs (I.base.tups b xs e),λb o xs e=>frzs b o xs (I.base.frzs b o xs e),λb C e=>?_],?_,λx c e=>?_,?_,λx c e=>?_,λp M=>?_,hok,I.len]
 .exact keep b o (J b o e) h (E b o e a) (I.base.keep b o e n h a) (I.base.free b o e n a)
 .obtain⟨F,g⟩:=I.base.slot b o e n h a
  obtain⟨Q,B⟩:=slot b _ (J b o e) h (E b o e a) g (I.base.free b o e n a);exact#[Q,B]
 .obtain⟨y,g⟩:=I.base.there b o e a
  exact free b y (E b o e a) g (I.base.free b o e n a)
 .obtain⟨y,g⟩:=I.base.there b o e a
  exact there b y (E b o e a) g
 .obtain⟨R,g⟩:=I.base.tbls b C e
  obtain⟨S,B⟩:=tbls b _ g;exact#[R++S,by rw[B,Array.append_assoc]]
 .obtain⟨m,T,U⟩:=I.loc
  refine#[m,O m T,λi x v g B Y=>?_];obtain⟨u,r,l⟩:=U i x v g B Y;exists u,r
  rcases l with l| ⟨k,c,e,z⟩
  .exact .inl l
  .exact .inr #[k,c,e,f x c e _ z]
 .obtain⟨v,z⟩:=I.cell x c e
  exact#[v,f x c e v z]
 .obtain⟨m,⟨o,_,_,j,_⟩,_⟩:=I.loc
  exact free _ o (λz=>(t _ z).2.1 rfl) j I.free
 .obtain⟨v,o,j,G⟩:=I.cell x c e
  exact free c o (λz=>(t c z).2.2.1 x c e rfl) j (I.freeC x c e)
 .obtain⟨e,n,ne,N,d⟩:=I.pin p M
  have A:p.1∉ch:=λz=>(t p.1 z).2.2.2 p M rfl;exact#[keep p.1 p.2 ne N A e n,free p.1 p.2 A e n,ne,N,d]
theorem Inv.un{t':Nat}(I:Inv X pins σ H s)(u:Un X.fs [] H H' s.heap h')(hok:gy X.prog X.w H' h'):Inv X pins σ H' {s with heap:=h',toks:=t'}:=by
 rfl';obtain⟨m,⟨o,p,q,d,r⟩,_⟩:=id I.loc;obtain⟨t,h⟩:=u.any d I.free (by simp)
 ac_rfl
 exact I.step (g':=s.gens) (d':=s.drawn) (ch:= []) (λ_ z=>nomatch z) (λb o _ c _ e n=>u.keep b o e n c (by simp)) (λb o _ c _ e n=>u.slot b o e n c (by simp)) (λb o _ e n=>u.free b o e n (by simp)) (λb o _ e=>u.there b o e (by simp)) u.tups u.frzs u.tbls (λv i=>by
  rfl';obtain⟨x,j,k,f,l⟩:=i;ac_rfl;rw[d] at f;cases f;exact#[_,j,k,h,l]) hok I.bare
theorem Inv.call{g':Array GenState}{t':Nat}{d':Drawn}{ch:List Addr}(I:Inv X pins σ H s)(u:Un (rF X.stack) ch H H' s.heap h')(hok:gy X.prog X.w H' h')(j:AllBare g')
  (g:∀b∈ch,(b∈X.ex\/X.s₀.heap.objs.size<=b)/\b≠X.env.locals/\(∀x c,X.env.cells.lookup x=some c->c≠b)/\∀p∈X.pn++pins,p.1≠b):
  Inv X pins σ H' {s with heap:=h',gens:=g',drawn:=d',toks:=t'}:=by
 rfl';obtain⟨m,⟨o,A,B,h,r⟩,_⟩:=id I.loc;obtain⟨C,f⟩:=u.any h I.free λz=>(g _ z).2.1 rfl;ac_rfl
 exact I.step (ch:=ch) g (λb o f l a e n=>u.keep b o e n (λz=>(cV.mp (I.BN b z)).elim f l) a) (λb o _ _ a e n=>u.any e n a) (λb o a e n=>u.free b o e n a) (λb o a e=>u.there b o e a) u.tups u.frzs u.tbls (λE q=>by
  rfl';obtain⟨F,t,v,i,y⟩:=q;ac_rfl;rw[h] at i;cases i;exact#[_,t,v,f,y]) hok j
theorem Inv.turned{t':Nat}{it:Addr}(I:Inv X pins σ H s)(k:∀b o,b≠it->s.heap.get? b=some o->h'.get? b=some o)(g:H it=none)(d:it≠X.env.locals)
  (h:it∈X.ex\/X.s₀.heap.objs.size<=it) (i:∀x c,X.env.cells.lookup x=some c->c≠it) (j:∀p∈X.pn++pins,p.1≠it):Inv X pins σ H {s with heap:=h',toks:=t'}:=by
 have f:∀b u,H b=some u->b≠it:=λb u e z=>by rw[z,g] at e;cases e
 refine I.step (g':=s.gens) (d':=s.drawn) (ch:= [it]) (λb l=>?_) (λb o _ _ a e _=>k b o (λz=>a (by simp[z])) e) (λb o _ _ a e _=>#[o.slots,k b o (λz=>a (by simp[z])) e]) (λ_ _ _ _ n=>n)
  (λb o a e=>#[o,k b o (λz=>a (by simp[z])) e]) (λ_ _ e=>e) (λ_ _ _ e=>e) (λb B e=>#[#[],by rw[e];simp]) (λm t=>?_) (λb u e=>?_) I.bare
 .have e:b=it:=by simpa using l
  subst e;exact#[h,d,i,j]
 .obtain⟨o,w,y,A,r⟩:=t
  exact#[o,w,y,k _ o (Ne.symm d) A,r]
 .refine(I.hok b u e).p8 (λc v a q=>k c v ?_ q) (λ_ q=>q) λ_ _ q=>q
  rcases a with z|z
  .rw[z];exact f b u e
  .exact f c _ z
theorem Inv.tok(I:Inv X pins σ H s)(t:Nat):Inv X pins σ H {s with toks:=t}:=I.un (h':=s.heap) (t':=t) Un.refl I.hok
theorem Inv.kept{t':Nat}(I:Inv X pins σ H s)(k:∀b u,s.heap.get? b=some u->h'.get? b=some u):Inv X pins σ H {s with heap:=h',toks:=t'}:=I.un (Un.kept k) (I.hok.kept k)
theorem Inv.laid{a:Addr}{o:HO}{t':Nat}(I:Inv X pins σ H s)(k:∀b u,s.heap.get? b=some u->h'.get? b=some u)(c:s.heap.objs.size<=a)(new:cF X.prog X.w (upd H a o) h' a o):
  Inv X pins σ (upd H a o) {s with heap:=h',toks:=t'}:=I.un (Un.laid k c (I.hok.fresh c)) (I.hok.laid k c new)
theorem Inv.write{x e:Addr}{o:HO}{t':Nat}(I:Inv X pins σ H s)(a:Nv (H x))(c:e=x\/H e=some (.own x))(k:∀b u,b≠e->s.heap.get? b=some u->h'.get? b=some u)(d:∃u,h'.get? e=some u)
  (new:cF X.prog X.w (upd H x o) h' x o):Inv X pins σ (upd H x o) {s with heap:=h',toks:=t'}:=I.un (Un.write a c k d) (I.hok.write a c k d new)
theorem Inv.sv(I:Inv X pins σ H s)(h:∀p∈a,s.heap.get? p.1=some p.2/\H p.1=none/\p.1≠X.env.locals/\p.1∉X.fs/\∀v,p.2.data≠ .cell v):Inv X a σ H s:=
 #[I.ok,I.os,I.bare,I.base,I.loc,I.cell,I.free,I.freeC,λp b=>(cU.mp b).elim (λz=>I.pin p (ig _ z)) (h p),I.hok,I.len]
theorem uc{N:List Str}(c:N.Nodup){i j:Nat}{x:Str}(a:N[i]? =some x)(b:N[j]? =some x):i=j:=by
 obtain⟨f,d⟩:=c9.mp a;obtain⟨g,e⟩:=c9.mp b;exact(List.getElem_inj c).mp (d.trans e.symm)
theorem store_ok2(I:Inv X pins σ H s)(hN:X.N.Nodup)(O:X.N[i]? =some x)(B:Loc X.env.scope x)(r:RelV v u)
  (h:∀S,Inv X pins (σ.set i (some v)) H S->(∃a,Heap.SameBut a s.heap S.heap/\(a=X.env.locals\/X.env.cells.lookup x=some a))->Q () S) (hf:X.fn x=true\/X.env.scope.names.lookup x=some .local:=by subst_eqs):wpAny M A (storeName X.env x u) Q E s:=by
 obtain⟨m,T,hl⟩:=id I.loc;have C5:(X.env.scope.kind== .class|| (X.env.scope.kind== .module&&X.env.locals !=X.env.globals))=false:=by rw[I.ok.kind];rfl
 have Hg:i<σ.length:=by rw[I.len];exact(c9.mp O).1
 have wb:=I.wb
 have g:∀{a:Addr}{L:Heap},(∃o,s.heap.get? a=some o/\H a=none)->Heap.SameBut a s.heap L->gy X.prog X.w H L:=λ {a L} ha f b ob e=>by
  obtain⟨_,_,AI⟩:=ha;refine(I.hok b ob e).p8 (λc P t q=>(f.2 c ?_).trans q) (λ_ q=>q) λ_ _ q=>q;rintro rfl
  rcases t with rfl|t
  .rw[AI] at e;cases e
  .rw[AI] at t;cases t
 rcases B with F|F
 .refine wpAny_storeName_local F T (λL Sn f=>?_) C5
  obtain⟨oL,_,_,wH,_⟩:=id T;refine h _ #[I.ok,I.os,I.bare,#[λb o e n G B=>?_,λb o e n G B=>?_,I.base.free,λb o e B=>?_,I.base.tups,I.base.frzs,I.base.tbls],#[_,Sn,λj y U l C Y=>?_],λy c e=>?_,I.free,I.freeC,λp Z=>?_,g #[oL,wH,I.free] f,by simpa using I.len] #[_,f, .inl rfl]
  .exact(f.2 b (bB (fk (Do e) I.ok.above))).trans (I.base.keep b o e n G B)
  .obtain⟨sl,l⟩:=I.base.slot b o e n G B
   exact#[sl,(f.2 b (bB (fk (Do e) I.ok.above))).trans l]
  .obtain⟨o',l⟩:=I.base.there b o e B
   exact#[o',(f.2 b (bB (fk (Do e) I.ok.above))).trans l]
  .by_cases J:j=i
   .subst J
    rw[O] at l;cases l;rw[ji Hg] at C;cases C;exact#[u,r, .inl #[F,by simp]]
   .rw[jj (Ne.symm J)] at C
    obtain⟨u',r',q⟩:=hl j y U l C Y;exists u',r'
    rcases q with ⟨k,e⟩ | ⟨k,c,e,z⟩
    .refine .inl #[k,?_]
     have:y≠x:=λe=>J (uc hN l (e▸O))
     simp[this,e]
    .exact .inr #[k,c,e,z.sameBut f (wb y c e)]
  .obtain⟨P,z⟩:=I.cell y c e
   exact#[P,z.sameBut f (wb y c e)]
  .obtain⟨e,n,ne,nf,d⟩:=I.pin p Z
   exact#[(f.2 p.1 ne).trans e,n,ne,nf,d]
 .have Sd:X.fn x=true:=by
   rcases hf with z|z
   .exact z
   .rw[z] at F;cases F
  obtain⟨c,t⟩:=I.ok.has x (.inl F);obtain⟨P,z⟩:=I.cell x c t;refine wpAny_storeName_cell I.ok.kind F t z (λL rM f=>?_);obtain⟨oc,VR,VS⟩:=id z;refine h {s with heap:=L} #[I.ok,I.os,I.bare,#[λb o e n G B=>?_,λb o e n G B=>?_,I.base.free,λb o e B=>?_,I.base.tups,I.base.frzs,I.base.tbls],#[m,T.sameBut f (Ne.symm (wb x c t)),λj y U l C Y=>?_],λy R e=>?_,I.free,I.freeC,λp Z=>?_,g #[oc,VR,I.freeC x c t] f,by simpa using I.len] #[c,f, .inr t]
  .exact(f.2 b (bB (fk (Do e) (I.ok.cab x c Sd t)))).trans (I.base.keep b o e n G B)
  .obtain⟨sl,l⟩:=I.base.slot b o e n G B
   exact#[sl,(f.2 b (bB (fk (Do e) (I.ok.cab x c Sd t)))).trans l]
  .obtain⟨o',l⟩:=I.base.there b o e B
   exact#[o',(f.2 b (bB (fk (Do e) (I.ok.cab x c Sd t)))).trans l]
  .by_cases J:j=i
   .subst J
    rw[O] at l;cases l;rw[ji Hg] at C;cases C;exact#[u,r, .inr #[.inl F,c,t,rM]]
   .rw[jj (Ne.symm J)] at C
    obtain⟨u',r',q⟩:=hl j y U l C Y;exists u',r'
    rcases q with q| ⟨k,R,e,z'⟩
    .exact .inl q
    .refine .inr #[k,R,e,z'.sameBut f ?_]
     rintro rfl;exact J (uc hN l (I.ok.inj _ _ _ e t▸O))
  .by_cases Vr:R=c
   .subst Vr;exact#[_,rM]
   .obtain⟨w2,z2⟩:=I.cell y R e
    exact#[w2,z2.sameBut f Vr]
  .obtain⟨e,n,ne,nf,d⟩:=I.pin p Z
   refine#[(f.2 p.1 ?_).trans e,n,ne,nf,d];intro q;rw[q,VR] at e;have q':oc=p.2:=Fk e;exact d P (by rw[<-q'];exact VS)
theorem jA{x:Str}{v:V}(I:Inv X pins σ H s)(b:X.N.Nodup)(c:X.N[i]? =some x)(d:Loc X.env.scope x)(r:RelV v u)
  (h:∀a,Inv X pins (σ.set i (some v)) H a->Q () a) (e:X.fn x=true\/X.env.scope.names.lookup x=some .local:=by subst_eqs):wpAny M A (storeName X.env x u) Q E s:=
 store_ok2 I b c d r (λa f _=>h a f) e
theorem Inv.EV{s':Shared}{ch:List Addr}(I:Inv X pins σ H s)(a:s'.os=s.os)(u:Un (rF X.stack) ch H H' s.heap s'.heap)(hok:gy X.prog X.w H' s'.heap)(d:AllBare s'.gens)
  (f:∀b∈ch,(b∈X.ex\/X.s₀.heap.objs.size<=b)/\b≠X.env.locals/\(∀x c,X.env.cells.lookup x=some c->c≠b)/\∀p∈X.pn++pins,p.1≠b):Inv X pins σ H' s':=by
 obtain⟨h,g',d',t',g⟩:=s';have e:g=s.os:=a;subst e;exact I.call (g':=g') (t':=t') (d':=d') u hok d f
end
abbrev XK:=Value->Option Addr->Hp->Prop
abbrev St:=List (Option V)
abbrev VK:=V->Hp->Prop
abbrev TE:=St->Hp->VK->Prop
abbrev TT:=St->Hp->(Bool->Hp->Prop)->Prop
abbrev TA:=St->Hp->(List V->Hp->Prop)->Prop
structure Ends where
 nx:St->Hp->Prop
 rt:VK
 bk:St->Hp->Prop:=λ_ _=>False
 ct:St->Hp->Prop:=λ_ _=>False
abbrev TS:=Ends->St->Hp->Prop
def EP(X:Cx)(a:List (Addr×Obj))(c:St)(Q:VK)(u:Value)(d:Shared):Prop:=∃v b,Inv X a c b d/\RelV v u/\Q v b
def TP(X:Cx)(a:List (Addr×Obj))(d:St)(Q:Bool->Hp->Prop)(b:Bool)(e:Shared):Prop:=∃c,Inv X a d c e/\Q b c
def AP(X:Cx)(a:List (Addr×Obj))(d:St)(Q:List V->Hp->Prop)(e:List Value)(f:Shared):Prop:=∃b c,Inv X a d c f/\Vals b e/\Q b c
def SP(X:Cx)(a:List (Addr×Obj))(D:Ends)(f:Flow)(d:Shared):Prop:=
 match f with
 | .next=>∃c b,Inv X a c b d/\D.nx c b
 | .brk=>∃c b,Inv X a c b d/\D.bk c b
 | .cont=>∃c b,Inv X a c b d/\D.ct c b
 | .ret u=>∃v c b,Inv X a c b d/\RelV v u/\D.rt v b
def PE(X:Cx)(e:Expr)(t:TE):Prop:=
 ∀(a:List (Addr×Obj))(s:Shared)(b:St)(H:Hp)(Q:VK),Inv X a b H s->t b H Q->wpAny (model X.prog X.w) X.A (eval e X.env) (EP X a b Q) X.xe s
def PT(X:Cx)(e:Expr)(t:TT):Prop:=
 ∀(a:List (Addr×Obj))(s:Shared)(b:St)(H:Hp)(Q:Bool->Hp->Prop),Inv X a b H s->t b H Q->wpAny (model X.prog X.w) X.A (isTrue e X.env (eval e X.env)) (TP X a b Q) X.xe s
def PW(X:Cx)(e:Expr)(t:TT):Prop:=
 ∀(b:Sem Value)(a:List (Addr×Obj))(s:Shared)(c:St)(H:Hp)(Q:Bool->Hp->Prop),Inv X a c H s->t c H Q->wpAny (model X.prog X.w) X.A (isTrue e X.env b) (TP X a c Q) X.xe s
theorem PW.pt(h:PW X e t):PT X e t:=h _
def PA(X:Cx)(d:List Expr)(t:TA):Prop:=
 ∀(b:Pos)(a:List (Addr×Obj))(s:Shared)(c:St)(H:Hp)(Q:List V->Hp->Prop),Inv X a c H s->t c H Q->wpAny (model X.prog X.w) X.A (spliced (backTo b (starEach d X.env))) (AP X a c Q) X.xe s
def PS(X:Cx)(st:Stmt)(t:TS):Prop:=
 ∀(a:List (Addr×Obj))(s:Shared)(b:St)(H:Hp)(D:Ends),Inv X a b H s->t D b H->wpAny (model X.prog X.w) X.A (exec st X.env) (SP X a D) X.xe s
def j6(X:Cx)(st:List Stmt)(t:TS):Prop:=
 ∀(a:List (Addr×Obj))(s:Shared)(b:St)(H:Hp)(D:Ends),Inv X a b H s->t D b H->wpAny (model X.prog X.w) X.A (execs st X.env) (SP X a D) X.xe s
theorem thn{Q c:b->Shared->Prop}(h:wpAny M A t Q E s)(d:∀a s,Q a s->c a s):wpAny M A t c E s:=wpAny_mono h d λ_ _ x=>x
section
variable {X:Cx}
def QL(i:Nat):TE:=λa H Q=>∃v,a[i]? =some (some v)/\Q v H
def tC(v:V):TE:=λ_ H Q=>Q v H
theorem Bz(k:X.N[i]? =some x)(n:mW X.env.scope x)(f:(x==("__debug__":Str))=false:=by decide)(o:(x==("__classdict__":Str))=false:=by decide):PE X (.Name x d) (QL i):=by
 intro b s p H Q I h;rfl';obtain⟨v,e,h⟩:=h;obtain⟨m,t,w⟩:=I.loc;obtain⟨u,r,l⟩:=w i x v k e n;have fin:EP X b p Q u s:=#[v,H,I,r,h];ac_rfl
 rcases l with ⟨a,y⟩ | ⟨a,c,g,j⟩
 .exact wpAny_Name (wpAny_loadName_local I.ok.kind a t y fin) f
 .rcases a with a|a
  .exact wpAny_Name (wpAny_loadName_cell I.ok.kind a g j fin) f
  .exact wpAny_Name (wpAny_loadName_free I.ok.kind a g j fin o) f
theorem O8{i j pos}:PE X (.Constant (.int i) j pos) (tC (.int i)):=λ_ _ _ H _ I h=>wpAny_Constant_int #[.int i,H,I.tok _,#[_,rfl],h]
theorem Te{b j pos}:PE X (.Constant (.bool b) j pos) (tC (.bl b)):=λ_ _ _ H _ I h=>Constant_bool #[.bl b,H,I,rfl,h]
theorem Pa{j pos}:PE X (.Constant .none j pos) (tC .bu):=λ_ _ _ H _ I h=>Constant_none #[.bu,H,I,rfl,h]
theorem Hs{x j pos}:PE X (.Constant (.str x) j pos) (tC (.str x)):=λ_ _ _ H _ I h=>Calls.Constant_str #[.str x,H,I.tok _,#[_,rfl],h]
def Gl(X:Cx)(x:Str):Prop:=X.env.kindOf x=some .globalImplicit
theorem k8(I:Inv X a c H s)(d:Gl X x)(e:X.mg x=some u)(h:Q u s)
  (f:(x==("__debug__":Str))=false:=by decide):wpAny (model X.prog X.w) X.A (eval (.Name x b) X.env) Q E s:=
 abS I.ok.kind d (Calls.loadGlobal_global (by rw[I.ok.glob];exact I.mod.glob.keeps I.bk) e h) f
theorem pF{u:Value}(I:Inv X a c H s)(d:Gl X x)(e:X.mg x=none)(f:bootBuiltins x=some u)(h:Q u s)
  (g:x≠"__name__":=by decide) (i:(x==("__debug__":Str))=false:=by decide):wpAny (model X.prog X.w) X.A (eval (.Name x b) X.env) Q E s:=by
 obtain⟨l,j,k⟩:=I.mod.blt;exact abS I.ok.kind d (Calls.loadGlobal_builtin (by rw[I.ok.glob];exact I.mod.glob.keeps I.bk) e (by rw[I.ok.blt];exact j.keeps I.bk) ((k x g).trans f) h) i
theorem xq{v:V}(b:Gl X x)(c:X.mg x=some u)(r:RelV v u)(d:(x==("__debug__":Str))=false:=by decide):PE X (.Name x a) (tC v):=
 λ_ _ _ H _ I h=>k8 I b c #[v,H,I,r,h] d
theorem DZ(b:Gl X x)(c:X.mg x=none)(d:bootBuiltins x=some u)(r:RelV v u)(e:x≠"__name__":=by decide)(f:(x==("__debug__":Str))=false:=by decide):PE X (.Name x a) (tC v):=
 λ_ _ _ H _ I h=>pF I b c d #[v,H,I,r,h] e f
variable {a b:Expr} {ta tb:TE} {pos:Pos}
variable {tA BO:TT} {rest:List Expr}
def W0(t u:TT):TT:=λd H Q=>t d H λc e=>if c=true then u d e Q else Q false e
def tOr(t u:TT):TT:=λd H Q=>t d H λc e=>if c=true then Q true e else u d e Q
def Xa(t:TT):TT:=λd H Q=>t d H λc e=>Q (!c) e
theorem MN(f:PT X a tA):PW X (.BoolOp .And [a] pos) tA:=by
 intro i d s g H Q I h;refine isTrue_and (thn (f d s g H Q I h) λc j e=>?_);cases c with
 |true=>exact isTrue_and_nil e
 |false=>exact e
theorem Pm(f:PT X a tA):PW X (.BoolOp .Or [a] pos) tA:=by
 intro i d s g H Q I h;refine isTrue_or (thn (f d s g H Q I h) λc j e=>?_);cases c with
 |false=>exact isTrue_or_nil e
 |true=>exact e
theorem Pl(j:PT X a tA)(k:PW X (.BoolOp .And (b::rest) pos) BO):PW X (.BoolOp .And (a::b::rest) pos) (W0 tA BO):=by
 intro l d s e H Q I h;refine isTrue_and (thn (j d s e H _ I h) λc m #[f,g,i]=>?_);cases c with
 |true=>exact k l d m e f Q g i
 |false=>exact#[f,g,i]
theorem Tj(j:PT X a tA)(k:PW X (.BoolOp .Or (b::rest) pos) BO):PW X (.BoolOp .Or (a::b::rest) pos) (tOr tA BO):=by
 intro l d s e H Q I h;refine isTrue_or (thn (j d s e H _ I h) λc m #[f,g,i]=>?_);cases c with
 |true=>exact#[f,g,i]
 |false=>exact k l d m e f Q g i
theorem Pk(e:PT X a tA):PT X (.UnaryOp .Not a pos) (Xa tA):=by
 intro d s f H Q I h;exact isTrue_not (e d s f H (λc g=>Q (!c) g) I h)
def TF(f g:TE):TE:=λd H Q=>f d H λx e=>∃c,x= .bl c/\if c=true then g d e Q else Q (.bl false) e
def TN(d:TE):TE:=λe H Q=>d e H λx f=>∃c,x= .bl c/\Q (.bl (!c)) f
theorem Pc{op}(h:PE X a t):PE X (.BoolOp op [a] pos) t:=λc s d H Q I hw=>BoolOp_one (h c s d H Q I hw)
theorem O3(j:PE X a ta)(k:PE X (.BoolOp .And (b::rest) pos) tb):PE X (.BoolOp .And (a::b::rest) pos) (TF ta tb):=by
 intro d s f H Q I h;refine BoolOp_and (thn (j d s f H _ I h) λv l m=>?_);rfl';obtain⟨x,g,i,o,e⟩:=m;obtain⟨c,rfl,e⟩:=e;ac_rfl;subst o;refine UF ?_;cases c with
 |true=>exact k d l f g Q i e
 |false=>exact#[.bl false,g,i,rfl,e]
theorem Pb(f:PE X a ta):PE X (.UnaryOp .Not a pos) (TN ta):=by
 intro d s g H Q I h;refine UnaryOp_ (thn (f d s g H _ I h) λv n i=>?_);rfl';obtain⟨x,k,l,m,e⟩:=i;obtain⟨c,rfl,e⟩:=e;ac_rfl;subst m;exact not_of (UF #[.bl (!c),k,l,rfl,e])
def tIf(t:TT)(f g:TE):TE:=λd H Q=>t d H λc e=>if c=true then f d e Q else g d e Q
theorem Jh(l:PT X c tA)(m:PE X a ta)(n:PE X b tb):PE X (.IfExp c a b pos) (tIf tA ta tb):=by
 intro e s f H Q I h;refine wpAny_IfExp (thn (l e s f H _ I h) λd g #[i,j,k]=>?_);cases d with
 |true=>exact m e g f i Q j k
 |false=>exact n e g f i Q j k
end
def cz(K:ac)(H:Hp)(a:Addr)(c:List V):Prop:=
 Rd H a (.lst c)\/
  ∃(o:Obj)(b:Array Value)(n:Nat),K.lookup a=some o/\o.cls= .type "list"/\o.dict=none/\o.data= .seq b n/\b.size<=sizeLine/\Vals c b.toList
def gd(K:ac)(H:Hp)(a:Addr)(c:List V):Prop:=
 Rd H a (.tup c)\/
  ∃(o:Obj)(b:Array Value)(n:Nat),K.lookup a=some o/\o.cls= .type "tuple"/\o.data= .seq b n/\b.size<=sizeLine/\Vals c b.toList
def Uq:Value->Option V
 | .none=>some .bu
 | .bool b=>some (.bl b)
 | .int i _=>some (.int i)
 | .str x _=>some (.str x)
 | .bytes b _=>some (.HW b)
 | .float b _=>some (.Fg b)
 | .ref a=>some (.ref a)
 | .type n=>some (.ty n)
 |_=>none
theorem RelV.abs{x:V}{u:Value}(r:RelV x u):Uq u=some x:=by
 cases x with
 |bu=>cases r;rfl
 |bl _=>cases r;rfl
 |int _=>obtain⟨t,rfl⟩:=r;rfl
 |str _=>obtain⟨t,rfl⟩:=r;rfl
 |HW _=>obtain⟨t,rfl⟩:=r;rfl
 |Fg _=>obtain⟨t,rfl⟩:=r;rfl
 |ref _=>cases r;rfl
 |ty _=>cases r;rfl
theorem RelV.inj{x y:V}(r:RelV x u)(q:RelV y u):x=y:=Fk (r.abs.symm.trans q.abs)
theorem Vals.inj:∀{a b:List V}{c:List Value},Vals a c->Vals b c->a=b
 |_,_,_, .nil, .nil=>rfl
 |_,_,_, .cons r t, .cons d e=>by rw[r.inj d,Vals.inj t e]
section
variable {X:Cx} {pins:List (Addr×Obj)} {σ:St} {H:Hp} {s:Shared} {a:Addr} {xs ys:List V}
theorem cz.of{K:ac}(h:H a=some (.lst xs)):cz K H a xs:= .inl (.inl h)
theorem gd.of{K:ac}(h:H a=some (.tup xs)):gd K H a xs:= .inl (.inl h)
theorem Inv.list(I:Inv X pins σ H s)(h:cz X.K H a xs):∃its:List Value,Vals xs its/\PlainL s.heap a its.toArray/\xs.length<=sizeLine:=by
 rcases h with h| ⟨o,its,n,b,c,d,f,g,r⟩
 .obtain⟨z,its,n,r,e⟩:=h.ok I.hok
  exact#[its,r,#[_,n,e,rfl,rfl,rfl],z]
 .refine#[its.toList,r,#[o,n,I.fw a o b,c,d,by simpa using f],?_]
  have e:=r.length;simp only[eX] at e;lia
theorem Inv.tuple(I:Inv X pins σ H s)(h:gd X.K H a xs):∃its:List Value,Vals xs its/\IsTup s.heap a its.toArray/\xs.length<=sizeLine:=by
 rcases h with h| ⟨o,its,n,b,c,d,f,r⟩
 .obtain⟨z,its,r,p⟩:=h.ok I.hok
  exact#[its,r,p,z]
 .refine#[its.toList,r,#[o,I.fw a o b,c,n,by simpa using d],?_]
  have e:=r.length;simp only[eX] at e;lia
theorem Inv.zA(I:Inv X pins σ H s)(h:cz X.K H a xs)(h':cz X.K H a ys):xs=ys:=by
 rfl';obtain⟨c,r,⟨o,n,e,_,_,d⟩,_⟩:=I.list h;obtain⟨b,j,⟨m,p,f,_,_,g⟩,_⟩:=I.list h';ac_rfl;rw[e] at f;cases f;rw[d] at g
 injection g with k _
 have:c=b:=by simpa using IR Array.toList k
 subst this;exact r.inj j
end
abbrev Cx.qa(X:Cx)(E:Value->Shared->Prop):Cx:={X with xe:=E}
abbrev Cx.kJ(X:Cx):Cx:=X.qa λ_ _=>False
theorem Cx.Ok.qa{X:Cx}(ok:X.Ok)(E:Value->Shared->Prop):(X.qa E).Ok:=
 #[ok.mod,ok.kind,ok.glob,ok.blt,ok.above,ok.inj,ok.has,ok.cab,ok.hd,ok.frames,ok.stk,ok.exf,ok.bs,ok.bsz,ok.noex,ok.exfs,ok.funs,ok.frf]
theorem Cx.Ok.kB{X:Cx}(ok:(X.qa E).Ok):X.Ok:=
 #[ok.mod,ok.kind,ok.glob,ok.blt,ok.above,ok.inj,ok.has,ok.cab,ok.hd,ok.frames,ok.stk,ok.exf,ok.bs,ok.bsz,ok.noex,ok.exfs,ok.funs,ok.frf]
section
variable {X:Cx} {pins:List (Addr×Obj)} {σ:St} {H:Hp} {s:Shared} {E:Value->Shared->Prop}
theorem Inv.qa(I:Inv X pins σ H s)(E:Value->Shared->Prop):Inv (X.qa E) pins σ H s:=#[I.ok.qa E,I.os,I.bare,I.base,I.loc,I.cell,I.free,I.freeC,I.pin,I.hok,I.len]
theorem Inv.kB(I:Inv (X.qa E) pins σ H s):Inv X pins σ H s:=#[I.ok.kB,I.os,I.bare,I.base,I.loc,I.cell,I.free,I.freeC,I.pin,I.hok,I.len]
theorem SP.kB{D:Ends}{f:Flow}{s':Shared}(h:SP (X.qa E) pins D f s'):SP X pins D f s':=by
 cases f with
 |next=>obtain⟨az,H',I,q⟩:=h;exact#[az,H',I.kB,q]
 |brk=>obtain⟨az,H',I,q⟩:=h;exact#[az,H',I.kB,q]
 |cont=>obtain⟨az,H',I,q⟩:=h;exact#[az,H',I.kB,q]
 |ret u=>obtain⟨v,az,H',I,r,q⟩:=h;exact#[v,az,H',I.kB,r,q]
theorem j6.kJ{st:List Stmt}{t:TS}(h:j6 X.kJ st t):j6 X st t:=λa s b H D I hw=>
 wpAny_mono (h a s b H D (I.qa _) hw) (λ_ _ q=>q.kB) λ_ _ z=>False.elim z
end
section
variable {X:Cx} {st:Stmt} {rest:List Stmt} {t u:TS} {e:Expr} {te:TE} {pos:Pos}
def TM:TS:=λD a H=>D.nx a H
def Xd(t u:TS):TS:=λD a H=>t {D with nx:=u D} a H
theorem sD:j6 X [] TM:=λ_ _ a H _ I h=>abv #[a,H,I,h]
theorem bS(h1:PS X st t)(h2:j6 X rest u):j6 X (st::rest) (Xd t u):=by
 intro pins s σ H D I h;refine wpAny_execs_cons (thn (h1 pins s σ H {D with nx:=u D} I h) λf s1 q=>?_)
 cases f with
 |next=>
  obtain⟨az,H',I',q⟩:=q;exact h2 pins s1 az H' D I' q
 |ret v=>exact q
 |brk=>exact q
 |cont=>exact q
theorem jS(h1:PS X st t):j6 X [st] t:=by
 intro pins s σ H D I h;refine wpAny_execs_cons (thn (h1 pins s σ H D I h) λf s1 q=>?_);cases f with
 |next=>exact wpAny_execs_nil q
 |ret v=>exact q
 |brk=>exact q
 |cont=>exact q
theorem Inv.quiet(I:Inv X a b H s):interactive X.env=false:=by simp[interactive,I.ok.kind]
def TK(b:TE):TS:=λD a H=>b a H λ_ c=>D.nx a c
theorem hU(c:PE X e te)(d:swapsWith e none pos.line X.env=pure false:=by rfl):PS X (.Expr e pos) (TK te):=by
 intro a s b H D I h;exact wpAny_Expr_any (thn (c a s b H _ I h) λv j #[x,f,g,k,i]=>#[b,f,g,i]) I.quiet d
def Xc(a:TE):TS:=λD b H=>a b H D.rt
theorem sC(c:PE X e te):PS X (.Return (some e) pos) (Xc te):=by
 intro a s b H D I h;exact wpAny_Return_some (thn (c a s b H _ I h) λv j #[x,d,f,g,i]=>#[x,b,d,f,g,i])
def W8(c:TT)(t u:TS):TS:=λD a H=>c a H λb d=>if b=true then t D a d else u D a d
theorem BB{i:TT}(n:PT X c i)(o:j6 X a t)(p:j6 X b u):PS X (.If c a b pos) (W8 i t u):=by
 intro f s g H D I h;refine wpAny_If (thn (n f s g H _ I h) λd j #[k,l,m]=>?_);cases d with
 |true=>exact o f j g k D l m
 |false=>exact p f j g k D l m
def PN:TS:=λ_ _ _=>False
theorem Jn:PS X st PN:=λ_ _ _ _ _ _ h=>h.elim
end
abbrev TG:=V->St->Hp->(St->Hp->Prop)->Prop
abbrev ym:=List V->St->Hp->(St->Hp->Prop)->Prop
def PG(X:Cx)(a:Expr)(t:TG):Prop:=
 ∀(b:List (Addr×Obj))(s:Shared)(c:St)(H:Hp)(v:V)(u:Value)(Q:St->Hp->Prop),Inv X b c H s->RelV v u->t v c H Q->
  wpAny (model X.prog X.w) X.A (assign a X.env u) (λ_ f=>∃d e,Inv X b d e f/\Q d e) X.xe s
def z3(X:Cx)(g:List Expr)(t:ym):Prop:=
 ∀(a:List (Addr×Obj))(s:Shared)(b:St)(H:Hp)(c:List V)(d:List Value)(Q:St->Hp->Prop),Inv X a b H s->Vals c d->t c b H Q->
  wpAny (model X.prog X.w) X.A (assignInOrder ((assignEach g X.env).map (·.2)) d) (λ_ h=>∃e f,Inv X a e f h/\Q e f) X.xe s
abbrev JT:=V->V->V->Hp->(Hp->Prop)->Prop
def P7(X:Cx)(t:JT):Prop:=
 ∀(a:List (Addr×Obj))(s:Shared)(b:St)(H:Hp)(o i v:V)(c d u:Value)(Q:Hp->Prop),Inv X a b H s->RelV o c->RelV i d->RelV v u->t o i v H Q->
  wpAny (model X.prog X.w) X.A (setItem c d u) (λ_ f=>∃e,Inv X a b e f/\Q e) X.xe s
section
variable {X:Cx} {pos:Pos}
def K4(i:Nat):TG:=λv a H Q=>Q (a.set i (some v)) H
theorem sq{i:Nat}(b:X.N.Nodup)(c:X.N[i]? =some x)(d:Loc X.env.scope x)(e:X.fn x=true\/X.env.scope.names.lookup x=some .local:=by subst_eqs):PG X (.Name x f) (K4 i):=by
 intro a s j H v u Q I r h;exact wpAny_assign_Name (jA I b c d r (λk g=>#[_,H,g,h]) e)
def Vd:ym:=λa b H Q=>a= []/\Q b H
def RK(t:TG)(u:ym):ym:=λa b H Q=>∃v r,a=v::r/\t v b H λc d=>u r c d Q
theorem su:z3 X [] Vd:=by
 intro a s b H c d Q I r h;obtain⟨e,h⟩:=h;subst e;cases r;exact assignInOrder_nil #[b,H,I,h]
theorem jx(c:PG X e t)(d:z3 X b u)
  (f:(assignEach (e::b) X.env).map (·.2)=assign e X.env::(assignEach b X.env).map (·.2):=by rfl):z3 X (e::b) (RK t u):=by
 intro a s g H w x Q I r h;obtain⟨v,y,i,h⟩:=h;subst i;cases r with
 |cons r j=>
  rw[f];refine abM (thn (c a s g H _ _ _ I r h) λ_ k l=>?_);rfl';obtain⟨n,o,p,q⟩:=l;ac_rfl;exact d a k n o _ _ Q p j q
def Vf(K:ac)(n:Nat)(t:ym):TG:=λv c H Q=>∃a b,v= .ref a/\gd K H a b/\b.length=n/\t b c H Q
theorem vH(i:X.calm=true)(h:z3 X d t)
  (j:(assignEach d X.env).length=n:=by rfl) (l:(assignEach d X.env).findIdx? (·.1)=none:=by rfl):PG X (.Tuple d k pos) (Vf X.K n t):=by
 intro c s f H v u Q I r hw;rfl';obtain⟨a,p,q,w,x,hw⟩:=hw;subst q;subst r;obtain⟨y,g,z,F⟩:=I.tuple w;ac_rfl;refine assign_Tuple_tuple (I.ok.hd i) z (by simp[j,<-x,g.length]) l λA B=>?_
 have C:Inv X c f H {s with heap:=A}:=I.kept (t':=s.toks) λb o e=>B b o (bB (Do e)) e
 exact h c _ f H p _ Q C (g) hw
def Ve(b c:TE)(t:JT):TG:=λv a H Q=>b a H λo d=>c a d λi e=>t o i v e λf=>Q a f
theorem ku(l:PE X o g)(m:PE X i j)(n:P7 X t)
  (p:∀v,assign (.Subscript o i pos) X.env v=(do
   let b <-holding [v] (eval o X.env)
   let c <-holding [v,b] (eval i X.env)
   standAt pos
   holding [v,b,c] (setItem b c v)
   release [v,b,c] []):=by intro _;rfl):PG X (.Subscript o i pos) (Ve g j t):=by
 intro a s f H v u Q I r h;rw[p];refine ir (M2 (thn (l a s f H _ I h) λb q d=>?_));rfl';obtain⟨x,w,z,A,B⟩:=d;ac_rfl;refine ir (M2 (thn (m a q f w _ z B) λc C d=>?_));rfl';obtain⟨y,E,F,G,J⟩:=d;ac_rfl;refine ir (aav (ir (M2 (thn (n a C f E x y v b c u _ F A G r J) λ_ O d=>?_))));rfl';obtain⟨L,M,N⟩:=d;ac_rfl;exact wpAny_release #[f,L,M,N]
def QH(b:TE)(g:TG):TS:=λD a H=>b a H λx c=>g x a c D.nx
theorem jq(f:PE X e c)(i:PG X b g)(j:swapsWithSole [b] e pos.line X.env=pure false:=by rfl)(hw:swappedStores [b] e X.env=pure none:=by rfl)
  (k:(assignEach [b] X.env).map (·.2)= [assign b X.env]:=by rfl):PS X (.Assign [b] e pos) (QH c g):=by
 intro a s d H D I h;refine wpAny_Assign_stores (thn (f a s d H _ I h) λv l #[x,m,n,o,p]=>?_) j hw;rw[k];exact thn (i a l d m x v _ n o p) λ_ r q=>q
theorem gw{i:Nat}(d:X.N.Nodup)(f:X.N[i]? =some x)(g:Loc X.env.scope x)(j:PE X e c)(k:swapsWith e (some (.Name x a)) pos.line X.env=pure false:=by rfl)(l:X.fn x=true\/X.env.scope.names.lookup x=some .local:=by subst_eqs):
  PS X (.Assign [.Name x a] e pos) (QH c (K4 i)):=by
 intro b s m H D I h;refine wpAny_Assign_Name (thn (j b s m H _ I h) λv t #[y,n,o,p,q]=>?_) k;exact jA o d f g p (λu r=>#[_,n,r,q]) l
def Xb(i j:Nat)(b:TA):TS:=λD a H=>b a H λc d=>∃v w,c= [v,w]/\D.nx ((a.set i (some v)).set j (some w)) d
theorem Ph{kt k2 F3}(C:X.calm=true)(n:X.N.Nodup)(E:X.N[i]? =some x)(F:X.N[j]? =some y)(G:i≠j)
  (r:X.env.scope.names.lookup x=some .local) (t:X.env.scope.names.lookup y=some .local) (J:PA X [a,b] m)
  (hw:swappedStores [.Tuple [.Name x k, .Name y py] kt pt] (.Tuple [a,b] k2 F3) X.env=pure (some [x,y]))
  (L:swapsWithSole [.Tuple [.Name x k, .Name y py] kt pt] (.Tuple [a,b] k2 F3) pos.line X.env=pure false:=by rfl):
  PS X (.Assign [.Tuple [.Name x k, .Name y py] kt pt] (.Tuple [a,b] k2 F3) pos) (Xb i j m):=by
 intro c s u H D I h;rw[exec_Assign_arm];refine ir (aav ?_);rw[L];refine ir (ls ?_);rw[mo (by decide)]
 refine ir (Tuple_ (thn (J _ c s u H _ I h) λM d O=>?_));obtain⟨vs,z,P,Q,l⟩:=O;obtain⟨v,w,R,l⟩:=l;subst R
 obtain⟨f,g,rfl,S,T⟩:∃f g,M= [f,g]/\RelV v f/\RelV w g:=by
  cases Q with
  |cons p q=>
   cases q with
   |cons U Y=>
    cases Y;exact#[_,_,rfl,p,U]
 refine P3 ?_ (by show 2<=sizeLine;decide)
 have Z:Inv X c u z {d with heap:=d.heap.push {cls:= .type "tuple",data:= .seq [f,g].toArray}}:=P.kept (t':=d.toks) λb o e=>AC _ e
 rw[hw];refine ir (ls ?_);show wpAny (model X.prog X.w) X.A (do rule "assign.swapped-stores";let items <-unpackItems (.ref d.heap.objs.size) 2 none;assignInOrder [λv=>bindName X.env y v,λv=>bindName X.env x v] items.reverse;pure Flow.next) _ _ _
 refine ir (aaK (ir (unpackItems_tuple (items:= [f,g].toArray) (I.ok.hd C) (IsTup.new d.heap _) λh' AX=>?_)));have I3:=Z.kept (h':=h') (t':=d.toks) λb o e=>AX b o (bB (Do e)) e;show wpAny _ _ (assignInOrder [λv=>bindName X.env y v,λv=>bindName X.env x v] [g,f]>>=λ_=>pure Flow.next) _ _ _;refine ir (abM (wpAny_bindName (jA I3 n F (.inl t) T (λs2 I4=>?_) (.inr t))));refine abM (wpAny_bindName (jA I4 n E (.inl r) S (λs3 B=>assignInOrder_nil (ls ?_)) (.inr r)));rw[List.set_comm _ _ (Ne.symm G)] at B;exact#[_,z,B,l]
end
section
variable {X:Cx} {pos:Pos}
def PR(c:TT)(h:TS):TS:=λD a H=>∃W:Nat->St->Hp->Prop,(∃m,W m a H)/\∀m a H,W m a H->
 c a H λb d=>if b=true then ∃N:St->Hp->Prop,(∀e f,N e f->∃g,g<m/\W g e f)/\h {D with nx:=N,ct:=N,bk:=D.nx} a d else D.nx a d
theorem Jp{c:Expr}{body:List Stmt}{tc:TT}{tb:TS}(hp:PassesOwn (model X.prog X.w) X.A X.env X.xe)(hc:PT X c tc)(hb:j6 X body tb):PS X (.While c body [] pos) (PR tc tb):=by
 intro pins s σ H D I h;obtain⟨W,⟨m0,w0⟩,turn⟩:=h;refine wpAny_While (codeAny_whileLoop (λn s'=>∃az H',Inv X pins az H' s'/\W n az H') ?_ m0 #[σ,H,I,w0]);intro n s1 T7;rfl';obtain⟨GF,H1,I1,w1⟩:=T7;ac_rfl;refine wpAny_passesOwn hp (thn (hc pins s1 GF H1 _ I1 (turn n GF H1 w1)) λb s2 bx=>?_);rfl';obtain⟨H2,I2,q2⟩:=bx;ac_rfl;cases b with
 |true=>
  rfl';obtain⟨N,hN,q2⟩:=q2;ac_rfl;rw[if_pos rfl];refine wpAny_passesOwn hp (thn (hb pins s2 GF H2 _ I2 q2) λf s3 q3=>?_);cases f with
  |next=>
   obtain⟨vz,H3,I3,n3⟩:=q3;obtain⟨m',hm,w3⟩:=hN vz H3 n3;exact#[m',hm,vz,H3,I3,w3]
  |cont=>
   obtain⟨vz,H3,I3,n3⟩:=q3;obtain⟨m',hm,w3⟩:=hN vz H3 n3;exact#[m',hm,vz,H3,I3,w3]
  |brk=>exact q3
  |ret v=>exact q3
 |false=>
  rw[if_neg cO];exact wpAny_execs_nil #[GF,H2,I2,q2]
end
structure It where
 go:Nat->Hp->Prop
 yld:Nat->Hp->V->Hp->Prop
 stop:Nat->Hp->Prop
def fY(X:Cx)(a:List (Addr×Obj))(H:Hp)(b:Addr):Prop:=
 H b=none/\b≠X.env.locals/\b∉X.fs/\(b∈X.ex\/X.s₀.heap.objs.size<=b)/\(∀x c,X.env.cells.lookup x=some c->c≠b)/\∀p∈X.pn++a,p.1≠b
theorem Inv.K2(I:Inv X a g H s)(d:s.heap.objs.size<=b)(h:f b=none):fY X a f b:=by
 refine#[h,qQ (fk I.lt d),I.QB d, .inr (kE I.sz d),λx c e z=>?_,λp i z=>?_]
 .obtain⟨v,q⟩:=I.cell x c e
  exact absurd (fk q.lt (by rw[z];exact d)) (j3 _)
 .exact absurd (fk (Do (I.pin p i).1) (by rw[z];exact d)) (j3 _)
structure Turn (P:Program) (w:World) (K:ac) (tg:Expr) (J:It) (fp:List Addr) (it:Addr) (tn:Nat->Heap->Prop):Prop where
 mem:it∈fp
 obj:∀i h,tn i h->∀b∈fp,∃o,h.get? b=some o/\∀v,o.data≠ .cell v
 keep:∀i h h',tn i h->(∀b∈fp,∀o,h.get? b=some o->h'.get? b=some o)->tn i h'
 item:∀(X:Cx),X.prog=P->X.w=w->X.K=K->X.calm=true->∀(i:Nat)(pins:List (Addr×Obj))(s:Shared)(σ:St)(H:Hp)(E:Value->Shared->Prop),Inv X pins σ H s->(∀b∈fp,fY X pins H b)->tn i s.heap->J.go i H->
  wpAny (model P w) X.A (pyNext (.ref it)) (λr s1=>∃u,r=some u/\
   wpAny (model P w) X.A (letOwnedTupleGo tg (.ref it) u) (λ_ s2=>∃x H',Inv X pins σ H' s2/\RelV x u/\J.yld i H x H'/\tn (i+1) s2.heap/\∀b∈fp,H' b=none) E s1) E s
 done:∀(X:Cx),X.prog=P->X.w=w->X.K=K->X.calm=true->∀(i:Nat)(pins:List (Addr×Obj))(s:Shared)(σ:St)(H:Hp)(E:Value->Shared->Prop),Inv X pins σ H s->(∀b∈fp,fY X pins H b)->tn i s.heap->J.stop i H->
  wpAny (model P w) X.A (pyNext (.ref it)) (λr s1=>r=none/\Inv X pins σ H s1) E s
 self:∀(A:Around)(i:Nat)(s:Shared)(Q:Value->Shared->Prop)(E:Value->Shared->Prop),tn i s.heap->Q (.ref it) s->wpAny (model P w) A (pyIter (.ref it)) Q E s
abbrev TI:=St->Hp->(It->Hp->Prop)->Prop
def Uk(X:Cx)(a:List (Addr×Obj))(h:St)(i:Expr)(R:It->Hp->Prop)(j:Value)(d:Shared):Prop:=
 ∃(e:Addr)(f:List Addr)(g:Nat->Heap->Prop)(J:It)(c:Hp),j= .ref e/\Inv X a h c d/\Turn X.prog X.w X.K i J f e g/\g 0 d.heap/\(∀b∈f,fY X a c b)/\R J c
def PI(X:Cx)(c iter:Expr)(d:TI):Prop:=
 ∀(a:List (Addr×Obj))(s:Shared)(b:St)(H:Hp)(R:It->Hp->Prop),Inv X a b H s->d b H R->
  wpAny (model X.prog X.w) X.A (eval iter X.env) (λv e=>wpAny (model X.prog X.w) X.A (pyIter v) (Uk X a b c R) X.xe e) X.xe s
theorem K8{M:Model}{A:Around}{E:Value->Shared->Prop}{s:Shared}{b:Expr}{c:Addr}{u:Value}{o:Obj}{n:String}{d:Array Value}{Q:Unit->Shared->Prop}(e:s.heap.get? c=some o)(f:o.cls= .type n)(g:o.data= .fields d)
  (i: ["enumerate","zip","dict_itemiterator","dict_reverseitemiterator","odict_iterator","itertools.zip_longest","itertools.pairwise"].contains n=false) (a:Q () s):wpAny M A (letOwnedTupleGo b (.ref c) u) Q E s:=by
 unfold letOwnedTupleGo
 cases b<;>first
  |exact wpAny_pure a
  | (cases u<;>first
    |exact wpAny_pure a
    | (refine wpAny_bind (wpAny_load e ?_)
       rw[f,g];show wpAny M A (if (["enumerate","zip","dict_itemiterator","dict_reverseitemiterator","odict_iterator","itertools.zip_longest","itertools.pairwise"].contains n&&d[0]? ==some (rawInt _))=true then _ else _) Q E s;rw[if_neg (by intro h;rw[i,Bool.false_and] at h;cases h)]
       exact wpAny_pure a))
def QS(K:ac)(a:Addr):It:=
 #[λi H=>∃b x,cz K H a b/\b[i]? =some x,λi H x c=>c=H/\∀b,cz K H a b->b[i]? =some x,λi H=>∃b,cz K H a b/\b.length<=i]
def Nt(lo:Int)(n:Nat):It:=#[λi _=>i<n,λi H x a=>a=H/\x= .int (lo+i),λi _=>n<=i]
theorem Gq{P:Program}{w:World}{K:ac}{R:Expr}(a g:Addr):Turn P w K R (QS K a) [g] g (λi h=>h.IsListIter g a i) where
 mem:=by simp
 obj:=λi h st b j=>by
  have e:b=g:=by simpa using j
  subst e;obtain⟨o,e,c,d⟩:=st;exact#[o,e,λv z=>by rw[d] at z;cases z]
 keep:=λi h l st k=>st.at λo e=>k g (by simp) o e
 item:=by
  intro X q hw r N i f s O H E I m st t;rfl';subst q hw r;obtain⟨T,x,n,A⟩:=t;obtain⟨B,C,p,U⟩:=I.list n;obtain⟨u,Y,Z⟩:=C.get A;obtain⟨F,G,f2,J,L,M⟩:=m g (by simp)
  ac_rfl;refine wpAny_pyNext_list_item st p.isList (x:=u) (by simpa using Y) λl Q sb=>?_
  have I1:Inv X f O H {s with heap:=l}:=I.turned (t':=s.toks) (λb o j e=>(sb.2 b j).trans e) F G J L M
  obtain⟨o,e,c,d⟩:=id Q;exact#[u,rfl,K8 (s:={s with heap:=l}) e c d (by decide) #[x,H,I1,Z,#[rfl,λys hy=>by rw[I.zA hy n];exact A],Q,λb j=>(m b j).1]]
 done:=by
  intro X q hw r N i f s O H E I m st t;rfl';subst q hw r;obtain⟨T,n,A⟩:=t;obtain⟨B,C,p,U⟩:=I.list n;obtain⟨F,G,f2,J,L,M⟩:=m g (by simp)
  have hl:=C.length;ac_rfl;exact wpAny_pyNext_list_end (I.ok.hd N) st p.isList (by simp;lia) λl eb=>#[rfl,I.turned (t':=s.toks) (λb o j e=>eb b o j e) F G J L M]
 self:=λ_ _ _ _ _ st h=>wpAny_pyIter_listiter st h
theorem Er{P:Program}{w:World}{K:ac}{G:Expr}(a:Addr)(lo:Int)(n:Nat):Turn P w K G (Nt lo n) [a] a (λi h=>IsRangeIter h a (lo+(i:Nat)*1) ((n:Int)-(i:Nat)) 1) where
 mem:=by simp
 obj:=λi h st b d=>by
  have e:b=a:=by simpa using d
  subst e
  exact#[_,st,λv z=>by
   have J:Data.fields _=Data.cell v:=z;cases J]
 keep:=λi h f st k=>k a (by simp) _ st
 item:=by
  intro X j hw l m i c s B H E I g st p;subst j hw l;rfl';obtain⟨r,u,M,x,y,A⟩:=g a (by simp)
  ac_rfl;have W:=Walks.range (prog:=X.prog) (w:=X.w) (I.ok.hd m) a lo 1 n;refine W.item i s _ _ p st λv f C N F O=>?_;obtain⟨t,rfl⟩:=N;have Q:Inv X c B H {s with heap:=f,toks:=C}:=I.turned (λb o d e=>O b o (by simpa using d) e) r u x y A
  refine#[_,rfl,K8 (s:={s with heap:=f,toks:=C}) (n:="range_iterator") F rfl rfl (by decide) #[.int (lo+i),H,Q,#[t,?_],#[rfl,rfl],F,λb d=>(g b d).1]]
  rw[Int.mul_one]
 done:=by
  intro X j hw l m i c s B H E I g st p;subst j hw l;rfl';obtain⟨r,u,M,x,y,A⟩:=g a (by simp)
  ac_rfl;exact wpAny_pyNext_range_end (I.ok.hd m) st (by have:n<=i:=p;lia) λf R=>#[rfl,I.turned (t':=s.toks) (λb o d e=>R b o d e) r u x y A]
 self:=λ_ _ _ _ _ st h=>wpAny_pyIter_rangeiter st h
section
variable {X:Cx} {tg:Expr}
def Sz(K:ac)(c:TE):TI:=λd H R=>c d H λx b=>∃a,x= .ref a/\(∃e,cz K b a e)/\R (QS K a) b
theorem MC(j:PE X l i):PI X tg l (Sz X.K i):=by
 intro c s k H R I h;refine thn (j c s k H _ I h) λv d m=>?_;rfl';obtain⟨x,r,f,t,u⟩:=m;ac_rfl;rfl';obtain⟨a,e,⟨A,w⟩,q⟩:=u;subst e;subst t;obtain⟨y,B,p,C⟩:=f.list w;ac_rfl;refine abY p.isList ?_;refine#[d.heap.objs.size,[d.heap.objs.size],_,_,r,rfl,f.kept (t':=d.toks) λb o e=>AC _ e,Gq a _,#[_,FS _ rfl,rfl,rfl],λb z=>?_,q];have e:b=d.heap.objs.size:=by simpa using z
 subst e;exact f.K2 (bJ _) (f.hok.fresh (bJ _))
theorem Js{c:List (Addr×Obj)}{d:St}{H:Hp}{s:Shared}{R:It->Hp->Prop}{E:Value->Shared->Prop}{lo a:Int}{t u v:Tok}{f:Nat}(I:Inv X c d H s)(h: -(2^62)<=lo)(i:lo<2^62)(j: -(2^62)<=a)(k:a<2^62)
  (q:R (Nt lo (a-lo).toNat) H):wpAny (model X.prog X.w) X.A (pyIter (.ref s.heap.objs.size)) (Uk X c d tg R) E {s with heap:=s.heap.push {cls:= .type "range",data:= .fields [.int lo t, .int a u, .int 1 v].toArray},toks:=f}:=by
 refine wpAny_pyIter_range (IsRange.new ..) (small_one h i j k) ?_;have g:Inv X c d H {s with heap:=s.heap.push {cls:= .type "range",data:= .fields [.int lo t, .int a u, .int 1 v].toArray},toks:=f}:=I.kept λb o e=>AC _ e
 refine#[(s.heap.push {cls:= .type "range",data:= .fields [.int lo t, .int a u, .int 1 v].toArray}).objs.size,[(s.heap.push {cls:= .type "range",data:= .fields [.int lo t, .int a u, .int 1 v].toArray}).objs.size],_,_,H,rfl,
  g.kept (t':=f) λb o e=>AC _ e,Er _ lo (a-lo).toNat,?_,λb l=>?_,q]
 .have m:lo+((0:Nat):Int)*1=lo:=by simp
  have n:(((a-lo).toNat:Nat):Int)-((0:Nat):Int)=Builtin.Range.rangeSize lo a 1:=by rw[rangeSize_one];split<;>lia
  show IsRangeIter _ _ (lo+((0:Nat):Int)*1) ((((a-lo).toNat:Nat):Int)-((0:Nat):Int)) 1;rw[m,n];exact FS _ rfl
 .have e:b=(s.heap.push {cls:= .type "range",data:= .fields [.int lo t, .int a u, .int 1 v].toArray}).objs.size:=by simpa using l
  subst e;exact g.K2 (bJ _) (g.hok.fresh (bJ _))
def SA(a:TA):TI:=λb H R=>a b H λc d=>∃j:Int,c= [.int j]/\-(2^62)<=j/\j<2^62/\R (Nt 0 j.toNat) d
theorem F0(g:Gl X "range")(i:X.mg "range"=none)(k:PA X [a] f)(l:starEach [a] X.env= [(false,eval a X.env)]:=by rfl):PI X tg (.Call (.Name "range" p) [a] [] b) (SA f):=by
 intro c s m H R I h;refine Call_ (pF I g i boot_range (aaQ (thn (k b c s m H _ I h) λw x #[y,z,n,o,d]=>?_) l rfl));obtain⟨j,e,d,u,q⟩:=d;subst e;cases o with
 |cons r v=>
  cases v;obtain⟨t,rfl⟩:=r;exact call_range_1 (Js n (by lia) (by lia) d u (by simpa using q))
def W7(e:TI)(g:TG)(f:TS):TS:=λD a H=>e a H λJ h=>∃W:Nat->Nat->St->Hp->Prop,(∃m,W 0 m a h)/\∀i m a H,W i m a H->
 (J.stop i H/\D.nx a H)\/(J.go i H/\∃N:St->Hp->Prop,(∀c b,N c b->∃d,d<m/\W (i+1) d c b)/\∀x b,J.yld i H x b->g x a b λj k=>f {D with nx:=N,ct:=N,bk:=D.nx} j k)
def l0(a:List Addr)(h:Heap):List (Addr×Obj):=a.filterMap λb=>(h.get? b).map λo=>(b,o)
theorem eV(c:b∈a)(e:h.get? b=some o):(b,o)∈l0 a h:=abN.mpr #[b,c,by rw[e];rfl]
theorem FR(c:p∈l0 a h):p.1∈a/\h.get? p.1=some p.2:=by
 obtain⟨b,d,e⟩:=abN.mp c;cases q:h.get? b with
 |none=>rw[q] at e;cases e
 |some o=>
  rw[q] at e;have f:(b,o)=p:=Fk e;subst f;exact#[d,q]
theorem Inv.pinned(I:Inv X a f H s)(i:∀b∈c,fY X a H b)(j:∀b∈c,∃o,s.heap.get? b=some o/\∀v,o.data≠ .cell v):Inv X (a++l0 c s.heap) f H s:=
 I.sv λp k=>(cU.mp k).elim (λz=>I.pin p (dE _ z)) λz=>by
  rfl';obtain⟨g,e⟩:=FR z;obtain⟨m,n,q,_⟩:=i p.1 g;obtain⟨o,h,d⟩:=j p.1 g;ac_rfl;rw[e] at h;cases h;exact#[e,m,n,q,d]
theorem Inv.jB(I:Inv X (a++pl) b H s):Inv X a b H s:=I.sv λp c=>I.pin p (dE _ (ig _ c))
theorem Hv(C:PassesOwn (model X.prog X.w) X.A X.env X.xe)(hc:X.calm=true)(hi:PI X tg iter Z)(hg:PG X tg g)(c:j6 X t tb)
  (hs:∀x,foldedSetIterable iter X.env x=pure x:=by intro _;rfl):PS X (.For tg iter t [] P) (W7 Z g tb):=by
 intro a s σ H D I h;refine wpAny_For (thn (hi a s σ H _ I h) λv s1 h1=>thn h1 λIM s2 h2=>?_) hs;rfl';obtain⟨it,E,tn,J,H2,e,I2,T,kT,f2,W,⟨m0,w0⟩,F⟩:=h2;subst e;ac_rfl;have j:∀{q:Hp},(∀b∈E,q b=none)->∀b∈E,fY X a q b:=λhn b c=>#[hn b c,(f2 b c).2];refine codeAny_forLoop_any (λn s'=>∃i G q,Inv X a G q s'/\tn i s'.heap/\(∀b∈E,q b=none)/\W i n G q) ?_ m0 #[0,σ,H2,I2,kT,λb c=>(f2 b c).1,w0];intro n s3 T7;rfl';obtain⟨i,L,O,I3,vx,Vb,w3⟩:=T7;ac_rfl
 rcases F i n L O w3 with ⟨stop,qn⟩ | ⟨go,N,hN,step⟩
 .refine aaD C (thn (T.done X rfl rfl rfl hc i a s3 L O X.xe I3 (j Vb) vx stop) λr s4 B=>?_)
  obtain⟨R,I4⟩:=B;subst R;exact abv #[L,O,I4,qn]
 .refine aaD C (thn (T.item X rfl rfl rfl hc i a s3 L O X.xe I3 (j Vb) vx go) λr s4 B=>?_)
  obtain⟨u,R,h4⟩:=B;subst R;refine aaD C (thn h4 λ_ s5 B=>?_);rfl';obtain⟨x,H5,I5,r5,y5,S,yy⟩:=B;ac_rfl;have QQ:=I5.pinned (j yy) (T.obj _ _ S);refine aaD C (thn (hg _ s5 L H5 x u _ QQ r5 (step x H5 y5)) λ_ s6 B=>?_);rfl';obtain⟨U,H6,I6,q6⟩:=B;ac_rfl;refine aaD C (thn (c _ s6 U H6 _ I6 q6) λf Y y=>?_)
  have again:∀{k:St}{l:Hp},Inv X (a++l0 E s5.heap) k l Y->N k l->∃m,m<n/\∃i G q,Inv X a G q Y/\tn i Y.heap/\(∀b∈E,q b=none)/\W i m G q:=λ {k l} p M=>by
   obtain⟨m',hm,w7⟩:=hN k l M;refine#[m',hm,i+1,k,l,p.jB,T.keep _ _ _ S λb c o e=>(p.pin (b,o) (dE _ (dE _ (eV c e)))).1,λb c=>?_,w7];obtain⟨o,e,d⟩:=T.obj _ _ S b c;exact(p.pin (b,o) (dE _ (dE _ (eV c e)))).2.1
  cases f with
  |next=>obtain⟨k,l,p,M⟩:=y;exact again p M
  |cont=>obtain⟨k,l,p,M⟩:=y;exact again p M
  |brk=>obtain⟨k,l,p,y⟩:=y;exact#[k,l,p.jB,y]
  |ret v=>obtain⟨x7,k,l,p,r7,y⟩:=y;exact#[x7,k,l,p.jB,r7,y]
end
abbrev R2:=V->V->Hp->VK->Prop
def OpR(X:Cx)(f:Value->Value->Sem Value)(r:R2):Prop:=
 ∀(a:List (Addr×Obj))(s:Shared)(b:St)(H:Hp)(x y:V)(v u:Value)(Q:VK),Inv X a b H s->RelV x v->RelV y u->r x y H Q->
  wpAny (model X.prog X.w) X.A (f v u) (EP X a b Q) X.xe s
def CallR(X:Cx)(f:Value)(r:List V->Hp->VK->Prop):Prop:=
 ∀(a:List (Addr×Obj))(s:Shared)(b:St)(H:Hp)(c:List V)(d:List Value)(Q:VK),Inv X a b H s->Vals c d->r c H Q->
  wpAny (model X.prog X.w) X.A (call f d) (EP X a b Q) X.xe s
def Um(X:Cx)(r:V->Hp->(Bool->Hp->Prop)->Prop):Prop:=
 ∀(a:List (Addr×Obj))(s:Shared)(b:St)(H:Hp)(x:V)(v:Value)(Q:Bool->Hp->Prop),Inv X a b H s->RelV x v->r x H Q->
  wpAny (model X.prog X.w) X.A (truthy v) (TP X a b Q) X.xe s
def Nb(r:R2)(b c:TE):TE:=λa H Q=>b a H λx d=>c a d λy e=>r x y e Q
def rI(C:Int->Int->Prop)(g:Int->Int->V):R2:=λx y H Q=>∃i j,x= .int i/\y= .int j/\C i j/\Q (g i j) H
def yM(g:Int->Int->V):R2:=λx y H Q=>∃i j,x= .int i/\y= .int j/\Q (g i j) H
section
variable {X:Cx} {a b c:Expr} {ta tb tc:TE} {pos:Pos}
theorem J4(l:PE X a ta)(m:PE X b tb){d:List (Addr×Obj)}{s:Shared}{e:St}{H:Hp}{R:V->V->Hp->Prop}(I:Inv X d e H s)
  (h:ta e H λx k=>tb e k λy g=>R x y g) {Q:Value->Shared->Prop} {f:Value->Value->Sem Value}
  (n:∀v u j x y g,Inv X d e g j->RelV x v->RelV y u->R x y g->wpAny (model X.prog X.w) X.A (f v u) Q X.xe j):
  wpAny (model X.prog X.w) X.A (eval a X.env) (λv i=>wpAny (model X.prog X.w) X.A (eval b X.env) (λu o=>wpAny (model X.prog X.w) X.A (f v u) Q X.xe o) X.xe i) X.xe s:=by
 refine thn (l d s e H _ I h) λv p #[x,k,q,r,t]=>?_;refine thn (m d p e k _ q t) λu j #[y,g,z,B,C]=>?_;exact n v u j x y g z r B C
theorem Mz(f:OpR X (binaryOp e) r)(g:PE X a ta)(i:PE X b tb):PE X (.BinOp a e b pos) (Nb r ta tb):=by
 intro d s j H Q I h;exact wpAny_BinOp (J4 g i I h λv u k x y l m n o q=>f d k j l x y v u Q m n o q)
theorem SW{f:Value->Value->Sem Value}{C:Int->Int->Prop}{g:Int->Int->Int}
  (rule:∀(i j:Int)(t u:Tok)(s:Shared)(Q:Value->Shared->Prop)(E:Value->Shared->Prop),C i j->Q (.int (g i j) s.toks) {s with toks:=s.toks+1}->wpAny (model X.prog X.w) X.A (f (.int i t) (.int j u)) Q E s):
  OpR X f (rI C λi j=> .int (g i j)):=by
 intro d s n H x y v u Q I e k h;obtain⟨i,j,rfl,rfl,l,q⟩:=h;obtain⟨t,rfl⟩:=e;obtain⟨m,rfl⟩:=k;exact rule i j t m s _ _ l #[.int (g i j),H,I.tok _,#[_,rfl],q]
theorem QF{f:Value->Value->Sem Value}{g:Int->Int->Int}
  (rule:∀(i j:Int)(t u:Tok)(s:Shared)(Q:Value->Shared->Prop)(E:Value->Shared->Prop),Q (.int (g i j) s.toks) {s with toks:=s.toks+1}->wpAny (model X.prog X.w) X.A (f (.int i t) (.int j u)) Q E s):
  OpR X f (yM λi j=> .int (g i j)):=by
 intro d s m H x y v u Q I e k h;obtain⟨i,j,rfl,rfl,q⟩:=h;obtain⟨t,rfl⟩:=e;obtain⟨l,rfl⟩:=k;exact rule i j t l s _ _ #[.int (g i j),H,I.tok _,#[_,rfl],q]
theorem Ho{f:Value->Value->Sem Value}{g:Int->Int->Bool}
  (rule:∀(i j:Int)(t u:Tok)(s:Shared)(Q:Value->Shared->Prop)(E:Value->Shared->Prop),Q (.bool (g i j)) s->wpAny (model X.prog X.w) X.A (f (.int i t) (.int j u)) Q E s):
  OpR X f (yM λi j=> .bl (g i j)):=by
 intro d s m H x y v u Q I e k h;obtain⟨i,j,rfl,rfl,q⟩:=h;obtain⟨t,rfl⟩:=e;obtain⟨l,rfl⟩:=k;exact rule i j t l s _ _ #[.bl (g i j),H,I,rfl,q]
def P6(i j:Int):Prop:=0<j/\j<1073741824
def GG(i j:Int):Prop:=(-(2^64)<i/\i<2^64)\/(-(2^64)<j/\j<2^64)
theorem GG.ok(h:GG i j):IntMulOk i j:=by
 rcases h with ⟨d,e⟩ | ⟨d,e⟩
 .exact .of_left (intBits_le_64 d e)
 .exact .of_right (intBits_le_64 d e)
theorem OU:OpR X (binaryOp .Add) (yM λi j=> .int (i+j)):=QF λ_ _ _ _ _ _ _ q=>add_int q
theorem O1:OpR X (binaryOp .Sub) (yM λi j=> .int (i-j)):=QF λ_ _ _ _ _ _ _ q=>sub_int q
theorem OY:OpR X (binaryOp .Mult) (rI GG λi j=> .int (i*j)):=SW λ_ _ _ _ _ _ _ d q=>mul_int q d.ok
theorem Mn:OpR X (binaryOp .FloorDiv) (rI P6 λi j=> .int (i / j)):=SW λi j _ _ _ _ _ d q=>by
 have e:(0:Int)<j:=d.1;have f:j<1073741824:=d.2;exact floordiv_int (by lia) (by rw[Int.fdiv_eq_ediv_of_nonneg i (by lia)];exact q) (.inl (PyProof.noPylong_small (by lia)))
theorem OX:OpR X (binaryOp .Mod) (rI (λ_ j=>0<j) λi j=> .int (i%j)):=SW λi j _ _ _ _ _ d q=>by
 have e:(0:Int)<j:=d;exact mod_int' (by lia) (by rw[Int.fmod_eq_emod_of_nonneg i (by lia)];exact q)
end
section
variable {X:Cx} {a b c:Expr} {ta tb tc:TE} {pos:Pos}
theorem Av(I:Inv X d f H s)(q:Q (.bl k) H)(e:k=g):EP X d f Q (.bool g) s:=by
 subst e;exact#[.bl k,H,I,rfl,q]
theorem S8:OpR X (compareOp .Lt) (yM λi j=> .bl (decide (i<j))):=Ho λ_ _ _ _ _ _ _ q=>lt_int q
theorem S0:OpR X (compareOp .LtE) (yM λi j=> .bl (decide (i<=j))):=Ho λ_ _ _ _ _ _ _ q=>le_int q
theorem SY:OpR X (compareOp .Gt) (yM λi j=> .bl (decide (j<i))):=Ho λ_ _ _ _ _ _ _ q=>gt_int q
theorem SX:OpR X (compareOp .GtE) (yM λi j=> .bl (decide (j<=i))):=Ho λ_ _ _ _ _ _ _ q=>ge_int q
theorem OW:OpR X (compareOp .Is) (λx y H Q=>y= .bu/\Q (.bl (decide (x= .bu))) H):=by
 intro d s g H x y v u Q I e f h;obtain⟨rfl,q⟩:=h;subst f;refine is_none_gen (Av I q ?_)
 cases x<;>first
  | (cases e;rfl)
  | (obtain⟨t,rfl⟩:=e;rfl)
theorem Mq:OpR X (compareOp .IsNot) (λx y H Q=>y= .bu/\Q (.bl (!decide (x= .bu))) H):=by
 intro d s g H x y v u Q I e f h;obtain⟨rfl,q⟩:=h;subst f;refine isnot_none_gen (Av I q ?_)
 cases x<;>first
  | (cases e;rfl)
  | (obtain⟨t,rfl⟩:=e;rfl)
theorem OpR.or(h:OpR X f r)(k:OpR X f e):OpR X f (λx y H Q=>r x y H Q\/e x y H Q):=by
 intro d s g H x y v u Q I i j q
 rcases q with q|q
 .exact h d s g H x y v u Q I i j q
 .exact k d s g H x y v u Q I i j q
theorem bg(b:Expr)(h:d≠ .In:=by decide)(e:d≠ .NotIn:=by decide):behindInMarks d b=false:=by
 have f:(d==CmpOp.In)=false:=by cases d<;>first|rfl|exact absurd rfl h
 have g:(d==CmpOp.NotIn)=false:=by cases d<;>first|rfl|exact absurd rfl e
 cases b<;>simp[behindInMarks,f,g]
theorem Mt(f:OpR X (compareOp e) r)(g:PE X a ta)(i:PE X b tb)(j:behindInMarks e b=false):PE X (.Compare a [e] [b] pos) (Nb r ta tb):=by
 intro d s k H Q I h;exact wpAny_Compare1 (J4 g i I h λv u l x y m n o p q=>f d l k m x y v u Q n o p q) j
def Gj(t:TE):TT:=λd H Q=>t d H λx e=>∃k,x= .bl k/\Q k e
theorem MK(i:OpR X (compareOp f) r)(j:PE X a ta)(l:PE X b tb)(m:behindInMarks f b=false):PT X (.Compare a [f] [b] pos) (Gj (Nb r ta tb)):=by
 intro d s g H Q I h
 refine wpAny_isTrue_Compare1 (thn (j d s g H _ I h) λv n #[x,o,p,q,t]=>thn (l d n g o _ p t) λu w #[y,A,B,C,E]=>
  thn (i d w g A x y v u _ B q C E) λc M #[z,F,G,J,k,e,L]=>?_) m
 subst e;subst J;exact UF #[F,G,L]
def BP(r f:R2)(g h i:TE):TE:=λd H Q=>g d H λx j=>h d j λy l=>r x y l λz e=>∃k,z= .bl k/\
 (if k=true then i d e λm n=>f y m n Q else Q (.bl false) e)
theorem Jg(q:OpR X (compareOp i) r)(t:OpR X (compareOp j) l)(w:PE X a ta)(A:PE X b tb)(B:PE X c tc)
  (C:lastMarks [i,j] [b,c]=false:=by with_unfolding_all rfl):PE X (.Compare a [i,j] [b,c] pos) (BP r l ta tb tc):=by
 intro f s g H Q I h
 refine Compare_chain (thn (w f s g H _ I h) λv E #[x,F,G,J,L]=>chain_link (thn (A f E g F _ G L) λu M #[y,N,O,m,P]=>
  thn (q f M g N x y v u _ O J m P) λd R #[z,n,o,S,k,e,p]=>?_)) C
 subst e;subst S;refine UF ?_;cases k with
 |false=>exact ite_ff #[.bl false,n,o,rfl,p]
 |true=>exact ite_tt (chain_last (thn (B f R g n _ o p) λT U #[Y,Z,I4,r4,q4]=>t f U g Z y Y u T Q I4 m r4 q4))
theorem Jq(q:OpR X (compareOp i) r)(t:OpR X (compareOp j) l)(w:PE X a ta)(A:PE X b tb)(B:PE X c tc)
  (C:lastMarks [i,j] [b,c]=false:=by with_unfolding_all rfl):PT X (.Compare a [i,j] [b,c] pos) (Gj (BP r l ta tb tc)):=by
 intro f s g H Q I h
 refine isTrue_chain (thn (w f s g H _ I h) λv E #[x,F,G,J,L]=>test_link (thn (A f E g F _ G L) λu M #[y,N,O,m,P]=>
  thn (q f M g N x y v u _ O J m P) λd R #[z,n,o,S,k,e,p]=>?_)) C
 subst e;subst S;refine UF ?_;cases k with
 |false=>
  rfl';obtain⟨k',U,Y⟩:=p;cases U;ac_rfl;exact ite_ff #[n,o,Y]
 |true=>
  refine ite_tt (test_last (thn (B f R g n _ o p) λZ s4 #[z',H4,I4,r4,q4]=>thn (t f s4 g H4 y z' u Z _ I4 m r4 q4) λd' s5 #[z2,H5,I5,r5,k2,e2,q5]=>?_));subst e2;subst r5;exact UF #[H5,I5,q5]
def JU(K:ac)(x:V)(H:Hp)(k:Bool):Prop:=
 match x with
 | .bu=>k=false
 | .bl b=>k=b
 | .int i=>k=(i !=0)
 | .str y=>y.length<=sizeLine/\k=((y.length:Int) !=0)
 | .HW y=>y.size<=sizeLine/\k=((y.size:Int) !=0)
 | .ref p=>(∃d,cz K H p d/\k= !d.isEmpty)\/(∃d,gd K H p d/\k= !d.isEmpty)\/∃e,H p=some (.dK e)/\k= !e.isEmpty
 |_=>False
theorem Dm(r:KV e f):(!f.isEmpty)= !e.isEmpty:=by
 cases r<;>rfl
theorem uK(r:Vals e d):(!d.toArray.isEmpty)= !e.isEmpty:=by
 cases r<;>simp
theorem lQ:(sizeLine:Nat)<2^63:=by rw[aaU];decide
theorem HG:Um X (λx H Q=>∃k,JU X.K x H k/\Q k H):=by
 intro pins s σ H x v Q I rx h;obtain⟨k,e,q⟩:=h;have hl:=lQ;have hs:sizeLine=16777216:=sizeLine_eq;cases x with
 |bu=>
  cases rx;have e':k=false:=e;subst e';exact truthy_none #[H,I,q]
 |bl b=>
  cases rx;have e':k=b:=e;subst e';exact wpAny_truthy_bool #[H,I,q]
 |int i=>
  obtain⟨t,rfl⟩:=rx;have e':k=(i !=0):=e;subst e';exact PySem.P.truthy_int #[H,I,q]
 |str y=>
  obtain⟨t,rfl⟩:=rx;obtain⟨hy,e'⟩:y.length<=sizeLine/\k=((y.length:Int) !=0):=e;subst e';exact PySem.P.truthy_str (by lia) #[H,I.tok _,q]
 |HW y=>
  obtain⟨t,rfl⟩:=rx;obtain⟨hy,e'⟩:y.size<=sizeLine/\k=((y.size:Int) !=0):=e;subst e';exact PySem.W.truthy_bytes (by lia) #[H,I.tok _,q]
 |ref p=>
  subst rx;have e':(∃xs,cz X.K H p xs/\k= !xs.isEmpty)\/(∃xs,gd X.K H p xs/\k= !xs.isEmpty)\/∃e8,H p=some (.dK e8)/\k= !e8.isEmpty:=e
  rcases e' with ⟨xs,hx,e'⟩ | ⟨xs,hx,e'⟩ | ⟨e8,hx,e'⟩
  .subst e'
   obtain⟨its,r,pl,hz⟩:=I.list hx;have hlen:=r.length;exact wpAny_truthy_list pl.isList (by simp only[cT];lia) #[H,I.tok _,by rw[uK r];exact q]
  .subst e'
   obtain⟨its,r,pl,hz⟩:=I.tuple hx;have hlen:=r.length;exact truthy_tuple pl (by simp only[cT];lia) #[H,I.tok _,by rw[uK r];exact q]
  .subst e'
   obtain⟨hz,hS,vs,r,m⟩:e8.length<=sizeLine/\(p==sysModules)=false/\∃vs,KV e8 vs/\s.heap.DictOf (wV X.prog X.w) p vs:=I.hok p _ hx;have hlen:e8.length=vs.length:=Paired.length r;exact wpAny_truthy_dict hS m (by lia) #[H,I.tok _,by rw[Dm r];exact q]
 |_=>exact(show False from e).elim
theorem Jr(i:PE X a ta)(j:∀d,isTrue a X.env d=(do let v <-d;standAt a.pos;holding [v] (truthy v))):
  PT X a (λf H Q=>ta f H λx g=>∃k,JU X.K x g k/\Q k g):=by
 intro e s f H Q I h;exact isTrue_plain (thn (i e s f H _ I h) λv l #[x,m,n,o,p]=>HG e l f m x v Q n o p) (j _)
theorem vals1(r:Vals [x] d):∃u,d= [u]/\RelV x u:=by
 cases r with
 |cons e f=>cases f;exact#[_,rfl,e]
theorem vals2(r:Vals [x,y] d):∃u e,d= [u,e]/\RelV x u/\RelV y e:=by
 cases r with
 |cons f g=>
  cases g with
  |cons h i=>cases i;exact#[_,_,rfl,f,h]
theorem EW(g:X.calm=true):CallR X (.builtin "max") (λe H Q=>∃i j,e= [.int i, .int j]/\Q (.int (if j>i then j else i)) H):=by
 intro f s m H e n Q I r h;rfl';obtain⟨i,j,rfl,q⟩:=h;obtain⟨u,p,rfl,⟨t,rfl⟩,⟨v,rfl⟩⟩:=vals2 r;ac_rfl;refine max_two_ints (I.ok.hd g) λw x k=>#[_,H,I.kept k,?_,q]
 by_cases d:j>i
 .rw[tz d,tz d];exact#[_,rfl]
 .rw[mo d,mo d];exact#[_,rfl]
theorem EX(g:X.calm=true):CallR X (.builtin "min") (λe H Q=>∃i j,e= [.int i, .int j]/\Q (.int (if j<i then j else i)) H):=by
 intro f s m H e n Q I r h;rfl';obtain⟨i,j,rfl,q⟩:=h;obtain⟨u,p,rfl,⟨t,rfl⟩,⟨v,rfl⟩⟩:=vals2 r;ac_rfl;refine min_two_ints (I.ok.hd g) λw x k=>#[_,H,I.kept k,?_,q]
 by_cases d:j<i
 .rw[tz d,tz d];exact#[_,rfl]
 .rw[mo d,mo d];exact#[_,rfl]
end
structure vR (h:Heap) (x dx C:Addr) (mA:Str->Option Value):Prop where
 obj:h.get? x=some (b4 C dx)
 ns:h.Ns1 dx mA
 ne:dx≠x
theorem FJ{h:Heap}(n:h.Ns1 c d):∃f,h.get? c=some f/\∀b,c3 b f=some (d b):=by
 rfl';obtain⟨o,g,v,j,k,l,_,m⟩:=n;ac_rfl;refine#[o,j,λb=>?_];have e:=m b;unfold nsFind findBy at e;rw[<-Array.find?_toList] at e;unfold c3;rw[k];dsimp only
 split
 .rename_i y q
  rw[q] at e;exact IR some e
 .rename_i q
  rw[q] at e
  have a:g.toList.any (·.refKey)=false:=by
   rw[List.any_eq_false];intro y p;obtain⟨z,t,r⟩:=l y (Array.mem_toList_iff.mp p);simp[DictEntry.refKey,r]
  have s:¬g.toList.any (·.refKey)=true:=by rw[a];exact cO
  rw[mo s];exact IR some e
theorem vR.look(I:vR h x c C d):∃b,PySem.W.InstAt h x (b4 C c) C (some b)/\∀a,c3 a b=some (d a):=
 let #[b,e,f]:=FJ I.ns
 #[b,#[I.obj,rfl,rfl,e],f]
section
variable {prog:Program} {w:World} {A:Around} {E:Value->Shared->Prop} {s:Shared} {K:ac} {x dx C f:Addr} {mA:Str->Option Value} {name:Str} {v:Value}
theorem get_map(X:K.In s.heap)(I:vR s.heap x dx C mA)(b:cm K C name=true)(c:b5 K C=true)
  (d:ad K (.ref C) name=some none) (e:mA name=some v) (g:PySem.W.handedIn v=true) (h:Q v {s with toks:=s.toks+1}):
  wpAny (model prog w) A (getAttr (.ref x) name a) Q E s:=by
 obtain⟨j,J,i⟩:=I.look;exact PySem.W.get_value X J (abD b).1 (PySem.W.findObj_own c d rfl (by rw[i,e])) g h
theorem Iq(X:K.In s.heap)(I:vR s.heap x dx C mA)(a:cm K C name=true)
  (b:ad K (.ref C) name=some (some (.ref f))) (c:ce K (.ref f)=true) (d:mA name=none) (h:Q (.ref f,[.ref x]) s):
  wpAny (model prog w) A (getMethod (.ref x) name pl) Q E s:=by
 obtain⟨e,J,g⟩:=I.look;exact PySem.W.method_fn X J (abD a).1 (abD a).2 b (aax.mp c) (by show(c3 name e).map (·.isSome)=some false;rw[g,d];rfl) h
theorem MY{e:List Str}(X:K.In s.heap)(I:vR s.heap x dx C mA)
  (j:ad K (.ref C) "__setattr__"=some (some (.builtin "object.__setattr__"))) (k:da K C=true) (l:dc K C name=some none) (m:b5 K C=true)
  (hw:cv mA e) (G:e.length<=sizeLine)
  (h:∀c,vR c x dx C (λy=>if y=name then some v else mA y)->Heap.SameBut dx s.heap c->Q () {s with heap:=c,toks:=s.toks+2}):
  wpAny (model prog w) A (setAttr (.ref x) name v) Q E s:=by
 rfl';obtain⟨H,J,L⟩:=I.look;obtain⟨M,o,p⟩:=PySem.W.any_some m;ac_rfl;refine PySem.W.set_plain X J j (PySem.W.osa_open (s:={s with toks:=s.toks+1}) (r:=none) X J k l λb=>?_)
 have q:s.heap.get? x=some #[.ref C,some dx, .plain, #[]]:=I.obj;refine ir (ls (ir (ir (wpAny_loadPart q (ir (PySem.W.Looks.here (s:={s with toks:=s.toks+1}) (PySem.W.looks_clsIn X o) ?_))))))
 rw[p];refine ls (a:=some dx) (ir (ls (ir ?_)));refine wpAny_nsSet1 (s:={s with toks:=s.toks+1}) I.ns λc g i=>?_
 rfl';obtain⟨N,t,u,z,B,F⟩:=g.count (PySem.Within.cons name v hw);ac_rfl;refine ir (wpAny_lookBehind z (by rw[B];exact pastItsLine_dict (kE F (by rw[dG];lia))) ?_)
 exact ls (h _ #[(i.2 _ (Ne.symm I.ne)).trans I.obj,g,I.ne] i)
theorem IY(X:K.In s.heap)(c:dg K C=true)
  (e:ad K (.ref C) "__init__"=some (some (.ref f))) (i:PySem.W.typeIn K (.ref f)=some (.type "function"))
  (h:codeAny (model prog w) (A.under (.builtin "type.__call__" #[.ref C::a,b])) (.call (.ref f) #[.ref (s.heap.objs.size+1)::a,b]) (PySem.W.InitBack (s.heap.objs.size+1) R)
   {s with heap:=(s.heap.push bd).push (b4 C s.heap.objs.size)}):
  codeAny (model prog w) A (.call (.ref C) #[a,b]) R s:=by
 obtain⟨j,g,d,t,os⟩:=s;exact PySem.W.make_core (PySem.W.makes_of X c) (PySem.W.looks_findIn X e) (λself=>PySem.W.bind_fn X self i) (.inl rfl) h
end
def jh(f:Str)(v:V):List (Str×V)->List (Str×V)
 | []=> [(f,v)]
 | (g,x)::r=>if g=f then(g,v)::r else(g,x)::jh f v r
theorem r8(f g:Str)(v:V):∀fs:List (Str×V),(jh f v fs).lookup g=if g=f then some v else fs.lookup g
 | []=>by
  show bv g [(f,v)]=_
  by_cases h:g=f
  .have a:(g==f)=true:=aax.mpr h
   simp only[bv,a,tz h]
  .have a:(g==f)=false:=aaz.mpr h
   simp only[bv,a,mo h]
 | (k,x)::r=>by
  have c:=r8 f g v r;rw[show jh f v ((k,x)::r)=(if k=f then(k,v)::r else(k,x)::jh f v r) from rfl]
  by_cases b:k=f
  .rw[tz b]
   by_cases h:g=k
   .have a:(g==k)=true:=aax.mpr h
    simp only[bv,a,tz (h.trans b)]
   .have a:(g==k)=false:=aaz.mpr h
    simp only[bv,a,mo (λe:g=f=>h (e.trans b.symm))]
  .rw[mo b]
   by_cases h:g=k
   .have a:(g==k)=true:=aax.mpr h
    simp only[bv,a,mo (λe:g=f=>b (h.symm.trans e))]
   .have a:(g==k)=false:=aaz.mpr h
    simp only[bv,a];exact c
theorem qy(f:Str)(v:V):∀fs:List (Str×V),f∈(jh f v fs).map (·.1)/\∀g,g∈fs.map (·.1)->g∈(jh f v fs).map (·.1)
 | []=>#[by simp[jh],λg h=>by simp at h]
 | (k,x)::r=>by
  obtain⟨b,c⟩:=qy f v r;rw[show jh f v ((k,x)::r)=(if k=f then(k,v)::r else(k,x)::jh f v r) from rfl]
  by_cases a:k=f
  .rw[tz a]
   subst a;exact#[by simp,λg h=>h]
  .rw[mo a]
   refine#[?_,λg h=>?_]
   .rw[bV]
    exact dh _ b
   .rw[bV] at h ⊢
    rcases cV.mp h with e|e
    .exact cV.mpr (.inl e)
    .exact dh _ (c g e)
theorem rV(f:Str)(v:V):∀fs:List (Str×V),(jh f v fs).length<=fs.length+1
 | []=>by simp[jh]
 | (k,x)::r=>by
  have b:=rV f v r;rw[show jh f v ((k,x)::r)=(if k=f then(k,v)::r else(k,x)::jh f v r) from rfl]
  by_cases a:k=f
  .rw[tz a,dG,dG];lia
  .rw[mo a,dG,dG];lia
theorem mD.some_of{v:V}{o:Option Value}(r:mD (some v) o):∃u,o=some u/\RelV v u:=by
 cases o with
 |none=>exact(show False from r).elim
 |some u=>exact#[u,rfl,r]
theorem mD.none_of(r:mD none o):o=none:=by
 cases o with
 |none=>rfl
 |some u=>exact(show False from r).elim
theorem Fp{v:V}{u:Value}(r:RelV v u):PySem.W.handedIn u=true:=by
 cases v with
 |bu=>cases(show u=Value.none from r);rfl
 |bl b=>cases(show u=Value.bool b from r);rfl
 |int i=>obtain⟨t,e⟩:=(show ∃t,u=Value.int i t from r);cases e;rfl
 |str x=>obtain⟨t,e⟩:=(show ∃t,u=Value.str x t from r);cases e;rfl
 |HW b=>obtain⟨t,e⟩:=(show ∃t,u=Value.bytes b t from r);cases e;rfl
 |Fg b=>obtain⟨t,e⟩:=(show ∃t,u=Value.float b t from r);cases e;rfl
 |ref a=>cases(show u=Value.ref a from r);rfl
 |ty n=>cases(show u=Value.type n from r);rfl
section
variable {P:Program} {w:World} {H H':Hp} {h h':Heap} {a C dx:Addr} {fs RF:List (Str×V)}
theorem rR(hok:gy P w H h)(e:H a=some (.ins C dx fs)):∃b,vR h a dx C b/\(∀f,mD (fs.lookup f) (b f))/\cv b (fs.map (·.1))/\fs.length<=1000/\H dx=some (.own a):=by
 obtain⟨d,z,ne,c,b,n,r,q⟩:=(show cF P w H h a (.ins C dx fs) from hok a _ e);exact#[b,#[c,n,ne],r,q,z,d]
end
structure vL (K:ac) (C:Addr):Prop where
 pg:cm K C Str.empty=true
 hd:b5 K C=true
 po:da K C=true
 sa:ad K (.ref C) "__setattr__"=some (some (.builtin "object.__setattr__"))
theorem vL.get{K:ac}{C:Addr}(c:vL K C)(f:Str):cm K C f=true:=c.pg
def lH(K:ac)(C:Addr)(f:Str):Prop:=ad K (.ref C) f=some none
theorem lH.TU{K:ac}{C:Addr}{f:Str}(n:lH K C f):dc K C f=some none:=by
 unfold dc;rw[show ad K (.ref C) f=some none from n];rfl
structure Meth (K:ac) (C:Addr) (m:Str) (f:Addr):Prop where
 at_:ad K (.ref C) m=some (some (.ref f))
 fn:ce K (.ref f)=true
 kp:aA K (.ref f)=true
section
variable {X:Cx} {pins:List (Addr×Obj)} {σ:St} {H:Hp} {s:Shared} {a C dx:Addr} {fs:List (Str×V)} {f:Str} {v:V} {A:Around} {E:Value->Shared->Prop}
theorem C0(I:Inv X pins σ H s)(e:H a=some (.ins C dx fs))(c:vL X.K C)(n:lH X.K C f)(l:fs.lookup f=some v)
  (h:∀u d,Inv X pins σ H d->RelV v u->Q u d):wpAny (model X.prog X.w) A (getAttr (.ref a) f b) Q E s:=by
 obtain⟨i,O,r,_,_,_⟩:=rR I.hok e;obtain⟨u,j,g⟩:=mD.some_of (v:=v) (o:=i f) (by rw[<-l];exact r f)
 exact get_map I.fw O (c.get f) c.hd n j (Fp g) (h u _ (I.tok _) g)
theorem uH{pl:Sem Bool}(I:Inv X pins σ H s)(e:H a=some (.ins C dx fs))(c:vL X.K C)(k:Meth X.K C m g)(l:fs.lookup m=none)
  (h:Q (.ref g,[.ref a]) s):wpAny (model X.prog X.w) A (getMethod (.ref a) m pl) Q E s:=by
 obtain⟨b,O,r,_,_,_⟩:=rR I.hok e;have d:b m=none:=mD.none_of (by rw[<-l];exact r m)
 exact Iq I.fw O (c.get m) k.at_ k.fn d h
theorem Ed(I:Inv X pins σ H s)(e:H a=some (.ins C dx fs))(c:vL X.K C)(n:lH X.K C f)(N:fs.length<1000)(m:RelV y u)
  (h:∀i,Inv X pins σ (upd H a (.ins C dx (jh f y fs))) i->Q () i):wpAny (model X.prog X.w) A (setAttr (.ref a) f u) Q E s:=by
 rfl';obtain⟨j,O,r,k,_,l⟩:=rR I.hok e;have t:(fs.map (·.1)).length<=sizeLine:=by rw[aH,aaU];lia
 ac_rfl;refine MY I.fw O c.sa c.po n.TU c.hd k t λB d F=>h _ ?_;have G:∃o,B.get? dx=some o:=let #[o,_,_,J,_]:=d.ns;#[o,J];refine I.write (x:=a) (e:=dx) (by rw[e];exact True.intro) (.inr l) (λb q L z=>(F.2 b L).trans z) G ?_
 refine#[by rw[ay O.ne];exact l,?_,O.ne,d.obj,_,d.ns,λg=>?_,λg M=>?_]
 .have:=rV f y fs;lia
 .show mD ((jh f y fs).lookup g) (if g=f then some u else j g)
  rw[r8]
  by_cases q:g=f
  .rw[tz q,tz q];exact m
  .rw[mo q,mo q];exact r g
 .by_cases q:g=f
  .rw[q];exact(qy f y fs).1
  .refine(qy f y fs).2 g (k g λz=>M ?_)
   show(if g=f then some u else j g)=none;rw[mo q];exact z
theorem Inv.made(I:Inv X pins σ H s):Inv X pins σ (upd (upd H s.heap.objs.size (.own (s.heap.objs.size+1))) (s.heap.objs.size+1) (.ins C s.heap.objs.size []))
  {s with heap:=(s.heap.push bd).push (b4 C s.heap.objs.size)}:=by
 have c:(s.heap.push bd).get? s.heap.objs.size=some bd:=FS s.heap rfl
 have d:((s.heap.push bd).push (b4 C s.heap.objs.size)).get? (s.heap.objs.size+1)=some (b4 C s.heap.objs.size):=by
  have:=FS (s.heap.push bd) (o:=b4 C s.heap.objs.size) rfl
  rwa [aa7] at this
 have g:(s.heap.push bd).Ns s.heap.objs.size (λ_=>none):=#[bd, #[],_,c,rfl,(λe h=>absurd h (by simp)),λ_=>rfl]
 have i:=I.laid (a:=s.heap.objs.size) (o:= .own (s.heap.objs.size+1)) (h':=s.heap.push bd) (t':=s.toks) (λb u q=>AC _ q) (bJ _) #[_,c];refine i.laid (a:=s.heap.objs.size+1) (o:= .ins C s.heap.objs.size []) (t':=s.toks) (λb u q=>AC _ q) (Nat.le_of_eq (aa7 _ _)) ?_;have ne:s.heap.objs.size≠s.heap.objs.size+1:=bB (xU _);refine#[by rw[ay ne,aw],fm _,ne,d,λ_=>none,(Heap.Ns1.of_empty g).at λo q=>AC _ q,λ_=>True.intro,λy j=>absurd rfl j]
theorem JX{f:Str}{s:Shared}(d:attributeBase e f env (eval e env)=eval e env)
  (h:wpAny (model prog w) A (eval e env) (λo b=>wpAny (model prog w) A (getAttr o f true) Q E b) E s):wpAny (model prog w) A (eval (.Attribute e f c) env) Q E s:=
 Attribute_any_ h (by rw[arm_eval_Attribute,d])
end
def W6(K:ac)(c:TE)(f:Str):TE:=λd H Q=>c d H λx b=>∃a C e fs v,x= .ref a/\b a=some (.ins C e fs)/\vL K C/\lH K C f/\fs.lookup f=some v/\Q v b
def WQ(K:ac)(e g:TE)(f:Str):TS:=λD b H=>g b H λy h=>e b h λx c=>∃a C d fs,x= .ref a/\c a=some (.ins C d fs)/\vL K C/\lH K C f/\fs.length<1000/\
 D.nx b (upd c a (.ins C d (jh f y fs)))
section
variable {X:Cx} {o e value:Expr} {f:Str} {pos pos' Xi:Pos} {ta tv:TE}
theorem O7(d:PE X e ta)(g:attributeBase e f X.env (eval e X.env)=eval e X.env):PE X (.Attribute e f pos) (W6 X.K ta f):=by
 intro b s i H Q I h;refine JX g (thn (d b s i H _ I h) λu A j=>?_);rfl';obtain⟨x,m,p,r,a,C,E,fs,v,t,w,c,n,l,q⟩:=j;ac_rfl;subst t;obtain rfl:u=Value.ref a:=r;exact C0 p w c n l λF G y z=>#[v,m,y,z,q]
theorem Pg(g:PE X o ta)(i:PE X value tv)(j:swapsWith value (some (.Attribute o f pos')) pos.line X.env=pure false):PS X (.Assign [.Attribute o f pos'] value pos) (WQ X.K ta tv f):=by
 intro b s d H D I h;refine plainObj_wpAny_Assign_Attribute (thn (i b s d H _ I h) λu k #[y,m,p,r,q]=>thn (g b k d m _ p q) λt F #[x,G,v,w,a,C,J,fs,z,A,c,n,l,B]=>?_) j;subst z;obtain rfl:t=Value.ref a:=w;exact Ed v A c n l r λL E=>#[d,_,E,B]
end
section
variable {X:Cx} {pins:List (Addr×Obj)} {σ:St} {H:Hp} {s:Shared} {A:Around} {E:Value->Shared->Prop} {Q:Value->Shared->Prop} {c:Value} {b:Bool}
inductive jE (K:ac) (H:Hp):V->Value->Prop where
 |bu:jE K H .bu (.type "NoneType")
 |bl (x:Bool):jE K H (.bl x) (.type "bool")
 |int (i:Int):jE K H (.int i) (.type "int")
 |str (x:Str):jE K H (.str x) (.type "str")
 |Fg (x:UInt64):jE K H (.Fg x) (.type "float")
 |lst {a:Addr} {xs:List V} (e:H a=some (.lst xs)):jE K H (.ref a) (.type "list")
 |rG {a:Addr} {o:Obj} {xs:List V} (e:H a=some (.rG o (.lst xs))):jE K H (.ref a) (.type "list")
 |tup {a:Addr} {xs:List V} (e:H a=some (.tup xs)):jE K H (.ref a) (.type "tuple")
 |dK {a:Addr} {e8:List (Key×V)} (e:H a=some (.dK e8)):jE K H (.ref a) (.type "dict")
 |dT {a:Addr} {e8:List (List Key×V)} (e:H a=some (.dT e8)):jE K H (.ref a) (.type "dict")
 |ins {a C dx:Addr} {fs:List (Str×V)} (e:H a=some (.ins C dx fs)) (cl:vL K C) (ha:ad K (.ref C) "__class__"=some (some (.builtin "object.__class__")))
   (hn:bP K (.builtin "object.__class__") "__get__"=some (some (.builtin "getset_descriptor.__get__"))) (htk:cq K (.builtin "object.__class__")=some true)
   (hm:b6 K C (.type "object")=some true):jE K H (.ref a) (.ref C)
theorem wK{x:V}{u t:Value}(I:Inv X pins σ H s)(rx:RelV x u)(ty:jE X.K H x t)(e:ak X.K t c=some b)(h:∀tk,Q (.bool b) {s with toks:=tk}):
  wpAny (model X.prog X.w) A (call (.builtin "isinstance") [u,c]) Q E s:=by
 cases ty with
 |bu=>cases(show u=Value.none from rx);exact PySem.W.kia_one PySem.W.kitx_none I.fw True.intro e (λz=>nomatch z) h
 |bl y=>cases(show u=Value.bool y from rx);exact PySem.W.kia_one PySem.W.kitx_bool I.fw True.intro e (λz=>nomatch z) h
 |int i=>obtain⟨t,q⟩:=(show ∃t,u=Value.int i t from rx);cases q;exact PySem.W.kia_one PySem.W.kitx_int I.fw True.intro e (λz=>nomatch z) h
 |str y=>obtain⟨t,q⟩:=(show ∃t,u=Value.str y t from rx);cases q;exact PySem.W.kia_one PySem.W.kitx_str I.fw True.intro e (λz=>nomatch z) h
 |Fg y=>obtain⟨t,q⟩:=(show ∃t,u=Value.float y t from rx);cases q;exact PySem.W.kia_one PySem.W.kitx_float I.fw True.intro e (λz=>nomatch z) h
 | @lst a xs ea=>
  cases(show u=Value.ref a from rx);obtain⟨_,_,n,_,h1⟩:=(show cF X.prog X.w H s.heap a (.lst xs) from I.hok a _ ea);exact PySem.W.kia_one PySem.W.kitx_list I.fw #[_,h1,rfl] e (λz=>nomatch z) h
 | @rG a ob xs ea=>
  cases(show u=Value.ref a from rx);obtain⟨_,_,_,n,_,h1⟩:=(show cF X.prog X.w H s.heap a (.rG ob (.lst xs)) from I.hok a _ ea);exact PySem.W.kia_one PySem.W.kitx_list I.fw #[_,h1,rfl] e (λz=>nomatch z) h
 | @tup a xs ea=>
  cases(show u=Value.ref a from rx);obtain⟨_,_,_,p⟩:=(show cF X.prog X.w H s.heap a (.tup xs) from I.hok a _ ea);obtain⟨o,h1,h2,_⟩:=p;exact PySem.W.kia_one PySem.W.kitx_tuple I.fw #[o,h1,h2] e (λz=>nomatch z) h
 | @dK a e8 ea=>
  cases(show u=Value.ref a from rx);obtain⟨_,_,vs,_,p⟩:=(show cF X.prog X.w H s.heap a (.dK e8) from I.hok a _ ea);obtain⟨o,es,ep,h1,h2,_⟩:=p;exact PySem.W.kia_one PySem.W.kitx_dict I.fw #[o,h1,h2.1] e (λz=>nomatch z) h
 | @dT a e8 ea=>
  cases(show u=Value.ref a from rx);obtain⟨_,_,xs,_,o,es,ep,h1,h2,_⟩:=(show cF X.prog X.w H s.heap a (.dT e8) from I.hok a _ ea);exact PySem.W.kia_one PySem.W.kitx_dict I.fw #[o,h1,h2.1] e (λz=>nomatch z) h
 | @ins a C dx fs ea cl ha hn htk hm=>
  rfl';cases(show u=Value.ref a from rx);obtain⟨mA,O,_⟩:=rR I.hok ea;obtain⟨od,J,_⟩:=O.look;ac_rfl;exact PySem.W.kia_one (PySem.W.kitx_own (cl.get _) cl.hd ha hn htk hm) I.fw J e (λz=>nomatch z) h
end
structure bW (k:Nat) (A:Around):Prop where
 hd:A.handled=none
 dp:A.depth+3*k+5<recursionLimit
 un:A.units+16*k+200<cLine
theorem bW.mono(r:bW k A)(h:j<=k):bW j A:=#[r.hd,by have:=r.dp;lia,by have:=r.un;lia]
theorem bW.deeper(r:bW (k+1) A)(env:Env):bW k (A.deeper env):=
 #[r.hd,by have:=r.dp;show A.depth+1+3*k+5<_;lia,by have:=r.un;show A.units+3+16*k+200<_;lia]
theorem DH{A:Around}:(A.under (.builtin "type.__call__" #[.ref C::a,b])).depth=A.depth+1:=by
 first|rfl|simp[Around.under,Code.weight,Code.isCreation,Code.isGuard,Code.isCaller,Code.frames,Code.isFrame,guardIds]
theorem DJ{A:Around}:(A.under (.builtin "type.__call__" #[.ref C::a,b])).units=A.units+1:=by
 first|rfl|simp[Around.under,Code.cUnits,Code.frames,Code.isFrame]
theorem bW.make(r:bW (k+1) A)(C:Addr)(a:List Value)(b:List (Str×Value)):bW k (A.under (.builtin "type.__call__" #[.ref C::a,b])):=
 #[r.hd,by have:=r.dp;rw[DH];lia,by have:=r.un;rw[DJ];lia]
theorem bW.depth{k:Nat}(r:bW k A):A.depth<recursionLimit:=by have:=r.dp;lia
theorem bW.units{k:Nat}(r:bW k A):A.units+64<cLine:=by have:=r.un;lia
def QJ:TA:=λ_ H Q=>Q [] H
def TJ(b:TE)(tr:TA):TA:=λa H Q=>b a H λx c=>tr a c λd e=>Q (x::d) e
section
variable {X:Cx} {e:Expr} {es:List Expr} {te:TE} {t:TA} {pos:Pos}
theorem eF:PA X [] QJ:=λ_ _ _ _ H Q I h=>Calls.spliced_nil #[[],H,I, .nil,h]
theorem bH(d:PE X e te)(f:PA X es t)(g:starEach (e::es) X.env=(false,eval e X.env)::starEach es X.env:=by rfl):PA X (e::es) (TJ te t):=by
 intro b a s c H Q I h;rw[g];show wpAny _ _ (spliced ((false,eval e X.env)::backTo b (starEach es X.env))) _ _ s;refine Calls.spliced_cons (thn (d a s c H _ I h) λu i j=>?_);rfl';obtain⟨x,l,m,n,o⟩:=j;ac_rfl;exact thn (f b a i c l _ m o) λz A #[p,q,r,v,w]=>#[x::p,q,r, .cons n v,w]
def Xf(t:TA):TE:=λc H Q=>t c H λa b=>a.length<=sizeLine/\∀p,b p=none->Q (.ref p) (upd b p (.tup a))
def W9(t:TA):TE:=λc H Q=>t c H λa b=>a.length<=sizeLine/\∀p,b p=none->Q (.ref p) (upd b p (.lst a))
theorem Ht{x1}(h:PA X es t):PE X (.Tuple es x1 pos) (Xf t):=by
 intro a s g H Q I i;refine wpAny_Tuple_spliced (thn (h pos a s g H _ I i) λj c #[k,d,f,r,z,q]=>#[r.length▸z,?_]);have l:d c.heap.objs.size=none:=f.hok.fresh (bJ _);refine#[.ref c.heap.objs.size,upd d c.heap.objs.size (.tup k),f.laid (t':=c.toks) (λb u e=>AC _ e) (bJ _) ?_,rfl,q _ l];exact#[z,j,r,#[_,FS _ rfl,rfl,_,rfl]]
theorem Hr(h:PA X es t):PE X (.List es pos) (W9 t):=by
 intro a s g H Q I i;refine wpAny_List_spliced (thn (h pos a s g H _ I i) λj c #[k,d,f,r,z,q]=>#[r.length▸z,?_]);have l:d c.heap.objs.size=none:=f.hok.fresh (bJ _);refine#[.ref c.heap.objs.size,upd d c.heap.objs.size (.lst k),f.laid (t':=c.toks) (λb u e=>AC _ e) (bJ _) ?_,rfl,q _ l];exact#[z,j,0,r,FS _ rfl]
end
abbrev Sp:=List V->Hp->VK->XK->Prop
abbrev pN:=List Env->Hp->Shared->XK->Value->Shared->Prop
structure Env0 (P:Program) (w:World) (K:ac) (mg:Str->Option Value) (base:Heap) (A:Around) (outer:List Env) (s:Shared) (H:Hp):Prop where
 frames:A.frames=some outer
 mod:Mod K mg base
 bs:∀b o,base.get? b=some o->s.heap.get? b=some o/\H b=none
 bsz:base.objs.size<=s.heap.objs.size
 funs:s.heap.FunFrames base outer
 frf:∀b∈rF outer,H b=none
 hok:gy P w H s.heap
 bare:AllBare s.gens
def CE(outer:List Env)(P:Program)(w:World)(H:Hp)(s:Shared)(Q:VK)(u:Value)(a:Shared):Prop:=
 ∃v b,a.os=s.os/\AllBare a.gens/\Un (rF outer) [] H b s.heap a.heap/\gy P w b a.heap/\RelV v u/\Q v b
def CR(b:pN)(outer:List Env)(P:Program)(w:World)(H:Hp)(s:Shared)(Q:VK)(E:XK)(r:Result)(a:Shared):Prop:=
 match r with
 | .ok (.ret u)=>CE outer P w H s Q u a
 | .ok _=>False
 | .error e=>b outer H s E e a
structure FnOk (P:Program) (w:World) (K:ac) (mg:Str->Option Value) (base:Heap) (CX:pN) (k:Nat) (f:Addr) (fd:FuncData) (ps:List Str) (sp:Sp):Prop where
 len:∀vs H Q E,sp vs H Q E->vs.length=ps.length
 run:∀(A:Around)(outer:List Env)(s:Shared)(H:Hp)(args:Args)(us:List Value)(vs:List V)(Q:VK)(E:XK),bW k A->Env0 P w K mg base A outer s H->BindsTo s fd args (ps.zip us)->Vals vs us->sp vs H Q E->
  codeAny (model P w) A (.call (.ref f) args) (CR CX outer P w H s Q E) s
theorem FnOk.mono{P:Program}{w:World}{K:ac}{b:Str->Option Value}{base:Heap}(F:FnOk P w K b base c j f d ps e)(h:j<=k):
  FnOk P w K b base c k f d ps e:=#[F.len,λA outer s H a g i Q E l=>F.run A outer s H a g i Q E (l.mono h)]
theorem FnOk.imp{P:Program}{w:World}{K:ac}{base:Heap}{d:pN}{f:Addr}{g i:Sp}(F:FnOk P w K c base d k f e ps g)
  (h:∀a H Q E,i a H Q E->g a H Q E):FnOk P w K c base d k f e ps i:=
 #[λa H Q E q=>F.len a H Q E (h _ _ _ _ q),λA outer s H b j a Q E l m n o p=>F.run A outer s H b j a Q E l m n o (h _ _ _ _ p)]
theorem Env0.make{P:Program}{w:World}{K:ac}{a:Str->Option Value}{base:Heap}{A:Around}{outer:List Env}{s:Shared}{H:Hp}(e:Env0 P w K a base A outer s H)(C:Addr)(b:List Value)(c:List (Str×Value)):
  Env0 P w K a base (A.under (.builtin "type.__call__" #[.ref C::b,c])) outer s H:=#[by first|exact e.frames| (simpa [Around.under,Code.envs,Code.isFrame,pushEnvs] using e.frames),e.mod,e.bs,e.bsz,e.funs,e.frf,e.hok,e.bare]
section
variable {X:Cx} {pins:List (Addr×Obj)} {σ:St} {H:Hp} {s s':Shared}
theorem Inv.eU(I:Inv X pins σ H s):Env0 X.prog X.w X.K X.mg X.base X.A X.stack s H:=
 #[I.ok.frames,I.ok.mod,I.bs,kE I.ok.bsz I.sz,I.stack,I.xF,I.hok,I.bare]
theorem Inv.after(I:Inv X pins σ H s)(h:CE X.stack X.prog X.w H s Q u s'):EP X pins σ Q u s':=by
 obtain⟨v,a,os,bare,un,hok,r,q⟩:=h;obtain⟨c,g,d,t,e⟩:=s';obtain rfl:e=s.os:=os;exact#[v,a,I.call (h':=c) (g':=g) (d':=d) (t':=t) (ch:= []) un hok bare (λb z=>absurd z (by simp)),r,q]
end
def TH(a:Sp)(b:List V)(E:XK)(t:TA):TE:=λc H Q=>t c H λd e=>a (d++b) e Q E
def Gi(C:Addr)(m:Str)(d:Sp)(e:List V)(E:XK)(f:TE)(t:TA):TE:=λb H Q=>f b H λx c=>∃a g fs,x= .ref a/\c a=some (.ins C g fs)/\fs.lookup m=none/\
 t b c λh i=>d (x::(h++e)) i Q E
def TL(C:Addr)(c:Sp)(d:List V)(E:XK)(t:TA):TE:=λe H Q=>t e H λf b=>∀x a,b x=none->b a=none->a≠x->
 c (.ref x::(f++d)) (upd (upd b a (.own x)) x (.ins C a [])) (λv g=>v= .bu/\Q (.ref x) g) E
def Binds(K:ac)(d:FuncData)(b:List Str)(c:List Value):Prop:=
 ∀(s:Shared)(a:List Value),K.In s.heap->(a++c).length=b.length->BindsTo s d #[a,[]] (b.zip (a++c))
theorem Binds.all{K:ac}{c:FuncData}{b:List Str}(h:∀a:List Value,a.length=b.length->bindArgs c #[a,[]]=pure (b.zip a)):Binds K c b []:=λs a _ d=>by
 rw[f6] at d ⊢;exact .of_eq (h a d)
def Passes(c:pN)(X:Cx)(E:XK):Prop:=∀(a:List (Addr×Obj))(d:St)(H:Hp)(s:Shared)(e:Value)(b:Shared),Inv X a d H s->c X.stack H s E e b->X.xe e b
section
variable {X:Cx} {CX:pN} {k:Nat} {f C:Addr} {fd:FuncData} {ps:List Str} {sp:Sp} {bq:List V} {ds:List Value} {E:XK} {x m:Str} {p pos apos:Pos} {e o:Expr} {es:List Expr} {ta:TE} {t:TA}
theorem BC{pins:List (Addr×Obj)}{σ:St}{H:Hp}{s:Shared}{Q:VK}{us:List Value}{vs:List V}(F:FnOk X.prog X.w X.K X.mg X.base CX k f fd ps sp)(hr:bW k X.A)(hb:Binds X.K fd ps ds)(hd:Vals bq ds)(hx:Passes CX X E)
  (I:Inv X pins σ H s) (r:Vals vs us) (h:sp (vs++bq) H Q E):wpAny (model X.prog X.w) X.A (call (.ref f) us) (EP X pins σ Q) X.xe s:=by
 have r2:Vals (vs++bq) (us++ds):=r.append hd;have hl:(us++ds).length=ps.length:=by rw[<-r2.length];exact F.len _ _ _ _ h
 refine wpAny_call (codeAny_mono (F.run X.A X.stack s H #[us,[]] (us++ds) (vs++bq) Q E hr I.eU (hb s us I.fw hl) r2 h) λr s' hq=>?_);cases r with
 |error e=>exact hx pins σ H s e s' I hq
 |ok fl=>
  cases fl with
  |ret u=>exact I.after hq
  |next=>exact False.elim hq
  |brk=>exact False.elim hq
  |cont=>exact False.elim hq
theorem sj(F:FnOk X.prog X.w X.K X.mg X.base CX k f fd ps sp)(c:bW k X.A)(d:Gl X x)(g:X.mg x=some (.ref f))(i:aA X.K (.ref f)=true)(j:Binds X.K fd ps ds)(l:Vals bq ds)(n:Passes CX X E)
  (u:PA X (e::es) t) (v:(x==("__debug__":Str))=false:=by decide) (y:starEach (e::es) X.env=(false,eval e X.env)::starEach es X.env:=by rfl) (z:(backTo pos (starEach es X.env)).any (·.1)=false:=by rfl):
  PE X (.Call (.Name x p) (e::es) [] pos) (TH sp bq E t):=by
 intro a s B H Q I h;refine aaw (k8 I d g ?_ v);refine aaL (h₀:=X.base) I.ok.mod.kin i (thn (u pos a s B H _ I h) λG J #[L,M,b,r,q]=>#[b.fw,?_]) y z;exact BC F c j l n b r q
theorem My{pl:Sem Bool}(v:PE X o ta)(c:vL X.K C)(d:Meth X.K C m f)(F:FnOk X.prog X.w X.K X.mg X.base CX k f fd ps sp)(y:bW k X.A)(z:Binds X.K fd ps ds)(B:Vals bq ds)(G:Passes CX X E)(J:PA X (e::es) t)
  (L:starEach (e::es) X.env=(false,eval e X.env)::starEach es X.env:=by rfl) (M:(backTo pos (starEach es X.env)).any (·.1)=false:=by rfl)
  (N:eval (.Call (.Attribute o m apos) (e::es) [] pos) X.env=(do
   let g <-eval o X.env
   standAt apos.atName
   let (f,first) <-holding [g] (getMethod g m pl)
   callWith pos f first (backTo pos (starEach (e::es) X.env)) (backToKw pos (keywordEach [] X.env))):=by rfl):
  PE X (.Call (.Attribute o m apos) (e::es) [] pos) (Gi C m sp bq E ta t):=by
 intro b s i H Q I h;refine PySem.W.methodCall_KW (pl:=pl) (thn (v b s i H _ I h) λu O #[x,P,j,R,a,Y,fs,S,T,l,q]=>?_) N;subst S;obtain rfl:u=Value.ref a:=R;refine uH j T c d l ?_;refine aaL (first:= [.ref a]) (h₀:=X.base) I.ok.mod.kin d.kp (thn (J pos b O i P _ j q) λus Z #[vs,p,n,r,U]=>#[n.fw,?_]) L M;exact BC (us:= .ref a::us) (vs:= .ref a::vs) F y z B G n (.cons rfl r) U
theorem zH{pl:Sem Bool}(j:PE X o ta)(c:vL X.K C)(g:Meth X.K C m f)(F:FnOk X.prog X.w X.K X.mg X.base CX k f fd ps sp)(n:bW k X.A)(r:Binds X.K fd ps ds)(v:Vals bq ds)(y:Passes CX X E)
  (z:eval (.Call (.Attribute o m apos) [] [] pos) X.env=(do
   let i <-eval o X.env
   standAt apos.atName
   let (f,first) <-holding [i] (getMethod i m pl)
   callWith pos f first (backTo pos (starEach [] X.env)) (backToKw pos (keywordEach [] X.env))):=by rfl):
  PE X (.Call (.Attribute o m apos) [] [] pos) (Gi C m sp bq E ta QJ):=by
 intro b s B H Q I h;refine PySem.W.methodCall_KW (pl:=pl) (thn (j b s B H _ I h) λu M #[x,N,d,G,a,O,fs,J,L,l,q]=>?_) z;subst J;obtain rfl:u=Value.ref a:=G;refine uH d L c g l ?_;exact PySem.W.callWith_K0 (first:= [.ref a]) d.fw g.kp (BC (us:= [.ref a]) (vs:= [.ref a]) F n r v y d (.cons rfl .nil) q)
structure Mk (K:ac) (C f:Addr):Prop where
 makes:dg K C=true
 init:ad K (.ref C) "__init__"=some (some (.ref f))
 fn:ce K (.ref f)=true
 kp:aA K (.ref C)=true
theorem Jv{pins:List (Addr×Obj)}{σ:St}{H:Hp}{s:Shared}{Q:VK}{us:List Value}{vs:List V}(M:Mk X.K C f)(F:FnOk X.prog X.w X.K X.mg X.base CX k f fd ps sp)(hr:bW (k+1) X.A)(hb:Binds X.K fd ps ds)(hd:Vals bq ds)
  (hx:Passes CX X E) (I:Inv X pins σ H s) (r:Vals vs us)
  (h:∀x dx,H x=none->H dx=none->dx≠x->sp (.ref x::(vs++bq)) (upd (upd H dx (.own x)) x (.ins C dx [])) (λv H2=>v= .bu/\Q (.ref x) H2) E):
  wpAny (model X.prog X.w) X.A (call (.ref C) us) (EP X pins σ Q) X.xe s:=by
 have hq:=h (s.heap.objs.size+1) s.heap.objs.size (I.hok.fresh (o9 _)) (I.hok.fresh (bJ _)) (bB (xU _));have I2:=Inv.made (C:=C) I;have r2:Vals (V.ref (s.heap.objs.size+1)::(vs++bq)) (Value.ref (s.heap.objs.size+1)::(us++ds)):= .cons rfl (r.append hd)
 have hl:(Value.ref (s.heap.objs.size+1)::us++ds).length=ps.length:=by
  have e:=r2.length;rw[F.len _ _ _ _ hq] at e;exact e.symm
 refine wpAny_call (IY (f:=f) I.fw M.makes M.init (beq_iff_eq.mp M.fn) (codeAny_mono (F.run _ X.stack _ _ #[Value.ref (s.heap.objs.size+1)::us,[]] (Value.ref (s.heap.objs.size+1)::(us++ds)) _ _ E (hr.make C us [])
  (I2.eU.make C us []) (hb _ (Value.ref (s.heap.objs.size+1)::us) I2.fw hl) r2 hq) λr s' LI=>?_))
 cases r with
 |error e=>exact hx pins σ _ _ e s' I2 LI
 |ok fl=>
  cases fl with
  |ret u=>
   rfl';obtain⟨v,H',I3,rv,ev,q3⟩:=I2.after LI;subst ev;ac_rfl;exact#[rv,#[V.ref (s.heap.objs.size+1),H',I3,rfl,q3]]
  |next=>exact False.elim LI
  |brk=>exact False.elim LI
  |cont=>exact False.elim LI
theorem Mx(M:Mk X.K C f)(F:FnOk X.prog X.w X.K X.mg X.base CX k f fd ps sp)(c:bW (k+1) X.A)(d:Gl X x)(g:X.mg x=some (.ref C))(i:Binds X.K fd ps ds)(j:Vals bq ds)(l:Passes CX X E)
  (n:PA X (e::es) t) (u:(x==("__debug__":Str))=false:=by decide) (v:starEach (e::es) X.env=(false,eval e X.env)::starEach es X.env:=by rfl) (y:(backTo pos (starEach es X.env)).any (·.1)=false:=by rfl):
  PE X (.Call (.Name x p) (e::es) [] pos) (TL C sp bq E t):=by
 intro a s z H Q I h;refine aaw (k8 I d g ?_ u);refine aaL (h₀:=X.base) I.ok.mod.kin M.kp (thn (n pos a s z H _ I h) λB G #[J,L,b,r,q]=>#[b.fw,?_]) v y;exact Jv M F c i j l b r q
end
section
variable {X:Cx} {CX:pN} {k:Nat} {f C:Addr} {fd:FuncData} {ps ks:List Str} {sp:Sp} {E:XK} {x m:Str} {p pos apos aak:Pos} {e o:Expr} {es:List Expr} {kws:List Keyword} {te ta:TE} {t tk:TA} {nm:Option Str}
variable {g:List Value->List Value->List Value} {gV:List V->List V->List V}
end
structure aK (N P:List Str) (sc:Scope):Prop where
 kind:sc.kind= .function
 co:sc.isCoroutine=false
 gen:sc.isGenerator=false
 nd:N.Nodup
 pre:N.take P.length=P
 par:∀x∈P,sc.names.lookup x=some .local\/sc.names.lookup x=some .cell
 nofree:∀y∈sc.names,y.2≠ .free
theorem vZ{kindOf:Str->Option NameKind}{x:Str}:∀{binds:List (Str×Value)}{m:Str->Option Value},(∀v,(x,v)∉binds)->bindL kindOf binds m x=m x
 | [],_,_=>rfl
 | (n,v)::r,m,h=>by
  unfold bindL;rw[vZ λw hw=>h w (dh _ hw)]
  split
  .have:x≠n:=by rintro rfl;exact h v cP
   simp[this]
  .rfl
theorem vX{kindOf:Str->Option NameKind}{x:Str}:∀{binds:List (Str×Value)}{m:Str->Option Value},(∀v,(x,v)∉binds)->bindC kindOf binds m x=m x
 | [],_,_=>rfl
 | (n,v)::r,m,h=>by
  unfold bindC;rw[vX λw hw=>h w (dh _ hw)]
  split
  .rfl
  .have:x≠n:=by rintro rfl;exact h v cP
   simp[this]
theorem vY{kindOf:Str->Option NameKind}{x:Str}{v:Value}:∀{P:List Str}{a:List Value}{i:Nat}{m:Str->Option Value},P.Nodup->P[i]? =some x->a[i]? =some v->kindOf x=some .local->
  bindL kindOf (P.zip a) m x=some v
 | [],_,_,_,_,h,_,_=>by simp at h
 |_::_,[],_,_,_,_,h,_=>by simp at h
 |p::P,w::a,0,m,d,b,c,e=>by
  simp at b c;subst b;subst c;show bindL kindOf ((p,w)::P.zip a) m p=_;unfold bindL;rw[vZ λv f=>(j2.mp d).1 (ace f).1,tz e];simp
 |p::P,w::a,i+1,m,d,b,c,e=>by
  show bindL kindOf ((p,w)::P.zip a) m x=_;unfold bindL;exact vY (i:=i) (j2.mp d).2 (by simpa using b) (by simpa using c) e
theorem vW{kindOf:Str->Option NameKind}{x:Str}{v:Value}:∀{P:List Str}{a:List Value}{i:Nat}{m:Str->Option Value},P.Nodup->P[i]? =some x->a[i]? =some v->kindOf x≠some .local->
  bindC kindOf (P.zip a) m x=some v
 | [],_,_,_,_,h,_,_=>by simp at h
 |_::_,[],_,_,_,_,h,_=>by simp at h
 |p::P,w::a,0,m,d,b,c,e=>by
  simp at b c;subst b;subst c;show bindC kindOf ((p,w)::P.zip a) m p=_;unfold bindC;rw[vX λv f=>(j2.mp d).1 (ace f).1,mo e];simp
 |p::P,w::a,i+1,m,d,b,c,e=>by
  show bindC kindOf ((p,w)::P.zip a) m x=_;unfold bindC;exact vW (i:=i) (j2.mp d).2 (by simpa using b) (by simpa using c) e
def start(N:List Str)(a:List V):St:=a.map some++am (N.length-a.length) none
def kh(g:pN)(P:Program)(w:World)(K:ac)(mg:Str->Option Value)(base:Heap)(N:List Str)(b:Str)(a:Scope)(f:Addr)(c:Value)(A:Around)(outer:List Env)(s:Shared)(H:Hp)(E:XK):Cx where
 prog:=P
 w:=w
 K:=K
 mg:=mg
 base:=base
 A:=A.deeper (envOfC b a s.heap.objs.size f c)
 N:=N
 s₀:=s
 H₀:=H
 env:=envOfC b a s.heap.objs.size f c
 outer:=outer
 stack:=envOfC b a s.heap.objs.size f c::outer
 ex:= []
 calm:=true
 fn:=λ_=>true
 pn:= []
 xe:=λe h=>wpAny (model P w) (A.deeper (envOfC b a s.heap.objs.size f c)) (leaving (envOfC b a s.heap.objs.size f c) e) (λ_ d=>g outer H s E e d) (λi d=>g outer H s E i d) h
theorem yY{a:Scope}{n:Nat}(h:a.names.lookup x=some .cell):∃c,(cellsFrom n a.names []).lookup x=some c:=by
 have q:=acj a.names n [] (.inl h);exact Option.isSome_iff_exists.mp q
theorem FC{M:pN}{P:Program}{w:World}{K:ac}{I:Str->Option Value}{base:Heap}{N m:List Str}{g:Str}{d:Scope}{f:Addr}{C:Value}{A:Around}{outer:List Env}{s O:Shared}{H:Hp}{E:XK}{J:List Value}{o:List V}
  (S:aK N m d) (U:A.handled=none) (l:Env0 P w K I base A outer s H) (Z:o.length=m.length) (r:Vals o J)
  (x:InCallC s s.heap.objs.size (bindL (envOfC g d s.heap.objs.size f C).kindOf (m.zip J) λ_=>none) (cellsFrom (s.heap.objs.size+1) d.names []) (bindC (envOfC g d s.heap.objs.size f C).kindOf (m.zip J) λ_=>none) O):
  Inv (kh M P w K I base N g d f C A outer s H E) [] (start N o) H O:=by
 have cg:m.length<=N.length:=by have:=IR cb S.pre;rw[ik] at this;lia
 obtain⟨F,tk,rfl,Q⟩:=x.done;have L:∀b:Addr,b∉(kh M P w K I base N g d f C A outer s H E).ex:=λb z=>absurd (show b∈([]:List Addr) from z) (by simp)
 refine#[#[l.mod,S.kind,rfl,rfl,bJ _,λy z c F j=>?_,λy t=>?_,λy c _ h=>?_,λ_=>U,Around.frames_deeper l.frames, .inr #[rfl,rfl],λb z=>absurd z (L b),l.bs,l.bsz,λb _ _=>L b,λb z=>absurd z (L b),l.funs,l.frf],
  rfl,l.bare,Un.kept Q,#[_,x.toInCall.ns,λi y v F j h3=>?_],λy c h=>#[_,x.cell y c h],l.hok.fresh (bJ _),λy c h=>?_,λp B=>absurd (show p∈([]:List (Addr×Obj)) from B) (by simp),l.hok.kept Q,?_]
 .exact name_of_addr x.apart (aaA F) (aaA j)
 .have t:d.names.lookup y=some .cell\/d.names.lookup y=some .free:=t
  rcases t with t|t
  .exact yY t
  .exact absurd rfl (S.nofree _ (aaA t))
 .exact qP (x.above y c (aaA h))
 .have G:i<o.length:=by
   unfold start at j
   by_cases G:i<o.length
   .exact G
   .rw[mP (by simpa using G)] at j
    rw[uX] at j
    split at j<;>cases j
  have X:o[i]? =some v:=by
   unfold start at j;rw[kD (by simpa using G),cc] at j
   cases e:o[i]? with
   |none=>rw[e] at j;cases j
   |some a=>rw[e] at j;cases j;rfl
  obtain⟨u,R,Y⟩:=r.get X
  have B:m[i]? =some y:=by
   rw[<-S.pre,HJ (by lia)];exact F
  have T:m.Nodup:=by rw[<-S.pre];exact S.nd.sublist (List.take_sublist _ _)
  exists u,Y
  rcases S.par y (gb B) with k|k
  .exact .inl #[k,vY T B R k]
  .obtain⟨c,e⟩:=yY (n:=s.heap.objs.size+1) k
   refine .inr #[.inl k,c,e,?_];have q:=x.cell y c e;rw[vW T B R (by show d.names.lookup y≠_;rw[k];decide)] at q
   exact q
 .exact l.hok.fresh (qP (x.above y c (aaA h)))
 .unfold start
  show _=N.length;rw[dJ,aH,ya];lia
theorem K0{B:pN}{P:Program}{w:World}{K:ac}{C:Str->Option Value}{base:Heap}{k:Nat}{f:Addr}{i c:Str}{d:Arguments}{g:List Stmt}{a:Scope}{U kV p X l Y oc:Value}{Z od:Option Addr}
  {Bx:Array (Option Value)} {N F:List Str} {L:Sp} (lk:K.lookup f=some #[oc,od, .func (bp i c d g a U kV p X Z l Y),Bx]) (eI:bj K l c=true) (S:aK N F a)
  (len:∀h H Q E,L h H Q E->h.length=F.length)
  (jM:∀(A:Around)(outer:List Env)(s:Shared)(H:Hp)(h:List V)(Q:VK)(E:XK),bW k (A.deeper (envOfC c a s.heap.objs.size f l))->L h H Q E->
   ∃t,j6 (kh B P w K C base N c a f l A outer s H E) g t/\t {nx:=λ_ j=>Q .bu j,rt:=Q} (start N h) H):
  FnOk P w K C base B (k+1) f (bp i c d g a U kV p X Z l Y) F L:=by
 refine#[len,λA outer s H args us h Q E M z hb r yG=>?_];have hl:=len _ _ _ _ yG;have KX:K.In s.heap:=z.mod.kin.keeps λb o e=>(z.bs b o e).1;have O:s.heap.NoLimit:=z.mod.nolimit.keeps λb o e=>(z.bs b o e).1
 have Si:∀y∈F.zip us,a.names.lookup y.1=some .local\/(a.names.lookup y.1=some .cell/\((cellsFrom (s.heap.objs.size+1) a.names []).lookup y.1).isSome=true):=λ#[n,v] hy=>by
  rcases S.par n (ace hy).1 with q|q
  .exact .inl q
  .exact .inr #[q,acj _ _ _ (.inl q)]
 refine codeAny_call_function M.depth (KX _ _ lk) rfl S.co S.gen rfl (PySem.W.codeRec_of KX eI) (hb _ _ _ _ ?_);refine wpAny_newFunctionEnv_cells S.kind Si λenv he s1 x=>?_;subst he;obtain⟨t,ht,hq⟩:=jM A outer s H h Q E (M.deeper _) yG;refine#[O.keeps x.toInCall.keep,codeAny_func ?_];have I:Inv (kh B P w K C base N c a f l A outer s H E) [] (start N h) H s1:=FC S M.hd z hl r x;refine wpAny_mono (ht [] s1 (start N h) H _ I hq) (λfl R m=>?_) λe R m=>m
 have fin:∀{G:St}{j:Hp}{v:V}{u:Value},Inv (kh B P w K C base N c a f l A outer s H E) [] G j R->RelV v u->Q v j->CE outer P w H s Q u R:=
  λ {G j v u} J T q=>#[v,j,J.os,J.bare,J.base,J.hok,T,q]
 cases fl with
 |ret u=>
  obtain⟨v,G,j,J,T,q⟩:=m;exact fin J T q
 |next=>
  obtain⟨G,j,J,q⟩:=m;exact fin (v:=V.bu) (u:=Value.none) J rfl q
 |brk=>
  obtain⟨_,_,_,q⟩:=m;exact False.elim q
 |cont=>
  obtain⟨_,_,_,q⟩:=m;exact False.elim q
section
variable {X:Cx} {x:Str} {p pos:Pos} {e:Expr} {es:List Expr} {t:TA} {id T:String} {r:List V->Hp->VK->Prop}
def W5(r:List V->Hp->VK->Prop)(t:TA):TE:=λa H Q=>t a H λb c=>r b c Q
theorem lq(c:CallR X (.builtin id) r)(d:Gl X x)(f:X.mg x=none)(g:bootBuiltins x=some (.builtin id))(i:PA X (e::es) t)(j:x≠"__name__":=by decide)(k:(x==("__debug__":Str))=false:=by decide)
  (l:starEach (e::es) X.env=(false,eval e X.env)::starEach es X.env:=by rfl) (m:(backTo pos (starEach es X.env)).any (·.1)=false:=by rfl):PE X (.Call (.Name x p) (e::es) [] pos) (W5 r t):=by
 intro a s b H Q I h;refine aaw (pF I d f g ?_ j k);exact PyProof.Rows.callWith_builtin1 (thn (i pos a s b H _ I h) λn o #[q,u,v,w,y]=>c a o b u q n Q v w y) l m
theorem FY(c:CallR X (.type T) r)(d:Gl X x)(f:X.mg x=none)(g:bootBuiltins x=some (.type T))(i:PA X (e::es) t)(j:x≠"__name__":=by decide)(k:(x==("__debug__":Str))=false:=by decide)
  (l:starEach (e::es) X.env=(false,eval e X.env)::starEach es X.env:=by rfl) (m:(backTo pos (starEach es X.env)).any (·.1)=false:=by rfl):PE X (.Call (.Name x p) (e::es) [] pos) (W5 r t):=by
 intro a s b H Q I h;refine aaw (pF I d f g ?_ j k);exact aaQ (thn (i pos a s b H _ I h) λn o #[q,u,v,w,y]=>c a o b u q n Q v w y) l m
end
end L2
namespace HT
open PySem PyProof.Rows
def lexLt:List Int->List Int->Bool
 | [],[]=>false
 | [],_::_=>true
 |_::_,[]=>false
 |x::a,y::b=>if x=y then lexLt a b else decide (x<y)
theorem gK(x y:Int)(a b:List Int):lexLt (x::a) (y::b)=if x=y then lexLt a b else decide (x<y):=rfl
theorem wQ:lexLt [] []=false:=rfl
theorem vm(y:Int)(a:List Int):lexLt [] (y::a)=true:=rfl
theorem vk(x:Int)(a:List Int):lexLt (x::a) []=false:=rfl
theorem Ik(A:Around)(s:Shared)(a:Int)(t:Tok)(c:Int)(u:Tok):∃e,SeqAt.EqAt A s (.int a t) (.int c u) e/\(e=true↔a=c):=
 #[(a==c),aaZ a t c u,by simp]
theorem Jt(A:Around)(s:Shared)(a:Int)(t:Tok)(c:Int)(u:Tok)(prog:Program)(w:World)(E:Value->Shared->Prop)(Q:Value->Shared->Prop)(h:Q (.bool (decide (a<c))) s):
  wpAny (model prog w) A (richCompare .Lt (.int a t) (.int c u)) Q E s:=
 (PyProof.Rows.lt_int h:wpAny (model prog w) A (compareOp .Lt (.int a t) (.int c u)) Q E s)
section
open PySem.SeqAt
open PySem.AutoSeq1 (wpAny_loadPart')
open PySem.MeetsSeq PySem.MeetsSeq2 PySem.MeetsSeq3
end
section
variable {prog:Program} {w:World} {A:Around} {E:Value->Shared->Prop} {s:Shared}
theorem J7(r:IsTup s.heap t c.toArray)(u:IsTup s.heap b a.toArray)(h:c≠ [])
  (v:a= []->Q (.ref t) s) (x:a≠ []->Q (.ref s.heap.objs.size) {s with heap:=s.heap.push {cls:= .type "tuple",data:= .seq (c++a).toArray}})
  (y:c.length+a.length<=sizeLine):wpAny (model prog w) A (binaryOp .Add (.ref t) (.ref b)) Q E s:=by
 rfl';obtain⟨⟨cls,i,data,j⟩,f,k,n,l⟩:=id r;obtain⟨⟨C,m,data2,o⟩,g,p,q,d⟩:=id u;ac_rfl;simp only at k l p d;subst k l p d;have e:c.toArray++a.toArray=(c++a).toArray:=by simp
 by_cases hw:a= []
 .exact concat_meets #[_,f,rfl] #[_,g,rfl] noFill_tuple_add seq_tuple_add ack acb (ab2 _ _)
   (tuple_addW1 t b c.toArray a.toArray n q i m j o (by simpa using h) (by simp[hw])) #[f,g,v hw]
 .refine concat_meets #[_,f,rfl] #[_,g,rfl] noFill_tuple_add seq_tuple_add ack acb (ab2 _ _)
   (tuple_addW2 t b c.toArray a.toArray n q i m j o (by simpa using h) (by simpa using hw) (by rw[cT,cT];exact y)) #[f,g,?_]
  rw[e];exact x hw
def b7(n d:Nat):Option Int->Nat
 |none=>d
 |some v=>if v<0 then(v+(n:Int)).toNat else min v.toNat n
theorem Pu(n d:Nat)(b:d<=n)(o:Option Int):b7 n d o<=n:=by
 cases o with
 |none=>exact b
 |some v=>
  show(if v<0 then(v+(n:Int)).toNat else min v.toNat n)<=n
  by_cases a:v<0
  .rw[tz a];lia
  .rw[mo a];exact Nat.min_le_right _ _
theorem CB(v:Int)(n d:Nat):(if v<0 then max (v+(n:Int)) 0 else min v (n:Int))=((b7 n d (some v):Nat):Int):=by
 show(if v<0 then max (v+(n:Int)) 0 else min v (n:Int))=(((if v<0 then(v+(n:Int)).toNat else min v.toNat n):Nat):Int)
 by_cases a:v<0
 .simp only[tz a];lia
 .simp only[mo a];lia
theorem Cn(lo a:Option Int)(n:Nat):Builtin.Slice.sliceAdjust lo a 1 (n:Int)=(((b7 n 0 lo:Nat):Int),((b7 n n a:Nat):Int)):=by
 have b:¬((1:Int)<0):=by lia
 unfold Builtin.Slice.sliceAdjust;simp only[b,Os];refine aar ?_ ?_
 .cases lo with
  |none=>rfl
  |some v=>exact CB v n 0
 .cases a with
  |none=>rfl
  |some v=>exact CB v n n
theorem D1(i j:Nat):Builtin.Slice.slicePlaces (i:Int) (j:Int) 1=j-i:=by
 unfold Builtin.Slice.slicePlaces;have a:(1:Int)>0:=by lia
 simp only[a,aaB,Int.ediv_one]
 split<;>lia
theorem uS(p:IsPart v o)(h:Q o s):wpAny (model prog w) A (Builtin.Slice.slicePartIndex v) Q E s:=by
 cases p with
 |none=>exact slicePart_none h
 |int i t=>exact slicePart_int h
theorem sQ{f:Addr}{b c:Value}{lo a:Option Int}{n:Nat}{Q:Int×Int×Nat->Shared->Prop}(g:s.heap.IsSliceOf f b c .none)(pl:IsPart b lo)(i:IsPart c a)
  (h:Q (((b7 n 0 lo:Nat):Int),1,b7 n n a-b7 n 0 lo) s):wpAny (model prog w) A (Builtin.Slice.sliceApplied (.ref f) (pure (n:Int))) Q E s:=by
 rfl';obtain⟨os,d,l,e⟩:=id g;ac_rfl;unfold Builtin.Slice.sliceApplied Builtin.Slice.sliceFields;refine ir (ir (aaV d e (x:=b) rfl (ir (aaV d e (x:=c) rfl (ir (aaV d e (x:= .none) rfl (ls ?_)))))));refine ir (slicePart_none ?_);rw[mo (by decide)]
 refine ir (uS pl (ir (uS i (ir (ls ?_)))));show wpAny _ _ (match Builtin.Slice.sliceAdjust lo a 1 (n:Int) with| (lo,a)=>pure (lo,(1:Int),Builtin.Slice.slicePlaces lo a 1)) _ _ s
 rw[Cn lo a n];show wpAny _ _ (pure (((b7 n 0 lo:Nat):Int),(1:Int),Builtin.Slice.slicePlaces ((b7 n 0 lo:Nat):Int) ((b7 n n a:Nat):Int) 1)) _ _ s;rw[D1];exact ls h
theorem Jk(a:Array Value)(i k:Nat):((aJ k).filterMap λ(m:Nat)=>a[((i:Int)+(m:Int)*1).toNat]?).toArray=((a.toList.drop i).take k).toArray:=by
 have e:(λ(m:Nat)=>a[((i:Int)+(m:Int)*1).toNat]?)=λm=>a[i+m]? :=by
  funext m
  have:((i:Int)+(m:Int)*1).toNat=i+m:=by lia
  rw[this]
 rw[e]
 have:=pick_run a i k
 rw[List.filterMap_map] at this;have b:((λx=>a[x]?)∘λx=>i+x)=λm=>a[i+m]? :=rfl;rw[b] at this;rw[this]
theorem qs{t e:Addr}{a:Array Value}{f g:Value}{lo b:Option Int}{Q:Value->Shared->Prop}(c:IsTup s.heap t a)(i:s.heap.IsSliceOf e f g .none)(pl:IsPart f lo)(j:IsPart g b)
  (hw:¬(b7 a.size 0 lo=0/\b7 a.size a.size b=a.size))
  (h:Q (.ref s.heap.objs.size) {s with heap:=s.heap.push {cls:= .type "tuple",data:= .seq ((a.toList.drop (b7 a.size 0 lo)).take (b7 a.size a.size b-b7 a.size 0 lo)).toArray}})
  (p:a.size<=sizeLine):wpAny (model prog w) A (getItem (.ref t) (.ref e)) Q E s:=by
 have d:sizeOk (.seq ((a.toList.drop (b7 a.size 0 lo)).take (b7 a.size a.size b-b7 a.size 0 lo)).toArray):=by
  show((a.toList.drop (b7 a.size 0 lo)).take (b7 a.size a.size b-b7 a.size 0 lo)).toArray.size<=sizeLine;rw[cT,ik,u4,eX];lia
 have r:b7 a.size a.size b<=a.size:=Pu _ _ (bJ _) b;obtain⟨os,k,l,u⟩:=id i;have n:s.TypeIs (.ref e) "slice":=#[os,k,l];unfold getItem
 try with_reducible refine wpAny_holding ?_
 first|refine wpAny_bind (wpAny_pure ?_) |skip
 refine wpAny_bind (wpAny_sequenceKey c.typeIs (by decide) ?_)
 refine wpAny_bind (wpAny_callSpecial?_slot (name:=Str.ofString "__getitem__") c.typeIs PyProof.Rows.slot_tuple_getitem
  (wpAny_call_entry PyProof.Rows.slot_tuple_getitem c.typeIs entry_tuple_getitem ?_ (args_tuple_getitem _ _)))
 show wpAny _ _ (Builtin.Tuple.tupleItemsOf (.ref t)>>=_) _ _ s;refine wpAny_bind (tupleItemsOf_ c ?_);refine wpAny_bind (wpAny_typeOf n ?_);rw[if_pos (by decide)]
 refine wpAny_bind (sQ i pl j ?_)
 have o:¬((((b7 a.size 0 lo:Nat):Int)==0&&(1:Int)==1&&(b7 a.size a.size b-b7 a.size 0 lo)==a.size)=true):=by
  intro q;rw[u5,u5] at q;have v:((b7 a.size 0 lo:Nat):Int)=0:=eq_of_beq q.1.1;have x:b7 a.size a.size b-b7 a.size 0 lo=a.size:=eq_of_beq q.2;exact hw #[by lia,by lia]
 show wpAny _ _ (if (((b7 a.size 0 lo:Nat):Int)==0&&(1:Int)==1&&(b7 a.size a.size b-b7 a.size 0 lo)==a.size)=true then _ else _) _ _ s;rw[if_neg o,Jk]
 first
  |exact wpAny_bind (m:=Builtin.Tuple.tupleExact _) (wpAny_newObj_type (wpAny_pure #[_,rfl,wpAny_pure h]) d)
  |exact wpAny_bind (m:=Builtin.Tuple.tupleExact _) (wpAny_newObj_type (wpAny_bind (wpAny_pure (wpAny_pure #[_,rfl,wpAny_pure h]))) d)
  |exact wpAny_bind (wpAny_bind (m:=Builtin.Tuple.tupleExact _) (wpAny_newObj_type (wpAny_pure (wpAny_pure #[_,rfl,wpAny_pure h])) d))
  |exact wpAny_bind (wpAny_bind (m:=Builtin.Tuple.tupleExact _) (wpAny_newObj_type (wpAny_pure #[_,rfl,wpAny_pure h]) d))
end
end HT
namespace L2
open PySem PySem.Spec PyProof.Rows
abbrev TO:=St->Hp->(Option Int->Hp->Prop)->Prop
def PO(X:Cx)(e:Option Expr)(t:TO):Prop:=
 ∀(a:List (Addr×Obj))(s:Shared)(b:St)(H:Hp)(Q:Option Int->Hp->Prop),Inv X a b H s->t b H Q->
  wpAny (model X.prog X.w) X.A (evalPart e X.env) (λu d=>∃o c,Inv X a b c d/\IsPart u o/\Q o c) X.xe s
def Na:TO:=λ_ H Q=>Q none H
def TQ(t:TE):TO:=λa H Q=>t a H λx b=>∃i,x= .int i/\Q (some i) b
theorem intsAre_of:∀{b:List Value},Vals (a.map V.int) b->IntsAre b a:=by
 induction a with
 |nil=>intro b r;rw[uy] at r;cases r;exact .nil
 |cons n a c=>
  intro b r;rw[bV] at r;cases r with
  |cons d f=>
   obtain⟨t,e⟩:=d;subst e;exact .cons n t (c f)
section
variable {X:Cx} {e:Expr} {te:TE} {lo hi:Option Expr} {tl th:TO} {pos p2:Pos}
theorem MF:PO X none Na:=by
 intro a s b H Q I h;rw[evalPart_none];exact ls #[none,H,I, .none,h]
theorem MG(h:PE X e te):PO X (some e) (TQ te):=by
 intro a s b H Q I hw;rw[evalPart_some];refine thn (h a s b H _ I hw) λu l c=>?_;rfl';obtain⟨x,f,g,j,k⟩:=c;obtain⟨i,rfl,q⟩:=k;obtain⟨t,rfl⟩:=j;ac_rfl;exact#[some i,f,g, .int i t,q]
def ER(X:Cx)(r:V->Option Int->Option Int->Hp->VK->Prop):Prop:=
 ∀(a:List (Addr×Obj))(s:Shared)(b:St)(H:Hp)(x:V)(v c d:Value)(lo f:Option Int)(g:Addr)(Q:VK),Inv X a b H s->RelV x v->s.heap.IsSliceOf g c d .none->IsPart c lo->IsPart d f->r x lo f H Q->
  ∃T id,typeLookup (.type T) "__getitem__"=pure (some (.builtin id))/\s.TypeIs v T/\wpAny (model X.prog X.w) X.A (getItem v (.ref g)) (EP X a b Q) X.xe s
theorem ER.or(h:ER X r)(m:ER X c):ER X (λx lo b H Q=>r x lo b H Q\/c x lo b H Q):=by
 intro a s d H x v f g lo b i Q I j k pl l q
 rcases q with q|q
 .exact h a s d H x v f g lo b i Q I j k pl l q
 .exact m a s d H x v f g lo b i Q I j k pl l q
def tSl(r:V->Option Int->Option Int->Hp->VK->Prop)(b:TE)(c d:TO):TE:=λa H Q=>b a H λx f=>c a f λl g=>d a g λu h=>r x l u h Q
theorem Jj(m:ER X r)(n:PE X e te)(o:PO X lo tl)(p:PO X hi th):PE X (.Subscript e (.Slice lo hi none p2) pos) (tSl r te tl th):=by
 intro a s d H Q I h;refine Subscript_ (thn (n a s d H _ I h) λv t f=>?_);rfl';obtain⟨x,y,z,A,B⟩:=f;ac_rfl;refine wpAny_Slice (thn (o a t d y _ z B) λi C #[l,E,F,pl,G]=>thn (p a C d E _ F G) λj c f=>?_);rfl';obtain⟨u,k,J,L,M⟩:=f;ac_rfl;rw[evalPart_none];refine ls ?_;have N:Inv X a d k {c with heap:=c.heap.push {cls:= .type "slice",data:= .fields [i,j, .none].toArray}}:=J.kept (t':=c.toks) λb S q=>AC _ q
 obtain⟨T,id,O,P,R⟩:=m a {c with heap:=c.heap.push {cls:= .type "slice",data:= .fields [i,j, .none].toArray}} d k x v i j l u c.heap.objs.size Q N A (Heap.IsSliceOf.new ..) pl L M
 exact tail_any (ops:= [.ref c.heap.objs.size,v]) P O R (by with_unfolding_all rfl)
def uD(a:List V)(lo b:Option Int):List V:=(a.drop (HT.b7 a.length 0 lo)).take (HT.b7 a.length a.length b-HT.b7 a.length 0 lo)
theorem rj(a:List V)(lo b:Option Int):(uD a lo b).length<=a.length:=by
 unfold uD;rw[ik,u4];lia
def WN(K:ac):V->Option Int->Option Int->Hp->VK->Prop:=λx lo c H Q=>∃a b,x= .ref a/\gd K H a b/\
 ¬(HT.b7 b.length 0 lo=0/\HT.b7 b.length b.length c=b.length)/\∀p,H p=none->Q (.ref p) (upd H p (.tup (uD b lo c)))
theorem Px:ER X (WN X.K):=by
 intro i s u H x v w y lo f z Q I l m pl n h;rfl';obtain⟨a,d,rfl,t,hw,q⟩:=h;subst l;obtain⟨g,r,j,k⟩:=I.tuple t;have c:g.toArray.size=d.length:=by rw[cT];exact r.length.symm
 ac_rfl;exists "tuple",_,abu.lookup,j.typeIs;refine HT.qs j m pl n (by rw[c];exact hw) ?_ (by rw[c];exact k)
 rw[c];refine#[.ref s.heap.objs.size,_,I.laid (t':=s.toks) (o:= .tup (uD d lo f)) (λb B q=>AC _ q) (bJ _) ?_,rfl,q _ (I.hok.fresh (bJ _))];exact#[kE (rj d lo f) k,_,(r.drop (HT.b7 d.length 0 lo)).take (HT.b7 d.length d.length f-HT.b7 d.length 0 lo),IsTup.new _ _]
def Tr(K:ac):R2:=λx y H Q=>∃a b d c,x= .ref a/\y= .ref b/\gd K H a d/\gd K H b c/\d≠ []/\d.length+c.length<=sizeLine/\
 (c= []->Q (.ref a) H)/\(c≠ []->∀p,H p=none->Q (.ref p) (upd H p (.tup (d++c))))
theorem Vals.wY(r:Vals a b):b= []↔a= []:=by
 cases r with
 |nil=>simp
 |cons _ _=>simp
theorem Mm:OpR X (binaryOp .Add) (Tr X.K):=by
 intro f s F H x y v u Q I i j h;rfl';obtain⟨a,b,l,m,rfl,rfl,n,p,r,g,t,A⟩:=h;subst i;subst j;obtain⟨B,d,C,_⟩:=I.tuple n;obtain⟨J,c,E,_⟩:=I.tuple p;ac_rfl;refine HT.J7 C E (λz=>r (d.wY.mp z)) (λz=>#[.ref a,H,I,rfl,t (c.wY.mp z)]) (λz=>?_) (by rw[<-d.length,<-c.length];exact g)
 refine#[.ref s.heap.objs.size,_,I.laid (t':=s.toks) (o:= .tup (l++m)) (λb L q=>AC _ q) (bJ _) ?_,rfl,A (λw=>z (c.wY.mpr w)) _ (I.hok.fresh (bJ _))];exact#[by rw[dJ];exact g,_,d.append c,IsTup.new _ _]
end
def lL(n:Nat)(i:Int):Option Nat:=if 0<=i then(if i<n then some i.toNat else none) else if-(n:Int)<=i then some (i+n).toNat else none
def dZ{a:Type}(b:List a)(i:Int):Option a:=(lL b.length i).bind λj=>b[j]?
theorem Ds(h:lL n i=some j):seqIndex? i n=some j/\j<n/\-(n:Int)<=i/\i<n:=by
 unfold lL at h
 by_cases b:0<=i
 .rw[tz b] at h
  by_cases a:i<n
  .rw[tz a] at h
   have e:i.toNat=j:=Fk h;exact#[by rw[seqIndex_of b a,e],by lia,by lia,a]
  .rw[mo a] at h;cases h
 .rw[mo b] at h
  by_cases a: -(n:Int)<=i
  .rw[tz a] at h
   have e:(i+n).toNat=j:=Fk h;exact#[by rw[seqIndex_neg (by lia) a,e],by lia,a,by lia]
  .rw[mo a] at h;cases h
theorem Cp(h:dZ a i=some v):∃j,seqIndex? i a.length=some j/\a[j]? =some v/\j<a.length/\-(a.length:Int)<=i/\i<a.length:=by
 unfold dZ at h;cases e:lL a.length i with
 |none=>rw[e] at h;cases h
 |some j=>
  rw[e] at h;obtain⟨c,d,f,g⟩:=Ds e;exact#[j,c,h,d,f,g]
theorem Cq{b:Type}{a:List b}{j:Nat}{v:b}(h:a[j]? =some v):dZ a (j:Int)=some v:=by
 have c:j<a.length:=(c9.mp h).1
 have e:lL a.length (j:Int)=some j:=by
  unfold lL;rw[tz (by lia),tz (by lia)];simp
 unfold dZ;rw[e];exact h
def Cf(b:Expr):Prop:=∀o i,subscripted b false o i=operate [o,i] (getItem o i)
def EL(X:Cx)(r:R2):Prop:=
 ∀(c a:Expr)(b:List (Addr×Obj))(s:Shared)(d:St)(H:Hp)(x y:V)(v u:Value)(Q:VK),Inv X b d H s->RelV x v->RelV y u->r x y H Q->
  subscripted a false v u=operate [v,u] (getItem v u)->wpAny (model X.prog X.w) X.A (subscriptTail c a v u) (EP X b d Q) X.xe s
def HP(X:Cx)(id:String)(r:V->List V->Hp->VK->Prop):Prop:=
 ∀(a:List (Addr×Obj))(s:Shared)(b:St)(H:Hp)(x:V)(c:List V)(v:Value)(d:List Value)(Q:VK),Inv X a b H s->RelV x v->Vals c d->r x c H Q->
  wpAny (model X.prog X.w) X.A (call (.builtin id) (v::d)) (EP X a b Q) X.xe s
section
variable {X:Cx} {a b:Expr} {ta tb:TE} {pos:Pos}
theorem EL.or(h:EL X r)(l:EL X f):EL X (λx y H Q=>r x y H Q\/f x y H Q):=by
 intro c d e s g H x y v u Q I i j q k
 rcases q with q|q
 .exact h c d e s g H x y v u Q I i j q k
 .exact l c d e s g H x y v u Q I i j q k
theorem Mv(d:EL X r)(e:PE X a ta)(f:PE X b tb)(g:Cf b):PE X (.Subscript a b pos) (Nb r ta tb):=by
 intro c s i H Q I h;exact Subscript_ (J4 e f I h λv u j x y k l m n q=>d a b c j i k x y v u Q l m n q (g _ _))
def WH(K:ac):R2:=λx y H Q=>∃p c i v,x= .ref p/\y= .int i/\cz K H p c/\dZ c i=some v/\Q v H
def WI(K:ac):R2:=λx y H Q=>∃p c i v,x= .ref p/\y= .int i/\gd K H p c/\dZ c i=some v/\Q v H
theorem Dt:EL X (WH X.K):=by
 intro e f c s l H x y v u Q I A B h m;rfl';obtain⟨p,R,i,z,rfl,rfl,E,F,q⟩:=h;subst A;obtain⟨t,rfl⟩:=B;obtain⟨g,r,pl,S⟩:=I.list E;obtain⟨j,d,G,T,J,L⟩:=Cp F;obtain⟨w,n,M⟩:=r.get G;have N:=r.length;have U:=lQ;have fin:EP X c l Q w s:=#[z,H,I,M,q];ac_rfl
 by_cases o:0<=i
 .have k:i.toNat=j:=by
   rw[seqIndex_of o L] at d;exact Fk d
  exact item_listR pl.isList o (by lia) (by rw[k];simpa using n) fin m
 .have k:(i+(g.toArray.size:Int)).toNat=j:=by
   rw[seqIndex_neg (by lia) J] at d
   rw[cT,<-N];exact Fk d
  exact acm (x:=w) pl.isList.typeIs slot_list_getitem.lookup
   (wpAny_getItem_list_neg (Q:=λr O=>r=w/\EP X c l Q r O) pl.isList (by lia) (by rw[cT]<;>lia) (by lia) (by rw[k];simpa using n) #[rfl,fin]) m
theorem Ox:EL X (WI X.K):=by
 intro d e c s f H x y v u Q I g k h l;rfl';obtain⟨p,M,i,z,rfl,rfl,n,o,q⟩:=h;subst g;obtain⟨t,rfl⟩:=k;obtain⟨A,r,pl,N⟩:=I.tuple n;obtain⟨j,B,C,O,P,R⟩:=Cp o;obtain⟨w,E,F⟩:=r.get C;have G:=r.length;have S:=lQ;have fin:EP X c f Q w s:=#[z,H,I,F,q];ac_rfl
 exact acm (x:=w) pl.typeIs slot_tuple_getitem.lookup
  (getItem_tuple (j:=j) (Q:=λr J=>r=w/\EP X c f Q r J) pl (by lia) (by lia) (by rw[cT,<-G];exact B) (by simpa using E) #[rfl,fin]) l
theorem DK(c:List Value)(n j:Nat)(u:Value):Obj.mapSeq (·.setIfInBounds j u) {cls:= .type "list",data:= .seq c.toArray n}={cls:= .type "list",data:= .seq (c.set j u).toArray n}:=by
 simp[Obj.mapSeq]
theorem Inv.lst{c:List (Addr×Obj)}{d:St}{H:Hp}{s:Shared}{p:Addr}{xs:List V}(I:Inv X c d H s)(h:H p=some (.lst xs)):
  ∃(its:List Value)(n:Nat),Vals xs its/\s.heap.get? p=some {cls:= .type "list",data:= .seq its.toArray n}/\xs.length<=sizeLine:=by
 obtain⟨z,its,n,r,e⟩:=I.hok p _ h;exact#[its,n,r,e,z]
theorem Inv.OL{its c:List Value}(I:Inv X d j H s)(h:H p=some (.lst xs))
  (l:s.heap.get? p=some {cls:= .type "list",data:= .seq its.toArray n}) (k:f {cls:= .type "list",data:= .seq its.toArray n}={cls:= .type "list",data:= .seq c.toArray i}) (r:Vals g c) (m:g.length<=sizeLine) (t:Nat):
  Inv X d j (upd H p (.lst g)) {s with heap:=s.heap.update p f,toks:=t}:=by
 have e:(s.heap.update p f).get? p=some {cls:= .type "list",data:= .seq c.toArray i}:=by
  rw[Pi f l (by rw[k]<;>rfl),k]
 refine I.write (x:=p) (e:=p) (by rw[h];trivial) (.inl rfl) (λb u o q=>(Pv _ _ (Ne.symm o)).trans q) #[_,e] ?_
 exact#[m,c,i,r,e]
def Tt:V->V->V->Hp->(Hp->Prop)->Prop:=λo i v H Q=>∃p c k j,o= .ref p/\i= .int k/\H p=some (.lst c)/\lL c.length k=some j/\Q (upd H p (.lst (c.set j v)))
theorem set_list:P7 X Tt:=by
 intro c s A H o i v M N u Q I B C E h;rfl';obtain⟨p,G,k,j,rfl,rfl,m,J,q⟩:=h;subst B;obtain⟨t,rfl⟩:=C;obtain⟨d,n,r,f,L⟩:=I.lst m;obtain⟨e,P,w,x⟩:=Ds J;have g:=r.length;have R:=lQ;ac_rfl
 have y:Inv X c A (upd H p (.lst (G.set j v))) {s with heap:=s.heap.update p (Obj.mapSeq (·.setIfInBounds j u))}:=
  I.OL m f (DK d n j u) (r.set E j) (by rw[dm];exact L) s.toks
 by_cases z:0<=k
 .have l:k.toNat=j:=by
   rw[seqIndex_of z x] at e;exact Fk e
  exact PySem.W.ki_setAt f z (by lia) (by rw[cT,<-g];exact x) (by rw[l];exact#[_,y,q])
 .have l:(k+(d.toArray.size:Int)).toNat=j:=by
   rw[seqIndex_neg (by lia) w] at e
   rw[cT,<-g];exact Fk e
  exact PySem.W.ki_setBack f (by lia) (by rw[cT,<-g];exact w) (by lia) (by rw[l];exact#[_,y,q])
theorem yN(lo c:Option Int)(n:Nat):(sliceBounds lo c none n).1=((HT.b7 n 0 lo:Nat):Int)/\(sliceBounds lo c none n).2.1=((HT.b7 n n c:Nat):Int)/\(sliceBounds lo c none n).2.2=1:=by
 refine#[?_,?_,rfl]
 .cases lo with
  |none=>simp[sliceBounds,HT.b7]
  |some i=>
   simp only[sliceBounds,HT.b7,Option.getD_none,show(1:Int)>0 by decide,aaB]
   by_cases h:i<0
   .simp only[h,aaB]<;>lia
   .simp only[h,Os]<;>lia
 .cases c with
  |none=>simp[sliceBounds,HT.b7]
  |some i=>
   simp only[sliceBounds,HT.b7,Option.getD_none,show(1:Int)>0 by decide,aaB]
   by_cases h:i<0
   .simp only[h,aaB]<;>lia
   .simp only[h,Os]<;>lia
theorem xu(c:List Value)(lo d:Option Int):slicePick c.toArray lo d none=((c.drop (HT.b7 c.length 0 lo)).take (HT.b7 c.length c.length d-HT.b7 c.length 0 lo)).toArray:=by
 obtain⟨e,f,g⟩:=yN lo d c.toArray.size;unfold slicePick;rw[e,f,g];simp only[sliceRange_one,pick_run,cT]<;>rfl
def WM(K:ac):V->Option Int->Option Int->Hp->VK->Prop:=λx lo d H Q=>∃a c,x= .ref a/\cz K H a c/\∀p,H p=none->Q (.ref p) (upd H p (.lst (uD c lo d)))
theorem MZ:ER X (WM X.K):=by
 intro f s t H x v u w lo e y Q I i j pl k h;rfl';obtain⟨a,c,rfl,m,q⟩:=h;subst i;obtain⟨n,r,g,p⟩:=I.list m;have d:=r.length;ac_rfl;exists "list",_,slot_list_getitem.lookup,g.isList.typeIs;refine wpAny_getItem_list_slice g.isList j pl k .none (by simp) ?_ (by rw[cT]<;>lia)
 rw[xu,<-d];refine#[.ref s.heap.objs.size,_,I.laid (t':=s.toks) (o:= .lst (uD c lo e)) (λb A q=>AC _ q) (bJ _) ?_,rfl,q _ (I.hok.fresh (bJ _))];exact#[kE (rj c lo e) p,_,0,(r.drop (HT.b7 c.length 0 lo)).take (HT.b7 c.length c.length e-HT.b7 c.length 0 lo),FS _ rfl]
def gY:V->Bool
 | .bu=>true
 | .bl _=>true
 | .int _=>true
 | .str _=>true
 |_=>false
def wz:V->V->Bool
 | .bu, .bu=>true
 | .bl a, .bl b=>a==b
 | .bl a, .int b=>(if a then 1 else 0)==b
 | .int a, .bl b=>a==(if b then 1 else 0)
 | .int a, .int b=>a==b
 | .str a, .str b=>a==b
 |_,_=>false
theorem N4{A:Around}{s:Shared}{y x:V}{u v:Value}(ry:RelV y u)(rx:RelV x v)(fy:gY y=true)(fx:gY x=true):SeqAt.EqAt A s u v (wz y x):=by
 cases y with
 |bu=>
  cases ry;cases x with
  |bu=>cases rx;exact SeqAt.EqAt.same _
  |bl b=>cases rx;exact SeqAt.EqAt.none_bool b
  |int b=>obtain⟨t,rfl⟩:=rx;exact SeqAt.EqAt.none_int b t
  |str b=>obtain⟨t,rfl⟩:=rx;exact SeqAt.EqAt.none_str b t
  |_=>exact absurd (show false=true from fx) cO
 |bl a=>
  subst ry;cases x with
  |bu=>cases rx;exact SeqAt.EqAt.bool_none a
  |bl b=>cases rx;exact SeqAt.EqAt.bool_bool a b
  |int b=>obtain⟨t,rfl⟩:=rx;exact SeqAt.EqAt.bool_int a b t
  |str b=>obtain⟨t,rfl⟩:=rx;exact SeqAt.EqAt.bool_str a b t
  |_=>exact absurd (show false=true from fx) cO
 |int a=>
  obtain⟨t',rfl⟩:=ry;cases x with
  |bu=>cases rx;exact SeqAt.EqAt.int_none a t'
  |bl b=>cases rx;exact SeqAt.EqAt.int_bool a t' b
  |int b=>obtain⟨t,rfl⟩:=rx;exact SeqAt.EqAt.int_int a t' b t
  |str b=>obtain⟨t,rfl⟩:=rx;exact SeqAt.EqAt.int_str a t' b t
  |_=>exact absurd (show false=true from fx) cO
 |str a=>
  obtain⟨t',rfl⟩:=ry;cases x with
  |bu=>cases rx;exact SeqAt.EqAt.str_none a t'
  |bl b=>cases rx;exact SeqAt.EqAt.str_bool a t' b
  |int b=>obtain⟨t,rfl⟩:=rx;exact SeqAt.EqAt.str_int a t' b t
  |str b=>obtain⟨t,rfl⟩:=rx;exact SeqAt.EqAt.str_str a t' b t
  |_=>exact absurd (show false=true from fx) cO
 |_=>exact absurd (show false=true from fy) cO
def pR(x:V)(u:Value):Bool:=match u with
 | .none=>wz .bu x
 | .bool b=>wz (.bl b) x
 | .int i _=>wz (.int i) x
 | .str z _=>wz (.str z) x
 |_=>false
theorem vB{x y:V}{u:Value}(r:RelV y u)(f:gY y=true):pR x u=wz y x:=by
 cases y with
 |bu=>cases r;rfl
 |bl b=>cases r;rfl
 |int i=>obtain⟨t,rfl⟩:=r;rfl
 |str z=>obtain⟨t,rfl⟩:=r;rfl
 |_=>exact absurd (show false=true from f) cO
theorem ng:∀{c:List V}{d:List Value},Vals c d->c.all gY=true->d.any (pR x)=c.any λy=>wz y x
 |_,_, .nil,_=>rfl
 |y::c,u::d, .cons r t,f=>by
  rw[abh,u5] at f;rw[abT,abT,vB r f.1,ng t f.2]
theorem jw(g:RelV x v)(h:gY x=true):∀{d:List V}{e:List Value},Vals d e->d.all gY=true->∀u∈e,SeqAt.EqAt A s u v (pR x u)
 |_,_, .nil,_=>λu c=>by cases c
 |y::d,u::e, .cons r t,f=>λi c=>by
  rw[abh,u5] at f
  rcases cV.mp c with rfl|c
  .rw[vB r f.1];exact N4 r g f.1 h
  .exact jw g h t f.2 i c
def Ov(x:V)(c:List V):Bool:=c.any λy=>wz y x
def Ts(K:ac)(d:Bool):R2:=λx y H Q=>∃p c,y= .ref p/\(cz K H p c\/gd K H p c)/\gY x=true/\c.all gY=true/\Q (.bl (if d then !Ov x c else Ov x c)) H
theorem FU:OpR X (compareOp .In) (Ts X.K false):=by
 intro e s l H x y v u Q I f i h;rfl';obtain⟨p,n,rfl,d,g,fs,q⟩:=h;subst i;ac_rfl
 rcases d with d|d
 .obtain⟨c,r,pl,k⟩:=I.list d
  refine SeqAt.in_listAt (pR x) pl.isList (λw hw=>jw f g r fs w (by simpa using hw)) #[.bl _,H,I,rfl,?_]
  rw[show c.toArray.any (pR x)=c.any (pR x) by simp,ng r fs]
  exact q
 .obtain⟨c,r,pl,k⟩:=I.tuple d
  refine SeqAt.in_tupleAt (pR x) pl (λw hw=>jw f g r fs w (by simpa using hw)) #[.bl _,H,I,rfl,?_]
  rw[show c.toArray.any (pR x)=c.any (pR x) by simp,ng r fs]
  exact q
theorem yL:OpR X (compareOp .NotIn) (Ts X.K true):=by
 intro e s l H x y v u Q I f i h;rfl';obtain⟨p,n,rfl,d,g,fs,q⟩:=h;subst i;ac_rfl
 rcases d with d|d
 .obtain⟨c,r,pl,k⟩:=I.list d
  refine SeqAt.notIn_listAt (pR x) pl.isList (λw hw=>jw f g r fs w (by simpa using hw)) #[.bl _,H,I,rfl,?_]
  rw[show c.toArray.any (pR x)=c.any (pR x) by simp,ng r fs]
  exact q
 .obtain⟨c,r,pl,k⟩:=I.tuple d
  refine SeqAt.notIn_tupleAt (pR x) pl (λw hw=>jw f g r fs w (by simpa using hw)) #[.bl _,H,I,rfl,?_]
  rw[show c.toArray.any (pR x)=c.any (pR x) by simp,ng r fs]
  exact q
theorem yp:CallR X (.builtin "len") (λi H Q=>∃p d,i= [.ref p]/\(cz X.K H p d\/gd X.K H p d)/\Q (.int d.length) H):=by
 intro j s n H i o Q I r h;rfl';obtain⟨p,d,rfl,e,q⟩:=h;obtain⟨u,rfl,l⟩:=vals1 r;subst l;have v:=lQ;ac_rfl
 rcases e with e|e
 .obtain⟨f,g,pl,m⟩:=I.list e
  have c:=g.length;exact Calls.call_len_list pl.isList (by simp only[cT]<;>lia) #[.int d.length,H,I.tok _,#[s.toks+1,by rw[cT,c]],q]
 .obtain⟨f,g,pl,m⟩:=I.tuple e
  have c:=g.length;exact len_tuple pl (by simp only[cT]<;>lia) #[.int d.length,H,I.tok _,#[s.toks+1,by rw[cT,c]],q]
theorem yq:CallR X (.type "list") (λA H Q=>∃p f,A= [.ref p]/\(cz X.K H p f\/gd X.K H p f)/\∀l,H l=none->Q (.ref l) (upd H l (.lst f))):=by
 intro j s C H A F Q I r h;obtain⟨p,f,rfl,k,q⟩:=h;obtain⟨u,rfl,E⟩:=vals1 r;subst E
 have fin:∀(c:List Value),Vals f c->f.length<=sizeLine->∀(d:Heap)(g:Nat),(∀b B,s.heap.get? b=some B->d.get? b=some B)->
   d.get? s.heap.objs.size=some {cls:= .type "list",dict:=none,data:= .seq c.toArray g,slots:= #[]}->EP X j C Q (.ref s.heap.objs.size) {s with heap:=d}:=λc i m d g t e=>
  #[.ref s.heap.objs.size,_,I.laid (t':=s.toks) t (bJ _) (show cF X.prog X.w _ d _ (.lst f) from#[m,c,g,i,e]),rfl,q _ (I.hok.fresh (bJ _))]
 rcases k with k|k
 .obtain⟨c,i,pl,m⟩:=I.list k
  have v:=i.length;obtain⟨o,x,y,n,z⟩:=pl.isList;exact call_list_seq p (.inl rfl) x y z (λd g t e=>fin c i m d g t e) (by simp only[cT]<;>lia)
 .obtain⟨c,i,pl,m⟩:=I.tuple k
  have v:=i.length;obtain⟨o,x,y,n,z⟩:=pl;exact call_list_seq p (.inr rfl) x y z (λd g t e=>fin c i m d g t e) (by simp only[cT]<;>lia)
def PV(K:ac)(T:String)(x:V)(H:Hp):Prop:=match x with
 | .str _=>T="str"
 | .int _=>T="int"
 | .ref p=>(T="list"/\∃d,cz K H p d)\/(T="tuple"/\∃o,K.lookup p=some o/\o.cls= .type "tuple"/\o.dict=none)\/
   (T="dict"/\((∃c,H p=some (.dK c))\/∃c,H p=some (.dT c)))\/(T="set"/\∃S n,H p=some (.set S n))
 |_=>False
theorem HH(I:Inv X g m H s)(r:RelV x v)(h:PV X.K T x H):
  s.TypeIs v T/\∀a,v= .ref a->∃l,s.heap.get? a=some l/\l.dict=none:=by
 cases x with
 |str z=>
  obtain⟨t,rfl⟩:=r;cases(show T="str" from h);exact#[typeIs_str s z t,λ_ e=>nomatch e]
 |int i=>
  obtain⟨t,rfl⟩:=r;cases(show T="int" from h);exact#[typeIs_int s i t,λ_ e=>nomatch e]
 |ref p=>
  subst r
  rcases h with ⟨rfl,A,q⟩ | ⟨rfl,o,d,u,j⟩ | ⟨rfl,d⟩ | ⟨rfl,S,n,d⟩
  .obtain⟨w,_,pl,_⟩:=I.list q
   refine#[pl.isList.typeIs,λa e=>?_];cases e;obtain⟨o,n,e,c,j,_⟩:=pl;exact#[o,e,j]
  .refine#[#[o,I.fw p o d,u],λa e=>?_]
   cases e;exact#[o,I.fw _ o d,j]
  .have z:∃o,s.heap.get? p=some o/\o.ExactDict:=by
    rcases d with ⟨y,d⟩ | ⟨y,d⟩
    .obtain⟨_,_,_,_,o,_,_,e,f,_⟩:=I.hok p _ d
     exact#[o,e,f]
    .obtain⟨_,_,_,_,o,_,_,e,f,_⟩:=I.hok p _ d
     exact#[o,e,f]
   obtain⟨o,e,f⟩:=z;refine#[#[o,e,f.1],λa k=>?_];cases k;exact#[o,e,f.2.1]
  .obtain⟨o,_,_,_,e,f,_⟩:=I.hok p _ d
   refine#[#[o,e,f.1],λa k=>?_];cases k;exact#[o,e,f.2.1]
 |_=>exact False.elim h
def W2(K:ac)(T:String)(r:V->List V->Hp->VK->Prop)(d:TE):TE:=λe H Q=>d e H λx c=>PV K T x c/\r x [] c Q
def tBM(K:ac)(T:String)(r:V->List V->Hp->VK->Prop)(e:TE)(t:TA):TE:=λc H Q=>e c H λx d=>PV K T x d/\t c d λf g=>r x f g Q
variable {o e:Expr} {es:List Expr} {to:TE} {t:TA} {name:Str} {apos aG:Pos} {T id:String} {r:V->List V->Hp->VK->Prop}
theorem O4(i:PlainAttrs T)(slot:Slot T name id)(j:typeOf (.builtin id)=pure (.type "method_descriptor"))(k:HP X id r)(l:PE X o to)
  (m:attributeBase o name X.env (eval o X.env)=eval o X.env:=by rfl) (n:(apos.endLine==aG.line)=true:=by rfl):PE X (.Call (.Attribute o name apos) [] [] aG) (W2 X.K T r to):=by
 intro c s d H Q I h;refine wpAny_Call_method0_late m n (thn (l c s d H _ I h) λv p q=>?_);rfl';obtain⟨x,w,f,g,y,z⟩:=q;obtain⟨A,B⟩:=HH f g y;ac_rfl;exact#[T,id,i,slot,j,A,B,aaN rfl (PySem.evalArgs_none (k c p d w x [] v [] Q f g .nil z))]
theorem xp(l:PlainAttrs T)(slot:Slot T name id)(m:typeOf (.builtin id)=pure (.type "method_descriptor"))(n:HP X id r)(p:PE X o to)(q:PA X (e::d) t)
  (u:attributeBase o name X.env (eval o X.env)=eval o X.env:=by rfl)
  (w:((backTo f (starEach (e::d) X.env)).all (λx=>!x.1)&&(backToKw f (keywordEach [] X.env)).all (λx=>x.1.isSome)
   &&decide ((e::d).length+([]:List Keyword).length+(if ([]:List Keyword).isEmpty then 0 else 1)<30))=true:=by rfl)
  (y:(apos.endLine==f.line)=true:=by rfl) (z:starEach (e::d) X.env=(false,eval e X.env)::starEach d X.env:=by rfl) (A:(backTo f (starEach d X.env)).any (·.1)=false:=by rfl):
  PE X (.Call (.Attribute o name apos) (e::d) [] f) (tBM X.K T r to t):=by
 intro c s g H Q I h;refine abf u w y rfl (thn (p c s g H _ I h) λv B C=>?_);rfl';obtain⟨x,F,i,j,G,J⟩:=C;obtain⟨L,M⟩:=HH i j G;ac_rfl;exists T,id,l,slot,m,L,M;have k:=q f c B g F _ i J;rw[z] at k ⊢;refine aaN (by show(false|| (backTo f (starEach d X.env)).any (·.1))=false;rw[A]<;>rfl) (abw ?_)
 exact thn k λN O #[P,R,S,U,Y]=>n c O g R x P v N Q S j U Y
end
def Nu(X:Cx)(id:String)(r:V->List V->Hp->VK->Prop):Prop:=
 ∀(a:List (Addr×Obj))(s:Shared)(b:St)(H:Hp)(x:V)(c:List V)(v:Value)(d:List Value)(Q:VK),Inv X a b H s->RelV x v->Vals c d->r x c H Q->
  wpAny (model X.prog X.w) X.A (call (.builtin id) (v::d)) (EP X a b Q) X.xe s
theorem Vals.one(h:Vals [x] a):∃u,a= [u]/\RelV x u:=by
 cases h with|cons r t=>cases t;exact#[_,rfl,r]
theorem Vals.two(h:Vals [x,y] a):∃u v,a= [u,v]/\RelV x u/\RelV y v:=by
 cases h with
 |cons r t=>
  obtain⟨v,rfl,q⟩:=Vals.one t;exact#[_,v,rfl,r,q]
theorem Vals.zero:∀{a:List Value},Vals [] a->a= []
 |_, .nil=>rfl
theorem Vals.dropLast(h:Vals a b):Vals a.dropLast b.dropLast:=by
 induction h with
 |nil=>exact .nil
 |cons r t c=>
  cases t with
  |nil=>exact .nil
  |cons q d=>exact .cons r c
theorem Vals.rep(h:Vals a b):∀k:Nat,Vals (am k a).flatten (am k b).flatten
 |0=> .nil
 |k+1=>by
  rw[yb,yb,tq,tq];exact Vals.append h (Vals.rep h k)
theorem CU(l:List c):l.eraseIdx (l.length-1)=l.dropLast:=by
 induction l with
 |nil=>rfl
 |cons a r d=>
  cases r with
  |nil=>rfl
  |cons b r=>
   have e:(a::b::r).length-1=((b::r).length-1)+1:=by
    have f:(a::b::r).length=r.length+2:=rfl;have g:(b::r).length=r.length+1:=rfl;lia
   rw[e,ED,d]
   all_goals rfl
theorem foldl_rep(a:List Value):∀(k:Nat)(b:List Value),
  List.foldl (λc d=>c++d) b.toArray (am k a.toArray)=(b++(am k a).flatten).toArray
 |0,b=>by simp
 |k+1,b=>by
  have e:b.toArray++a.toArray=(b++a).toArray:=by simp
  have f:(b++a)++(am k a).flatten=b++(am (k+1) a).flatten:=by
   rw[yb,tq,j1]
  rw[<-f,<-foldl_rep a k (b++a),<-e,yb,tw]
section
variable {X:Cx} {pins:List (Addr×Obj)} {σ:St} {H:Hp} {s:Shared} {l b:Addr} {xs ys zs:List V}
theorem Inv.L5{its its':List Value}(I:Inv X pins σ H s)(a:H l=some (.lst xs))
  (e:s.heap.get? l=some {cls:= .type "list",data:= .seq its.toArray n}) (c:f its.toArray=its'.toArray) (d:Vals ys its') (g:ys.length<=sizeLine):
  Inv X pins σ (upd H l (.lst ys)) {s with heap:=s.heap.update l (Obj.mapSeq f),toks:=t'}:=by
 have q:=PySem.IsL.update e f;rw[c] at q;refine I.write (x:=l) (e:=l) (by rw[a];exact trivial) (.inl rfl) (λj u h i=>(Pv s.heap (Obj.mapSeq f) (Ne.symm h)).trans i) #[_,q] ?_
 exact#[g,its',_,d,q]
theorem Inv.Hm{its:List Value}{t':Nat}(I:Inv X pins σ H s)(a:Vals ys its)(c:ys.length<=sizeLine):
  Inv X pins σ (upd H s.heap.objs.size (.lst ys)) {s with heap:=s.heap.push {cls:= .type "list",data:= .seq its.toArray},toks:=t'}:=
 I.laid (λ_ _ q=>AC _ q) (bJ _) #[c,its,0,a,FS _ rfl]
theorem Inv.fresh(I:Inv X pins σ H s):H s.heap.objs.size=none:=I.hok.fresh (bJ _)
theorem Inv.uL(I:Inv X pins σ H s)(a:H l=some (.lst xs)):xs.length<=sizeLine/\∃(its:List Value)(n:Nat),Vals xs its/\xs.length=its.length/\s.heap.get? l=some {cls:= .type "list",data:= .seq its.toArray n}:=by
 obtain⟨z,its,n,r,e⟩:=I.hok l _ a;exact#[z,its,n,r,r.length,e]
theorem Jb(h:n<=sizeLine):Builtin.List.listTooLong n=false:=by
 unfold Builtin.List.listTooLong;exact GM (by lia)
end
section
variable {X:Cx}
def MO:V->List V->Hp->VK->Prop:=λx b H Q=>∃l a y,x= .ref l/\b= [y]/\H l=some (.lst a)/\a.length<sizeLine/\Q .bu (upd H l (.lst (a++ [y])))
theorem jO:Nu X "list.append" MO:=by
 intro b s j H x k v m Q I d f h;rfl';obtain⟨l,p,y,rfl,rfl,c,t,q⟩:=h;subst d;obtain⟨u,rfl,i⟩:=f.one;obtain⟨z,a,n,r,w,e⟩:=I.uL c;ac_rfl;refine aa8 F.slot_list_append #[_,e,rfl] F.entry_list_append (F.args_list_append_2 _ _) (PySem.list_append l a.toArray n u (by rw[cT];lia)) #[e,?_]
 refine#[.bu,_,I.L5 (its':=a++ [u]) c e (by simp) (r.append (.cons i .nil)) ?_,rfl,q]
 rw[dJ,abq];lia
def WK:V->List V->Hp->VK->Prop:=λx b H Q=>∃l a y,x= .ref l/\b= []/\H l=some (.lst a)/\a[a.length-1]? =some y/\Q y (upd H l (.lst a.dropLast))
theorem OO:Nu X "list.pop" WK:=by
 intro b s t H x w v A Q I d f h;rfl';obtain⟨l,C,y,rfl,rfl,c,i,q⟩:=h;subst d;have j:=f.zero;subst j;obtain⟨z,a,n,r,k,e⟩:=I.uL c;obtain⟨u,m,o⟩:=r.get i;ac_rfl
 have p:a.toArray[a.toArray.size-1]? =some u:=by
  show a.toArray[a.length-1]? =some u;rw[<-dX,<-k];exact m
 refine aa8 F.slot_list_pop #[_,e,rfl] F.entry_list_pop (F.args_list_pop_1 _) (MeetsSeq.list_pop_last l a.toArray n u p (by rw[cT];lia)) #[e,?_]
 refine#[y,_,I.L5 (its':=a.dropLast) c e ?_ r.dropLast ?_,o,q]
 .show a.toArray.eraseIdxIfInBounds (a.toArray.size-1)=a.dropLast.toArray
  rw[cT,List.eraseIdxIfInBounds_toArray,CU]
 .rw[List.length_dropLast]
  lia
def WE:R2:=λx y H Q=>∃l b a c,x= .ref l/\y= .ref b/\H l=some (.lst a)/\H b=some (.lst c)/\a.length+c.length<=sizeLine/\∀p,H p=none->Q (.ref p) (upd H p (.lst (a++c)))
theorem Hq:OpR X (binaryOp .Add) WE:=by
 intro c s w H x y v u Q I f g h;rfl';obtain⟨l,b,B,C,rfl,rfl,j,k,E,q⟩:=h;subst f;subst g;obtain⟨z,a,n,r,F,e⟩:=I.uL j;obtain⟨G,d,J,m,o,p⟩:=I.uL k;ac_rfl;refine PySem.P.add_list e p ?_ (by rw[cT,cT];lia)
 have t:a.toArray++d.toArray=(a++d).toArray:=by simp
 rw[t];exact#[.ref _,_,I.Hm (t':=s.toks) (r.append m) (by rw[dJ];lia),rfl,q _ I.fresh]
def WL:R2:=λx y H Q=>∃l k a,x= .ref l/\y= .int k/\H l=some (.lst a)/\-(2^63)<=k/\k<2^63/\a.length*k.toNat<=sizeLine/\
 ∀p,H p=none->Q (.ref p) (upd H p (.lst (am k.toNat a).flatten))
theorem len_rep(a:List b)(k:Nat):(am k a).flatten.length=k*a.length:=by
 induction k with
 |zero=>simp
 |succ k c=>rw[yb,tq,dJ,c,Nat.succ_mul,Nat.add_comm]
theorem O0:OpR X (binaryOp .Mult) WL:=by
 intro g s O H x y v u Q I j o h;rfl';obtain⟨l,k,R,rfl,rfl,w,A,B,i,q⟩:=h;subst j;obtain⟨t,rfl⟩:=o;obtain⟨z,b,n,r,C,e⟩:=I.uL w;have c:b.toArray.size*k.toNat<=sizeLine:=by rw[cT,<-C];exact i
 ac_rfl
 have E:¬b.toArray.size*k.toNat>(2^63-1) / 8:=by
  have:(sizeLine:Nat)<=(2^63-1) / 8:=by decide
  lia
 have G:¬(!Builtin.List.listFitsIndex k)=true:=by
  rw[fitsIndex_both A B];exact cO
 have J:¬Builtin.List.listTooLong (b.toArray.size*k.toNat)=true:=by
  rw[Jb c];exact cO
 have L:List.foldl (λd f=>d++f) #[] (am (if b.toArray.isEmpty=true then 0 else k.toNat) b.toArray)=(am k.toNat b).flatten.toArray:=by
  have M:∀m:Nat,List.foldl (λd f=>d++f) #[] (am m b.toArray)=(am m b).flatten.toArray:=λm=>by
   have:=foldl_rep b m []
   rw[yf] at this;exact this
  rw[M];cases b with
  |nil=>simp
  |cons a S=>rw[mo (by simp)]
 refine wpAny_binaryOp_repeat_ref (T:="list") (U:="int") (by decide) #[_,e,rfl] (λN=>typeIs_int N k t) noFill_list_mul F.fills_int_mul F.slot_int_rmul repeat_list F.slot_int_index.lookup
  (aa8 F.slot_int_rmul (typeIs_int s k t) F.entry_int_rmul (F.args_int_rmul_2 _ _) (int___rmul___int_list k t l b.toArray n)
   #[e,rfl,#[_,e,rfl],aa8 F.slot_list_mul #[_,e,rfl] F.entry_list_mul (F.args_list_mul_2 _ _) (AutoListH.list___mul___list_int_3 l b.toArray n k t G E J) #[e,?_]])
 rw[L];exact#[.ref _,_,I.Hm (t':=s.toks) (r.rep k.toNat) (by rw[len_rep,Nat.mul_comm];exact i),rfl,q _ I.fresh]
end
section
variable {prog:Program} {w:World} {A:Around} {E:Value->Shared->Prop} {s:Shared}
end
section
variable {X:Cx}
end
end L2
namespace Ua
open PySem PySem.W PySem.Calls PyProof.Rows
theorem tZ:∀(c:List Int)(d:List Value),WellAll P h d (c.map WData.int)->IntsAre d c:=by
 intro c
 induction c with
 |nil=>
  intro d w;rw[uy] at w;cases w;exact .nil
 |cons n c e=>
  intro d w;rw[bV] at w;cases w with
  |cons a b=>
   cases a;exact .cons _ _ (e _ b)
theorem F7{l:OpenLaw}(k:l.most=some n) 
  (g:l.row.toRowW.claim.pre args=true) (m:WellAll P h vals args):
  ∃a i b,vals= [Value.ref a]/\args= [WData.list (b.map WData.int)]/\h.get? a=some {cls:= .type "list",data:= .seq i.toArray}/\IntsAre i b/\b.length<=n:=by
 have o:WShape.hasAll [] args [.list .int]=true:=(pre_splitW g).1;have j:l.pre.holds [] {args:=args}=true:=(pre_splitW g).2;obtain⟨d,r,rfl,p,s⟩:=hasAllW_cons o;obtain rfl:=hasAllW_nil s;obtain⟨z,rfl,t⟩:=hasW_list p;obtain⟨b,rfl⟩:=items_int t
 have c:b.length<=n:=by
  unfold OpenLaw.pre at j
  have e:(WTm.not (.lt (.lit (.int (n:Int))) (.len (.arg 0)))).holds [] {args:= [.list (b.map .int)]}=true:=by
   have e:=(holds_andW j).1;rw[k] at e;exact e
  have f:=condW_of e (w_not (w_lt w_lit (w_len_list (w_arg rfl))));rw[aH] at f;refine iY λq=>?_;have u:(n:Int)<((b.length:Nat):Int):=by lia
  first
   | (rw[A u] at f;exact absurd f (by decide))
   | (simp at f;lia)
 cases m with
 |cons v w=>
  cases w;cases v with
  |list x y=>exact#[_,_,b,rfl,rfl,x,tZ b _ y,c]
theorem F2(l:OpenLaw)(args:List WData):l.row.toRowW.claim.post args (.bool true) args=true:=
 postW_of (r:=l.row.toRowW) (X:=(true==true))
  (show WShape.has [] (.bool true) .bool=true by first|rfl|decide|simp[WShape.has,WShape.arms,WShape.armsAll])
  (show(WTm.eq .res (.lit (.bool true))).value [] {args:=args,res:=some (.bool true),after:=args}=some (.bool (true==true)) from w_eq_bool (w_res rfl) w_lit) rfl
theorem z6{l:OpenLaw} 
  (B:l.most=some n) (C:d.params.defaults= [])
  (call:∀(w:World)(e b:Shared)(m u:Str->Option Value)(j:Addr)(o:Obj)(v p g:Value)(a:Addr)(i:List Value)(s:List Int),
   Ground q c [] x w e m u b.heap->y w b.heap->
   b.heap.get? j=some o->o.data= .func (docDef d.name d.params d.body d.scope v p g)->b.heap.CodeRec p d.name->m d.name=some (.ref j)->
   b.heap.get? a=some {cls:= .type "list",data:= .seq i.toArray}->IntsAre i s->s.length<=n->b.gens= #[]->
   codeAny (model l.prog w) callerA (.call (.ref j) #[[.ref a],[]]) (λr t=>r= .ok (.ret (.bool true))/\OldK b.heap t.heap/\t.os=b.os/\AllBare t.gens) b):
  WalkO q c x y l.row.toRowW d [] (λf i=>dL f i):=by
 intro w e b m u G Y j o v p g E kV F H I z J L A vals Z M N VZ O Dd;obtain rfl:E= .none:=Dflts.none z C;obtain rfl:kV= .none:=Dflts.noKw z;rfl';obtain⟨a,i,s,rfl,rfl,Q,h,k⟩:=F7 B M O;ac_rfl;refine enter_call (aay (call w e b m u j o v p g a i s G Y F (fd_plain H) I J Q h k L) λr t R=>?_);obtain⟨rfl,S,T,U⟩:=R;exact#[.inl #[.bool true, .bool true,[],rfl,λ_=>rfl, .bool true,F2 l _,λ_=>#[List.Pairwise.nil,λ_ X=>(nomatch X)]],S,T,U]
section
variable {prog:Program} {w:World} {A:Around} {E:Value->Shared->Prop} {s:Shared} {K:Frag}
end
end Ua
namespace L2
open PySem PySem.Spec PyProof.Rows
theorem qK:∀{a:List Value}{b:List Int},IntsAre a b->Vals (b.map V.int) a
 |_,_, .nil=> .nil
 |_,_, .cons n t h=> .cons #[t,rfl] (qK h)
def JR(H:Hp):Prop:=∀b,H b=none\/∃o a,H b=some (.rG o (.lst a))
theorem IQ{P:Program}{w:World}{K:ac}{l E:Str->Option Value}{L:pN}{k:Nat}{G a:Addr}{M:FuncData}{x:Str}{N:Sp}{c:Shared}{j:List Value}{p:List Int}
  (O:K.In c.heap) (Q:c.heap.Ns mainGlobals l) (f:c.heap.Ns builtinsNs E) (Od:∀x:Str,x≠"__name__"->E x=bootBuiltins x) (VI:c.heap.NoLimit) (hg:c.gens= #[])
  (B:c.heap.get? a=some {cls:= .type "list",data:= .seq j.toArray}) (R:IntsAre j p) (S:p.length<=sizeLine) (hr:bW k callerA)
  (F:∀base:Heap,K.In base->base.Ns mainGlobals l->FnOk P w K l base L k G M [x] N) (RW:∀(s:Shared)(u:Value),BindsTo s M #[[u],[]] [(x,u)])
  (yG:∀H:Hp,JR H->cz K H a (p.map V.int)->N [.ref a] H (λv _=>v= .bl true) λ_ _ _=>False)
  (RN:∀H e g,L [] H c (λ_ _ _=>False) e g->False):
  codeAny (model P w) callerA (.call (.ref G) #[[.ref a],[]]) (λr g=>r= .ok (.ret (.bool true))/\OldK c.heap g.heap/\g.os=c.os/\AllBare g.gens) c:=by
 have T:=qK R;have Wi:=R.length
 have i:∀H:Hp,JR H->cz K H a (p.map V.int)->gy P w H c.heap->(∀b,H b≠none->b=a)->(H a≠none->K.lookup a=none)->
   codeAny (model P w) callerA (.call (.ref G) #[[.ref a],[]]) (λr g=>r= .ok (.ret (.bool true))/\OldK c.heap g.heap/\g.os=c.os/\AllBare g.gens) c:=by
  intro H U hS hok X hK;have Y:∀{b:Addr}{o:Obj},c.heap.get? b=some o->H b=none->(rP c.heap H).get? b=some o:=λe n=>ID e n
  have Mc:∀{b:Addr}{o:Obj}{t:Array DictEntry}{y:Nat},c.heap.get? b=some o->o.data= .dict t y->H b=none:=λ {b o t y} e d=>by
   cases q:H b with
   |none=>rfl
   |some u=>
    have I:b=a:=X b (by rw[q];simp)
    subst I;rw[B] at e;cases e;have d':Data.seq j.toArray _=Data.dict t y:=d;cases d'
  have C:∀{b:Addr}{m:Str->Option Value},c.heap.Ns b m->(rP c.heap H).Ns b m:=λ {b m} #[o,t,y,e,d,r]=>#[o,t,y,Y e (Mc e d),d,r]
  have Z:K.In (rP c.heap H):=λb o e=>Y (O b o e) (by
   cases q:H b with
   |none=>rfl
   |some u=>
    have I:b=a:=X b (by rw[q];simp)
    subst I;rw[hK (by rw[q];simp)] at e;cases e)
  have hM:Mod K l (rP c.heap H):=#[Z,C Q,#[E,C f,Od],let #[mc,h1,h2]:=VI;#[mc,C h1,h2]];have e0:Env0 P w K l (rP c.heap H) callerA [] c H:=#[rfl,hM,λb o e=>Mf e,Nat.le_of_eq (Ft _ _),trivial,λb f=>absurd (show b∈([]:List Addr) from f) (by simp),hok, .of_eq hg]
  refine aay ((F _ Z (C Q)).run callerA [] c H #[[.ref a],[]] [.ref a] [.ref a] _ _ hr e0 (RW c (.ref a)) (.cons rfl .nil) (yG H U hS)) λr g h=>?_;cases r with
  |error e=>exact(RN H e g h).elim
  |ok fl=>
   cases fl with
   |next=>exact False.elim h
   |brk=>exact False.elim h
   |cont=>exact False.elim h
   |ret u=>
    rfl';obtain⟨v,H',os,bare,un,VT,r',q⟩:=h;have q':v= .bl true:=q;subst q';ac_rfl;obtain rfl:u=Value.bool true:=r';refine#[rfl,OldK.of_keep λb o e=>?_,os,bare];cases q:H b with
    |none=>exact un.keep b o e q (by intro z;exact absurd (show b∈([]:List Addr) from z) (by simp)) (by simp)
    |some u=>
     rcases U b with z| ⟨ob,xs,z⟩
     .rw[q] at z;cases z
     .have z2:=un.frzs b ob _ z
      obtain⟨e1,_⟩:=hok b _ z;obtain⟨e2,_⟩:=VT b _ z2;rw[e] at e1;cases e1;exact e2
 cases J:K.lookup a with
 |some o=>
  have e:=O a o J;rw[B] at e;cases Fk e;refine i (λ_=>none) (λ_=> .inl rfl) (.inr #[_,j.toArray,_,J,rfl,rfl,rfl,by rw[cT,Wi];exact S,by simpa using T]) (λb u z=>by have A:(none:Option HO)=some u:=z;cases A) (λb z=>absurd rfl z) λz=>absurd rfl z
 |none=>
  refine i (λb=>if b=a then some (.rG {cls:= .type "list",data:= .seq j.toArray} (.lst (p.map V.int))) else none) (λb=>?_) (.inl (.inr #[{cls:= .type "list",data:= .seq j.toArray},tz rfl])) (λb u z=>?_) (λb z=>?_) λ_=>J
  .by_cases f:b=a
   .exact .inr #[_,_,tz f]
   .exact .inl (mo f)
  .by_cases f:b=a
   .have A:=(tz f).symm.trans z
    obtain rfl:=Fk A;subst f;exact#[B,by rw[aH];exact S,j,_,T,B]
   .have A:=(mo f).symm.trans z
    cases A
  .by_cases f:b=a
   .exact f
   .exact absurd (mo f) z
theorem Nj{l:cM}{n k:Nat}{q:Program}{i:List Str}{I:(Str->Option Value)->Heap->Prop}{A:World->Heap->Prop}{d:DefRec}{K:Params->ac}{CX:World->pN}{sp:World->Sp}{x:Str}
  (J:l.most=some n) (L:n<=sizeLine) (M:d.params.defaults= []) (N:bW k callerA)
  (O:∀(w:World)(h:Heap),A w h->(K w.params).In h)
  (F:∀(w:World)(m:Str->Option Value)(r:Addr)(h:Heap),(K w.params).In h->h.Ns mainGlobals m->m d.name=some (.ref r)->
   ∃y:FuncData,(∀(s:Shared)(u:Value),BindsTo s y #[[u],[]] [(x,u)])/\
    ∀base:Heap,(K w.params).In base->base.Ns mainGlobals m->FnOk l.prog w (K w.params) m base (CX w) k r y [x] (sp w))
  (P:∀(w:World)(H:Hp)(a:Addr)(t:List Int),t.length<=n->JR H->cz (K w.params) H a (t.map V.int)->sp w [.ref a] H (λv _=>v= .bl true) λ_ _ _=>False)
  (Q:∀(w:World)(H:Hp)(s:Shared)(e:Value)(z:Shared),CX w [] H s (λ_ _ _=>False) e z->False):
  ec q i I A l.row.toRowW d [] (λf B=>dL f B):=by
 refine Ua.z6 J M λw C p m mb r o pm cd R a B t G Y ho hd eI S U j c X=>?_;have E:=O w _ Y;obtain⟨y,Z,hF⟩:=F w m r _ E G.T.g S;exact IQ E G.T.g G.T.b G.T.builtins G.T.nolimit X U j (kE c L) N hF Z (λH hO hS=>P w H a t c hO hS) λH e z=>Q w H p e z
def inClass(s:Stmt)(j:Nat):Stmt:=match s with
 | .ClassDef _ _ _ body _ _ _ _ _ _ _=>body.getD j (.Pass #[0,0,0,0])
 |_=> .Pass #[0,0,0,0]
def gT(s:Stmt):Arguments:=match s with
 | .FunctionDef _ a _ _ _ _ _ _ _ _=>a
 |_=>{posonlyargs:= [],args:= [],vararg:=none,kwonlyargs:= [],kw_defaults:= [],kwarg:=none,defaults:= []}
def dA(s:Stmt):List Stmt:=match s with
 | .FunctionDef _ _ b _ _ _ _ _ _ _=>b
 |_=> []
def av(s:Stmt):Scope:=match s with
 | .FunctionDef _ _ _ _ _ _ sc _ _ _=>sc
 |_=>{kind:= .function,names:= [],isGenerator:=false,isCoroutine:=false}
abbrev cw:pN:=λ_ _ _ _ _ _=>False
abbrev E0:XK:=λ_ _ _=>False
theorem og:Passes cw X E0:=λ_ _ _ _ _ _ _ h=>h.elim
structure tI (K:ac) (x qual:Str) (st:Stmt) (f:Addr) (fd:FuncData):Prop where
 ex:∃(oc:Value)(od:Option Addr)(kV doc pm:Value)(an:Option Addr)(bo ct:Value)(Bx:Array (Option Value)),
  fd=bp x qual (gT st) (dA st) (av st) .none kV doc pm an bo ct/\K.lookup f=some #[oc,od, .func fd,Bx]/\bj K bo qual=true
 kp:aA K (.ref f)=true
section
variable {P:Program} {w:World} {K:ac} {mg:Str->Option Value} {base:Heap}
theorem tI.ok{x a:Str}{st:Stmt}{f:Addr}{e:FuncData}{N c:List Str}{k:Nat}{d:Sp}(F:tI K x a st f e)(S:aK N c (av st))(len:∀vs H Q E,d vs H Q E->vs.length=c.length)
  (g:∀(b:Value)(A:Around)(outer:List Env)(s:Shared)(H:Hp)(vs:List V)(Q:VK)(E:XK),bW k (A.deeper (envOfC a (av st) s.heap.objs.size f b))->d vs H Q E->
   ∃t,j6 (kh cw P w K mg base N a (av st) f b A outer s H E).kJ (dA st) t/\t {nx:=λ_ i=>Q .bu i,rt:=Q} (start N vs) H):FnOk P w K mg base cw (k+1) f e c d:=by
 rfl';obtain⟨u,v,kV,l,y,z,b,B,C,rfl,m,n⟩:=F.ex;ac_rfl;refine K0 m n S len λA outer s H vs Q E o p=>?_;obtain⟨t,h,q⟩:=g b A outer s H vs Q E o p;exact#[t,h.kJ,q]
theorem tI.binds{st:Stmt}{ps:List Str}(F:tI K x a st f j)
  (h:∀(kV b c:Value)(d:Option Addr)(e g:Value)(i:List Value),i.length=ps.length->bindArgs (bp x a (gT st) (dA st) (av st) .none kV b c d e g) #[i,[]]=pure (ps.zip i)):Binds K j ps []:=by
 rfl';obtain⟨m,n,kV,b,c,d,e,g,o,rfl,p,q⟩:=F.ex;ac_rfl;exact .all (h kV b c d e g)
theorem rH{x a:Str}{st:Stmt}{f:Addr}{i:Value}{j e:Option Addr}{m:Array (Option Value)}{kV b g d h:Value}(l:K.lookup f=some #[i,j, .func (bp x a (gT st) (dA st) (av st) .none kV b g e d h),m])
  (c:bj K d a=true) (k:aA K (.ref f)=true):tI K x a st f (bp x a (gT st) (dA st) (av st) .none kV b g e d h):=#[#[i,j,kV,b,g,e,d,h,m,rfl,l,c],k]
end
theorem eW(h:n<=1000):n<sizeLine:=abO h (by decide)
section
variable {X:Cx}
theorem pv(i:Nat)(b:X.N[i]? =some x:=by rfl)(c:mW X.env.scope x:=by subst_eqs)(d:(x==("__debug__":Str))=false:=by decide)
  (e:(x==("__classdict__":Str))=false:=by decide):PE X (.Name x a) (QL i):=Bz b c d e
end
theorem bY{A B:Prop}(h:B):if false=true then A else B:=by
 rw[mo cO];exact h
theorem bF{A B:Prop}(h:A):if true=true then A else B:=by
 rw[tz rfl];exact h
def aN(H a:Hp):Prop:=∀b o,H b=some o->a b=some o
theorem aN.refl(H:Hp):aN H H:=λ_ _ h=>h
theorem aN.trans{H d e:Hp}(a:aN H d)(b:aN d e):aN H e:=λc o h=>b c o (a c o h)
theorem aN.free(e:aN H a)(h:a l=Option.none):H l=Option.none:=by
 cases q:H l with
 |none=>rfl
 |some o=>
  rw[e l o q] at h;cases h
def jc(env:Env):List (Str×NameKind)->List (Str×Addr)->List (Str×Addr)
 | [],a=>a
 | (n,k)::r,a=>if k==NameKind.free then jc env r ((n,(env.cells.lookup n).getD 0)::a) else jc env r a
theorem iw(h:∀x∈b.names,x.2= .free->∃c,env.cells.lookup x.1=some c):closureFor b env=pure (jc env b.names []):=by
 simp only[closureFor]
 have j:∀(names:List (Str×NameKind))(d:List (Str×Addr)),(∀x∈names,x.2= .free->∃c,env.cells.lookup x.1=some c)->
   (forIn names d λx e=>if (x.snd==NameKind.free)=true then(do let a <-cellOf env x.fst;pure (ForInStep.yield ((x.fst,a)::e))) else pure (ForInStep.yield e))=(pure (jc env names d):Sem _):=by
  intro names
  induction names with
  |nil=>intro d _;rfl
  |cons x r l=>
   obtain⟨n,k⟩:=x;intro d h;rw[List.forIn_cons,jc];have f:=λd=>l d λy m=>h y (dh _ m);cases g:k==NameKind.free with
   |false=>
    simp only[g,dY,Os];exact f d
   |true=>
    have o:k= .free:=by simpa using g
    obtain⟨c,i⟩:=h (n,k) cP o;simp only at i;simp only[aaB,cellOf,i];exact f _
 rw[j _ _ h];rfl
theorem fN:∀(names:List (Str×NameKind))(a:List (Str×Addr)),(∀x∈names,x.2= .free->∃c,env.cells.lookup x.1=some c)->(∀x c,a.lookup x=some c->env.cells.lookup x=some c)->
  ∀x c,(jc env names a).lookup x=some c->env.cells.lookup x=some c
 | [],a,_,b=>b
 | (n,k)::r,a,h,b=>by
  rw[jc]
  split
  .rename_i g
   refine fN r _ (λy d=>h y (dh _ d)) λx c e=>?_;obtain⟨l,f⟩:=h (n,k) cP (by simpa using g)
   rw[tu] at e
   split at e
   .rename_i i
    have j:x=n:=by simpa using i
    subst j;simp only at f;rw[f] at e ⊢;exact e
   .exact b x c e
  .exact fN r a (λy d=>h y (dh _ d)) b
theorem ph{env:Env}:∀(names:List (Str×NameKind))(a:List (Str×Addr))(x:Str),((x,NameKind.free)∈names\/∃c,a.lookup x=some c)->∃c,(jc env names a).lookup x=some c
 | [],a,x,h=>by
  rcases h with h|h
  .cases h
  .exact h
 | (n,k)::r,a,x,h=>by
  rw[jc]
  split
  .rename_i b
   refine ph r _ x ?_
   by_cases e:x=n
   .subst e;exact .inr #[(env.cells.lookup x).getD 0,by simp[tu]]
   .have ne:(x==n)=false:=by simpa using e
    rcases h with h| ⟨c,h⟩
    .rcases cV.mp h with z|z
     .cases z;exact absurd rfl e
     .exact .inl z
    .exact .inr #[c,by rw[tu,ne];exact h]
  .rename_i b
   refine ph r a x ?_
   rcases h with h|h
   .rcases cV.mp h with z|z
    .cases z;exact absurd rfl b
    .exact .inl z
   .exact .inr h
def mO(src:List (Option Nat))(a:St):St:=src.map λo=>o.bind λi=>(a[i]?).bind id
def dz(a:Scope)(b:List Str):List (Option Nat)->List Str->Prop
 | [],[]=>True
 |none::r,_::n=>dz a b r n
 |some i::r,x::n=>b[i]? =some x/\a.names.lookup x=some .free/\dz a b r n
 |_,_=>False
theorem dz.len:∀{src:List (Option Nat)}{NC:List Str},dz a b src NC->src.length=NC.length
 | [],[],_=>rfl
 |none::r,_::n,h=>by have:=dz.len (src:=r) (NC:=n) h;simp[this]
 |some i::r,_::n,h=>by have:=dz.len (src:=r) (NC:=n) h.2.2;simp[this]
 | [],_::_,h=>h.elim
 |none::_,[],h=>h.elim
 |some _::_,[],h=>h.elim
theorem dz.at{a:Scope}{d:List Str}:∀{src:List (Option Nat)}{NC:List Str}{j i:Nat}{x:Str},dz a d src NC->src[j]? =some (some i)->NC[j]? =some x->d[i]? =some x/\a.names.lookup x=some .free
 | [],[],_,_,_,_,h,_=>by simp at h
 |none::r,_::n,0,_,_,_,h,_=>by simp at h
 |none::r,_::n,j+1,i,x,h,b,c=>dz.at (src:=r) (NC:=n) (j:=j) h (by simpa using b) (by simpa using c)
 |some k::r,y::n,0,i,x,h,b,c=>by
  have e:k=i:=by simpa using b
  have f:y=x:=by simpa using c
  subst e f;exact#[h.1,h.2.1]
 |some k::r,_::n,j+1,i,x,h,b,c=>dz.at (src:=r) (NC:=n) (j:=j) h.2.2 (by simpa using b) (by simpa using c)
 | [],_::_,_,_,_,h,_,_=>h.elim
 |none::_,[],_,_,_,h,_,_=>h.elim
 |some _::_,[],_,_,_,h,_,_=>h.elim
structure ck (X:Cx) (scope:Scope):Prop where
 kind:scope.kind= .function
 names:∀x∈scope.names,x.2= .local->scope.names.lookup x.1=some .local
 nocell:∀x∈scope.names,x.2≠ .cell
 free:∀x∈scope.names,x.2= .free->X.env.kindOf x.1=some .cell\/X.env.kindOf x.1=some .free
theorem i6{env:Env}:∀(names:List (Str×NameKind))(x:Str),
  (names.map λ(n,k)=>if (k==NameKind.free&&env.scope.kind== .function&&env.kindOf n==some .cell) then(n,NameKind.cell) else(n,k)).lookup x=
   (names.lookup x).map λk=>if (k==NameKind.free&&env.scope.kind== .function&&env.kindOf x==some .cell) then NameKind.cell else k
 | [],_=>rfl
 | (n,k)::r,x=>by
  have c:=i6 (env:=env) r x;show bv x ((if (k==NameKind.free&&env.scope.kind== .function&&env.kindOf n==some .cell)=true then(n,NameKind.cell) else(n,k))::_)=_;cases b:x==n with
  |true=>
   have e:x=n:=by simpa using b
   subst e
   by_cases a:(k==NameKind.free&&env.scope.kind== .function&&env.kindOf x==some .cell)=true
   .rw[tz a,tu,tu]
    simp only[b];show some NameKind.cell=some (if _ then _ else _);rw[tz a]
   .rw[mo a,tu,tu]
    simp only[b];show some k=some (if _ then _ else _);rw[mo a]
  |false=>
   by_cases a:(k==NameKind.free&&env.scope.kind== .function&&env.kindOf n==some .cell)=true
   .rw[tz a];simp only[tu,b];exact c
   .rw[mo a];simp only[tu,b];exact c
theorem mem_lookup{names:List (Str×NameKind)}{x:Str}{k:NameKind}(h:names.lookup x=some k):(x,k)∈names:=aaA h
def cW(X:Cx)(a:Scope)(NC:List Str)(ex:List Addr)(s:Shared)(H:Hp):Cx:=
 {X with N:=NC,s₀:=s,H₀:=H,env:=compEnvC a (jc X.env a.names []) s.heap.objs.size X.env,outer:=X.stack,stack:=X.stack,ex:=ex,fn:=λ_=>false,pn:= [],xe:=λ_ _=>False}
section
variable {X:Cx} {pins:List (Addr×Obj)} {σ:St} {H:Hp} {s:Shared} {scope:Scope} {NC:List Str} {ex:List Addr} {src:List (Option Nat)}
theorem ck.cells(c:ck X scope)(ok:X.Ok):∀x∈scope.names,x.2= .free->∃c,X.env.cells.lookup x.1=some c:=λx a e=>ok.has x.1 (c.free x a e)
theorem ck.SE(c:ck X scope)(h:(compEnvC scope (jc X.env scope.names []) C X.env).kindOf x=some k)(i:k= .cell\/k= .free):scope.names.lookup x=some .free:=by
 have a:(relabel scope X.env).names.lookup x=some k:=h;unfold relabel at a;rw[i6] at a;cases e:scope.names.lookup x with
 |none=>rw[e] at a;cases a
 |some b=>
  have g:=c.nocell _ (mem_lookup e);rw[e] at a;have f:(if (b==NameKind.free&&X.env.scope.kind== .function&&X.env.kindOf x==some .cell) then NameKind.cell else b)=k:=Fk a
  by_cases d:b= .free
  .rw[d]
  .have j:(b==NameKind.free)=false:=by simpa using d
   rw[j,acs,acs,mo cO] at f
   rcases i with z|z
   .rw[f] at g;exact absurd z g
   .rw[f] at d;exact absurd z d
theorem Ka(I:Inv X pins σ H s)(c:ck X scope)(f:∀b∈ex,fY X pins H b)(g:∀b∈ex,b<s.heap.objs.size):(cW X scope NC ex s H).Ok where
 mod:=I.ok.mod
 kind:=c.kind
 glob:=I.ok.glob
 blt:=I.ok.blt
 above:=bJ _
 inj:=λx y d i j=>I.ok.inj x y d (fN _ _ (c.cells I.ok) (λ_ _ z=>by cases z) x d i) (fN _ _ (c.cells I.ok) (λ_ _ z=>by cases z) y d j)
 has:=λx k=>ph _ _ x (.inl (mem_lookup (by rcases k with h|h<;>exact c.SE h (by simp))))
 cab:=λ_ _ z=>by cases z
 hd:=I.ok.hd
 frames:=I.ok.frames
 stk:= .inl rfl
 exf:=λb a=>#[bB (g b a),λx d e=>(f b a).2.2.2.2.1 x d (fN _ _ (c.cells I.ok) (λ_ _ z=>by cases z) x d e)]
 bs:=I.bs
 bsz:=kE I.ok.bsz I.sz
 noex:=λb o e a=>by
  rcases(f b a).2.2.2.1 with z|z
  .exact I.ok.noex b o e z
  .exact absurd (fk (Do e) (kE I.ok.bsz z)) (j3 _)
 exfs:=λb a z=>(cV.mp (I.BN b z)).elim (f b a).2.1 (f b a).2.2.1
 funs:=I.stack
 frf:=I.xF
theorem yZ{tk:Nat}(I:Inv X pins σ H s)(c:ck X scope)(A:dz scope X.N src NC)(E:∀b∈ex,fY X pins H b)(F:∀b∈ex,b<s.heap.objs.size)
  (G:h.Ns s.heap.objs.size (λ_=>none)) (J:Heap.SameBut s.heap.objs.size (s.heap.push C) h):
  Inv (cW X scope NC ex s H) [] (mO src σ) H {s with heap:=h,toks:=tk}:=by
 have f:∀b o,s.heap.get? b=some o->h.get? b=some o:=λb o e=>J.extBut b o (bB (Do e)) (AC _ e);have t:∀x d,(jc X.env scope.names []).lookup x=some d->X.env.cells.lookup x=some d:=λx d=>fN _ _ (c.cells I.ok) (λ_ _ z=>by cases z) x d
 have a:∀d v,s.heap.IsCell d v->h.IsCell d v:=λd v #[o,L,k]=>#[o,f d o L,k];refine#[Ka I c E F,rfl,I.bare,Un.kept f,#[_,G,λj x v M O U=>?_],λx d e=>?_,I.hok.fresh (bJ _),λx d e=>I.freeC x d (t x d e),λp P=>absurd (show p∈([]:List (Addr×Obj)) from P) (by simp),I.hok.kept f,?_]
 .have g:(mO src σ)[j]? =some (some v):=O
  unfold mO at g;rw[cc] at g;cases w:src[j]? with
  |none=>rw[w] at g;cases g
  |some o=>
   rw[w] at g;cases o with
   |none=>cases g
   |some i=>
    have n:(σ[i]?).bind id=some v:=Fk g
    have Q:σ[i]? =some (some v):=by
     cases q:σ[i]? with
     |none=>rw[q] at n;cases n
     |some z=>rw[q] at n;exact IR some n
    rfl';obtain⟨S,y⟩:=A.at w M;have B:=c.free _ (mem_lookup y) rfl;obtain⟨m,Z,T⟩:=I.loc;obtain⟨u,r,l⟩:=T i x v S Q (B.elim (λz=> .inr (.inl z)) (λz=> .inr (.inr z)));ac_rfl;refine#[u,r, .inr #[?_,?_]]
    .show(relabel scope X.env).names.lookup x=_\/(relabel scope X.env).names.lookup x=_
     unfold relabel;rw[i6,y]
     by_cases z:(NameKind.free==NameKind.free&&X.env.scope.kind== .function&&X.env.kindOf x==some .cell)=true
     .left;simp only[Option.map_some,z,aaB]
     .right;simp only[Option.map_some,z];rfl
    .obtain⟨d,k⟩:=ph (env:=X.env) scope.names [] x (.inl (mem_lookup y))
     exists d,k
     rcases l with ⟨l,_⟩ | ⟨_,d',e,z⟩
     .exfalso;rcases B with z|z<;>(rw[l] at z;cases z)
     .rw[t x d k] at e;cases e;exact a d _ z
 .obtain⟨v,z⟩:=I.cell x d (t x d e)
  exact#[v,a d v z]
 .show(mO src σ).length=NC.length
  unfold mO;rw[aH];exact A.len
theorem comp_back(I:Inv X pins σ H s)(p:∀b∈ex,fY X pins H b)(J:Inv (cW X scope NC ex s H) m l g c)
  (r:Heap.SameBut s.heap.objs.size c.heap i):Inv X pins σ g {c with heap:=i}:=by
 have h:∀b o,b≠s.heap.objs.size->c.heap.get? b=some o->i.get? b=some o:=λb o a e=>r.extBut b o a e;have ne:∀b o,s.heap.get? b=some o->b≠s.heap.objs.size:=λb o e=>bB (Do e);have u:=J.base;refine I.EV (ch:=ex) (show c.os=s.os from J.os) #[λb o e n a f=>h b o (ne b o e) (u.keep b o e n a f),λb o e n a f=>?_,u.free,λb o e f=>?_,u.tups,u.frzs,u.tbls] ?_ J.bare λb a=>?_
 .obtain⟨t,q⟩:=u.slot b o e n a f
  exact#[t,h b _ (ne b o e) q]
 .obtain⟨j,q⟩:=u.there b o e f
  exact#[j,h b j (ne b o e) q]
 .intro b o e
  have k:∀b o,g b=some o->b≠s.heap.objs.size:=λb o e z=>by
   have:=J.free
   rw[z] at e;have w:g s.heap.objs.size=none:=this;rw[w] at e;cases e
  refine(J.hok b o e).p8 (λd v x q=>h d v ?_ q) (λ_ q=>q) λ_ _ q=>q
  rcases x with z|z
  .rw[z];exact k b o e
  .exact k d _ z
 .obtain⟨_,y,_,A,B,C⟩:=p b a
  exact#[A,y,B,C]
end
def m8(X:Cx)(b:List Expr)(t:TT):Prop:=
 ∀(a:List (Addr×Obj))(s:Shared)(d:St)(H:Hp)(Q:Bool->Hp->Prop),Inv X a d H s->t d H Q->
  wpAny (model X.prog X.w) X.A (forIn b true λc r=>if r=true then do let ok <-isTrue c X.env (eval c X.env);pure (ForInStep.yield ok) else pure (ForInStep.yield r)) (TP X a d Q) X.xe s
def Nd:TT:=λ_ H Q=>Q true H
theorem D3:m8 X [] Nd:=λ_ _ _ H _ I h=>wpAny_tests_nil #[H,I,h]
theorem ML(h:PT X c t):m8 X [c] t:=λa s b H Q I q=>wpAny_tests_one (h a s b H Q I q)
def XB(J:It)(g:TG)(o:TT)(p:TE)(D:Addr)(Q:VK)(q:St)(H:Hp):Prop:=
 ∃W:Nat->Nat->St->Hp->Prop,(∃m,W 0 m q H)/\∀i m e a,W i m e a->
  (J.stop i a/\Q (.ref D) a)\/
  (J.go i a/\∃N:St->Hp->Prop,(∀f h,N f h->∃j,j<m/\W (i+1) j f h)/\∀x k,J.yld i a x k->g x e k λc r=>o c r λb l=>
   if b=true then p c l λv n=>∃d,n D=some (.lst d)/\d.length<sizeLine/\N c (upd n D (.lst (d++ [v]))) else N c l)
def M9(c:TI)(g:TG)(d:TT)(e:TE)(src:List (Option Nat)):TE:=λa H Q=>c a H λJ b=>∀D,b D=none->XB J g d e D Q (mO src a) (upd b D (.lst []))
section
variable {X:Cx} {elt iter tg:Expr} {ifs:List Expr} {scope:Scope} {pos:Pos} {wi:TI} {g:TG} {tt:TT} {te:TE} {src:List (Option Nat)} {NC:List Str}
theorem uC{RR:Value->Addr->Result->Shared->Prop}{Q:VK}
  (hc:X.calm=true) (c:ck X scope) (fC:dz scope X.N src NC) (I2:Inv X j σ I B) (T:Turn X.prog X.w X.K tg J F it tn) (kT:tn 0 B.heap) (f2:∀b∈F,fY X j I b)
  (hg:∀s H,PG (cW X scope NC F s H) tg g) (ht:∀s H,m8 (cW X scope NC F s H) ifs tt) (he:∀s H,PE (cW X scope NC F s H) elt te)
  (hW:∀D,I D=none->∃W:Nat->Nat->St->Hp->Prop,(∃m,W 0 m (mO src σ) (upd I D (.lst [])))/\∀i m fA I,W i m fA I->
   (J.stop i I/\Q (.ref D) I)\/
   (J.go i I/\∃N:St->Hp->Prop,(∀G a,N G a->∃m',m'<m/\W (i+1) m' G a)/\∀x U,J.yld i I x U->g x fA U λfK H4=>tt fK H4 λb H5=>
    if b=true then te fK H5 λv H6=>∃ys,H6 D=some (.lst ys)/\ys.length<sizeLine/\N fK (upd H6 D (.lst (ys++ [v]))) else N fK H5))
  (RQ:∀D C U G a M,Inv X j σ U C->(∀b∈F,fY X j U b)->Inv (cW X scope NC F C U) [] G a M->Q (.ref D) a->RR (.ref D) C.heap.objs.size (.ok .next) M):
  wpAny (model X.prog X.w) X.A (newList []) (λacc El=>wpAny (model X.prog X.w) X.A (newFunctionEnv scope X.env.globals (jc X.env scope.names []) [] X.env.qual none .none (some X.env)) (λni xH=>
   codeAny (model X.prog X.w) X.A (.compStart (.ListComp elt [#[tg,iter,ifs,0]] scope pos) 0 (.ref it) acc {ni with scope:=relabel scope X.env}) (RR acc ni.locals) xH) E El) E B:=by
 rfl';obtain⟨W,⟨m0,w0⟩,turn⟩:=hW B.heap.objs.size I2.fresh;have I3:Inv X j σ (upd I B.heap.objs.size (.lst [])) {B with heap:=B.heap.push {cls:= .type "list",data:= .seq ([]:List Value).toArray}}:=I2.Hm (its:= []) (t':=B.toks) .nil (fm _)
 ac_rfl
 have SG:∀b∈F,b<B.heap.objs.size:=λb l=>by
  obtain⟨o,e,_⟩:=T.obj _ _ kT b l;exact Do e
 have f3:∀b∈F,fY X j (upd I B.heap.objs.size (.lst [])) b:=λb l=>#[by rw[ay (bB (SG b l))];exact(f2 b l).1,(f2 b l).2]
 refine P3 ?_
 suffices key:∀C:Shared,Inv X j σ (upd I B.heap.objs.size (.lst [])) C->(∀b o,B.heap.get? b=some o->C.heap.get? b=some o)->
   wpAny (model X.prog X.w) X.A (newFunctionEnv scope X.env.globals (jc X.env scope.names []) [] X.env.qual none .none (some X.env)) (λni xH=>
    codeAny (model X.prog X.w) X.A (.compStart (.ListComp elt [#[tg,iter,ifs,0]] scope pos) 0 (.ref it) (.ref B.heap.objs.size) {ni with scope:=relabel scope X.env}) (RR (.ref B.heap.objs.size) ni.locals) xH) E C from
  key _ I3 λb o e=>AC _ e
 intro C I3 TX;have vx:tn 0 C.heap:=T.keep _ _ _ kT λb _ o e=>TX b o e
 have FL:∀b∈F,b<C.heap.objs.size:=λb l=>by
  obtain⟨o,e,_⟩:=T.obj _ _ vx b l;exact Do e
 generalize YU:upd I B.heap.objs.size (.lst [])=U at I3 f3 w0;refine wpAny_newFunctionEnv c.nocell (by intro y hy;simp at hy) (λh1 AQ AS=>?_) c.kind
 have I4:=yZ (src:=src) (NC:=NC) (ex:=F) (tk:=C.toks+([]:List (Str×Value)).length) I3 c fC f3 FL AQ AS;have M6:tn 0 h1:=T.keep _ _ _ vx λb l o e=>AS.extBut b o (bB (FL b l)) (AC _ e);generalize L:cW X scope NC F C U=k at I4
 have R:∀{a:Hp},(∀b∈F,a b=none)->∀b∈F,fY k [] a b:=λ {a} hn b l=>by
  subst L;refine#[hn b l,bB (FL b l),λz=>?_, .inl l,λx d e=>?_,λp hp=>absurd (show p∈([]:List (Addr×Obj)) from hp) (by simp)]
  .exact(I4.ok.exfs b l) z
  .exact(I4.ok.exf b l).2 x d e
 have Y:codeAny (model X.prog X.w) X.A (.compLoop (.ListComp elt [#[tg,iter,ifs,0]] scope pos) 0 (.ref it) (.ref B.heap.objs.size) k.env) (RR (.ref B.heap.objs.size) C.heap.objs.size)
   {C with heap:=h1,toks:=C.toks+([]:List (Str×Value)).length}:=by
  refine acw rfl (λn M=>∃i G a,Inv k [] G a M/\tn i M.heap/\(∀b∈F,a b=none)/\W i n G a) (λn M hI=>?_) m0 #[0,_,_,I4,M6,λb l=>(f3 b l).1,w0];obtain⟨i,G,a,I5,vy,yy,w5⟩:=hI;show wpAny _ X.A ((compTurn (.ListComp elt [#[tg,iter,ifs,0]] scope pos) 0 (.ref it) (.ref B.heap.objs.size) k.env).onRaise (λx=>do noteFrame x k.env;theTreesLotGoes x)) _ _ M
  refine wpAny_noted ?_;rw[compTurn_list]
  have kJ:∀{α:Type}{t:Sem α}{Q:α->Shared->Prop}{E:Value->Shared->Prop}{s:Shared},wpAny (model k.prog k.w) k.A t Q k.xe s->wpAny (model X.prog X.w) X.A t Q E s:=λ {α t Q E s} h=>by
   subst L;exact wpAny_mono h (λ_ _ q=>q) λ_ _ f=>f.elim
  have Iz:k.calm=true:=by subst L;exact hc
  have eP:k.prog=X.prog:=by subst L;rfl
  have ew:k.w=X.w:=by subst L;rfl
  have eK:k.K=X.K:=by subst L;rfl
  have eA:k.A=X.A:=by subst L;rfl
  have Sf:PG k tg g:=by subst L;exact hg _ _
  have Su:m8 k ifs tt:=L▸ht _ _;have Sa:PE k elt te:=L▸he _ _;refine ir (aav (ir ?_))
  rcases turn i n G a w5 with ⟨stop,qn⟩ | ⟨go,N,hN,step⟩
  .have hd:=T.done k eP ew eK Iz i [] M G a (notedBy (model X.prog X.w) X.A k.env λe M=>RR (.ref B.heap.objs.size) C.heap.objs.size (.error e) M) I5 (R yy) vy stop
   rw[eA] at hd;refine thn hd λr s6 O=>?_;obtain⟨hr,I6⟩:=O;subst hr;refine ls ?_;subst L;exact RQ _ C U G a s6 I3 f3 I6 qn
  .have hd:=T.item k eP ew eK Iz i [] M G a (notedBy (model X.prog X.w) X.A k.env λe M=>RR (.ref B.heap.objs.size) C.heap.objs.size (.error e) M) I5 (R yy) vy go
   rw[eA] at hd;refine thn hd λr s6 O=>?_;rfl';obtain⟨u,hr,h6⟩:=O;ac_rfl;subst hr;refine ir (thn h6 λ_ s7 O=>?_);rfl';obtain⟨x,H7,I7,r7,y7,xC,K3⟩:=O;ac_rfl;have JO:=I7.pinned (R K3) (T.obj _ _ xC)
   have again:∀{S:St}{Z:Hp}{s8:Shared},Inv k ([]++l0 F s7.heap) S Z s8->N S Z->∃m,m<n/\∃i G a,Inv k [] G a s8/\tn i s8.heap/\(∀b∈F,a b=none)/\W i m G a:=λ {S Z s8} I8 n8=>by
    obtain⟨m',hm,w8⟩:=hN S Z n8;refine#[m',hm,i+1,S,Z,I8.jB,T.keep _ _ _ xC λb l o e=>(I8.pin (b,o) (dE _ (dE _ (eV l e)))).1,λb l=>?_,w8];obtain⟨o,e,d⟩:=T.obj _ _ xC b l;exact(I8.pin (b,o) (dE _ (dE _ (eV l e)))).2.1
   refine ir (kJ (thn (Sf _ s7 G H7 x u _ JO r7 (step x H7 y7)) λ_ s8 O=>?_));rfl';obtain⟨S,Z,I8,q8⟩:=O;ac_rfl;refine ir (kJ (thn (Su _ s8 S Z _ I8 q8) λb s9 O=>?_));obtain⟨H9,I9,q9⟩:=O;cases b with
   |false=>
    rw[mo cO] at q9;exact ls #[L▸rfl,again I9 q9]
   |true=>
    rw[tz rfl] at q9;refine ir (ir (kJ (thn (Sa _ s9 S H9 _ I9 q9) λy Pr O=>?_)));rfl';obtain⟨v,JL,QP,Tq,ys,hD,hz,To⟩:=O;ac_rfl;refine ir (kJ (thn (jO _ Pr S JL (.ref B.heap.objs.size) [v] _ [y] (λ_ a=>N S a) QP rfl (.cons Tq .nil) #[_,ys,v,rfl,rfl,hD,hz,To]) λ_ Pt O=>?_));rfl';obtain⟨_,Nr,JN,_,Tp⟩:=O;ac_rfl;exact ls (ls #[L▸rfl,again JN Tp])
 subst L;exact acn Y (T.self _ 0 _ _ _ M6 Y)
theorem Mw(j:X.calm=true)(c:ck X scope)(k:dz scope X.N src NC)(l:PI X tg iter wi)
  (n:∀b s H,PG (cW X scope NC b s H) tg g) (o:∀b s H,m8 (cW X scope NC b s H) ifs tt) (p:∀b s H,PE (cW X scope NC b s H) elt te)
  (r:∀x,foldedSetIterable iter X.env x=pure x:=by intro _;rfl):PE X (.ListComp elt [#[tg,iter,ifs,0]] scope pos) (M9 wi g tt te src):=by
 intro a s f H Q I h;rw[eval_ListComp];refine aa0 (use:=none) rfl r (iw (c.cells I.ok)) c.kind c.names (thn (l a s f H _ I h) λv R t=>thn t λS U u=>?_);rfl';obtain⟨Z,d,tn,J,H2,rfl,z,T,B,E,F⟩:=u;ac_rfl;refine uC (RR:=λe C=>compPost (model X.prog X.w) X.A X.xe none (EP X a f Q) e C) (Q:=Q) j c k z T B E (n d) (o d) (p d) F ?_;intro D s3 H3 az G s' L M i q;obtain⟨m,O,_⟩:=i.loc;exact#[m,O,λh' P=>#[.ref D,G,comp_back L M i P,rfl,q]]
def PM(b:TI)(g:TG)(c:TT)(d:TE)(src:List (Option Nat))(i:Nat):TS:=λD a H=>M9 b g c d src a H λv e=>D.nx (a.set i (some v)) e
theorem ug(hc:X.calm=true)(hN:X.N.Nodup)(gZ:X.N[i]? =some x)(hx:Loc X.env.scope x)(c:ck X scope)(fC:dz scope X.N src NC)(hi:PI X tg iter wi)
  (hg:∀t s H,PG (cW X scope NC t s H) tg g) (ht:∀t s H,m8 (cW X scope NC t s H) ifs tt) (he:∀t s H,PE (cW X scope NC t s H) elt te)
  (kH:swapsWith (.ListComp elt [#[tg,iter,ifs,0]] scope pos) (some (.Name x r)) P.line X.env=pure true)
  (hf:X.fn x=true\/X.env.scope.names.lookup x=some .local:=by subst_eqs)
  (hs:∀x,foldedSetIterable iter X.env x=pure x:=by intro _;rfl):PS X (.Assign [.Name x r] (.ListComp elt [#[tg,iter,ifs,0]] scope pos) P) (PM wi g tt te src i):=by
 intro f s u H D I h;rw[exec_Assign_Name_used _ _ _ _ kH];refine ir (aav (ir ?_));show wpAny _ X.A (do let _ <-comprehension (.ListComp elt [#[tg,iter,ifs,0]] scope pos) scope X.env _ (newList []) false (eval iter X.env) (some (assign (.Name x r) X.env))) _ _ s
 refine ir (wpAny_mono (aa0 (use:=some (assign (.Name x r) X.env)) (Q:=λ_ j=>SP X f D .next j) rfl hs (iw (c.cells I.ok)) c.kind c.names
  (thn (hi f s u H _ I h) λv s1 h1=>thn h1 λIM s2 h2=>?_)) (λ_ j hq=>ls (ls hq)) λ_ _ e=>e)
 rfl';obtain⟨it,F,tn,J,H2,rfl,I2,T,kT,f2,hW⟩:=h2;ac_rfl;refine uC (RR:=λG C=>compPost (model X.prog X.w) X.A X.xe (some (assign (.Name x r) X.env)) (λ_ j=>SP X f D .next j) G C) (Q:=λv k=>D.nx (u.set i (some v)) k) hc c fC I2 T kT f2 (hg F) (ht F) (he F) hW ?_;intro a l H3 az k j n f3 L q;obtain⟨m,hn,_⟩:=L.loc;have R:Inv X f u k j:=comp_back n f3 L (.refl ..);have S:l.heap.objs.size≠X.env.locals:=qQ n.lt
 have nc:∀y d,X.env.cells.lookup y=some d->d≠l.heap.objs.size:=λy d e z=>by
  obtain⟨v,hv⟩:=n.cell y d e
  have:=hv.lt
  rw[z] at this;exact absurd this (j3 _)
 have np:∀p∈X.pn++f,p.1≠l.heap.objs.size:=λp B z=>by
  have:=Do (n.pin p B).1
  rw[z] at this;exact absurd this (j3 _)
 rfl';obtain⟨M,es,ep,Zz,U,rC⟩:=id hn;have Y:k l.heap.objs.size=none:=L.free;ac_rfl
 have IP:Inv X ((l.heap.objs.size,M)::f) u k j:=R.sv λp B=>by
  rcases cV.mp B with z|z
  .rw[z]
   exact#[Zz,Y,S,n.QB (bJ _),λv w=>by rw[U] at w;cases w]
  .exact R.pin p (dE _ z)
 refine wpAny_assign_Name (jA (x:=x) IP hN gZ hx (v:= .ref a) rfl (λZ O=>?_) hf);have YT:=(O.pin (l.heap.objs.size,M) (dE _ cP)).1;refine#[m,#[M,es,ep,YT,U,rC],λh6 sb=>?_];have QQ:Inv X f (u.set i (some (.ref a))) k Z:=O.sv λp B=>O.pin p (dE _ (dh _ B));exact#[_,k,QQ.turned (t':=Z.toks) (it:=l.heap.objs.size) (λb o hb e=>sb.extBut b o hb e) Y S (.inr n.sz) nc np,q]
end
section
variable {X:Cx} {pins:List (Addr×Obj)} {σ:St} {H:Hp} {s:Shared} {h':Heap} {fp:List Addr}
theorem Inv.Es{t':Nat}(I:Inv X pins σ H s)(d:∀b∈fp,fY X pins H b)(k:∀b o,b∉fp->s.heap.get? b=some o->h'.get? b=some o):Inv X pins σ H {s with heap:=h',toks:=t'}:=by
 refine I.step (g':=s.gens) (d':=s.drawn) (ch:=fp) (λb g=>?_) (λb o _ _ a e _=>k b o a e) (λb o _ _ a e _=>#[o.slots,k b o a e]) (λ_ _ _ _ n=>n)
  (λb o a e=>#[o,k b o a e]) (λ_ _ e=>e) (λ_ _ _ e=>e) (λb y e=>#[#[],by rw[e];simp]) (λm h=>?_) (λb u e=>?_) I.bare
 .obtain⟨_,i,_,j,l,p⟩:=d b g
  exact#[j,i,l,p]
 .obtain⟨o,t,w,x,r⟩:=h
  exact#[o,t,w,k _ o (λz=>(d _ z).2.1 rfl) x,r]
 .have f:∀b u,H b=some u->b∉fp:=λb u e z=>by rw[(d b z).1] at e;cases e
  refine(I.hok b u e).p8 (λc v a q=>k c v ?_ q) (λ_ q=>q) λ_ _ q=>q
  rcases a with z|z
  .rw[z];exact f b u e
  .exact f c _ z
theorem Inv.Ni(I:Inv X pins σ H s)(g:∀b∈fp,fY X pins H b)(k:∀b o,b∉fp->s.heap.get? b=some o->h'.get? b=some o)(i:s.heap.objs.size<=t)
  (new:cF X.prog X.w (upd H t o) h' t o):Inv X pins σ (upd H t o) {s with heap:=h',toks:=t'}:=by
 have l:H t=none:=I.hok.fresh i;have d:∀b u,H b=some u->upd H t o b=some u:=λb u e=>by rw[ay (aV e l)];exact e
 refine I.step (g':=s.gens) (d':=s.drawn) (ch:=fp) (λb f=>?_) (λb o _ _ a e _=>k b o a e) (λb o _ _ a e _=>#[o.slots,k b o a e]) (λb o _ e n=>?_)
  (λb o a e=>#[o,k b o a e]) (λb G e=>d b _ e) (λb _ _ e=>d b _ e) (λb J e=>#[#[],by rw[d b _ e];simp]) (λm p=>?_) (λb u e=>?_) I.bare
 .obtain⟨_,x,_,y,A,B⟩:=g b f
  exact#[y,x,A,B]
 .rw[ay (bB (fk (Do e) i))];exact n
 .obtain⟨o,C,E,F,r⟩:=p
  exact#[o,C,E,k _ o (λz=>(g _ z).2.1 rfl) F,r]
 .by_cases f:b=t
  .subst f
   rw[aw] at e;cases Fk e;exact new
  .rw[ay f] at e
   have j:∀b u,H b=some u->b∉fp:=λb u e z=>by rw[(g b z).1] at e;cases e
   refine(I.hok b u e).p8 (λc v a q=>k c v ?_ q) (λh q=>d h _ q) λh _ q=>d h _ q
   rcases a with z|z
   .rw[z];exact j b u e
   .exact j c _ z
end
def QR(K:ac)(a:Addr):It:=
 #[λi H=>∃b x,cz K H a b/\b[i]? =some x,λi H y c=>∃t x,y= .ref t/\H t=none/\c=upd H t (.tup [.int i,x])/\∀b,cz K H a b->b[i]? =some x,λi H=>∃b,cz K H a b/\b.length<=i]
theorem Dq(e:h.get? t=some {cls:= .type "tuple",data:= .seq [u,v].toArray}):IsTup h t [u,v].toArray:=#[_,e,rfl,_,rfl]
theorem Gp{P:Program}{w:World}{K:ac}{T:List Expr}{k1}{U:Pos}(a e l:Addr)(ne:e≠l):
  Turn P w K (.Tuple T k1 U) (QR K a) [e,l] e (λi h=>(∃g,IsEnum h e l i g)/\h.IsListIter l a i) where
 mem:=by simp
 obj:=λi h st b f=>by
  obtain⟨⟨g,m⟩,o,A,c,d⟩:=st
  rcases cV.mp f with z|z
  .subst z
   exact#[_,m,λv w=>by cases w]
  .have B:b=l:=by simpa using z
   subst B;exact#[o,A,λv z=>by rw[d] at z;cases z]
 keep:=λi h t st k=>by
  obtain⟨⟨g,m⟩,Y⟩:=st;exact#[#[g,k e (by simp) _ m],Y.at λo q=>k l (by simp) o q]
 item:=by
  intro X C hw F O i j s Q H E I r st G;rfl';subst C hw F;obtain⟨xs,x,y,L⟩:=G;obtain⟨M,N,p,hz⟩:=I.list y;obtain⟨u,hu,ru⟩:=N.get L;obtain⟨⟨g,m⟩,n⟩:=st;ac_rfl;refine wpAny_pyNext_enum_item m n p.isList (x:=u) (by simpa using hu) ne λt tT Ls ZN aai kk=>?_
  have k2:∀b o,b∉ [e,l]->s.heap.get? b=some o->t.get? b=some o:=λb o f q=>kk b o (λz=>f (by simp[z])) (λz=>f (by simp[z])) q
  have I1:Inv X j Q (upd H s.heap.objs.size (.tup [.int i,x])) {s with heap:=t,toks:=s.toks+1}:=
   I.Ni r k2 (bJ _) #[by show 2<=sizeLine;decide,[.int i s.toks,u], .cons #[_,rfl] (.cons ru .nil),Dq ZN]
  refine#[_,rfl,wpAny_letOwnedTupleGo_enum tT λh2 Zg R=>?_]
  have lt:∀b∈ [e,l],b<s.heap.objs.size:=λb f=>by
   rcases cV.mp f with z|z
   .rw[z];exact Do m
   .obtain⟨o,A,_⟩:=n
    have B:b=l:=by simpa using z
    rw[B];exact Do A
  have S:∀b∈ [e,l],fY X j (upd H s.heap.objs.size (.tup [.int i,x])) b:=λb f=>#[by rw[ay (bB (lt b f))];exact(r b f).1,(r b f).2]
  refine#[.ref s.heap.objs.size,_,I1.Es (t':=s.toks+1) S (λb o f q=>R.extBut b o (λz=>f (by simp[z])) q),rfl,#[_,x,rfl,I.hok.fresh (bJ _),rfl,λys hy=>by rw[I.zA hy y];exact L],#[#[u,?_],Ls.extBut R.extBut (Ne.symm ne)],λb f=>(S b f).1]
  have z:((i+1:Nat):Int)=(i:Int)+1:=by lia
  rw[z];exact Zg
 done:=by
  intro X C hw F O i j s Q H E I r st G;rfl';subst C hw F;obtain⟨xs,y,L⟩:=G;obtain⟨M,N,p,hz⟩:=I.list y;have hl:=N.length;obtain⟨⟨g,m⟩,n⟩:=st;ac_rfl;exact wpAny_pyNext_enum_end (I.ok.hd O) m n p.isList (by simp;lia) λt eb=>#[rfl,I.Es (t':=s.toks) r λb o f q=>eb b o (λz=>f (by simp[z])) q]
 self:=λ_ _ _ _ _ st h=>by
  obtain⟨⟨g,m⟩,_⟩:=st;exact wpAny_pyIter_enum m h
section
variable {X:Cx}
def Sy(K:ac)(c:TA):TI:=λd H R=>c d H λe b=>∃a,e= [.ref a]/\(∃f,b a=some (.lst f))/\R (QR K a) b
theorem MB{k1}(v:Gl X "enumerate")(w:X.mg "enumerate"=none)(x:PA X [a] j)(y:starEach [a] X.env= [(false,eval a X.env)]:=by rfl):
  PI X (.Tuple r k1 t) (.Call (.Name "enumerate" p) [a] [] d) (Sy X.K j):=by
 intro f s A H R I h;refine Call_ (pF I v w boot_enumerate (aaQ (thn (x d f s A H _ I h) λQ c #[S,B,g,C,E]=>?_) y rfl));rfl';obtain⟨l,e,⟨U,G⟩,q⟩:=E;subst e;obtain⟨u,rfl,J⟩:=C.one;subst J;obtain⟨z,L,n,Y,k,e⟩:=g.uL G;ac_rfl;refine call_enumerate_1 e λZ m i fQ M=>?_;refine wpAny_pyIter_enum m ?_;have N:c.heap.objs.size+1≠c.heap.objs.size:=Nat.succ_ne_self _;refine#[c.heap.objs.size+1,[c.heap.objs.size+1,c.heap.objs.size],_,_,B,rfl,g.kept (t':=c.toks) M,Gp l _ _ N,#[#[_,m],i],λb O=>?_,q]
 have o:c.heap.objs.size<=b:=by
  rcases cV.mp O with z|z
  .rw[z];exact o9 _
  .have P:b=c.heap.objs.size:=by simpa using z
   rw[P];exact bJ _
 exact g.K2 o (g.hok.fresh o)
end
end L2
namespace Wb
abbrev W:=List (List Nat)
def row(w:W)(p:Nat):List Nat:=w.getD p []
inductive Reach (w:W):Nat->Nat->Prop
 |refl (p):Reach w p p
 |step {p q r}:Reach w p q->r∈row w q->Reach w p r
structure Good (w:W):Prop where
 rng:∀p q,q∈row w p->q<w.length
 irr:∀p,p∉row w p
 nod:∀p,(row w p).Nodup
 sym:∀p q,q∈row w p->p∈row w q
 con:∀p,p<w.length->Reach w 0 p
theorem b8(h:q∈row w p):p<w.length:=by
 apply GE;intro a;unfold row at h;rw[fX,j0 (by lia)] at h
 simp at h
theorem D8(h:p<w.length):w[p]? =some (row w p):=by
 unfold row;rw[fX,eu h];rfl
theorem Pq(h:w[p]? =some r):row w p=r:=by
 unfold row;rw[fX,h];rfl
theorem MS(h:w.length<=p):row w p= []:=by
 unfold row;rw[fX,j0 h];rfl
theorem Reach.trans(h:Reach w p q)(a:Reach w q r):Reach w p r:=by
 induction a with
 |refl=>exact h
 |step _ b c=>exact .step c b
theorem Reach.symm{w:W}(a:∀p q,q∈row w p->p∈row w q){p q:Nat}(h:Reach w p q):Reach w q p:=by
 induction h with
 |refl=>exact .refl _
 |step _ b c=>exact(Reach.step (.refl _) (a _ _ b)).trans c
theorem Reach.mono{w a:W}(b:∀p q,q∈row w p->q∈row a p){p q:Nat}(h:Reach w p q):Reach a p q:=by
 induction h with
 |refl=>exact .refl _
 |step _ c d=>exact .step d (b _ _ c)
def ins{a:Type}(b:List a)(i:Nat)(x:a):List a:=b.take i++x::b.drop i
theorem tY(a:List b)(i:Nat)(x:b):(ins a i x).Perm (x::a):=by
 unfold ins;have h:= @List.perm_middle _ x (a.take i) (a.drop i);rw[mQ] at h;exact h
theorem fc:a∈ins b i x↔a=x\/a∈b:=by
 rw[(tY b i x).mem_iff,cV]
theorem lU(h:a.Nodup)(c:x∉a):(ins a i x).Nodup:=by
 rw[(tY a i x).nodup_iff,j2];exact#[c,h]
theorem Dh(a:List b)(i:Nat)(x:b):(ins a i x).length=a.length+1:=by
 rw[(tY a i x).length_eq];rfl
theorem oh{w:W}{p x:Nat}(h:p<w.length):row (w.set p r) x=if p=x then r else row w x:=by
 unfold row;rw[fX,mR]
 by_cases e:p=x
 .rw[tz e,tz e,tz h];rfl
 .rw[mo e,mo e,fX]
def tie(w:W)(p i u j:Nat):W:=(w.set p (ins (row w p) i u)).set u (ins (row w u) j p)
theorem jZ(w:W)(p i u j:Nat):(tie w p i u j).length=w.length:=by unfold tie;simp
theorem MT{p i u j x:Nat}(a:p<w.length)(b:u<w.length):row (tie w p i u j) x=if u=x then ins (row w u) j p else if p=x then ins (row w p) i u else row w x:=by
 unfold tie;rw[oh (by simpa using b),oh a]
theorem zj{p i u j:Nat}(g:Good w)(l:p<w.length)(m:u<w.length)(ne:u≠p)(k:u∉row w p):Good (tie w p i u j):=by
 have b:=λx=>MT (i:=i) (j:=j) (x:=x) l m;have d:p∉row w u:=λh=>k (g.sym _ _ h)
 have mono:∀x q,q∈row w x->q∈row (tie w p i u j) x:=λx q f=>by
  rw[b]
  split
  .rename_i e;subst e;exact fc.mpr (.inr f)
  .split
   .rename_i e;subst e;exact fc.mpr (.inr f)
   .exact f
 refine#[λx q a=>?_,λx a=>?_,λx=>?_,λx q a=>?_,λx a=>?_]
 .rw[b] at a;rw[jZ]
  split at a
  .rcases fc.mp a with e|e
   .lia
   .exact g.rng _ _ e
  .split at a
   .rcases fc.mp a with e|e
    .lia
    .exact g.rng _ _ e
   .exact g.rng _ _ a
 .rw[b] at a
  split at a
  .rename_i c;subst c
   rcases fc.mp a with e|e
   .exact ne e
   .exact g.irr _ e
  .split at a
   .rename_i c;subst c
    rcases fc.mp a with e|e
    .exact ne e.symm
    .exact g.irr _ e
   .exact g.irr _ a
 .rw[b];split
  .exact lU (g.nod _) d
  .split
   .exact lU (g.nod _) k
   .exact g.nod _
 .rw[b] at a
  split at a
  .rename_i c;subst c
   rcases fc.mp a with e|e
   .subst e;rw[b,mo ne,tz rfl];exact fc.mpr (.inl rfl)
   .exact mono _ _ (g.sym _ _ e)
  .split at a
   .rename_i c;subst c
    rcases fc.mp a with e|e
    .subst e;rw[b,tz rfl];exact fc.mpr (.inl rfl)
    .exact mono _ _ (g.sym _ _ e)
   .exact mono _ _ (g.sym _ _ a)
 .rw[jZ] at a;exact(g.con x a).mono mono
theorem Iu(g:Good w)(k:i.length=w.length)(j:∀p,p<w.length->ord p<w.length)
  (inj:∀p q,p<w.length->q<w.length->ord p=ord q->p=q) (sur:∀y,y<w.length->∃p,p<w.length/\ord p=y)
  (l:∀p,p<w.length->(row i (ord p)).Perm ((row w p).map ord)):Good i:=by
 have mem:∀p q,p<w.length->(q∈row i (ord p)↔∃a,a∈row w p/\ord a=q):=λp q d=>by
  rw[(l p d).mem_iff,bL]
 have reach:∀{p q},Reach w p q->Reach i (ord p) (ord q):=λ {p q} h=>by
  induction h with
  |refl=>exact .refl _
  |step _ m o=>exact .step o ((mem _ _ (b8 m)).mpr #[_,m,rfl])
 refine#[λy q c=>?_,λy c=>?_,λy=>?_,λy q c=>?_,λy c=>?_]
 .obtain⟨p,d,rfl⟩:=sur y (by have:=b8 c;lia)
  obtain⟨a,f,rfl⟩:=(mem p q d).mp c;rw[k];exact j a (g.rng _ _ f)
 .obtain⟨p,d,rfl⟩:=sur y (by have:=b8 c;lia)
  obtain⟨a,f,e⟩:=(mem p _ d).mp c
  have:=inj a p (g.rng _ _ f) d e
  subst this;exact g.irr _ f
 .by_cases c:y<w.length
  .obtain⟨p,d,rfl⟩:=sur y c
   rw[(l p d).nodup_iff];unfold dV;rw[iV];refine aaI ?_ (g.nod p);intro a b f r ne e;exact ne (inj a b (g.rng _ _ f) (g.rng _ _ r) e)
  .rw[MS (by lia)];exact f7
 .obtain⟨p,d,rfl⟩:=sur y (by have:=b8 c;lia)
  obtain⟨a,f,rfl⟩:=(mem p q d).mp c;exact(mem a _ (g.rng _ _ f)).mpr #[p,g.sym _ _ f,rfl]
 .rw[k] at c
  obtain⟨p,d,rfl⟩:=sur y c;obtain⟨z,s,t⟩:=sur 0 (by lia)
  have n:=reach (((g.con z s).symm g.sym).trans (g.con p d));rw[t] at n;exact n
def h8(l:List Nat)(x:Nat):Nat:=l.getD ((l.idxOf x+1)%l.length) 0
def wZ(w:W)(d:Nat×Nat):Nat×Nat:=(d.2,h8 (row w d.2) d.1)
def bK(w:W)(d:Nat×Nat):Prop:=d.2∈row w d.1
theorem mm(h:x∈l):l[(l.idxOf x+1)%l.length]? =some (h8 l x):=by
 have a:0<l.length:=xY h;unfold h8;rw[fX,eu (mw _ a)];rfl
theorem Gg(h:x∈l):h8 l x∈l:=gb (mm h)
theorem L8(f:a<n)(g:b<n)(e:(a+1)%n=(b+1)%n):a=b:=by
 by_cases d:a+1=n
 .by_cases c:b+1=n
  .lia
  .rw[d,Nat.mod_self,u6 (by lia)] at e;lia
 .by_cases c:b+1=n
  .rw[c,Nat.mod_self,u6 (by lia)] at e;lia
  .rw[u6 (by lia),u6 (by lia)] at e;lia
theorem Ge(g:l.Nodup)(a:x∈l)(b:y∈l)(e:h8 l x=h8 l y):x=y:=by
 have o:0<l.length:=xY a;have c:=mm a;have h:=mm b;rw[e] at c;have d:=zS.mpr a;have f:=zS.mpr b;obtain⟨p,i⟩:=c9.mp c;obtain⟨r,j⟩:=c9.mp h;have q:=(List.getElem_inj g).mp (i.trans j.symm);have k:=L8 d f q;have m:=B6 d;have n:=B6 f;rw[<-m,<-n];simp only[k]
theorem Jc(g:Good w)(h:bK w d):bK w (wZ w d):=Gg (g.sym _ _ h)
theorem w4(g:Good w)(h:bK w d)(c:bK w e)(q:wZ w d=wZ w e):d=e:=by
 have a:d.2=e.2:=IR Prod.fst q;have b:h8 (row w d.2) d.1=h8 (row w e.2) e.1:=IR Prod.snd q;rw[<-a] at b;have f:d.1∈row w d.2:=g.sym _ _ h;have i:e.1∈row w d.2:=by rw[a];exact g.sym _ _ c
 exact aar (Ge (g.nod _) f i b) a
def bz(w:W):List (Nat×Nat):=(aJ w.length).flatMap λp=>(row w p).map λq=>(p,q)
theorem bG:d∈bz w↔bK w d:=by
 unfold bz bK;rw[zX]
 constructor
 .rintro⟨p,_,h⟩
  obtain⟨q,a,rfl⟩:=bL.mp h;exact a
 .intro h
  exact#[d.1,fF.mpr (b8 h),bL.mpr #[d.2,h,rfl]]
theorem aR [DecidableEq b]:∀{l m:List b},l.Nodup->(∀x∈l,x∈m)->l.length<=m.length
 | [],_,_,_=>fm _
 |a::r,m,g,h=>by
  have c:=j2.mp g;have d:=h a cP;have i:=aR (l:=r) (m:=m.erase a) c.2 λx f=>(List.mem_erase_of_ne (λ(e:x=a)=>c.1 (by rw[<-e];exact f))).mpr (h x (dh _ f))
  rw[List.length_erase_of_mem d] at i
  have:=xY d
  simp only[dG];lia
theorem cL(g:Good w)(p:Nat):(row w p).length<=w.length:=by
 have:=aR (m:=aJ w.length) (g.nod p) λx a=>fF.mpr (g.rng _ _ a)
 simpa using this
theorem zf{f:b->List c}{k:Nat}:∀{l:List b},(∀x∈l,(f x).length<=k)->(l.flatMap f).length<=l.length*k
 | [],_=>by simp
 |a::r,h=>by
  have e:=zf (f:=f) (k:=k) (l:=r) λx d=>h x (dh _ d)
  have:=h a cP
  rw[yd,dJ,dG,Nat.succ_mul];lia
theorem iy(g:Good w):(bz w).length<=w.length*w.length:=by
 have:=zf (f:=λp=>(row w p).map λq=>(p,q)) (k:=w.length) (l:=aJ w.length) λx _=>by rw[aH];exact cL g x
 rw[xT] at this;exact this
def bf(w:W):Nat->Nat×Nat->Nat×Nat
 |0,d=>d
 |n+1,d=>wZ w (bf w n d)
theorem cE(g:Good w)(h:bK w d):∀n,bK w (bf w n d)
 |0=>h
 |n+1=>Jc g (cE g h n)
theorem rS(m:Nat):∀n,bf w (n+m) d=bf w n (bf w m d)
 |0=>by rw[tB];rfl
 |n+1=>by rw[Nat.succ_add];show wZ w (bf w (n+m) d)=wZ w (bf w n (bf w m d));rw[rS m n]
theorem wL(g:Good w)(h:bK w d)(a:bK w e):∀n,bf w n d=bf w n e->d=e
 |0,q=>q
 |n+1,q=>wL g h a n (w4 g (cE g h n) (cE g a n) q)
def walk(w:W)(d:Nat×Nat)(k:Nat):List (Nat×Nat):=(aJ k).map λi=>bf w i d
theorem qL(w:W)(d:Nat×Nat)(k:Nat):walk w d (k+1)=walk w d k++ [bf w k d]:=by
 unfold walk;rw[abx,df];rfl
theorem jC(w:W)(d:Nat×Nat)(k:Nat):(walk w d k).length=k:=by unfold walk;simp
theorem mr(g:Good w)(h:bK w d):∀e∈walk w d k,bK w e:=λe a=>by
 obtain⟨i,_,rfl⟩:=bL.mp a;exact cE g h i
theorem oS(g:Good w)(h:bK w d)(a:∀j,0<j->j<k->bf w j d≠d):(walk w d k).Nodup:=by
 unfold walk dV;rw[iV];refine aaI ?_ abg;intro i j f b lt e;have l:=fF.mp b;have c:bf w i d=bf w i (bf w (j-i) d):=by rw[<-rS (j-i) i,show i+(j-i)=j by lia];exact e
 exact a (j-i) (by lia) (by lia) (wL g h (cE g h _) i c).symm
theorem xI(g:Good w)(h:bK w d){k:Nat}(a:∀j,0<j->j<k->bf w j d≠d):k<=(bz w).length:=by
 have:=aR (m:=bz w) (oS g h a) λe b=>bG.mpr (mr g h e b)
 rwa [jC] at this
theorem uB(g:Good w){S:Nat->Prop}(c:S 0)(d:∀p q,S p->q∈row w p->S q):∀p,p<w.length->S p:=λp e=>by
 have:∀{a b},Reach w a b->S a->S b:=λ {a b} h f=>by
  induction h with
  |refl=>exact f
  |step _ i j=>exact d _ _ j i
 exact this (g.con p e) c
def lexLe(a b:Nat×Nat):Prop:=a.1<b.1\/(a.1=b.1/\a.2<=b.2)
theorem pG(h:lexLe a b)(c:lexLe b a):a=b:=by
 unfold lexLe at h c;exact aar (by lia) (by lia)
def fW(a:Nat->List Nat)(n:Nat):List (Nat×Nat):=(aJ n).flatMap λp=>((a p).filter λq=>decide (p<q)).map λq=>(p,q)
theorem n9{e c:Type}{R:c->c->Prop}{f:e->List c}:∀{l:List e},(∀x∈l,(f x).Pairwise R)->l.Pairwise (λa b=>∀x∈f a,∀y∈f b,R x y)->(l.flatMap f).Pairwise R
 | [],_,_=>List.Pairwise.nil
 |a::r,h,p=>by
  have g:=List.pairwise_cons.mp p;rw[yd,u0];refine#[h a cP,n9 (λx d=>h x (dh _ d)) g.2,λx d y i=>?_];obtain⟨b,j,k⟩:=zX.mp i;exact g.1 b j x d y k
end Wb
namespace L2
open PySem PySem.Spec PyProof.Rows
section
variable {X:Cx}
theorem Vals.ins{x:V}{u:Value}(r:RelV x u){a:List V}{b:List Value}(i:Nat)(h:Vals a b):Vals (Wb.ins a i x) (Wb.ins b i u):=(h.take i).append (.cons r (h.drop i))
def MP:V->List V->Hp->VK->Prop:=λx b H Q=>∃l a i y,x= .ref l/\b= [.int i,y]/\H l=some (.lst a)/\0<=i/\i<=a.length/\a.length<sizeLine/\Q .bu (upd H l (.lst (Wb.ins a i.toNat y)))
theorem FN:Nu X "list.insert" MP:=by
 intro b s u H x w v A Q I f g h;rfl';obtain⟨l,C,i,y,rfl,rfl,c,E,G,J,q⟩:=h;subst f;obtain⟨L,d,rfl,⟨t,rfl⟩,k⟩:=g.two;obtain⟨z,a,n,r,M,e⟩:=I.uL c;have N:=lQ;ac_rfl
 have m:¬(!Builtin.List.listFitsIndex i)=true:=by
  rw[fitsIndex_both (by lia) (by lia)]
  exact cO
 refine aa8 F.slot_list_insert #[_,e,rfl] F.entry_list_insert (F.args_list_insert_3 _ _ _) (AutoSeq1.list_insert_list_int_val_1 l a.toArray n i t d m (by rw[cT];lia)) #[e,?_]
 refine#[.bu,_,I.L5 (its':=Wb.ins a i.toNat d) c e ?_ (r.ins k i.toNat) ?_,rfl,q]
 .have o:¬i<0:=by lia
  have p:min i.toNat a.length=i.toNat:=by lia
  simp only[o,Os,cT,p];apply ab4.mp;unfold Wb.ins;simp;exact uZ (by rw[u4];lia)
 .rw[Wb.Dh];lia
def Pn(K:ac):V->List V->Hp->VK->Prop:=λx b H Q=>∃(l:Addr)(a:List V)(y:V)(j:Nat)(z:V),x= .ref l/\b= [y]/\H l=some (.lst a)/\gY y=true/\a.all gY=true/\a[j]? =some z/\wz z y=true/\
 (∀(m:Nat) z,m<j->a[m]? =some z->wz z y=false)/\Q (.int j) H
theorem IZ:Nu X "list.index" (Pn X.K):=by
 intro o s U H x Y v Z Q I p t h;rfl';obtain⟨l,d,y,j,z,rfl,rfl,B,C,fs,f,E,G,q⟩:=h;subst p;obtain⟨u,rfl,J⟩:=t.one;obtain⟨fQ,a,n,r,hl,e⟩:=I.uL B;obtain⟨w,hw,L⟩:=r.get f;ac_rfl
 have M:j<a.toArray.size:=by
  obtain⟨b,_⟩:=c9.mp hw;simpa using b
 have flat:∀(m:Nat) z,d[m]? =some z->gY z=true:=λm z h=>(ab5.mp fs) z (gb h)
 have N:a.toArray[j]=w:=by
  obtain⟨b,g⟩:=c9.mp hw;simpa using g
 have bI:=lQ
 have AM:j<d.length:=by
  obtain⟨b,_⟩:=c9.mp f;exact b
 refine aa8 F.slot_list_index #[_,e,rfl] F.entry_list_index (F.args_list_index_2 _ _) (SeqAt.list_indexAt l a.toArray n none #[] u (pR y) j M (by lia) ?_ ?_) #[e,λw hw=>jw J C r fs w (by simpa using hw),?_]
 .rw[N,vB L (flat j z f)];exact E
 .intro m O P
  have pT:m<a.length:=by simpa using O
  obtain⟨c,i⟩:∃c,d[m]? =some c:=#[_,eu (by lia)]
  obtain⟨R,S,k⟩:=r.get i
  have T:a.toArray[m]=R:=by
   obtain⟨b,g⟩:=c9.mp S;simpa using g
  rw[T,vB k (flat m c i)];exact G m c P i
 .exact#[.int j,H,I.tok _,#[_,rfl],q]
end
mutual
inductive Dp (K:ac) (H:Hp):V->PyData->Prop
 |bu:Dp K H .bu .none
 |bl (b:Bool):Dp K H (.bl b) (.bool b)
 |int (i:Int):Dp K H (.int i) (.int i)
 |str (x:Str) (h:PyData.strOk x=true):Dp K H (.str x) (.str x)
 |lst {a:Addr} {xs:List V} {ds:List PyData}:cz K H a xs->iZ K H xs ds->Dp K H (.ref a) (.list ds)
 |tup {a:Addr} {xs:List V} {ds:List PyData}:gd K H a xs->iZ K H xs ds->Dp K H (.ref a) (.tuple ds)
inductive iZ (K:ac) (H:Hp):List V->List PyData->Prop
 |nil:iZ K H [] []
 |cons {v:V} {vs:List V} {d:PyData} {ds:List PyData}:Dp K H v d->iZ K H vs ds->iZ K H (v::vs) (d::ds)
end
section
variable {X:Cx} {pins:List (Addr×Obj)} {σ:St} {H:Hp} {s:Shared}
mutual
theorem Dp.reads(I:Inv X pins σ H s):∀{v:V}{d:PyData}{u:Value},Dp X.K H v d->RelV v u->(∃as,Reads s.heap u d as)/\d.canLay0=true
 |_,_,_, .bu,r=>by cases r;exact#[#[_, .none],rfl]
 |_,_,_, .bl b,r=>by cases r;exact#[#[_, .bool b],rfl]
 |_,_,_, .int i,r=>by obtain⟨t,rfl⟩:=r;exact#[#[_, .int i t],rfl]
 |_,_,_, .str x h,r=>by obtain⟨t,rfl⟩:=r;exact#[#[_, .str x t],by simpa [PyData.canLay0] using h]
 |_,_,_, .lst h a,r=>by
  cases r;obtain⟨its,rv,pl,hz⟩:=I.list h;obtain⟨⟨as,ra⟩,c⟩:=iZ.reads I a rv;obtain⟨o,ho,hc,n,hd⟩:=pl.isList;exact#[#[_, .list ho hc hd (by simpa using ra)],by simpa [PyData.canLay0] using c]
 |_,_,_, .tup h a,r=>by
  cases r;obtain⟨its,rv,pl,hz⟩:=I.tuple h;obtain⟨⟨as,ra⟩,c⟩:=iZ.reads I a rv;obtain⟨o,ho,hc,n,hd⟩:=pl;exact#[#[_, .tuple ho hc hd (by simpa using ra)],by simpa [PyData.canLay0] using c]
theorem iZ.reads(I:Inv X pins σ H s):∀{vs:List V}{ds:List PyData}{us:List Value},iZ X.K H vs ds->Vals vs us->(∃as,ReadsAll s.heap us ds as)/\PyData.canLayAll0 ds=true
 |_,_,_, .nil, .nil=>#[#[_, .nil],by simp[PyData.canLayAll0]]
 |_,_,_, .cons a as, .cons r rs=>by
  obtain⟨⟨x,h1⟩,c1⟩:=Dp.reads I a r;obtain⟨⟨y,h2⟩,c2⟩:=iZ.reads I as rs;exact#[#[_, .cons h1 h2],by simp[PyData.canLayAll0,c1,c2]]
end
end
section
variable {X:Cx}
def WG(K:ac):R2:=λx y H Q=>∃d e,Dp K H x d/\Dp K H y e/\d.depth<=64/\Q (.bl (PyData.eqv d e)) H
def WJ(K:ac):R2:=λx y H Q=>∃d e,Dp K H x d/\Dp K H y e/\d.depth<=64/\Q (.bl (!PyData.eqv d e)) H
theorem OV(n:X.A.units+64<cLine):OpR X (compareOp .Eq) (WG X.K):=by
 intro a s o H x y v u Q I b c h;rfl';obtain⟨d,e,g,i,r,q⟩:=h;obtain⟨⟨t,j⟩,k⟩:=g.reads I b;obtain⟨⟨bs,l⟩,m⟩:=i.reads I c;ac_rfl;exact SeqAt.compareEq_reads j l k m (by have:=Nat.min_le_left d.depth e.depth;lia) #[.bl _,H,I,rfl,q]
theorem OZ(n:X.A.units+64<cLine):OpR X (compareOp .NotEq) (WJ X.K):=by
 intro a s o H x y v u Q I b c h;rfl';obtain⟨d,e,g,i,r,q⟩:=h;obtain⟨⟨t,j⟩,k⟩:=g.reads I b;obtain⟨⟨bs,l⟩,m⟩:=i.reads I c;ac_rfl;exact SeqAt.compareNe_reads j l k m (by have:=Nat.min_le_left d.depth e.depth;lia) #[.bl _,H,I,rfl,q]
end
def nD(n:Nat):PyData:= .int n
def mG(r:List Nat):PyData:= .list (r.map nD)
theorem iP{e:Type}{f:e->PyData}(g:∀a b,PyData.eqv (f a) (f b)=true↔a=b):∀c d:List e,PyData.eqvAll (c.map f) (d.map f)=true↔c=d
 | [],[]=>by simp[PyData.eqvAll]
 | [],_::_=>by simp[PyData.eqvAll]
 |_::_,[]=>by simp[PyData.eqvAll]
 |a::c,b::d=>by
  have h:=iP g c d;simp[PyData.eqvAll,g,h]
theorem N5(a b:Nat):PyData.eqv (nD a) (nD b)=true↔a=b:=by
 simp[nD,PyData.eqv];lia
theorem tS(a b:List Nat):PyData.eqv (mG a) (mG b)=true↔a=b:=by
 unfold mG;rw[PyData.eqv];exact iP N5 a b
theorem iI{f:c->PyData}{k:Nat}(d:∀a,(f a).depth<=k):∀b:List c,PyData.depthAll (b.map f)<=k
 | []=>by simp[PyData.depthAll]
 |a::b=>by
  have:=d a
  have e:=iI d b;simp[PyData.depthAll];lia
theorem nj(a:List Nat):(mG a).depth<=2:=by
 unfold mG;rw[PyData.depth]
 have:=iI (f:=nD) (k:=1) (λn=>by simp[nD,PyData.depth]) a
 lia
def oU(w:List (List Nat)):PyData:= .list (w.map mG)
theorem pC(a b:List (List Nat)):PyData.eqv (oU a) (oU b)=true↔a=b:=by
 unfold oU;rw[PyData.eqv];exact iP tS a b
theorem uE(a:List (List Nat)):(oU a).depth<=3:=by
 unfold oU;rw[PyData.depth]
 have:=iI (f:=mG) (k:=2) nj a
 lia
end L2
namespace L2
open PySem PySem.Spec PyProof.Rows
section
variable {X:Cx}
theorem Aa:CallR X (.builtin "isinstance") (λa H Q=>∃(x:V)(n:String)(t:Value)(b:Bool),a= [x, .ty n]/\jE X.K H x t/\ak X.K t (.type n)=some b/\Q (.bl b) H):=by
 intro c s k H a l Q I d h;rfl';obtain⟨x,n,t,b,rfl,g,e,q⟩:=h;obtain⟨o,p,rfl,i,j⟩:=d.two;subst j;ac_rfl;exact wK I i g e λr=>#[.bl b,H,I.tok _,rfl,q]
theorem yr:CallR X (.builtin "sorted") (λf H Q=>∃(p:Addr)(c:List Int),f= [.ref p]/\cz X.K H p (c.map V.int)/\c.length<64/\∀(q:Addr)(a:List Int),H q=none->a.Perm c->a.Pairwise (·<=·)->Q (.ref q) (upd H q (.lst (a.map V.int)))):=by
 intro g s z H f A Q I j h;rfl';obtain⟨p,c,rfl,l,C,q⟩:=h;obtain⟨u,rfl,m⟩:=j.one;subst m;obtain⟨d,r,pl,_⟩:=I.list l;have n:=r.length;rw[aH] at n;ac_rfl;refine sorted_ints pl.isList (intsAre_of r) (by lia) λout a t i v=>?_
 obtain⟨e,w⟩:=acx s.heap d out;have x:H (s.heap.objs.size+1)=none:=I.hok.fresh (o9 _);have E:=i.length_eq;have F:64<=sizeLine:=by decide
 refine#[.ref (s.heap.objs.size+1),_,I.laid (t':=s.toks) (λb o y=>acv y) (o9 _) (o:= .lst (a.map V.int)) #[by rw[aH];lia,out.toList,e,qK t,by simpa using w],rfl,q _ a x i v]
end
theorem we(b g h k f:Expr)(i l:List Expr)(a:Scope)(d:Pos)(j e:Value)(env:Env):
  compTurn (.ListComp b [#[g,h,i,0],#[k,f,l,0]] a d) 0 j e env=(do
   standAt h.pos
   match <-pyNext j with
   |none=>pure (.done .next)
   |some v=>
    letOwnedTupleGo g j v
    assign g env v
    let ok <-forIn i true λc r=>if r=true then do let ok <-isTrue c env (eval c env);pure (ForInStep.yield ok) else pure (ForInStep.yield r)
    if ok=true then
     let x <-eval f env
     standAt f.pos
     let x <-foldedSetIterable f env x
     let m <-holding [x] (pyIter x)
     let _ <-runOwn (.compStart (.ListComp b [#[g,h,i,0],#[k,f,l,0]] a d) 1 m e env) env
     again (.compLoop (.ListComp b [#[g,h,i,0],#[k,f,l,0]] a d) 0 j e env)
    else again (.compLoop (.ListComp b [#[g,h,i,0],#[k,f,l,0]] a d) 0 j e env)):=by rfl
theorem wg(b j k f h:Expr)(l i:List Expr)(a:Scope)(e:Pos)(g d:Value)(env:Env):
  compTurn (.ListComp b [#[j,k,l,0],#[f,h,i,0]] a e) 1 g d env=(do
   standAt h.pos
   match <-pyNext g with
   |none=>pure (.done .next)
   |some v=>
    letOwnedTupleGo f g v
    assign f env v
    let ok <-forIn i true λc r=>if r=true then do let ok <-isTrue c env (eval c env);pure (ForInStep.yield ok) else pure (ForInStep.yield r)
    if ok=true then
     (do let _ <-call (.builtin "list.append") [d,<-eval b env])
     again (.compLoop (.ListComp b [#[j,k,l,0],#[f,h,i,0]] a e) 1 g d env)
    else again (.compLoop (.ListComp b [#[j,k,l,0],#[f,h,i,0]] a e) 1 g d env)):=by rfl
section
variable {X XC:Cx} {elt i0 t0 i1 t1:Expr} {f0 f1:List Expr} {scope:Scope} {pos:Pos} {wi gG:TI} {g g1:TG} {tt fi:TT} {te:TE} {src:List (Option Nat)} {NC:List Str}
theorem vf{b a:Value}{env:Env}{R:Result->Shared->Prop}{s:Shared}{A:Around}
  (c:codeAny (model X.prog X.w) A (.compLoop (.ListComp elt [#[t0,i0,f0,0],#[t1,i1,f1,0]] scope pos) 1 b a env) R s)
  (d:∀(Q:Value->Shared->Prop)(E:Value->Shared->Prop),Q b s->wpAny (model X.prog X.w) A (pyIter b) Q E s):
  codeAny (model X.prog X.w) A (.compStart (.ListComp elt [#[t0,i0,f0,0],#[t1,i1,f1,0]] scope pos) 1 b a env) R s:=by
 refine codeAny_of_tree ?_;refine wpAny_notedAt ?_;unfold compStart;refine wpAny_bind (wpAny_askSetting (wpAny_ite ?_))
 split
 .first
   |exact wpAny_bind (wpAny_pure (wpAny_pure #[rfl,c]))
   |exact wpAny_pure #[rfl,c]
 .refine wpAny_bind (wpAny_rule ?_)
  exact wpAny_bind (wpAny_standAt (wpAny_bind (d _ _ (wpAny_pure #[rfl,c]))))
theorem CC{a:List (Addr×Obj)}{s:Shared}{σ:St}{H:Hp}{g D:Addr}{F:List Addr}{tn:Nat->Heap->Prop}{J:It}{R:Result->Shared->Prop}{N:St->Hp->Prop}
  (Ou:XC.xe=λ_ _=>False) (hc:XC.calm=true) (I:Inv XC a σ H s) (T:Turn XC.prog XC.w XC.K t1 J F g tn) (st:tn 0 s.heap) (f2:∀b∈F,fY XC a H b)
  (hg:PG XC t1 g1) (ht:m8 XC f1 fi) (he:PE XC elt te)
  (hW:∃W:Nat->Nat->St->Hp->Prop,(∃m,W 0 m σ H)/\∀i m fA O,W i m fA O->(J.stop i O/\N fA O)\/
   (J.go i O/\∃L:St->Hp->Prop,(∀j c,L j c->∃m',m'<m/\W (i+1) m' j c)/\∀x H3,J.yld i O x H3->g1 x fA H3 λfK H4=>fi fK H4 λb H5=>
    if b=true then te fK H5 λv H6=>∃P,H6 D=some (.lst P)/\P.length<sizeLine/\L fK (upd H6 D (.lst (P++ [v]))) else L fK H5))
  (hR:∀j c B,Inv XC a j c B->N j c->R (.ok .next) B):
  codeAny (model XC.prog XC.w) XC.A (.compStart (.ListComp elt [#[t0,i0,f0,0],#[t1,i1,f1,0]] scope pos) 1 (.ref g) (.ref D) XC.env) R s:=by
 obtain⟨W,⟨m0,w0⟩,S⟩:=hW
 have kJ:∀{α:Type}{t:Sem α}{Q:α->Shared->Prop}{E:Value->Shared->Prop}{s:Shared},wpAny (model XC.prog XC.w) XC.A t Q XC.xe s->wpAny (model XC.prog XC.w) XC.A t Q E s:=λ {α t Q E s} h=>
  wpAny_mono h (λ_ _ q=>q) λ_ _ f=>by rw[Ou] at f;exact f.elim
 have l:∀{c:Hp},(∀b∈F,c b=none)->∀b∈F,fY XC a c b:=λhn b C=>#[hn b C,(f2 b C).2]
 have U:codeAny (model XC.prog XC.w) XC.A (.compLoop (.ListComp elt [#[t0,i0,f0,0],#[t1,i1,f1,0]] scope pos) 1 (.ref g) (.ref D) XC.env) R s:=by
  refine acw rfl (λn B=>∃i j c,Inv XC a j c B/\tn i B.heap/\(∀b∈F,c b=none)/\W i n j c) (λn B hI=>?_) m0 #[0,σ,H,I,st,λb C=>(f2 b C).1,w0];rfl';obtain⟨i,j,c,I5,vy,yy,w5⟩:=hI;ac_rfl;show wpAny _ XC.A ((compTurn (.ListComp elt [#[t0,i0,f0,0],#[t1,i1,f1,0]] scope pos) 1 (.ref g) (.ref D) XC.env).onRaise (λx=>do noteFrame x XC.env;theTreesLotGoes x)) _ _ B
  refine wpAny_noted ?_;rw[wg];refine ir (aav (ir ?_))
  rcases S i n j c w5 with ⟨stop,qn⟩ | ⟨go,L,hN,step⟩
  .refine thn (T.done XC rfl rfl rfl hc i a B j c _ I5 (l yy) vy stop) λr s6 k=>?_
   obtain⟨hr,I6⟩:=k;subst hr;exact ls (hR j c s6 I6 qn)
  .refine thn (T.item XC rfl rfl rfl hc i a B j c _ I5 (l yy) vy go) λr s6 k=>?_
   rfl';obtain⟨u,hr,h6⟩:=k;ac_rfl;subst hr;refine ir (thn h6 λ_ s7 k=>?_);rfl';obtain⟨x,H7,I7,r7,y7,xC,K3⟩:=k;ac_rfl;have JO:=I7.pinned (l K3) (T.obj _ _ xC)
   have nextT:∀{z:St}{G:Hp}{M:Shared},Inv XC (a++l0 F s7.heap) z G M->L z G->∃m,m<n/\∃i j c,Inv XC a j c M/\tn i M.heap/\(∀b∈F,c b=none)/\W i m j c:=λ {z G M} Z n8=>by
    obtain⟨m',hm,w8⟩:=hN z G n8;refine#[m',hm,i+1,z,G,Z.jB,T.keep _ _ _ xC λb C o e=>(Z.pin (b,o) (dE _ (dE _ (eV C e)))).1,λb C=>?_,w8];obtain⟨o,e,d⟩:=T.obj _ _ xC b C;exact(Z.pin (b,o) (dE _ (dE _ (eV C e)))).2.1
   refine ir (kJ (thn (hg _ s7 j H7 x u _ JO r7 (step x H7 y7)) λ_ M k=>?_));rfl';obtain⟨z,G,Z,q8⟩:=k;ac_rfl;refine ir (kJ (thn (ht _ M z G _ Z q8) λb s9 k=>?_));obtain⟨H9,I9,q9⟩:=k;cases b with
   |false=>
    rw[mo cO] at q9;exact ls #[rfl,nextT I9 q9]
   |true=>
    rw[tz rfl] at q9;refine ir (ir (kJ (thn (he _ s9 z H9 _ I9 q9) λy Pr k=>?_)));rfl';obtain⟨v,JL,QP,Tq,P,hD,hz,To⟩:=k;ac_rfl;refine ir (kJ (thn (jO _ Pr z JL (.ref D) [v] _ [y] (λ_ c=>L z c) QP rfl (.cons Tq .nil) #[_,P,v,rfl,rfl,hD,hz,To]) λ_ Pt k=>?_));rfl';obtain⟨_,Nr,JN,_,Tp⟩:=k;ac_rfl;exact ls (ls #[rfl,nextT JN Tp])
 exact vf (X:=XC) U λQ E q=>T.self _ 0 _ _ _ st q
def tIn(p:TG)(q:TT)(r:TE)(D:Addr)(J:It)(N:St->Hp->Prop):St->Hp->Prop:=λs H=>
 ∃W:Nat->Nat->St->Hp->Prop,(∃m,W 0 m s H)/\∀i m d a,W i m d a->(J.stop i a/\N d a)\/
  (J.go i a/\∃e:St->Hp->Prop,(∀h j,e h j->∃k,k<m/\W (i+1) k h j)/\∀x l,J.yld i a x l->p x d l λc t=>q c t λb n=>
   if b=true then r c n λv o=>∃f,o D=some (.lst f)/\f.length<sizeLine/\e c (upd o D (.lst (f++ [v]))) else e c n)
def QK(g:TG)(l:TT)(n:TI)(o:TG)(p:TT)(q:TE)(D:Addr)(J:It)(Q:VK)(r:St)(H:Hp):Prop:=
 ∃W:Nat->Nat->St->Hp->Prop,(∃m,W 0 m r H)/\∀i m d a,W i m d a->
  (J.stop i a/\Q (.ref D) a)\/
  (J.go i a/\∃N:St->Hp->Prop,(∀e f,N e f->∃h,h<m/\W (i+1) h e f)/\∀x j,J.yld i a x j->g x d j λc s=>l c s λb k=>
   if b=true then n c k λt u=>tIn o p q D t N c u else N c k)
def QI(c:TI)(g:TG)(d:TT)(e:TI)(f:TG)(h:TT)(i:TE)(src:List (Option Nat)):TE:=λa H Q=>c a H λJ b=>∀D,b D=none->QK g d e f h i D J Q (mO src a) (upd b D (.lst []))
theorem Ah{j:List (Addr×Obj)}{σ:St}{l:Shared}{P:Hp}{it:Addr}{F:List Addr}{Z:Nat->Heap->Prop}{J:It}{RR:Value->Addr->Result->Shared->Prop}{E:Value->Shared->Prop}{Q:VK}
  (hc:X.calm=true) (c:ck X scope) (fC:dz scope X.N src NC) (I2:Inv X j σ P l) (T:Turn X.prog X.w X.K t0 J F it Z) (kT:Z 0 l.heap) (f2:∀b∈F,fY X j P b)
  (hg:∀ex s H,PG (cW X scope NC ex s H) t0 g) (ht:∀ex s H,m8 (cW X scope NC ex s H) f0 tt) (yC:∀ex s H,PI (cW X scope NC ex s H) t1 i1 gG) (Lr:∀ex s H,PG (cW X scope NC ex s H) t1 g1)
  (LK:∀ex s H,m8 (cW X scope NC ex s H) f1 fi) (he:∀ex s H,PE (cW X scope NC ex s H) elt te) (rQ:∀env x,foldedSetIterable i1 env x=pure x)
  (hW:∀D,P D=none->QK g tt gG g1 fi te D J Q (mO src σ) (upd P D (.lst [])))
  (RQ:∀D B H3 G v I,Inv X j σ H3 B->(∀b∈F,fY X j H3 b)->Inv (cW X scope NC F B H3) [] G v I->Q (.ref D) v->RR (.ref D) B.heap.objs.size (.ok .next) I):
  wpAny (model X.prog X.w) X.A (newList []) (λacc El=>wpAny (model X.prog X.w) X.A (newFunctionEnv scope X.env.globals (jc X.env scope.names []) [] X.env.qual none .none (some X.env)) (λni xH=>
   codeAny (model X.prog X.w) X.A (.compStart (.ListComp elt [#[t0,i0,f0,0],#[t1,i1,f1,0]] scope pos) 0 (.ref it) acc {ni with scope:=relabel scope X.env}) (RR acc ni.locals) xH) E El) E l:=by
 rfl';obtain⟨W,⟨m0,w0⟩,turn⟩:=hW l.heap.objs.size I2.fresh;have I3:Inv X j σ (upd P l.heap.objs.size (.lst [])) {l with heap:=l.heap.push {cls:= .type "list",data:= .seq ([]:List Value).toArray}}:=I2.Hm (its:= []) (t':=l.toks) .nil (fm _)
 ac_rfl
 have SG:∀b∈F,b<l.heap.objs.size:=λb k=>by
  obtain⟨o,e,_⟩:=T.obj _ _ kT b k;exact Do e
 have f3:∀b∈F,fY X j (upd P l.heap.objs.size (.lst [])) b:=λb k=>#[by rw[ay (bB (SG b k))];exact(f2 b k).1,(f2 b k).2]
 refine P3 ?_
 suffices key:∀B:Shared,Inv X j σ (upd P l.heap.objs.size (.lst [])) B->(∀b o,l.heap.get? b=some o->B.heap.get? b=some o)->
   wpAny (model X.prog X.w) X.A (newFunctionEnv scope X.env.globals (jc X.env scope.names []) [] X.env.qual none .none (some X.env)) (λni xH=>
    codeAny (model X.prog X.w) X.A (.compStart (.ListComp elt [#[t0,i0,f0,0],#[t1,i1,f1,0]] scope pos) 0 (.ref it) (.ref l.heap.objs.size) {ni with scope:=relabel scope X.env}) (RR (.ref l.heap.objs.size) ni.locals) xH) E B from
  key _ I3 λb o e=>AC _ e
 intro B I3 TX;have vx:Z 0 B.heap:=T.keep _ _ _ kT λb _ o e=>TX b o e
 have FL:∀b∈F,b<B.heap.objs.size:=λb k=>by
  obtain⟨o,e,_⟩:=T.obj _ _ vx b k;exact Do e
 generalize YU:upd P l.heap.objs.size (.lst [])=H3 at I3 f3 w0;refine wpAny_newFunctionEnv c.nocell (by intro y hy;simp at hy) (λh1 AQ AS=>?_) c.kind
 have I4:=yZ (src:=src) (NC:=NC) (ex:=F) (tk:=B.toks+([]:List (Str×Value)).length) I3 c fC f3 FL AQ AS;have M6:Z 0 h1:=T.keep _ _ _ vx λb k o e=>AS.extBut b o (bB (FL b k)) (AC _ e);generalize C:cW X scope NC F B H3=a at I4
 have L:∀{v:Hp},(∀b∈F,v b=none)->∀b∈F,fY a [] v b:=λ {v} hn b k=>by
  subst C;refine#[hn b k,bB (FL b k),λz=>?_, .inl k,λx d e=>?_,λp hp=>absurd (show p∈([]:List (Addr×Obj)) from hp) (by simp)]
  .exact(I4.ok.exfs b k) z
  .exact(I4.ok.exf b k).2 x d e
 have Iz:a.calm=true:=by subst C;exact hc
 have eP:a.prog=X.prog:=by subst C;rfl
 have ew:a.w=X.w:=by subst C;rfl
 have eK:a.K=X.K:=by subst C;rfl
 have eA:a.A=X.A:=by subst C;rfl
 have Ou:a.xe=λ_ _=>False:=by subst C;rfl
 have Sf:PG a t0 g:=by subst C;exact hg _ _ _
 have Su:m8 a f0 tt:=C▸ht _ _ _;have Zm:PI a t1 i1 gG:=C▸yC _ _ _;have VB:PG a t1 g1:=C▸Lr _ _ _;have V1:m8 a f1 fi:=C▸LK _ _ _;have Sa:PE a elt te:=C▸he _ _ _
 have kJ:∀{α:Type}{t:Sem α}{Q:α->Shared->Prop}{E:Value->Shared->Prop}{s:Shared},wpAny (model a.prog a.w) a.A t Q a.xe s->wpAny (model X.prog X.w) X.A t Q E s:=λ {α t Q E s} h=>by
  rw[<-eP,<-ew,<-eA];exact wpAny_mono h (λ_ _ q=>q) λ_ _ f=>by rw[Ou] at f;exact f.elim
 have S:codeAny (model X.prog X.w) X.A (.compLoop (.ListComp elt [#[t0,i0,f0,0],#[t1,i1,f1,0]] scope pos) 0 (.ref it) (.ref l.heap.objs.size) a.env) (RR (.ref l.heap.objs.size) B.heap.objs.size)
   {B with heap:=h1,toks:=B.toks+([]:List (Str×Value)).length}:=by
  refine acw rfl (λn I=>∃i G v,Inv a [] G v I/\Z i I.heap/\(∀b∈F,v b=none)/\W i n G v) (λn I hI=>?_) m0 #[0,_,_,I4,M6,λb k=>(f3 b k).1,w0];rfl';obtain⟨i,G,v,I5,vy,yy,w5⟩:=hI;ac_rfl;show wpAny _ X.A ((compTurn (.ListComp elt [#[t0,i0,f0,0],#[t1,i1,f1,0]] scope pos) 0 (.ref it) (.ref l.heap.objs.size) a.env).onRaise (λx=>do noteFrame x a.env;theTreesLotGoes x)) _ _ I
  refine wpAny_noted ?_;rw[we];refine ir (aav (ir ?_))
  rcases turn i n G v w5 with ⟨stop,qn⟩ | ⟨go,N,hN,step⟩
  .have hd:=T.done a eP ew eK Iz i [] I G v (notedBy (model X.prog X.w) X.A a.env λe I=>RR (.ref l.heap.objs.size) B.heap.objs.size (.error e) I) I5 (L yy) vy stop
   rw[eA] at hd;refine thn hd λr s6 O=>?_;obtain⟨hr,I6⟩:=O;subst hr;refine ls ?_;subst C;exact RQ _ B _ G v s6 I3 f3 I6 qn
  .have hd:=T.item a eP ew eK Iz i [] I G v (notedBy (model X.prog X.w) X.A a.env λe I=>RR (.ref l.heap.objs.size) B.heap.objs.size (.error e) I) I5 (L yy) vy go
   rw[eA] at hd;refine thn hd λr s6 O=>?_;obtain⟨u,hr,h6⟩:=O;subst hr;refine ir (thn h6 λ_ s7 O=>?_);rfl';obtain⟨x,H7,I7,r7,y7,xC,K3⟩:=O;ac_rfl;have JO:=I7.pinned (L K3) (T.obj _ _ xC)
   have nextT:∀{U:St}{Y:Hp}{s8:Shared},Inv a ([]++l0 F s7.heap) U Y s8->N U Y->∃m,m<n/\∃i G v,Inv a [] G v s8/\Z i s8.heap/\(∀b∈F,v b=none)/\W i m G v:=λ {U Y s8} I8 n8=>by
    obtain⟨m',hm,w8⟩:=hN U Y n8;refine#[m',hm,i+1,U,Y,I8.jB,T.keep _ _ _ xC λb k o e=>(I8.pin (b,o) (dE _ (dE _ (eV k e)))).1,λb k=>?_,w8];obtain⟨o,e,d⟩:=T.obj _ _ xC b k;exact(I8.pin (b,o) (dE _ (dE _ (eV k e)))).2.1
   refine ir (kJ (thn (Sf _ s7 G H7 x u _ JO r7 (step x H7 y7)) λ_ s8 O=>?_));rfl';obtain⟨U,Y,I8,q8⟩:=O;ac_rfl;refine ir (kJ (thn (Su _ s8 U Y _ I8 q8) λb s9 O=>?_));obtain⟨H9,I9,q9⟩:=O;cases b with
   |false=>
    rw[mo cO] at q9;exact ls #[C▸rfl,nextT I9 q9]
   |true=>
    rw[tz rfl] at q9;refine ir (kJ (thn (Zm _ s9 U H9 _ I9 q9) λv1 Pr YO=>?_));refine ir (aav (ir (aaW (rQ _ v1) (ir (M2 (kJ (thn YO λIM Pt YQ=>?_)))))));rfl';obtain⟨LM,fp1,tn1,J1,Nr,rfl,JN,T1,WY,YF,Sh⟩:=YQ;ac_rfl;refine ir (wpAny_runOwn ?_);have tr:∀(cd:Code)(R:Result->Shared->Prop),codeAny (model a.prog a.w) a.A cd R Pt->codeAny (model X.prog X.w) X.A cd R Pt:=λcd R h=>by rw[eP,ew,eA] at h;exact h
    exact tr _ _ (CC Ou Iz JN T1 WY YF VB V1 Sa Sh λG v I Xz n12=>ls #[C▸rfl,nextT Xz n12])
 subst C;exact acn S (T.self _ 0 _ _ _ M6 S)
theorem O9(e:X.calm=true)(c:ck X scope)(f:dz scope X.N src NC)(i:PI X t0 i0 wi)
  (j:∀a s H,PG (cW X scope NC a s H) t0 g) (k:∀a s H,m8 (cW X scope NC a s H) f0 tt) (l:∀a s H,PI (cW X scope NC a s H) t1 i1 gG) (n:∀a s H,PG (cW X scope NC a s H) t1 g1)
  (o:∀a s H,m8 (cW X scope NC a s H) f1 fi) (p:∀a s H,PE (cW X scope NC a s H) elt te)
  (q:∀x,foldedSetIterable i0 X.env x=pure x:=by intro _;rfl) (r:∀env x,foldedSetIterable i1 env x=pure x:=by intro _ _;rfl):
  PE X (.ListComp elt [#[t0,i0,f0,0],#[t1,i1,f1,0]] scope pos) (QI wi g tt gG g1 fi te src):=by
 intro b s t H Q I h;rw[eval_ListComp];refine aa0 (use:=none) rfl q (iw (c.cells I.ok)) c.kind c.names (thn (i b s t H _ I h) λv O u=>thn u λP R w=>?_);obtain⟨S,U,Y,J,Z,rfl,y,T,z,A,B⟩:=w
 exact Ah e c f y T z A j k l n o p r B λD s3 H3 az C s' E F d G=>by
  obtain⟨m,L,_⟩:=d.loc;exact#[m,L,λh' M=>#[.ref D,C,comp_back E F d M,rfl,G]]
end
end L2
namespace KS
open PySem PySem.W PyProof.Rows
section
variable {prog:Program} {w:World} {A:Around} {E:Value->Shared->Prop} {s:Shared}
theorem uT(c:s.heap.get? a=some (seqObj "list" b.toArray n))(j:b.length<2)
  (h:G (.done (.ret .none)) {s with heap:=sortedHeap s.heap a b b.toArray}):wpAny (model prog w) A (Builtin.«list.sort» #[[.ref a],[]]) G E s:=by
 rw[list_sort_plain];have m:a<s.heap.objs.size:=Do c;refine ir (listItems_at c rfl (ir (abU c rfl ?_)));obtain⟨l,d⟩:∃k,(s.heap.update a (Obj.mapSeq λ_=> #[])).get? a=some (seqObj "list" #[] k):=#[_,get?_update_seq c (λ_=> #[])];refine ir (aco d rfl (ir (wpAny_newTuple (ir (abi (M2 ?_))))));have e:(((s.heap.update a (Obj.mapSeq λ_=> #[])).push (seqObj "tuple" b.toArray 0)).push (seqObj "list" #[] 0)).get? a=some (seqObj "list" #[] l):=AC _ (AC _ d);show wpAny (model prog w) A _ G E {s with heap:=((s.heap.update a (Obj.mapSeq λ_=> #[])).push (seqObj "tuple" b.toArray 0)).push (seqObj "list" #[] 0)}
 dsimp only;have f:b.toArray.size<2:=j;rw[tz f,tz f];refine ir (ls ?_);rw[StateT.run_pure];refine ir (ls ?_);dsimp only
 have g:(arrOf (SortSt.mk' general' (b.toArray.zip b.toArray) #[] 7 none)).map (·.2)=b.toArray:=by
  show(b.toArray.zip b.toArray).map (·.2)=b.toArray;apply ab4.mp;simp[List.map_snd_zip]
 refine ir (aco e rfl (ir (abU e rfl ?_ (hsz2:=by rw[g];rw[aaU];lia))))
 simp only[abd,dY,Os];have i:=h;unfold sortedHeap at i;rw[g];exact ls i
theorem yO(e:s.heap.IsList l a.toArray)(f:a.length<2)(h:G (.ref (s.heap.objs.size+1)) {s with heap:=sortedAll s.heap a a.toArray}):
  wpAny (model prog w) A (call (.builtin "sorted") [.ref l]) G E s:=by
 refine aaY kind_sorted acy acz (acA (.ref l)) ?_;unfold Builtin.«sorted»;have b:a.length<=sizeLine:=by rw[aaU];lia
 refine ir (m:=checkCount "sorted" 1 1 _) (ls (ir (acB e (ir (abi ?_ b)) b)));have c:((s.heap.push (seqObj "list" #[] 0)).update s.heap.objs.size (Obj.mapSeq (·++a.toArray))).objs.size=s.heap.objs.size+1:=by rw[aaR,aa9]
 have d:(((s.heap.push (seqObj "list" #[] 0)).update s.heap.objs.size (Obj.mapSeq (·++a.toArray))).push (seqObj "list" a.toArray 0)).get? (s.heap.objs.size+1)=some (seqObj "list" a.toArray 0):=by
  rw[<-c];exact FS _ rfl
 show wpAny (model prog w) _ _ _ E {s with heap:=((s.heap.push (seqObj "list" #[] 0)).update s.heap.objs.size (Obj.mapSeq (·++a.toArray))).push (seqObj "list" a.toArray 0)}
 rw[c];exact ir (M2 (SC slot_list_sort #[_,d,rfl] entry_list_sort (uT d f #[_,rfl,ls #[_,rfl,h]]) (abH _)))
end
end KS
namespace L2
open PySem PySem.Spec PyProof.Rows
section
variable {X:Cx} {pins:List (Addr×Obj)} {σ:St} {H:Hp} {s:Shared} {h':Heap}
end
def uf(k:Nat×Nat):List V:= [.int (k.1:Nat), .int (k.2:Nat)]
def vS(H:Hp)(L:List (Addr×(Nat×Nat))):Prop:=∀p∈L,H p.1=some (.tup (uf p.2))
def jN(a b:Nat×Nat):Bool:=if a.1=b.1 then decide (a.2<b.2) else decide (a.1<b.1)
theorem t6(x y:Nat×Nat):jN x y=true↔x.1<y.1\/(x.1=y.1/\x.2<y.2):=by
 unfold jN
 by_cases e:x.1=y.1
 .rw[tz e,decide_eq_true_iff]
  lia
 .rw[mo e,decide_eq_true_iff]
  lia
theorem IS(x y z:Nat×Nat)(h:jN x z=true):jN x y=true\/jN y z=true:=by
 rw[t6] at*;rw[t6];lia
theorem LW(x y z:Nat×Nat)(h:jN x y=true)(a:jN y z=true):jN x z=true:=by
 rw[t6] at*;lia
theorem wO(h:jN b a=false):Wb.lexLe a b:=by
 unfold jN at h;unfold Wb.lexLe
 by_cases e:b.1=a.1
 .rw[tz e] at h
  have:=On h
  right;lia
 .rw[mo e] at h
  have:=On h
  left;lia
theorem OB 
  (l:IsTup s.heap x [.int a f, .int b g].toArray) (m:IsTup s.heap y [.int c i, .int d j].toArray)
  (h:C (if a=c then decide (b<d) else decide (a<c)) s):wpAny (model prog w) A (keyLt' (tuples' true) (.ref x) (.ref y)) C E s:=by
 rfl';obtain⟨u,o,_,v,p⟩:=l;obtain⟨z,q,_,B,r⟩:=m;ac_rfl;refine PySem.W.kat_lt o p q r ?_;refine PySem.W.kat_cons (aaZ a f c i prog w _ _ ?_)
 by_cases e:a=c
 .rw[tz e] at h
  rw[show(a==c)=true by simpa using e]
  refine PySem.W.kat_yes (PySem.W.kat_cons (aaZ b g d j prog w _ _ ?_))
  by_cases k:b=d
  .rw[show(b==d)=true by simpa using k]
   refine PySem.W.kat_yes (PySem.W.kat_nil ?_);rw[show decide (b<d)=false by simp;lia] at h
   simpa using h
  .rw[show(b==d)=false by simpa using k]
   refine PySem.W.kat_no (PySem.W.kat_one _ _ ?_);exact lt_int h
 .rw[mo e] at h
  rw[show(a==c)=false by simpa using e]
  exact PySem.W.kat_no (oneLt_int h)
section
variable {X:Cx}
theorem mn:∀{as:List Addr}{us:List Value},Vals (as.map V.ref) us->us=as.map Value.ref
 | [],_, .nil=>rfl
 |a::as,_, .cons r t=>by cases r;rw[mn t];rfl
theorem qF:∀b:List Addr,Vals (b.map V.ref) (b.map Value.ref)
 | []=> .nil
 |a::b=> .cons rfl (qF b)
theorem Je(I:Inv X b c H s)(h:H a=some (.tup (uf k))):
  ∃t u,IsTup s.heap a [.int (k.1:Nat) t, .int (k.2:Nat) u].toArray:=by
 rfl';obtain⟨e,r,p,_⟩:=I.tuple (gd.of h);obtain⟨g,i,rfl,⟨t,rfl⟩,⟨u,rfl⟩⟩:=Vals.two r;ac_rfl;exact#[t,u,p]
end
end L2
set_option maxHeartbeats 4000000
namespace L2
open PySem PySem.Spec PySem.Calls PyProof.Rows PySem.W Builtin Builtin.ObjectAttr
def yH(s:String):Value->Bool
 | .type a=>a==s
 |_=>false
def Hi(l:List Value):Bool:=match l with
 |a::b::c::d::r=>yH "ValueError" a&&yH "Exception" b&&yH "BaseException" c&&yH "object" d&&r.isEmpty
 |_=>false
def isRef:Value->Bool
 | .ref _=>true
 |_=>false
def vG:List Value->Bool
 | []=>false
 |v::r=>if isRef v then vG r else Hi (v::r)
theorem vC(h:yH s v=true):v= .type s:=by
 unfold yH at h
 split at h
 .rw[aax.mp h]
 .cases h
theorem Dr(h:Hi l=true):l= [.type "ValueError", .type "Exception", .type "BaseException", .type "object"]:=by
 cases l with
 |nil=>cases h
 |cons a l=>cases l with
  |nil=>cases h
  |cons b l=>cases l with
   |nil=>cases h
   |cons c l=>cases l with
    |nil=>cases h
    |cons d r=>
     have h:(yH "ValueError" a&&yH "Exception" b&&yH "BaseException" c&&yH "object" d&&r.isEmpty)=true:=h;simp only[u5] at h;rw[vC h.1.1.1.1,vC h.1.1.1.2,vC h.1.1.2,vC h.1.2,List.isEmpty_iff.mp h.2]
def By(K:Frag)(C:Addr):Bool:=(clsIn K C).any λa=>vG a.mro
structure uz (K:Frag) (C:Addr):Prop where
 hd:hasDictIn K C=true
 ga:findIn K (.ref C) "__getattribute__"=some (some (.builtin "BaseException.__getattribute__"))
 gh:findIn K (.ref C) "__getattr__"=some none
 sa:findIn K (.ref C) "__setattr__"=some (some (.builtin "object.__setattr__"))
 ov:By K C=true
 cl:findIn K (.ref C) "__class__"=some (some (.builtin "object.__class__"))
 be:mroIn K C (.type "BaseException")=some true
 ob:mroIn K C (.type "object")=some true
section
variable {prog:Program} {w:World} {A:Around} {E:Value->Shared->Prop} {s:Shared} {K:Frag} {x C:Addr} {ox:Obj} {od:Option Obj} {name:Str}
theorem JJ{fill a:Bool}{b:Tok}{Q:Value->Shared->Prop}(X:K.In s.heap)(I:InstAt s.heap x ox C od)(c:uz K C)
  (h:wpAny (model prog w) A.in1 (Builtin.«object.__getattribute__» #[[.ref x, .str name b],[]]) (λfin d=>match fin with| .done (.ret v)=>wpAny (model prog w) A (handedOut v) Q E d|_=>False) (λ_ _=>False) s):
  wpAny (model prog w) A (getAttrBy (.ref x) (.str name b) fill a) Q E s:=by
 unfold getAttrBy;refine M2 (ir (I.type _ _ _ _ (λ_ _ e=>e) (ir (looks_findIn X c.ga _ _ _ _ (λ_ _ e=>e) ?_))));dsimp only;rw[show(onTheHeap (.ref C)&&Value.builtin "BaseException.__getattribute__"==Value.builtin "object.__getattribute__")=false from by rw[show(Value.builtin "BaseException.__getattribute__"==Value.builtin "object.__getattribute__")=false from by decide+kernel,acu],mo (by decide)]
 unfold getAttrByItsOwn;refine ir (looks_hook (mc:= .ref C) (r:=none) X c.gh _ _ _ _ (λ_ _ e=>e) (ir (aaT (M2 ?_))));unfold callGetattribute;rw[show(a&&onTheHeap (Value.builtin "BaseException.__getattribute__"))=false from acu _,mo (by decide)]
 unfold boundAndCalled;rw[F.excAttr_ValueError.ga.bind];refine ir (ls ?_);show wpAny _ _ (call (.builtin "BaseException.__getattribute__") [.ref x, .str name b]) _ _ _;refine aaG ?_;refine aaS F.excAttr_ValueError.ga.plain F.entry_bexc_ga ?_;refine @check_slot (model prog w) _ _ s "BaseException.__getattribute__" "BaseException" "__getattribute__" (.ref x) [.str name b] [] _ (by decide+kernel) (by decide+kernel) (I.type.andThen (looks_mroIn X c.be)) (F.args_bexc_ga (.ref x) (.str name b)) ?_
 refine wpAny_mono h (λfin d z=>?_) λ_ _ z=>z.elim
 rcases fin with (_|_|_|_) |_<;>first|exact z|exact z.elim
theorem JH{P:Value->Shared->Prop}(X:K.In s.heap)(I:InstAt s.heap x ox C od)(e:findObj K C od name=some (.bind g a))
  (h:wpAny (model prog w) A (call g [a, .ref x, .ref C]) P E s):
  wpAny (model prog w) A (Builtin.«object.__getattribute__» #[[.ref x, .str name c],[]]) (λfin b=>match fin with| .done (.ret v)=>P v b|_=>False) E s:=by
 obtain⟨f,k,d,t,os⟩:=s;have i:=I.type (M:=model prog w);have j:=looks_find (M:=model prog w) X I e;unfold Builtin.«object.__getattribute__»;refine ir (ls (ir (ls (ir (i.at (ir (j.at ?_)))))));exact ir (M2 (wpAny_mono h (λv b z=>ls z) λ_ _ z=>z))
theorem Ey(X:K.In s.heap)(I:InstAt s.heap x ox C od)(c:uz K C)(b:specialIn K (.builtin "object.__class__") "__get__"=some (some (.builtin "getset_descriptor.__get__")))(htk:takesIn K (.builtin "object.__class__")=some true)
  (h:Q (some (.ref C)) {s with toks:=s.toks+1}):wpAny (model prog w) A (getAttr? (.ref x) "__class__") Q E s:=by
 have d:findObj K C od "__class__"=some (.bind (.builtin "getset_descriptor.__get__") (.builtin "object.__class__")):=by
  obtain⟨f,e,_⟩:=any_some c.hd;unfold findObj;rw[e,abk,c.cl,abk];dsimp only;rw[b,abk];dsimp only;rw[htk];rfl
 unfold getAttr? getAttrBy?;refine ir (wpAny_mkText (ir (aaT ?_)))
 have key:wpAny (model prog w) A.in1 (Builtin.«object.__getattribute__» #[[.ref x, .str "__class__" s.toks],[]]) (λfin a=>match fin with| .done (.ret v)=>v= .ref C/\a={s with toks:=s.toks+1} |_=>False) (λ_ _=>False) {s with toks:=s.toks+1}:=by
  refine JH (P:=λv a=>v= .ref C/\a={s with toks:=s.toks+1}) (s:={s with toks:=s.toks+1}) X I d (aaG (class_get (s:={s with toks:=s.toks+1}) (ox:=ox) (od:=od) X I c.ob ?_))
  exact#[rfl,rfl]
 refine JJ (s:={s with toks:=s.toks+1}) X I c (wpAny_mono key (λfin a z=>?_) λ_ _ z=>z.elim)
 rcases fin with (_|_|_|_) |_<;>first|exact z.elim|skip
 obtain⟨rfl,rfl⟩:=z;exact ls (ls h)
theorem zp(c:uz K C)(d:specialIn K (.builtin "object.__class__") "__get__"=some (some (.builtin "getset_descriptor.__get__")))(htk:takesIn K (.builtin "object.__class__")=some true):
  KitX K (.ref x) (.ref C) (λh=>InstAt h x ox C od) where
 ty:=λ_ _ _ I=>I.type
 it:=λ_ _ X _=>by
  obtain⟨f,a,_⟩:=any_some c.hd;unfold clsIn at a
  split at a
  .rename_i g i j l b
   intro r t u v k q;unfold isType loadHead;exact ir (wpAny_loadPart (k _ _ (X _ _ b)) (ls q))
  .cases a
 ne:=λh m y o n B X p=>by
  obtain⟨f,a,_⟩:=any_some c.hd;refine qd.mpr λq=>?_;have e:C=m:=Value.ref.inj (aax.mp q);subst e;unfold clsIn at a
  split at a
  .rename_i g i j l b
   have z:=(X _ _ b).symm.trans p;cases z
  .cases a
 ca:=λX I k=>Ey X I c d htk k
end
abbrev fB(C t:Addr)(d:Option Addr):Obj:={cls:= .ref C,dict:=d,data:= .fields [.ref t, .none, .none, .none, .bool false, .none].toArray}
section
variable {prog:Program} {w:World} {A:Around} {E:Value->Shared->Prop} {s:Shared} {K:Frag} {x C:Addr} {ox:Obj} {od:Option Obj} {name:Str} {R:Result->Shared->Prop}
end
section
variable {M:Model} {A:Around} {E:Value->Shared->Prop} {h:Heap} {g:Array GenState} {d:Drawn} {t:Nat} {os:OsState}
variable {nm q:Str} {C N:Addr} {bs bm HV:List Value} {iR:Bool} {sn:List Str} {sub:List Value} {ab:Bool} {col:Option Bool} {dd:Option Addr} {k0 k1 k2 k3 k5:Option Value} {B newId kn:String}
theorem Ae(F:ExcBaseFacts B newId kn HV)(RZ:(Value.ref C::bm).contains (.type B)=true){rest:List Value}{Q:Unit->Shared->Prop}(hC:h.get? C=some (excClassObj nm q C N bs bm iR sn sub ab col dd k0 k1 k2 k3 k5 newId))
  (hq:Q () #[h,g,d,t,os]):wpAny M A (checkBuiltinCall newId #[.ref C::rest,[]]) Q E #[h,g,d,t,os]:=by
 have ZM:=F.noStar;simp only[checkBuiltinCall,F.newKind,F.newSplit,F.newRow]
 repeat (first|refine wpAny_loadPart_at hC ?_| (refine wpAny_isSubtype_exc hC ?_;rw[RZ]) |refine wpAny_staticBase_exc hC ?_|refine wpAny_madeBy_exc hC ?_|simp only[bne_self_eq_false,dY,if_false]|wp_step)
 exact hq
theorem yu(F:ExcBaseFacts B newId kn HV)(yA:(Value.ref C::bm).contains (.type B)=true){e:Addr}{oe:Obj}{rest:List Value}{Q:Unit->Shared->Prop}
  (hC:h.get? C=some (excClassObj nm q C N bs bm iR sn sub ab col dd k0 k1 k2 k3 k5 newId)) (he:h.get? e=some oe) (C5:oe.cls= .ref C) (hq:Q () #[h,g,d,t,os]):
  wpAny M A (checkBuiltinCall kn #[.ref e::rest,[]]) Q E #[h,g,d,t,os]:=by
 have Xv:=F.noStar;simp only[checkBuiltinCall,F.initKind,F.initSplit,F.initRow]
 repeat (first| (with_reducible refine wpAny_loadPart_at he ?_;rw[C5]) |with_reducible refine wpAny_loadPart_at hC ?_| (with_reducible refine wpAny_isSubtype_exc hC ?_;rw[yA]) |wp_step)
 refine wpAny_onRaise ?_
 rw[show ∀(a b:String)(n:Nat),Bind.check #[.positional,"*",B, .self,[#["args", .varPos,false]]] a b n (List.map (λx=>x.fst) ({pos:=Value.ref e::rest}:Args).kw)=pure () from
  λa b n=>check_star_args _ _ _ _ _ _]
 exact wpAny_pure hq
end
section
variable {prog:Program} {w:World} {A:Around} {R:Result->Shared->Prop} {h:Heap} {g:Array GenState} {d:Drawn} {t:Nat} {os:OsState}
variable {nm q:Str} {C N:Addr} {bs bm HV:List Value} {iR:Bool} {sn:List Str} {sub:List Value} {ab:Bool} {col:Option Bool} {dd:Option Addr} {k0 k1 k2 k3 k5:Option Value} {B newId kn:String}
theorem Fe(F:ExcBaseFacts B newId kn HV)(yA:(Value.ref C::bm).contains (.type B)=true)(RX:(Value.ref C::bm).contains (.type "AttributeError")=false)(RY:(Value.ref C::bm).contains (.type "NameError")=false)
  {rest:List Value} (hC:h.get? C=some (excClassObj nm q C N bs bm iR sn sub ab col dd k0 k1 k2 k3 k5 newId))
  (hq:R (.ok (.ret (.ref (h.objs.size+1)))) #[(h.push {cls:= .type "tuple",data:= .seq rest.toArray}).push (fB C h.objs.size none),g,d,t,os]) (Fw:rest.length<=sizeLine):
  codeAny (model prog w) A (.builtin newId #[.ref C::rest,[]]) R #[h,g,d,t,os]:=by
 have Zh:=F.ends;refine codeAny_builtinAt F.entry ?_;unfold Builtin.«BaseException.__new__»;refine PySem.wpAt_bind ?_;show PySem.wpAt _ _ _ (stack>>=_) _ _ _;refine PySem.wpAt_bind (PySem.wpAt_stack λp below=>PySem.wpAt_of_wpAny ?_)
 wp_walk
 refine PySem.wpAt_of_wpAny ?_;rw[F.owner]
 repeat (first|with_reducible refine wpAny_madeHere_exc F.canon hC ?_|with_reducible refine wpAny_loadPart_at hC ?_| (with_reducible refine wpAny_isSubtype_exc hC ?_;first|rw[yA]|rw[RX]|rw[RY]) |wp_step)
 show R _ _;rw[Heap.size_push];exact hq
theorem CV(F:ExcBaseFacts B newId kn HV)(yA:(Value.ref C::bm).contains (.type B)=true){e t0:Addr}{od:Option Addr}{rest:List Value}(hC:h.get? C=some (excClassObj nm q C N bs bm iR sn sub ab col dd k0 k1 k2 k3 k5 newId))(he:h.get? e=some (fB C t0 od))
  (hq:∀h' t',h'.get? e=some (fB C t' od)->(∀b o,b≠e->h.get? b=some o->h'.get? b=some o)->R (.ok (.ret .none)) #[h',g,d,t,os]) (Fw:rest.length<=sizeLine):
  codeAny (model prog w) A (.call (.builtin kn) #[.ref e::rest,[]]) R #[h,g,d,t,os]:=by
 refine codeAny_call_builtin F.init.plain F.initEntry (yu F yA hC he rfl ?_)
 wp_walk
 have tW:e≠h.objs.size:=bB (Heap.lt_size he);refine hq _ h.objs.size ?_ λb o hb ho=>?_
 .rw[Heap.get?_update_self _ (Heap.get?_push_of_some _ he) rfl]
  rfl
 .rw[Heap.get?_update_other _ _ (Ne.symm hb)]
  exact Heap.get?_push_of_some _ ho
theorem Ez(F:ExcBaseFacts B newId kn HV)(yA:(Value.ref C::bm).contains (.type B)=true)(RX:(Value.ref C::bm).contains (.type "AttributeError")=false)(RY:(Value.ref C::bm).contains (.type "NameError")=false)
  {rest:List Value} {init:Value} (hC:h.get? C=some (excClassObj nm q C N bs bm iR sn sub ab col dd k0 k1 k2 k3 k5 newId)) (call:Looks (model prog w) h (specialOf (.ref C) "__call__") (some (.builtin "type.__call__"))) (typ:Looks (model prog w) h (isInstance (.ref C) (.type "type")) true)
  (hi:Looks (model prog w) h (typeLookup (.ref C) "__init__") (some init)) (hb:∀self,Looks (model prog w) h (bindSpecial init self) (init,[self])) (Fw:rest.length<=sizeLine)
  (hq:codeAny (model prog w) (A.under (.builtin "type.__call__" #[.ref C::rest,[]])) (.call init #[.ref (h.objs.size+1)::rest,[]]) (InitBack (h.objs.size+1) R) #[(h.push {cls:= .type "tuple",data:= .seq rest.toArray}).push (fB C h.objs.size none),g,d,t,os]):
  codeAny (model prog w) A (.call (.ref C) #[rest,[]]) R #[h,g,d,t,os]:=by
 refine codeAny_of_tree ?_;show wpAny _ _ (callAny (.ref C) _) _ _ _;refine nd_load hC ?_;show wpAny _ _ (callAny.viaDunder (.ref C) _) _ _ _;unfold callAny.viaDunder;refine wpAny_bind (call.at ?_);dsimp only;rw[tc_bind];refine wpAny_bind (wpAny_pure (wpAny_bind (wpAny_pure ?_)));refine wpAny_pure (a:=Fin.again (.call (.builtin "type.__call__") #[.ref C::rest,[]])) (And.intro rfl ?_);refine codeAny_call_builtin_at (Code.quiet_builtin _ (by decide+kernel)) entry_typeCall (check_slot tc_kind tc_split typ (tc_args _ _ _) ?_)
 have hm:Looks (model prog w) h (mroOf (.ref C)) (.ref C::bm):=((Looks.ld (part:=none) hC).andThen .now).andThen .now
 have made:Looks (model prog w) h (Bind.madeBy (.ref C)) (some newId):=by
  intro A Q E s k q;obtain⟨h2,g2,d2,t2,os2⟩:=s;exact wpAny_madeBy_exc (k _ _ hC) q
 unfold Builtin.«type.__call__»
 repeat (first|simp only[List.isEmpty_cons,dY,if_false]|with_reducible refine wpAny_call ?_|lk)
 refine codeAny_call_builtin_code (Code.quiet_builtin _ F.quiet) (Ae F yA hC ?_);refine Fe F yA RX RY hC ?_ Fw;have k:∀b o,h.get? b=some o->((h.push {cls:= .type "tuple",data:= .seq rest.toArray}).push (fB C h.objs.size none)).get? b=some o:=λb o e=>Heap.get?_push_of_some _ (Heap.get?_push_of_some _ e);have hx:((h.push {cls:= .type "tuple",data:= .seq rest.toArray}).push (fB C h.objs.size none)).get? (h.objs.size+1)=some (fB C h.objs.size none):=by heap_get
 have t1:Looks (model prog w) ((h.push {cls:= .type "tuple",data:= .seq rest.toArray}).push (fB C h.objs.size none)) (typeOf (.ref (h.objs.size+1))) (.ref C):=(Looks.ld hx).andThen .now
 have s0:Looks (model prog w) h (isSubtype (.ref C) (.ref C)) true:=by
  intro A Q E s k q;obtain⟨h2,g2,d2,t2,os2⟩:=s;refine wpAny_isSubtype_exc (k _ _ hC) ?_;rw[show(Value.ref C::bm).contains (.ref C)=true by simp]
  exact q
 have s1:=s0.keeps k;have i1:=hi.keeps k;have b1:=(hb (.ref (h.objs.size+1))).keeps k;unfold isInstance callSpecial? specialOf
 repeat (first|with_reducible refine wpAny_call ?_|lk)
 refine codeAny_mono hq λr s' z=>?_
 rcases r with e| (v|_|_|_)<;>first|exact z|exact z.elim|skip
 obtain⟨rfl,z⟩:=z;exact wpAny_pure (wpAny_pure z)
end
def HS(C a:Addr)(d:Option Addr):HO:= .ext λh=>∃t,h.get? a=some (fB C t d)
def Uo(a:Addr)(fs:List (Str×V)):HO:= .ext λh=>fs.length<=1000/\∃mA,h.Ns1 a mA/\(∀f,mD (fs.lookup f) (mA f))/\cv mA (fs.map (·.1))
section
variable {P:Program} {w:World} {H:Hp} {h:Heap} {a C:Addr} {d:Option Addr} {fs:List (Str×V)}
theorem T3{t:Addr}(e:h.get? a=some (fB C t d)):cF P w H h a (HS C a d):=#[#[t,e],#[_,e],λh1 h2 #[t,p] k=>#[t,k _ p]]
theorem PZ(hok:gy P w H h)(e:H a=some (HS C a d)):∃t,h.get? a=some (fB C t d):=(hok a _ e).1
theorem P0(hok:gy P w H h)(e:H a=some (Uo a fs)):fs.length<=1000/\∃mA,h.Ns1 a mA/\(∀f,mD (fs.lookup f) (mA f))/\cv mA (fs.map (·.1)):=(hok a _ e).1
end
section
variable {X:Cx} {pins:List (Addr×Obj)} {σ:St} {H:Hp} {s:Shared}
variable {a C:Addr} {fs:List (Str×V)} {f:Str} {v:V} {A:Around} {E:Value->Shared->Prop}
end
section
variable {X:Cx} {o e value:Expr} {f:Str} {pos pos' Xi:Pos} {ta tv:TE}
inductive B8:V->Value->Prop where
 |own (D:Addr):B8 (.ref D) (.ref D)
 |blt (n:String):B8 (.ty n) (.type n)
end
structure qS (K:ac) (C:Addr):Prop where
 obj:∃nm q N bs bm iR sn sub ab col dd k0 k1 k2 k3 k5,K.lookup C=some (excClassObj nm q C N bs bm iR sn sub ab col dd k0 k1 k2 k3 k5 "ValueError.__new__")/\(Value.ref C::bm).contains (.type "ValueError")=true/\
  (Value.ref C::bm).contains (.type "AttributeError")=false/\(Value.ref C::bm).contains (.type "NameError")=false
structure Ny (K:ac) (C:Addr) (init:Value):Prop extends qS K C where
 call:bP K (.ref C) "__call__"=some (some (.builtin "type.__call__"))
 typ:PySem.W.instIn K (.ref C) (.type "type")=some true
 ini:ad K (.ref C) "__init__"=some (some init)
 kp:aA K (.ref C)=true
section
variable {X:Cx} {CX:pN} {k:Nat} {f C:Addr} {fd:FuncData} {ps:List Str} {sp:Sp} {E:XK} {x m:Str} {p pos apos:Pos} {e o:Expr} {es:List Expr} {ta:TE} {t:TA}
end
section
variable {X:Cx} {pins:List (Addr×Obj)} {σ:St} {H:Hp} {s:Shared} {A:Around} {E:Value->Shared->Prop} {Q:Value->Shared->Prop} {b:Bool}
end
theorem ck.of{X:Cx}{scope:Scope}(sc:Scope)(e:X.env.scope=sc)(k:scope.kind= .function)(a:∀x∈scope.names,x.2= .local->scope.names.lookup x.1=some .local)(b:∀x∈scope.names,x.2≠ .cell)
  (c:∀x∈scope.names,x.2= .free->sc.names.lookup x.1=some .cell\/sc.names.lookup x.1=some .free):ck X scope:=#[k,a,b,λx hx hf=>by rw[<-e] at c;exact c x hx hf]
structure fG (K:ac) (mg:Str->Option Value) (x:Str) (st:Stmt) (ps:List Str) where
 f:Addr
 fd:FuncData
 F:tI K x x st f fd
 b:Binds K fd ps []
 m:mg x=some (.ref f)
theorem aM{H:Hp}{p:Addr}(h:H p=none)(o:HO):aN H (upd H p o):=λb u q=>by rw[ay (aV q h)];exact q
theorem small{n:Nat}(h:n<=1000):n<=sizeLine:=qP (eW h)
abbrev iQ(C t:Addr)(tb:Value)(d:Option Addr):Obj:={cls:= .ref C,dict:=d,data:= .fields [.ref t,tb, .none, .none, .bool false, .none].toArray}
def mU(C a:Addr)(d:Option Addr):HO:= .ext λh=>∃t tb,h.get? a=some (iQ C t tb d)
section
variable {P:Program} {w:World} {H:Hp} {h:Heap} {a C:Addr} {d:Option Addr}
theorem KY{t:Addr}{tb:Value}(e:h.get? a=some (iQ C t tb d)):cF P w H h a (mU C a d):=#[#[t,tb,e],#[_,e],λh1 h2 #[t,tb,p] k=>#[t,tb,k _ p]]
theorem N6(hok:gy P w H h)(e:H a=some (mU C a d)):∃t tb,h.get? a=some (iQ C t tb d):=(hok a _ e).1
end
def Ci(h:Heap)(T:Addr):Prop:=∃o a,h.get? T=some o/\o.data= .fields a/\a[3]? =some .none
section
variable {M:Model} {A:Around} {E:Value->Shared->Prop} {s:Shared}
theorem wX 
  (I:A.frames=some (env::outer)) (r:s.heap.FunFrames base (env::outer)) (J:env.frame=some L)
  (u:s.heap.get? e=some (iQ C t j d))
  (h:∀k T,s.heap.objs.size<=T->k.get? e=some (iQ C t (.ref T) d)->Ci k T->(∀b o,s.heap.get? b=some o->b≠e->∃p,k.get? b=some {o with slots:=p})->
   (∀b o,s.heap.get? b=some o->b≠e->b∉rF (env::outer)->k.get? b=some o)->Q () {s with heap:=k}):
  wpAny M A (do let a <-frameOf env;let pl <-entryPlaceOf L H;let b <-EntryCells.newEntry g a .none (rawInt L) .none pl;setField (.ref e) 1 b) (λ_ N=>wpAny M A (setFlight (.ref e) none) Q E N) E s:=by
 have q:(iQ C t j d).data= .fields [.ref t,j, .none, .none, .bool false, .none].toArray:=rfl;have O:1<([.ref t,j, .none, .none, .bool false, .none].toArray:Array Value).size:=by simp
 have P:e∉(env::outer).filterMap (·.frame):=λR=>by
  obtain⟨_,o,m,S⟩:=r.mem R;rw[u] at m;injection m with m;subst m;exact S _ q
 refine ir (wpAny_frameOf_fun I r J λc n=>?_);refine ir (wpAny_entryPlaceOf λpl v=>?_);unfold EntryCells.newEntry newFields;refine ir (P3 ?_ (v.sizeOk5 _ _ _ _ _));have w:c.get? e=some (iQ C t j d):=(n.2.1 e P).trans u;have y:=AC (h:=c) {cls:= .type "traceback",dict:=none,data:= .fields ([g, .ref L, .none,rawInt L, .none]++(if pl.isEmpty then am 6 Value.none else pl)).toArray} w;refine aaO y q O ?_;have z:c.objs.size≠e:=qQ (Do w);have B:=aap q (·.setIfInBounds 1 (Value.ref c.objs.size));have F:=Pi (Obj.mapFields (·.setIfInBounds 1 (Value.ref c.objs.size))) y (aaE B)
 have G:=(Pv (c.push {cls:= .type "traceback",dict:=none,data:= .fields ([g, .ref L, .none,rawInt L, .none]++(if pl.isEmpty then am 6 Value.none else pl)).toArray})
  (Obj.mapFields (·.setIfInBounds 1 (Value.ref c.objs.size))) (Ne.symm z)).trans (FS c rfl)
 unfold setFlight;refine ir (aaV F B (x:= .ref c.objs.size) (by simp) ?_)
 rw[tz (show(Value.ref c.objs.size !=Value.none)=true from by simp)]
 refine aaO G rfl (by simp only[cT,dJ,dG,mS]<;>lia) ?_
 have keep:∀b o,b≠e->c.get? b=some o->
   (((c.push {cls:= .type "traceback",dict:=none,data:= .fields ([g, .ref L, .none,rawInt L, .none]++(if pl.isEmpty then am 6 Value.none else pl)).toArray}).update e (Obj.mapFields (·.setIfInBounds 1 (Value.ref c.objs.size)))).update c.objs.size
     (Obj.mapFields (·.setIfInBounds 3 ((none:Option Addr).elim Value.none λf=>rawInt f)))).get? b=some o:=λb o l i=>by
  have U:c.objs.size≠b:=qQ (Do i);rw[Pv _ _ U,Pv _ _ (Ne.symm l)];exact AC _ i
 refine h _ c.objs.size (by rw[n.1];exact bJ _) ?_ #[_,_,Pi _ G (aaE (aap rfl _)),aap rfl _,by first| (simp;done) | (rcases v with rfl| ⟨_,_,_,_,_,_,_,rfl⟩<;>simp)] (λb o i l=>?_) (λb o i l X=>?_)
 .rw[Pv _ _ z];exact F
 .obtain⟨p,Y⟩:=n.2.2 b o i
  exact#[p,keep b _ l Y]
 .exact keep b o l ((n.2.1 b X).trans i)
theorem FG{base:Heap} 
  (F:A.frames=some (env::outer)) (G:s.heap.FunFrames base (env::outer)) (r:env.frame=some L)
  (u:s.heap.get? e=some (iQ C t g d)) (H:g= .none\/∃T,g= .ref T/\T≠e/\Ci s.heap T)
  (h:∀c T,s.heap.objs.size<=T->c.get? e=some (iQ C t (.ref T) d)->Ci c T->(∀b o,s.heap.get? b=some o->b≠e->∃I,c.get? b=some I)->(∀b o,s.heap.get? b=some o->b≠e->g≠ .ref b->∃k,c.get? b=some {o with slots:=k})->
   (∀b o,s.heap.get? b=some o->b≠e->g≠ .ref b->b∉rF (env::outer)->c.get? b=some o)->Q () {s with heap:=c}):
  wpAny M A (noteFrame (.ref e) env) (λ_ J=>wpAny M A (setFlight (.ref e) none) Q E J) E s:=by
 have N:(iQ C t g d).data= .fields [.ref t,g, .none, .none, .bool false, .none].toArray:=rfl;unfold noteFrame;simp only[r];refine ir (aaV (x:=g) u N rfl ?_)
 rcases H with rfl| ⟨T,rfl,O,Y,P,l,m,i⟩
 .rw[mo (by decide)]
  exact wX F G r u λc T p v i j y=>h c T p v i (λb o q n=>let #[k,z]:=j b o q n;#[_,z]) (λb o q n _=>j b o q n) λb o q n _=>y b o q n
 .rw[tz (show(Value.ref T !=Value.none)=true from by simp)]
  refine ir (aaV l m i ?_);rw[mo (show ¬((Value.none==rawInt L)=true) from by simp[rawInt])]
  refine ir (aaO l m (uW.mp i).1 ?_);have a:∀b,b≠T->(s.heap.update T (Obj.mapFields (·.setIfInBounds 3 Value.none))).get? b=s.heap.get? b:=λb f=>Pv _ _ (Ne.symm f)
  have R:∀b o,s.heap.get? b=some o->(∀S,o.data≠ .fields S)->b≠T:=λb o f B q=>by
   rw[q,l] at f;injection f with f;subst f;exact B P m
  have U:=Pi (Obj.mapFields (·.setIfInBounds 3 Value.none)) l (aaE (aap m _));refine wX (s:={s with heap:=s.heap.update T (Obj.mapFields (·.setIfInBounds 3 Value.none))}) F (G.of_keeps λb o f B=>#[o,(a b (R b o f B)).trans f,rfl]) r ((a e (Ne.symm O)).trans u) λc X p v i j y=>?_
  refine h c X (by rw[Heap.size_after_update] at p;exact p) v i (λb o q n=>?_) (λb o q n z=>j b o ((a b λw=>z (by rw[w])).trans q) n) λb o q n z=>y b o ((a b λw=>z (by rw[w])).trans q) n
  by_cases z:b=T
  .subst z
   obtain⟨k,z⟩:=j b _ U n;exact#[_,z]
  .obtain⟨k,z⟩:=j b o ((a b z).trans q) n
   exact#[_,z]
end
def Ul(X:Cx)(H:Hp)(h:Heap)(a:Value):Prop:=a= .none\/∃T,a= .ref T/\X.s₀.heap.objs.size<=T/\T≠X.env.locals/\(∀x c,X.env.cells.lookup x=some c->c≠T)/\(∀p∈X.pn,p.1≠T)/\H T=none/\Ci h T
def vN(X:Cx)(H:Hp)(s:Shared)(a:Addr):Prop:=∃C t b d,H a=some (mU C a d)/\s.heap.get? a=some (iQ C t b d)/\Ul X H s.heap b
structure Ue (P:Program) (w:World) (outer:List Env) (H:Hp) (s:Shared) (a:Addr) (H':Hp) (s':Shared):Prop where
 os:s'.os=s.os
 bare:AllBare s'.gens
 un:Un (rF outer) [] H H' s.heap s'.heap
 hok:gy P w H' s'.heap
 obj:∃C t tb d,H' a=some (mU C a d)/\s'.heap.get? a=some (iQ C t tb d)/\(tb= .none\/∃T,tb= .ref T/\s.heap.objs.size<=T/\H' T=none/\Ci s'.heap T)
def yk(P:Program)(w:World):pN:=λouter H s E e c=>∃a b,e= .ref a/\Ue P w outer H s a b c/\E e none b
section
variable {X:Cx} {pins:List (Addr×Obj)} {σ:St} {H H':Hp} {s s':Shared} {a:Addr}
theorem Inv.J2(I:Inv X pins σ H s):Inv X [] σ H s:=#[I.ok,I.os,I.bare,I.base,I.loc,I.cell,I.free,I.freeC,λp b=>I.pin p (by rw[f6] at b;exact ig _ b),I.hok,I.len]
theorem N7(I:Inv X pins σ H s)(f:Ue X.prog X.w X.stack H s a H' s'):Inv X [] σ H' s'/\vN X H' s' a:=by
 rfl';obtain⟨os,bare,un,hok,C,t,h,d,i,j,k⟩:=f;have l:Inv X pins σ H' s':=I.EV (ch:= []) os un hok bare (λb z=>absurd z (by simp))
 ac_rfl;refine#[l.J2,C,t,h,d,i,j,k.imp id λ#[T,m,e,n,q]=>#[T,m,kE I.sz e,?_,λx c r z=>?_,λp u z=>?_,n,q]]
 .exact λz=>absurd (fk I.lt e) (by rw[z];exact j3 _)
 .obtain⟨v,o,y,_⟩:=I.cell x c r
  exact absurd (fk (Do y) e) (by rw[z];exact j3 _)
 .have:=(I.pin p (ig _ u)).1
  exact absurd (fk (Do this) e) (by rw[z];exact j3 _)
theorem zv(r:X.stack=X.env::X.outer)(S:X.env.frame=some X.env.locals)(I:Inv X [] σ H s)(f:vN X H s a)
  (h:∀s',Inv X [] σ H s'->vN X H s' a->Q () s'):
  wpAny M X.A (noteFrame (.ref a) X.env) (λ_ s'=>wpAny M X.A (setFlight (.ref a) none) Q E s') E s:=by
 obtain⟨C,t,U,d,j,Y,B⟩:=f;have Z:s.heap.FunFrames X.base (X.env::X.outer):=by rw[<-r];exact I.stack
 refine FG (base:=X.base) (by rw[I.ok.frames,r]) Z S Y (B.imp id λ#[T,e1,_,_,_,_,N,e7]=>#[T,e1,(λz=>by rw[z,j] at N;cases N),e7]) λk T F G Y2 k0 k1 O=>?_
 have tr:∀b u,H b=some u->b≠a->∀o,s.heap.get? b=some o->k.get? b=some o:=λb u i tW o l=>by
  refine O b o l tW (λz=>?_) λz=>?_
  .rcases B with q| ⟨T,q,_,_,_,_,J,_⟩
   .rw[q] at z;cases z
   .rw[q] at z;cases z;rw[i] at J;cases J
  .have:=I.xF b (by rw[r];exact z)
   rw[i] at this;cases this
 have hok:gy X.prog X.w H k:=λb u i=>by
  by_cases z:b=a
  .subst z;rw[j] at i;cases i;exact KY G
  .refine(I.hok b u i).p8 (λc v g q=>?_) (λ_ q=>q) λ_ _ q=>q
   rcases g with rfl|g
   .exact tr c u i z v q
   .exact tr c _ g (λw=>by rw[w,j] at g;cases g) v q
 have YV:H T=none:=I.hok.fresh F;have L:∀c o,s.heap.get? c=some o->c≠T:=λc o g z=>absurd (fk (Do g) F) (by rw[z];exact j3 _)
 have fin:∀ch:List Addr,(∀b,U= .ref b->b∈ch)->(∀b∈ch,(b∈X.ex\/X.s₀.heap.objs.size<=b)/\b≠X.env.locals/\(∀x c,X.env.cells.lookup x=some c->c≠b)/\∀p∈X.pn++ [],p.1≠b)->Inv X [] σ H {s with heap:=k}:=λch P h6=>by
  refine I.EV (s':={s with heap:=k}) (ch:=ch) rfl #[λb o e n i g=>?_,λb o e n _ g=>?_,λb o _ n _=>n,λb o e _=>?_,λ_ _ q=>q,λ_ _ _ q=>q,λ_ ps q=>#[#[],by rw[q];simp]] hok I.bare h6
  .exact O b o e (λz=>by rw[z,j] at n;cases n) (λz=>g (P b z)) (by rw[<-r];exact i)
  .exact k1 b o e (λz=>by rw[z,j] at n;cases n) (λz=>g (P b z))
  .by_cases z:b=a
   .exact#[_,by rw[z];exact G]
   .exact k0 b o e z
 have I':Inv X [] σ H {s with heap:=k}:=by
  rcases B with q| ⟨R,q,q2,q3,q4,q5,J,q7⟩
  .exact fin [] (λb z=>by rw[q] at z;cases z) λb z=>absurd z (by simp)
  .refine fin [R] (λb z=>by rw[q] at z;cases z;exact cP ..) λb z=>?_
   have:b=R:=by simpa using z
   subst this;exact#[.inr q2,q3,q4,λp y=>q5 p (by rw[f6] at y;exact y)]
 refine h _ I' #[C,t, .ref T,d,j,G, .inr #[T,rfl,kE I.sz F,?_,λx c g=>?_,λp y=>?_,YV,Y2]]
 .obtain⟨m,⟨o,_,_,l,_⟩,_⟩:=I.loc
  exact(L _ _ l).symm
 .obtain⟨v,o,l,_⟩:=I.cell x c g
  exact L _ _ l
 .exact L _ _ (I.pin p (ig _ y)).1
end
def Cj(X:Cx)(b:St)(H:Hp)(a:Addr):Prop:=∀s,Inv X [] b H s->vN X H s a->X.xe (.ref a) s
theorem KZ{P:Program}{w:World}{K:ac}{e:Str->Option Value}{base:Heap}{N:List Str}{c:Str}{b:Scope}{f:Addr}{g:Value}{A:Around}{outer:List Env}{s k:Shared}{H i:Hp}{E:XK}{l:St}{a:Addr}
  (I:Inv (kh (yk P w) P w K e base N c b f g A outer s H E) [] l i k) (m:vN (kh (yk P w) P w K e base N c b f g A outer s H E) i k a) (h:E (.ref a) none i):(kh (yk P w) P w K e base N c b f g A outer s H E).xe (.ref a) k:=by
 show wpAny _ _ (leaving _ _) _ _ _;unfold leaving;refine ir (zv (X:=kh (yk P w) P w K e base N c b f g A outer s H E) rfl rfl I m λB j n=>?_);rfl';obtain⟨C,t,p,d,q,r,u⟩:=n;ac_rfl;exact#[a,i,rfl,#[j.os,j.bare,j.base,j.hok,C,t,p,d,q,r,u.imp id λ#[T,v,x,_,_,_,y,z]=>#[T,v,x,y,z]],h]
end L2
namespace TS
open PySem PyProof.Rows
def eZ:Bool->Keyed->Array Keyed->Nat->Nat->Nat->StateT SortSt Sem (Option Nat):=sortPriv%PySem.Builtin.gallop
def pI:Array Keyed->Array Keyed->StateT SortSt Sem (Array Keyed):=sortPriv%PySem.Builtin.mergeLo
def pH:Array Keyed->Array Keyed->StateT SortSt Sem (Array Keyed):=sortPriv%PySem.Builtin.mergeHi
def setMinGallop':Nat->StateT SortSt Sem Unit:=sortPriv%PySem.Builtin.setMinGallop
def jG(left:Bool)(key:Keyed)(arr:Array Keyed)(base i:Nat):StateT SortSt Sem (Option Bool):=do
 let x <-elem' arr (base+i)
 if left then lt' x key else return (<-lt' key x).map (!·)
theorem CY(left:Bool)(key:Keyed)(arr:Array Keyed)(base n a:Nat):eZ left key arr base n a=(do
 let mut lastofs:=0
 let mut ofs:=1
 let mut lo:=0
 let mut hi:=0
 let some right <-jG left key arr base a|return none
 if right then
  let b:=n-a
  for _ in [0:n] do
   if ofs>=b then break
   let some more <-jG left key arr base (a+ofs) |return none
   if !more then break
   lastofs:=ofs
   ofs:=2*ofs+1
  lo:=a+lastofs+1
  hi:=a+min ofs b
 else
  let b:=a+1
  for _ in [0:n] do
   if ofs>=b then break
   let some found <-jG left key arr base (a-ofs) |return none
   if found then break
   lastofs:=ofs
   ofs:=2*ofs+1
  lo:=a+1-min ofs b
  hi:=a-lastofs
 for _ in [0:n] do
  if lo>=hi then break
  let m:=lo+(hi-lo) / 2
  let some more <-jG left key arr base m|return none
  if more then lo:=m+1 else hi:=m
 return some hi):=rfl
def gN(O:KeyOrd)(key:Keyed->O.α)(S:Keyed->Prop)(a:SortKind)(M:Model)(A:Around)(E:Value->Shared->Prop)(s:Shared):Prop:=
 ∀(x y:Keyed)(st:SortSt)(Q:Option Bool->SortSt->Prop),S x->S y->kindOf st=a->Q (some (O.blt (key x) (key y))) st->wpS M A E s (lt' x y) Q st
section
variable {O:KeyOrd} {key:Keyed->O.α} {S:Keyed->Prop} {k0:SortKind} {M:Model} {A:Around} {E:Value->Shared->Prop} {s:Shared} {st:SortSt}
def dN(O:KeyOrd)(key:Keyed->O.α)(left:Bool)(k x:Keyed):Bool:=if left then O.blt (key x) (key k) else !O.blt (key k) (key x)
theorem bw{i:Nat}(h:arr[i]? =some x)(q:Q x st):wpS M A E s (elem' arr i) Q st:=by
 rw[elem'_eq,h];exact FB q
theorem kC(C:gN O key S k0 M A E s)(d:arr[base+i]? =some x)(a:S k)(b:S x)(c:kindOf st=k0)
  (q:Q (some (dN O key left k x)) st):wpS M A E s (jG left k arr base i) Q st:=by
 unfold jG;refine Da (bw d ?_);unfold dN at q;cases left with
 |true=>exact C _ _ _ _ b a c q
 |false=>exact Da (C _ _ _ _ a b c (FB q))
structure Seg (S:Keyed->Prop) (arr:Array Keyed) (base n:Nat) (g:Nat->Keyed):Prop where
 at_:∀i,i<n->arr[base+i]? =some (g i)
 mem:∀i,i<n->S (g i)
theorem gM(C:gN O key S k0 M A E s){base n a:Nat}(G:Seg S arr base n g)(H:S k)(J:kindOf st=k0)(X:a<n)
  (mono:∀i j,i<=j->j<n->dN O key left k (g j)=true->dN O key left k (g i)=true)
  (q:∀p,p<=n->(∀i,i<p->dN O key left k (g i)=true)->(∀i,p<=i->i<n->dN O key left k (g i)=false)->Q (some p) st):wpS M A E s (eZ left k arr base n a) Q st:=by
 rw[CY];refine Da (kC C (G.at_ _ X) H (G.mem _ X) J ?_)
 have P:∀i j,i<=j->j<n->dN O key left k (g i)=false->dN O key left k (g j)=false:=λi j dP hj h=>by
  cases e:dN O key left k (g j) with
  |false=>rfl
  |true=>rw[mono i j dP hj e] at h;cases h
 have fin:∀lo b,lo<=b->b<=n->(∀i,i<lo->dN O key left k (g i)=true)->(∀i,b<=i->i<n->dN O key left k (g i)=false)->
   wpS M A E s (do
    let mut lo:=lo
    let mut b:=b
    for _ in [0:n] do
     if lo>=b then break
     let m:=lo+(b-lo) / 2
     let some more <-jG left k arr base m|return none
     if more then lo:=m+1 else b:=m
    return some b) Q st:=by
  intro lo b R hn B y;dsimp only
  refine Da (SB (SL (I:=λx c f=>f=st/\∃lo b,c=(none,lo,b)/\lo<=b/\b<=n/\b-lo<=n-x/\(∀i,i<lo->dN O key left k (g i)=true)/\(∀i,b<=i->i<n->dN O key left k (g i)=false))
   (Q:=λc f=>f=st/\∃b,c=(none,b,b)/\b<=n/\(∀i,i<b->dN O key left k (g i)=true)/\(∀i,b<=i->i<n->dN O key left k (g i)=false)) ?step ?fin #[rfl,lo,b,rfl,R,hn,by lia,B,y]) ?post)
  case fin=>
   rintro c f ⟨rfl,lo,b,rfl,r,w,t,l,L⟩
   have:lo=b:=by lia
   subst this;exact#[rfl,lo,rfl,w,l,L]
  case step=>
   rintro x c f _ Y ⟨rfl,lo,b,rfl,r,w,t,l,L⟩;dsimp only
   by_cases v:lo>=b
   .rw[tz v]
    have:lo=b:=by lia
    subst this;exact FB #[rfl,lo,rfl,w,l,L]
   .rw[mo v]
    have u:lo+(b-lo) / 2<n:=by lia
    refine Da (kC C (G.at_ _ u) H (G.mem _ u) J ?_);cases e:dN O key left k (g (lo+(b-lo) / 2)) with
    |true=>
     dsimp only;rw[tz rfl];exact FB #[rfl,_,_,rfl,by lia,w,by lia,λi b=>mono _ _ (by lia) u e,L]
    |false=>
     dsimp only;rw[mo (by decide)]
     exact FB #[rfl,_,_,rfl,by lia,by lia,by lia,l,λi B y=>P _ _ B y e]
  case post=>
   rintro c f ⟨rfl,b,rfl,T,N,F⟩;exact FB (q _ T N F)
 dsimp only;cases Z:dN O key left k (g a) with
 |true=>
  rw[tz rfl]
  refine Da (SB (SL (I:=λx c f=>f=st/\∃d o,c=(none,d,o)/\d<o/\x<o/\a+d<n/\dN O key left k (g (a+d))=true)
   (Q:=λc f=>f=st/\∃d o,c=(none,d,o)/\d<o/\a+d<n/\dN O key left k (g (a+d))=true/\(n-a<=o\/(a+o<n/\dN O key left k (g (a+o))=false))) ?step ?fin2 #[rfl,0,1,rfl,by lia,by lia,by lia,Z]) ?post)
  case fin2=>
   rintro c f ⟨rfl,d,o,rfl,r,w,t,l⟩;exact#[rfl,d,o,rfl,r,t,l, .inl (by lia)]
  case step=>
   rintro x c f _ Y ⟨rfl,d,o,rfl,r,w,t,l⟩;dsimp only
   by_cases v:o>=n-a
   .rw[tz v]
    exact FB #[rfl,d,o,rfl,r,t,l, .inl v]
   .rw[mo v]
    have u:a+o<n:=by lia
    refine Da (kC C (G.at_ _ u) H (G.mem _ u) J ?_);cases e:dN O key left k (g (a+o)) with
    |true=>
     dsimp only;rw[mo (by decide)]
     exact FB #[rfl,_,_,rfl,by lia,by lia,u,e]
    |false=>
     dsimp only;rw[tz (by decide)]
     exact FB #[rfl,d,o,rfl,r,t,l, .inr #[u,e]]
  case post=>
   rintro c f ⟨rfl,d,o,rfl,T,N,F,z⟩;refine fin (a+d+1) (a+min o (n-a)) (by lia) (by lia) (λi b=>mono _ _ (by lia) N F) (λi B y=>?_)
   rcases z with z| ⟨z,U⟩
   .lia
   .exact P _ _ (by lia) y U
 |false=>
  rw[mo (by decide)]
  refine Da (SB (SL (I:=λx c f=>f=st/\∃d o,c=(none,d,o)/\d<o/\x<o/\d<=a/\dN O key left k (g (a-d))=false)
   (Q:=λc f=>f=st/\∃d o,c=(none,d,o)/\d<o/\d<=a/\dN O key left k (g (a-d))=false/\(a+1<=o\/(o<=a/\dN O key left k (g (a-o))=true))) ?step ?fin2 #[rfl,0,1,rfl,by lia,by lia,by lia,Z]) ?post)
  case fin2=>
   rintro c f ⟨rfl,d,o,rfl,r,w,t,l⟩;exact#[rfl,d,o,rfl,r,t,l, .inl (by lia)]
  case step=>
   rintro x c f _ Y ⟨rfl,d,o,rfl,r,w,t,l⟩;dsimp only
   by_cases v:o>=a+1
   .rw[tz v]
    exact FB #[rfl,d,o,rfl,r,t,l, .inl v]
   .rw[mo v]
    have u:a-o<n:=by lia
    refine Da (kC C (G.at_ _ u) H (G.mem _ u) J ?_);cases e:dN O key left k (g (a-o)) with
    |true=>
     dsimp only;rw[tz rfl];exact FB #[rfl,d,o,rfl,r,t,l, .inr #[by lia,e]]
    |false=>
     dsimp only;rw[mo (by decide)]
     exact FB #[rfl,_,_,rfl,by lia,by lia,by lia,e]
  case post=>
   rintro c f ⟨rfl,d,o,rfl,T,N,F,z⟩;refine fin (a+1-min o (a+1)) (a-d) (by lia) (by lia) (λi b=>?_) (λi B y=>P _ _ B y F)
   rcases z with z| ⟨z,U⟩
   .lia
   .exact mono _ _ (by lia) (by lia) U
end
section
variable {O:KeyOrd} {key:Keyed->O.α} {S:Keyed->Prop} {k0:SortKind} {M:Model} {A:Around} {E:Value->Shared->Prop} {s:Shared} {st bO:SortSt}
def ky(O:KeyOrd)(key:Keyed->O.α)(a:Array Keyed)(i:Nat):O.α:=key (a[i]?.getD (.none, .none))
theorem iB(h:a[i]? =b[j]?):ky O key a i=ky O key b j:=by unfold ky;rw[h]
def jn(O:KeyOrd)(key:Keyed->O.α)(xs:Array Keyed)(a b:Nat):Prop:=∀i j,a<=i->i<=j->j<b->O.kle (ky O key xs i) (ky O key xs j)
def HM(O:KeyOrd)(key:Keyed->O.α)(c:Array Keyed)(a b:Nat):Prop:=∀i j,a<=i->i<=j->j<b->O.kle (ky O key c j) (ky O key c i)
structure gO (bO st:SortSt) (lo hi:Nat):Prop where
 perm:(arrOf st).Perm (arrOf bO)
 kind:kindOf st=kindOf bO
 failed:failedOf st=failedOf bO
 pend:pendingOf st=pendingOf bO
 out:∀i,i<lo\/hi<=i->(arrOf st)[i]? =(arrOf bO)[i]?
theorem gO.refl(st:SortSt)(lo a:Nat):gO st st lo a:=#[.refl _,rfl,rfl,rfl,λ_ _=>rfl]
theorem gO.trans{d e:SortSt}{lo c:Nat}(a:gO bO d lo c)(b:gO d e lo c):gO bO e lo c:=
 #[b.perm.trans a.perm,b.kind.trans a.kind,b.failed.trans a.failed,b.pend.trans a.pend,λi h=>(b.out i h).trans (a.out i h)]
theorem gO.size{lo b:Nat}(a:gO bO st lo b):(arrOf st).size=(arrOf bO).size:=a.perm.size_eq
theorem gO.mirror{lo a i j:Nat}(c:lo<=i)(d:j<=a)(b:j<=(arrOf st).size):gO st (setArr st (mirror (arrOf st) i j ((j-i) / 2))) lo a:=
 #[mirror_perm _ _ _ _,rfl,rfl,rfl,λk h=>by
  show(PyProof.Rows.mirror (arrOf st) i j ((j-i) / 2))[k]? =_;rw[getElem?_mirror_all b,mo (by lia)]]
theorem gO.bubble{lo a src d:Nat}(b:d<=src)(e:lo<=src-d)(f:src<a)(c:src<(arrOf st).size):gO st (setArr st (bubble (arrOf st) src d)) lo a:=
 #[bubble_perm _ _ _,rfl,rfl,rfl,λk h=>by
  show(PyProof.Rows.bubble (arrOf st) src d)[k]? =_;rw[getElem?_bubble c d b,mo (by lia),mo (by lia)]]
theorem qz{i j:Nat}(c:j<=a.size)(k:Nat):ky O key (mirror a i j ((j-i) / 2)) k=if i<=k/\k<j then ky O key a (i+j-1-k) else ky O key a k:=by
 have e:=getElem?_mirror_all (i:=i) c k
 by_cases b:i<=k/\k<j
 .rw[tz b] at e ⊢;exact iB e
 .rw[mo b] at e ⊢;exact iB e
theorem gq(c:j<=a.size)(b:∀k,i<=k->k<j->ky O key a k=ky O key a (j-1))(k:Nat):ky O key (mirror a i j ((j-i) / 2)) k=ky O key a k:=by
 rw[qz c]
 split
 .rw[b _ (by lia) (by lia),b k (by lia) (by lia)]
 .rfl
theorem wM(f:src<a.size)(g:d<=src)(k:Nat):
  ky O key (bubble a src d) k=if k=src-d then ky O key a src else if src-d<k/\k<=src then ky O key a (k-1) else ky O key a k:=by
 have e:=getElem?_bubble f d g k
 by_cases b:k=src-d
 .rw[tz b] at e ⊢;exact iB e
 .rw[mo b] at e ⊢
  by_cases c:src-d<k/\k<=src
  .rw[tz c] at e ⊢;exact iB e
  .rw[mo c] at e ⊢;exact iB e
structure Ok (S:Keyed->Prop) (k0:SortKind) (st:SortSt):Prop where
 mem:∀p,p∈(arrOf st).toList->S p
 kind:kindOf st=k0
theorem Ok.step{lo b:Nat}(o:Ok S k0 bO)(a:gO bO st lo b):Ok S k0 st:=
 #[λp c=>o.mem p ((HI.mp a.perm).mem_iff.mp c),a.kind.trans o.kind]
theorem Ok.at{i:Nat}(o:Ok S k0 st)(a:i<(arrOf st).size):(arrOf st)[i]? =some ((arrOf st)[i]?.getD (.none, .none))/\S ((arrOf st)[i]?.getD (.none, .none)):=by
 have e:(arrOf st)[i]? =some (arrOf st)[i]:=aaP _ i a;rw[e];exact#[rfl,o.mem _ (by simp)]
theorem oW(C:gN O key S k0 M A E s)(o:Ok S k0 st)(a:i<(arrOf st).size)(b:j<(arrOf st).size)
  (q:Q (some (O.blt (ky O key (arrOf st) i) (ky O key (arrOf st) j))) st):wpS M A E s (ltAt' i j) Q st:=by
 rw[ltAt'_eq];obtain⟨c,d⟩:=o.at a;obtain⟨e,f⟩:=o.at b;refine Da (aaX (Da (bw c (Da (bw e (C _ _ _ _ d f o.kind q))))))
theorem wpS_binarySort(C:gN O key S k0 M A E s){lo n ok:Nat}{Q:Bool->SortSt->Prop}(o:Ok S k0 st)(X:lo+n<=(arrOf st).size)(hok:ok<=n)(B:jn O key (arrOf st) lo (lo+ok))
  (h:∀b,gO st b lo (lo+n)->jn O key (arrOf b) lo (lo+n)->Q true b):wpS M A E s (binarySort' lo n ok) Q st:=by
 rw[binarySort'_eq]
 refine wpS_bind (wpS_mono (wpS_forRange (I:=λk c b=>c=(none,())/\gO st b lo (lo+n)/\jn O key (arrOf b) lo (lo+min k n))
  (Q:=λc b=>c=(none,())/\gO st b lo (lo+n)/\jn O key (arrOf b) lo (lo+n)) ?step ?fin ?init) ?post)
 case post=>
  rintro c b ⟨rfl,f,e⟩;exact wpS_pure (h b f e)
 case init=>
  refine#[rfl, .refl _ _ _,λi j t w F=>?_]
  by_cases p:ok=0
  .have:i=j:=by lia
   subst this;exact KeyOrd.kle_refl _
  .exact B i j t w (by lia)
 case fin=>
  rintro c b ⟨G,f,e⟩;exists G,f
  rwa [show min (max (max ok 1) n) n=n by lia] at e
 case step=>
  rintro k c b H Y ⟨rfl,f,e⟩;rw[show min k n=k by lia] at e
  have J:=o.step f;have Z:=f.size;have q:lo+k<(arrOf b).size:=by lia
  refine wpS_bind (wpS_mono (wpS_forRange (I:=λx c d=>d=b/\∃l r,c=(none,l,r)/\l<=r/\r<=k/\r-l<=k-x/\
    (∀i,i<l->O.kle (ky O key (arrOf b) (lo+i)) (ky O key (arrOf b) (lo+k)))/\(∀i,r<=i->i<k->O.klt (ky O key (arrOf b) (lo+k)) (ky O key (arrOf b) (lo+i))))
   (Q:=λc d=>d=b/\∃l r,c=(none,l,r)/\l<=k/\
    (∀i,i<l->O.kle (ky O key (arrOf b) (lo+i)) (ky O key (arrOf b) (lo+k)))/\(∀i,l<=i->i<k->O.klt (ky O key (arrOf b) (lo+k)) (ky O key (arrOf b) (lo+i)))) ?istep ?ifin ?iinit) ?ipost)
  case iinit=>exact#[rfl,0,k,rfl,by lia,by lia,by lia,λi t=>by lia,λi p u=>by lia]
  case ifin=>
   rintro c d ⟨rfl,l,r,rfl,L,v,N,g,m⟩
   have:l=r:=by lia
   subst this;exact#[rfl,l,l,rfl,v,g,m]
  case istep=>
   rintro x c d _ P ⟨rfl,l,r,rfl,L,v,N,g,m⟩;dsimp only
   by_cases y:l>=r
   .rw[if_pos y]
    have:l=r:=by lia
    subst this;exact wpS_pure #[rfl,l,l,rfl,v,g,m]
   .rw[if_neg y]
    refine wpS_bind (oW C J q (by lia) ?_)
    cases z:O.blt (ky O key (arrOf d) (lo+k)) (ky O key (arrOf d) (lo+(l+r) / 2))
    case true=>
     simp only[if_true];refine wpS_pure #[rfl,l,(l+r) / 2,rfl,by lia,by lia,by lia,g,λi p u=>?_]
     exact KeyOrd.klt_of_klt_of_kle z (e _ _ (by lia) (by lia) (by lia))
    case false=>
     simp only[dY,if_false];refine wpS_pure #[rfl,(l+r) / 2+1,r,rfl,by lia,by lia,by lia,λi p=>?_,m]
     exact KeyOrd.kle_trans (e (lo+i) (lo+(l+r) / 2) (by lia) (by lia) (by lia)) (show O.kle _ _ from z)
  case ipost=>
   rintro c d ⟨rfl,l,r,rfl,R,g,m⟩;show wpS _ _ _ _ (do moveDown' (lo+k) (lo+l);pure (ForInStep.yield (none,()))) _ _
   rw[moveDown'_eq];have ed:lo+k-(lo+l)=k-l:=by lia
   refine wpS_bind (wpS_modify (wpS_pure #[rfl,f.trans (gO.bubble (by lia) (by lia) (by lia) q),?_]))
   rw[show min (k+1) n=k+1 by lia]
   intro i j t w F;show O.kle (ky O key (bubble (arrOf d) (lo+k) (lo+k-(lo+l))) i) (ky O key (bubble (arrOf d) (lo+k) (lo+k-(lo+l))) j);rw[wM q (by lia),wM q (by lia),show lo+k-(lo+k-(lo+l))=lo+l by lia]
   have T:∀a,lo<=a->a<lo+l->O.kle (ky O key (arrOf d) a) (ky O key (arrOf d) (lo+k)):=λa p u=>by
    have:=g (a-lo) (by lia);rwa [show lo+(a-lo)=a by lia] at this
   have U:∀a,lo+l<=a->a<lo+k->O.klt (ky O key (arrOf d) (lo+k)) (ky O key (arrOf d) a):=λa p u=>by
    have:=m (a-lo) (by lia) (by lia);rwa [show lo+(a-lo)=a by lia] at this
   repeat' split
   all_goals first
    | (exfalso;lia)
    |exact KeyOrd.kle_refl _
    |exact T _ (by lia) (by lia)
    |exact KeyOrd.kle_of_klt (U _ (by lia) (by lia))
    |exact e _ _ (by lia) (by lia) (by lia)
end
def Co(lo a d:Nat):StateT SortSt Sem AscSt:=
 forIn [a:d] ((none,a):AscSt) λ_ b=>do
  let c <-ltAt' (lo+b.snd) (lo+b.snd-1)
  match c with
  |some e=>if e=true then pure (ForInStep.done (none,b.snd)) else pure (ForInStep.yield (none,b.snd+1))
  |_=>pure (ForInStep.done (some none,b.snd))
def tailL(lo n b:Nat):StateT SortSt Sem (Option Nat):=do
 reverseSlice' lo (lo+n)
 let a <-Co lo n b
 match a.fst with
 |some r=>pure r
 |none=>pure (some a.snd)
def Ar(lo n c:Nat):StateT SortSt Sem DescSt:=
 forIn [n:c] ((none,n,0):DescSt) λ_ a=>do
  let b <-ltAt' (lo+a.snd.fst) (lo+a.snd.fst-1)
  match b with
  |some d=>
   if d=true then
    if a.snd.snd>0 then do
     reverseSlice' (lo+a.snd.fst-(a.snd.snd+1)) (lo+a.snd.fst)
     pure (ForInStep.yield (none,a.snd.fst+1,0))
    else pure (ForInStep.yield (none,a.snd.fst+1,0))
   else do
    let b <-ltAt' (lo+a.snd.fst-1) (lo+a.snd.fst)
    match b with
    |some e=>
     if e=true then pure (ForInStep.done (none,a.snd.fst,a.snd.snd))
     else pure (ForInStep.yield (none,a.snd.fst+1,a.snd.snd+1))
    |_=>pure (ForInStep.done (some none,a.snd.fst,a.snd.snd))
  |_=>pure (ForInStep.done (some none,a.snd.fst,a.snd.snd))
def descP(lo n b:Nat):StateT SortSt Sem (Option Nat):=do
 liftM (rule "list.sort.descending-run")
 let a <-Ar lo (n+1) b
 match a.fst with
 |some r=>pure r
 |none=>
  if a.snd.snd>0 then do
   reverseSlice' (lo+a.snd.fst-(a.snd.snd+1)) (lo+a.snd.fst)
   tailL lo a.snd.fst b
  else tailL lo a.snd.fst b
theorem yx(lo c:Nat):countRun' lo c=(do
  let a <-Co lo 1 c
  match a.fst with
  |some r=>pure r
  |none=>
   if (a.snd==c)=true then pure (some a.snd)
   else if a.snd>1 then do
    let e <-ltAt' lo (lo+a.snd-1)
    match e with
    |some g=>if g=true then pure (some a.snd) else do
      reverseSlice' lo (lo+a.snd)
      descP lo a.snd c
    |_=>pure none
   else descP lo a.snd c):=by
 rw[countRun'_eq];dsimp only;unfold descP tailL Ar Co
 congr 1
 funext a
 obtain⟨r,n⟩:=a;cases r with
 |some r=>rfl
 |none=>
  dsimp only
  split
  .rfl
  .split
   .congr 1
    funext x
    cases x with
    |none=>rfl
    |some g=>
     dsimp only
     split
     .rfl
     .congr 1
      funext _r
      (congr 1;funext _u;congr 1;congr 1;funext s2;obtain⟨d,h,i⟩:=s2;cases d with
 |some d=>rfl
 |none=>(dsimp only;split;(congr 1;funext _v;(congr 1;funext _w;congr 1;(funext s3;obtain⟨b,f⟩:=s3;cases b<;>rfl)));(congr 1;funext _w;congr 1;(funext s3;obtain⟨b,f⟩:=s3;cases b<;>rfl))))
   ·(congr 1;funext _u;congr 1;congr 1;funext s2;obtain⟨d,h,i⟩:=s2;cases d with
 |some d=>rfl
 |none=>(dsimp only;split;(congr 1;funext _v;(congr 1;funext _w;congr 1;(funext s3;obtain⟨b,f⟩:=s3;cases b<;>rfl)));(congr 1;funext _w;congr 1;(funext s3;obtain⟨b,f⟩:=s3;cases b<;>rfl))))
section
variable {O:KeyOrd} {key:Keyed->O.α} {S:Keyed->Prop} {k0:SortKind} {prog:Program} {w:World} {A:Around} {E:Value->Shared->Prop} {s:Shared} {st bO:SortSt}
theorem zQ(C:gN O key S k0 (model prog w) A E s){lo a b:Nat}{Q:AscSt->SortSt->Prop}(o:Ok S k0 st)(u:lo+b<=(arrOf st).size)(v:1<=a)(k:a<=b)(l:jn O key (arrOf st) lo (lo+a))
  (h:∀n,a<=n->n<=b->jn O key (arrOf st) lo (lo+n)->(n=b\/O.klt (ky O key (arrOf st) (lo+n)) (ky O key (arrOf st) (lo+n-1)))->Q (none,n) st):
  wpS (model prog w) A E s (Co lo a b) Q st:=by
 unfold Co;refine SL (I:=λx c e=>e=st/\c=(none,x)/\jn O key (arrOf st) lo (lo+x)) ?step ?fin #[rfl,rfl,l]
 case fin=>
  rintro c e ⟨rfl,rfl,d⟩;rw[show max a b=b by lia] at d ⊢
  exact h b k (bJ _) d (.inl rfl)
 case step=>
  rintro x c e m y ⟨rfl,rfl,d⟩;dsimp only;refine Da (oW C o (by lia) (by lia) ?_)
  cases f:O.blt (ky O key (arrOf e) (lo+x)) (ky O key (arrOf e) (lo+x-1))
  case true=>
   simp only[aaB];exact FB (h x m (by lia) d (.inr f))
  case false=>
   simp only[dY,Os];refine FB #[rfl,rfl,λi j g p z=>?_]
   by_cases q:j<lo+x
   .exact d i j g p q
   .have r:j=lo+x:=by lia
    subst r
    by_cases t:i=lo+x
    .subst t;exact W1 _
    .exact KM (d i (lo+x-1) g (by lia) (by lia)) f
theorem sZ(h:Q () (setArr st (mirror (arrOf st) i j ((j-i) / 2)))):wpS (model prog w) A E s (reverseSlice' i j) Q st:=by
 rw[reverseSlice'_eq];exact aba h
theorem xR(C:gN O key S k0 (model prog w) A E s){lo n a:Nat}{Q:Option Nat->SortSt->Prop}(o:Ok S k0 st)(e:lo+a<=(arrOf st).size)(f:1<=n)(g:n<=a)(k:HM O key (arrOf st) lo (lo+n))
  (h:∀m b,gO st b lo (lo+a)->1<=m->m<=a->jn O key (arrOf b) lo (lo+m)->Q (some m) b):wpS (model prog w) A E s (tailL lo n a) Q st:=by
 unfold tailL;have c:lo+n<=(arrOf st).size:=by lia
 refine Da (sZ ?_);have d:gO st (setArr st (mirror (arrOf st) lo (lo+n) ((lo+n-lo) / 2))) lo (lo+a):=gO.mirror (bJ _) (by lia) c
 refine Da (zQ C (o.step d) (by rw[d.size];exact e) f g ?_ λm q l p _=>FB (h m _ d (by lia) l p))
 intro i j r t u;show O.kle (ky O key (mirror (arrOf st) lo (lo+n) ((lo+n-lo) / 2)) i) (ky O key (mirror (arrOf st) lo (lo+n) ((lo+n-lo) / 2)) j);rw[qz c,qz c,tz (by lia),tz (by lia)]
 exact k _ _ (by lia) (by lia) (by lia)
theorem Gu(C:gN O key S k0 (model prog w) A E s){lo n d:Nat}{Q:DescSt->SortSt->Prop}(o:Ok S k0 st)(X:lo+d<=(arrOf st).size)(p:1<=n)(N:n<=d)(P:HM O key (arrOf st) lo (lo+n))
  (h:∀m b a,gO st a lo (lo+d)->n<=m->m<=d->HM O key (arrOf a) lo (lo+m)->b+1<=m->(∀i,lo+m-(b+1)<=i->i<lo+m->ky O key (arrOf a) i=ky O key (arrOf a) (lo+m-1))->Q (none,m,b) a):
  wpS (model prog w) A E s (Ar lo n d) Q st:=by
 unfold Ar
 refine SL (I:=λx c a=>∃b,c=(none,x,b)/\gO st a lo (lo+d)/\HM O key (arrOf a) lo (lo+x)/\b+1<=x/\
   (∀i,lo+x-(b+1)<=i->i<lo+x->ky O key (arrOf a) i=ky O key (arrOf a) (lo+x-1))) ?step ?fin #[0,rfl, .refl _ _ _,P,by lia,λi p r=>by congr 1;lia]
 case fin=>
  rintro c a ⟨b,rfl,e,f,q,g⟩;rw[show max n d=d by lia] at f q g ⊢
  exact h d b a e N (bJ _) f q g
 case step=>
  rintro x c a Y Z ⟨b,rfl,e,f,q,g⟩;dsimp only;have B:=o.step e;have hz:=e.size;have F:lo+x<=(arrOf a).size:=by lia
  refine Da (oW C B (by lia) (by lia) ?_)
  cases G:O.blt (ky O key (arrOf a) (lo+x)) (ky O key (arrOf a) (lo+x-1))
  case true=>
   simp only[aaB]
   have H:∀t:Array Keyed,(∀k,ky O key t k=ky O key (arrOf a) k)->HM O key t lo (lo+(x+1)):=by
    intro t J i j l u R;rw[J,J]
    by_cases v:j<lo+x
    .exact f i j l u v
    .have y:j=lo+x:=by lia
     subst y
     by_cases z:i=lo+x
     .subst z;exact W1 _
     .exact KM (Re G) (f i (lo+x-1) l (by lia) (by lia))
   by_cases L:b>0
   .rw[tz L]
    refine Da (sZ (FB #[0,rfl,e.trans (gO.mirror (by lia) (by lia) F),H _ (gq F g),by lia,λi p r=>by congr 1;lia]))
   .rw[mo L]
    exact FB #[0,rfl,e,H _ (λ_=>rfl),by lia,λi p r=>by congr 1;lia]
  case false=>
   simp only[dY,Os];refine Da (oW C B (by lia) (by lia) ?_)
   cases T:O.blt (ky O key (arrOf a) (lo+x-1)) (ky O key (arrOf a) (lo+x))
   case true=>
    simp only[aaB];exact FB (h x b a e (by lia) (by lia) f q g)
   case false=>
    simp only[dY,Os];have M:ky O key (arrOf a) (lo+x)=ky O key (arrOf a) (lo+x-1):=O.total _ _ G T;refine FB #[b+1,rfl,e,λi j l u R=>?_,by lia,λi p r=>?_]
    .by_cases v:j<lo+x
     .exact f i j l u v
     .have y:j=lo+x:=by lia
      subst y
      by_cases z:i=lo+x
      .subst z;exact W1 _
      .rw[M];exact f i (lo+x-1) l (by lia) (by lia)
    .rw[show lo+(x+1)-1=lo+x by lia]
     by_cases U:i=lo+x
     .subst U;rfl
     .rw[M];exact g i (by lia) (by lia)
theorem xJ(C:gN O key S k0 (model prog w) A E s){lo n b:Nat}{Q:Option Nat->SortSt->Prop}(o:Ok S k0 st)(u:lo+b<=(arrOf st).size)(v:n+1<=b)(x:HM O key (arrOf st) lo (lo+(n+1)))
  (h:∀m a,gO st a lo (lo+b)->1<=m->m<=b->jn O key (arrOf a) lo (lo+m)->Q (some m) a):wpS (model prog w) A E s (descP lo n b) Q st:=by
 unfold descP;refine Da (abl (aaK #[rfl,?_]));refine Da (Gu C o u (by lia) v x λm d a c F p q G r=>?_)
 dsimp only;have H:=c.size;have e:lo+m<=(arrOf a).size:=by lia
 by_cases t:d>0
 .rw[tz t]
  have f:gO a (setArr a (mirror (arrOf a) (lo+m-(d+1)) (lo+m) ((lo+m-(lo+m-(d+1))) / 2))) lo (lo+b):=gO.mirror (by lia) (by lia) e
  refine Da (sZ (xR C (o.step (c.trans f)) (by rw[f.size];lia) (by lia) p ?_ λg k l=>h g k ((c.trans f).trans l)))
  intro i j y z B;show O.kle (ky O key (mirror (arrOf a) _ _ _) j) (ky O key (mirror (arrOf a) _ _ _) i);rw[gq e r,gq e r];exact q i j y z B
 .rw[mo t]
  exact xR C (o.step c) (by lia) (by lia) p q λg k l=>h g k (c.trans l)
theorem wpS_countRun(C:gN O key S k0 (model prog w) A E s){lo a:Nat}{Q:Option Nat->SortSt->Prop}(o:Ok S k0 st)(q:lo+a<=(arrOf st).size)(B:1<=a)
  (h:∀m e,gO st e lo (lo+a)->1<=m->m<=a->jn O key (arrOf e) lo (lo+m)->Q (some m) e):wpS (model prog w) A E s (countRun' lo a) Q st:=by
 rw[yx];refine Da (zQ C o q (bJ 1) B (λi j c r t=>by have:i=j:=(by lia);subst this;exact W1 _) λn u v d F=>?_)
 dsimp only
 by_cases f:n=a
 .rw[tz (by simpa using f)]
  exact FB (h n st (.refl _ _ _) u v d)
 .rw[mo (by simpa using f)]
  have x:O.klt (ky O key (arrOf st) (lo+n)) (ky O key (arrOf st) (lo+n-1)):=F.resolve_left f
  by_cases y:n>1
  .rw[tz y]
   refine Da (oW C o (by lia) (by lia) ?_)
   cases G:O.blt (ky O key (arrOf st) lo) (ky O key (arrOf st) (lo+n-1))
   case true=>
    simp only[aaB];exact FB (h n st (.refl _ _ _) u v d)
   case false=>
    simp only[dY,Os];have g:lo+n<=(arrOf st).size:=by lia
    have b:∀k,lo<=k->k<lo+n->ky O key (arrOf st) k=ky O key (arrOf st) (lo+n-1):=by
     intro k z H;have I:=d lo k (by lia) z H
     have J:=d k (lo+n-1) z (by lia) (by lia)
     exact KeyOrd.kle_antisymm J (KM G I)
    have l:gO st (setArr st (mirror (arrOf st) lo (lo+n) ((lo+n-lo) / 2))) lo (lo+a):=gO.mirror (bJ _) (by lia) g
    refine Da (sZ (xJ C (o.step l) (by rw[l.size];lia) (by lia) ?_ λL M N=>h L M (l.trans N)))
    intro i j c r t;show O.kle (ky O key (mirror (arrOf st) _ _ _) j) (ky O key (mirror (arrOf st) _ _ _) i);rw[gq g b,gq g b]
    by_cases P:j<lo+n
    .rw[b i c (by lia),b j (by lia) P];exact W1 _
    .have R:j=lo+n:=by lia
     subst R
     by_cases p:i=lo+n
     .subst p;exact W1 _
     .rw[b i c (by lia)];exact Re x
  .rw[mo y]
   have T:n=1:=by lia
   subst T;refine xJ C o q (by lia) ?_ h
   intro i j c r t
   by_cases p:i=j
   .subst p;exact W1 _
   .have U:i=lo:=by lia
    have X:j=lo+1:=by lia
    subst U;subst X;exact Re x
end
section lists
variable (O:KeyOrd) (key:Keyed->O.α)
def LE(x y:Keyed):Prop:=O.kle (key x) (key y)
structure MI (l o ra rb:List Keyed):Prop where
 perm:(o++(ra++rb)).Perm l
 so:o.Pairwise (LE O key)
 sa:ra.Pairwise (LE O key)
 sb:rb.Pairwise (LE O key)
 le:∀x∈o,∀y∈ra++rb,LE O key x y
def Res(l r:List Keyed):Prop:=r.Perm l/\r.Pairwise (LE O key)
variable {O key}
theorem MI.lR{l o xs e b:List Keyed}(m:MI O key l o (xs++e) b)(h:∀x∈xs,∀y∈b,LE O key x y):MI O key l (o++xs) e b:=by
 obtain⟨f,g,c⟩:=u0.mp m.sa;refine#[by simpa [j1] using m.perm,u0.mpr #[m.so,f,λx d y a=>m.le x d y (by simp[a])],g,m.sb,λx d y a=>?_]
 rcases cU.mp d with z|z
 .refine m.le x z y ?_
  rcases cU.mp a with u|u<;>simp[u]
 .rcases cU.mp a with u|u
  .exact c x z y u
  .exact h x z y u
theorem MI.swap(m:MI O key l o a b):MI O key l o b a:=
 #[(abr o List.perm_append_comm).trans m.perm,m.so,m.sb,m.sa,λx c y d=>m.le x c y (by rcases cU.mp d with u|u<;>simp[u])]
theorem MI.lS{l o xs a b:List Keyed}(m:MI O key l o a (xs++b))(h:∀x∈xs,∀y∈a,LE O key x y):MI O key l (o++xs) a b:=(m.swap.lR h).swap
theorem MI.CO(m:MI O key l o a []):Res O key l (o++a):=
 #[by simpa using m.perm,u0.mpr #[m.so,m.sa,λx b y c=>m.le x b y (by simp[c])]]
theorem MI.Bc(m:MI O key l o a b)(h:∀y∈b,∀x∈a,LE O key y x):Res O key l (o++b++a):=by
 have c:MI O key l o a (b++ []):=by rw[f6];exact m
 exact(c.lS h).CO
end lists
def Bh(a b:Array Keyed)(h e f d:Nat)(out:Array Keyed)(g:Nat):StateT SortSt Sem (ForInStep (Option (Array Keyed)×Array Keyed×Nat×Nat×Nat×Nat×Nat)):=do
 let c <-elem' a d
 let out:Array Keyed:=out.push c
 let d:Nat:=d+1
 if (d+1==a.size)=true then pure (ForInStep.done (some (out++b.extract g b.size++a.extract d a.size),out,d,g,h,e,f))
 else if (decide (e<7)&&decide (f<7))=true then pure (ForInStep.done (none,out,d,g,h,e,f))
 else pure (ForInStep.yield (none,out,d,g,h,e,f))
def ua(a b:Array Keyed)(f g i d:Nat)(out:Array Keyed)(e:Nat):StateT SortSt Sem (ForInStep (Option (Array Keyed)×Array Keyed×Nat×Nat×Nat×Nat×Nat)):=do
 let c <-elem' b d
 let out:Array Keyed:=out.push c
 let d:Nat:=d+1
 if (d==b.size)=true then pure (ForInStep.done (some (out++a.extract e a.size++b.extract d b.size),out,e,d,f,g,i))
 else do
  let c <-elem' a e
  let h <-eZ true c b d (b.size-d) 0
  match h with
  |some k=>
   if k>0 then
    if (d+k==b.size)=true then pure (ForInStep.done (some (out++b.extract d (d+k)++a.extract e a.size++b.extract (d+k) b.size),out++b.extract d (d+k),e,d+k,f,g,k))
    else Bh a b f g k e (out++b.extract d (d+k)) (d+k)
   else Bh a b f g k e out d
  |_=>pure (ForInStep.done (some (out++a.extract e a.size++b.extract d b.size),out,e,d,f,g,i))
def qB(a b:Array Keyed)(g i c e:Nat)(out:Array Keyed)(f:Nat):StateT SortSt Sem (ForInStep (Option (Array Keyed)×Array Keyed×Nat×Nat×Nat×Nat×Nat)):=do
 setMinGallop' f
 let d <-elem' b e
 let h <-eZ false d a c (a.size-c) 0
 match h with
 |some k=>
  if k>0 then
   if (c+k+1==a.size)=true then pure (ForInStep.done (some (out++a.extract c (c+k)++b.extract e b.size++a.extract (c+k) a.size),out++a.extract c (c+k),c+k,e,f,k,g))
   else if (c+k==a.size)=true then pure (ForInStep.done (some (out++a.extract c (c+k)++a.extract (c+k) a.size++b.extract e b.size),out++a.extract c (c+k),c+k,e,f,k,g))
   else ua a b f k g e (out++a.extract c (c+k)) (c+k)
  else ua a b f k g e out c
 |_=>pure (ForInStep.done (some (out++a.extract c a.size++b.extract e b.size),out,c,e,f,i,g))
def Bj(a b:Array Keyed)(c:Option (Array Keyed)×Array Keyed×Nat×Nat×Nat×Nat×Nat):StateT SortSt Sem (ForInStep (Option (Array Keyed)×Array Keyed×Nat×Nat×Nat×Nat×Nat)):=
 if c.2.2.2.2.1>1 then qB a b c.2.2.2.2.2.2 c.2.2.2.2.2.1 c.2.2.1 c.2.2.2.1 c.2.1 (c.2.2.2.2.1-1) else qB a b c.2.2.2.2.2.2 c.2.2.2.2.2.1 c.2.2.1 c.2.2.2.1 c.2.1 c.2.2.2.2.1
def Bi(a b:Array Keyed)(e:Nat)(c:Option (Array Keyed)×Array Keyed×Nat×Nat×Nat×Nat):StateT SortSt Sem (ForInStep (Option (Array Keyed)×Array Keyed×Nat×Nat×Nat×Nat)):=do
 let y <-elem' b c.2.2.2.1
 let x <-elem' a c.2.2.1
 let d <-lt' y x
 match d with
 |some f=>
  if f=true then do
   let y <-elem' b c.2.2.2.1
   if (c.2.2.2.1+1==b.size)=true then pure (ForInStep.done (some (c.2.1.push y++a.extract c.2.2.1 a.size++b.extract (c.2.2.2.1+1) b.size),c.2.1.push y,c.2.2.1,c.2.2.2.1+1,0,c.2.2.2.2.2+1))
   else if c.2.2.2.2.2+1>=e then pure (ForInStep.done (none,c.2.1.push y,c.2.2.1,c.2.2.2.1+1,0,c.2.2.2.2.2+1))
   else pure (ForInStep.yield (none,c.2.1.push y,c.2.2.1,c.2.2.2.1+1,0,c.2.2.2.2.2+1))
  else do
   let x <-elem' a c.2.2.1
   if (c.2.2.1+1+1==a.size)=true then pure (ForInStep.done (some (c.2.1.push x++b.extract c.2.2.2.1 b.size++a.extract (c.2.2.1+1) a.size),c.2.1.push x,c.2.2.1+1,c.2.2.2.1,c.2.2.2.2.1+1,0))
   else if c.2.2.2.2.1+1>=e then pure (ForInStep.done (none,c.2.1.push x,c.2.2.1+1,c.2.2.2.1,c.2.2.2.2.1+1,0))
   else pure (ForInStep.yield (none,c.2.1.push x,c.2.2.1+1,c.2.2.2.1,c.2.2.2.2.1+1,0))
 |_=>pure (ForInStep.done (some (c.2.1++a.extract c.2.2.1 a.size++b.extract c.2.2.2.1 b.size),c.2.1,c.2.2.1,c.2.2.2.1,c.2.2.2.2.1,c.2.2.2.2.2))
def rZ(a b:Array Keyed)(f:Option (Array Keyed)×Array Keyed×Nat×Nat×Nat):StateT SortSt Sem (ForInStep (Option (Array Keyed)×Array Keyed×Nat×Nat×Nat)):=do
 let e <-forIn [0:a.size+b.size] (none,f.2.1,f.2.2.1,f.2.2.2.1,0,0) λ_ c=>Bi a b f.2.2.2.2 c
 match e.1 with
 |some r=>pure (ForInStep.done (some r,e.2.1,e.2.2.1,e.2.2.2.1,f.2.2.2.2))
 |none=>do
  liftM (rule "list.sort.gallop")
  let d <-forIn [0:a.size+b.size] (none,e.2.1,e.2.2.1,e.2.2.2.1,f.2.2.2.2+1,e.2.2.2.2.1,e.2.2.2.2.2) λ_ c=>Bj a b c
  match d.1 with
  |some r=>pure (ForInStep.done (some r,d.2.1,d.2.2.1,d.2.2.2.1,d.2.2.2.2.1))
  |none=>do
   setMinGallop' (d.2.2.2.2.1+1)
   pure (ForInStep.yield (none,d.2.1,d.2.2.1,d.2.2.2.1,d.2.2.2.2.1+1))
theorem c5{b d:Type}{m c:StateT SortSt Sem b}{f a:b->StateT SortSt Sem d}(h:m=c)(g:∀x,f x=a x):m>>=f=c>>=a:=by rw[h,show f=a from funext g]
theorem Ax{a:Type}{n:Nat}{d:a}{f b:Nat->a->StateT SortSt Sem (ForInStep a)}(h:∀i c,f i c=b i c):forIn [0:n] d f=forIn [0:n] d b:=by rw[show f=b from funext λi=>funext (h i)]
theorem fD [Decidable c] (h:c->x=a) (g:¬c->y=b):(if c then x else y)=if c then a else b:=by
 by_cases e:c
 .rw[tz e,tz e];exact h e
 .rw[mo e,mo e];exact g e
theorem yK(a b:Array Keyed):pI a b=(do
 rule "list.sort.merge-lo"
 let total:=a.size+b.size
 let done (out:Array Keyed) (c d:Nat):=out++a.extract c a.size++b.extract d b.size
 let e (out:Array Keyed) (c d:Nat):=out++b.extract d b.size++a.extract c a.size
 let mut out:Array Keyed:= [<-elem' b 0].toArray
 let mut c:=0
 let mut d:=1
 if d==b.size then return done out c d
 if c+1==a.size then return e out c d
 let mut minGallop:=gallopOf (<-get)
 for _ in [0:total] do
  let mut acount:=0
  let mut bcount:=0
  for _ in [0:total] do
   let some ET <-lt' (<-elem' b d) (<-elem' a c) |return done out c d
   if ET then
    out:=out.push (<-elem' b d);d:=d+1;bcount:=bcount+1;acount:=0
    if d==b.size then return done out c d
    if bcount>=minGallop then break
   else
    out:=out.push (<-elem' a c);c:=c+1;acount:=acount+1;bcount:=0
    if c+1==a.size then return e out c d
    if acount>=minGallop then break
  rule "list.sort.gallop"
  minGallop:=minGallop+1
  for _ in [0:total] do
   if minGallop>1 then minGallop:=minGallop-1
   setMinGallop' minGallop
   let some k <-eZ false (<-elem' b d) a c (a.size-c) 0|return done out c d
   acount:=k
   if k>0 then
    out:=out++a.extract c (c+k);c:=c+k
    if c+1==a.size then return e out c d
    if c==a.size then return done out c d
   out:=out.push (<-elem' b d);d:=d+1
   if d==b.size then return done out c d
   let some k <-eZ true (<-elem' a c) b d (b.size-d) 0|return done out c d
   bcount:=k
   if k>0 then
    out:=out++b.extract d (d+k);d:=d+k
    if d==b.size then return done out c d
   out:=out.push (<-elem' a c);c:=c+1
   if c+1==a.size then return e out c d
   if acount<7&&bcount<7 then break
  minGallop:=minGallop+1
  setMinGallop' minGallop
 unsupported "internal:list.sort.merge-bound"):=rfl
theorem Bo(a b:Array Keyed):pI a b=(do
 liftM (rule "list.sort.merge-lo")
 let y <-elem' b 0
 if (1==b.size)=true then pure ([y].toArray++a.extract 0 a.size++b.extract 1 b.size)
 else if (0+1==a.size)=true then pure ([y].toArray++b.extract 1 b.size++a.extract 0 a.size)
 else do
  let d <-get
  let e <-forIn [0:a.size+b.size] (none, [y].toArray,0,1,gallopOf d) λ_ c=>rZ a b c
  match e.1 with
  |some r=>pure r
  |none=>liftM (unsupported (α:=Array Keyed) "internal:list.sort.merge-bound")):=by
 rw[yK];dsimp only;refine c5 rfl λ_=>c5 rfl λy=>?_;refine IR (ite _ _) (IR (ite _ _) ?_);refine c5 rfl λg=>c5 (Ax λ_ c=>?_) λu=>?_
 .unfold rZ
  refine c5 (Ax λ_ t=>?_) λt=>?_
  .unfold Bi
   refine c5 rfl λ_=>c5 rfl λ_=>c5 rfl λz=>?_;cases z<;>rfl
  .obtain⟨i,l⟩:=t
   cases i with
   |some r=>rfl
   |none=>
    dsimp only;refine c5 rfl λ_=>c5 (Ax λ_ u=>?_) λu=>?_
    .unfold Bj
     have m:∀h,qB a b u.2.2.2.2.2.2 u.2.2.2.2.2.1 u.2.2.1 u.2.2.2.1 u.2.1 h=qB a b u.2.2.2.2.2.2 u.2.2.2.2.2.1 u.2.2.1 u.2.2.2.1 u.2.1 h:=λ_=>rfl;refine fD (λ_=>?_) (λ_=>?_)
     all_goals
      unfold qB;refine c5 rfl λ_=>c5 rfl λ_=>c5 rfl λz=>?_;cases z with
      |none=>rfl
      |some k=>
       dsimp only;refine fD (λ_=>?_) (λ_=>?_)
       .refine fD (λ_=>rfl) (λ_=>fD (λ_=>rfl) (λ_=>?_))
        unfold ua;refine c5 rfl λ_=>fD (λ_=>rfl) (λ_=>c5 rfl λ_=>c5 rfl λz=>?_);cases z with
        |none=>rfl
        |some k=>rfl
       .unfold ua
        refine c5 rfl λ_=>fD (λ_=>rfl) (λ_=>c5 rfl λ_=>c5 rfl λz=>?_);cases z with
        |none=>rfl
        |some k=>rfl
    .obtain⟨f,j⟩:=u
     cases f<;>rfl
 .obtain⟨f,j⟩:=u
  cases f<;>rfl
structure GS (st ar:SortSt):Prop where
 arr:arrOf ar=arrOf st
 kind:kindOf ar=kindOf st
 failed:failedOf ar=failedOf st
 pend:pendingOf ar=pendingOf st
theorem GS.refl(st:SortSt):GS st st:=#[rfl,rfl,rfl,rfl]
theorem GS.trans(x:GS a b)(y:GS b c):GS a c:=#[y.arr.trans x.arr,y.kind.trans x.kind,y.failed.trans x.failed,y.pend.trans x.pend]
theorem sP(g:Nat):setMinGallop' g=modify λs=>SortSt.mk' (kindOf s) (arrOf s) (pendingOf s) g (failedOf s):=rfl
theorem ext_toList(a:Array Keyed)(i j:Nat):(a.extract i j).toList=(a.toList.drop i).take (j-i):=by
 rw[Array.toList_extract]
theorem kZ(a:Array Keyed)(i:Nat):(a.extract i a.size).toList=a.toList.drop i:=by
 rw[ext_toList,uZ (by simp)]
theorem drop_cons{xs:Array Keyed}(h:xs[i]? =some x):xs.toList.drop i=x::xs.toList.drop (i+1):=by
 have a:xs.toList[i]? =some x:=by rw[<-h];simp
 obtain⟨b,e⟩:=c9.mp a;rw[qc b,e]
theorem nq(l:List Keyed)(i k:Nat):l.drop i=(l.drop i).take k++l.drop (i+k):=by
 rw[<-List.drop_drop,mQ]
theorem eJ{l:List Keyed}{i k:Nat}{x:Keyed}(h:x∈(l.drop i).take k):∃j,j<k/\i+j<l.length/\l[i+j]? =some x:=by
 obtain⟨j,a⟩:=tm h;rw[List.getElem?_take] at a
 split at a
 .rename_i c
  rw[xS] at a;exact#[j,c,(c9.mp a).1,a]
 .cases a
theorem gE{l:List Keyed}{i:Nat}{x:Keyed}(h:x∈l.drop i):∃j,i+j<l.length/\l[i+j]? =some x:=by
 obtain⟨j,a⟩:=tm h;rw[xS] at a;exact#[j,(c9.mp a).1,a]
section
variable {O:KeyOrd} {key:Keyed->O.α} {S:Keyed->Prop} {k0:SortKind} {M:Model} {A:Around} {E:Value->Shared->Prop} {s:Shared} {st bO:SortSt}
theorem pM(h:∀a,GS st a->Q () a):wpS M A E s (setMinGallop' g) Q st:=by
 rw[sP];exact aba (h _ #[rfl,rfl,rfl,rfl])
structure mV (O:KeyOrd) (key:Keyed->O.α) (S:Keyed->Prop) (a b:Array Keyed):Prop where
 ma:∀x∈a.toList,S x
 mb:∀x∈b.toList,S x
 sa:a.toList.Pairwise (LE O key)
 sb:b.toList.Pairwise (LE O key)
 na:1<=a.size
 nb:1<=b.size
 first:∀y,b[0]? =some y->∀x∈a.toList,LE O key y x
 last:∀x,a[a.size-1]? =some x->∀y∈b.toList,LE O key y x
theorem mV.Bc(T:mV O key S a b)(h:c+1=a.size):∀y∈b.toList.drop d,∀x∈a.toList.drop c,LE O key y x:=λy f x g=>by
 obtain⟨j,i,e⟩:=gE g;rw[eX] at i
 have:c+j=a.size-1:=by lia
 rw[this] at e;exact T.last x (by rw[<-e];simp) y (List.mem_of_mem_drop f)
theorem fU{l:List Keyed}(h:l.Pairwise (LE O key)){i j:Nat}{x y:Keyed}(k:i<=j)(b:l[i]? =some x)(a:l[j]? =some y):LE O key x y:=by
 by_cases e:i=j
 .subst e
  rw[b] at a;cases a;exact W1 _
 .obtain⟨c,d⟩:=c9.mp b
  obtain⟨f,g⟩:=c9.mp a;rw[<-d,<-g];exact EC.mp h i j c f (by lia)
theorem pK{xs:Array Keyed}(m:∀x∈xs.toList,S x){i n:Nat}(h:i+n<=xs.size):Seg S xs i n (λj=>xs[i+j]?.getD (.none, .none)):=
 #[λj a=>by
  have:i+j<xs.size:=by lia
  rw[aaP xs (i+j) this];rfl,λj a=>by
  have:i+j<xs.size:=by lia
  rw[aaP xs (i+j) this];exact m _ (by simp)]
theorem bA{xs:Array Keyed}{i:Nat}(h:i<xs.size):∃x,xs[i]? =some x/\x∈xs.toList/\xs.toList[i]? =some x:=by
 refine#[xs[i],aaP xs i h,by simp,?_]
 rw[dX];exact aaP xs i h
theorem lg{a:Array Keyed}{i:Nat}{x:Keyed}(h:a[i]? =some x):a.toList[i]? =some x:=by rw[dX];exact h
theorem kg{a:Array Keyed}{i:Nat}{x:Keyed}(h:a.toList[i]? =some x):a[i]? =some x:=by rw[<-dX];exact h
structure IV (O:KeyOrd) (key:Keyed->O.α) (a b out:Array Keyed) (ia ib:Nat):Prop where
 mi:MI O key (a.toList++b.toList) out.toList (a.toList.drop ia) (b.toList.drop ib)
 ha:ia<a.size
 hb:ib<b.size
theorem IV.uj{a b out:Array Keyed}(v:MI O key (a.toList++b.toList) out.toList (a.toList.drop c) (b.toList.drop d))(e:b[d]? =some y)(h:∀x∈a.toList.drop c,LE O key y x):
  MI O key (a.toList++b.toList) (out.push y).toList (a.toList.drop c) (b.toList.drop (d+1)):=by
 rw[drop_cons e] at v;rw[ye];exact MI.lS (xs:= [y]) v λx f=>by rw[dF.mp f];exact h
theorem IV.ui{a b out:Array Keyed}(v:MI O key (a.toList++b.toList) out.toList (a.toList.drop c) (b.toList.drop d))(e:a[c]? =some x)(h:∀y∈b.toList.drop d,LE O key x y):
  MI O key (a.toList++b.toList) (out.push x).toList (a.toList.drop (c+1)) (b.toList.drop d):=by
 rw[drop_cons e] at v;rw[ye];exact MI.lR (xs:= [x]) v λx e=>by rw[dF.mp e];exact h
theorem IV.lS{a b out:Array Keyed}(v:MI O key (a.toList++b.toList) out.toList (a.toList.drop d) (b.toList.drop c))(h:∀y∈(b.toList.drop c).take k,∀x∈a.toList.drop d,LE O key y x):
  MI O key (a.toList++b.toList) (out++b.extract c (c+k)).toList (a.toList.drop d) (b.toList.drop (c+k)):=by
 rw[nq b.toList c k] at v;rw[jk,ext_toList,show c+k-c=k by lia]
 exact MI.lS v h
theorem IV.lR{a b out:Array Keyed}(v:MI O key (a.toList++b.toList) out.toList (a.toList.drop c) (b.toList.drop d))(h:∀x∈(a.toList.drop c).take k,∀y∈b.toList.drop d,LE O key x y):
  MI O key (a.toList++b.toList) (out++a.extract c (c+k)).toList (a.toList.drop (c+k)) (b.toList.drop d):=by
 rw[nq a.toList c k] at v;rw[jk,ext_toList,show c+k-c=k by lia]
 exact MI.lR v h
theorem IV.tQ{a b out:Array Keyed}(v:MI O key (a.toList++b.toList) out.toList (a.toList.drop d) (b.toList.drop c))(h:c=b.size):Res O key (a.toList++b.toList) (out++a.extract d a.size++b.extract c b.size).toList:=by
 have e:b.toList.drop c= []:=EE (by rw[eX];lia)
 rw[jk,jk,kZ,kZ,e,f6];rw[e] at v;exact v.CO
theorem IV.tP{a b out:Array Keyed}(v:MI O key (a.toList++b.toList) out.toList (a.toList.drop c) (b.toList.drop d))(h:c=a.size):Res O key (a.toList++b.toList) (out++a.extract c a.size++b.extract d b.size).toList:=by
 have e:a.toList.drop c= []:=EE (by rw[eX];lia)
 rw[jk,jk,kZ,kZ,e,f6];rw[e] at v;exact v.swap.CO
theorem IV.last(T:mV O key S a b)(v:MI O key (a.toList++b.toList) out.toList (a.toList.drop c) (b.toList.drop d))(h:c+1=a.size):Res O key (a.toList++b.toList) (out++b.extract d b.size++a.extract c a.size).toList:=by
 rw[jk,jk,kZ,kZ];exact v.Bc (T.Bc h)
end
section
variable {O:KeyOrd} {key:Keyed->O.α} {S:Keyed->Prop} {k0:SortKind} {M:Model} {A:Around} {E:Value->Shared->Prop} {s:Shared} {st bO:SortSt} {a b:Array Keyed}
def Inv(O:KeyOrd)(key:Keyed->O.α)(a b:Array Keyed)(n:Nat)(out:Array Keyed)(c d:Nat):Prop:=MI O key (a.toList++b.toList) out.toList (a.toList.drop c) (b.toList.drop d)/\c+1<a.size/\d<b.size/\n<=c+d
def Fin{d:Type}(O:KeyOrd)(key:Keyed->O.α)(a b:Array Keyed)(n:Nat)(c:Option (Array Keyed)×Array Keyed×Nat×Nat×d):Prop:=
 (∃r,c.1=some r/\Res O key (a.toList++b.toList) r.toList)\/(c.1=none/\Inv O key a b n c.2.1 c.2.2.1 c.2.2.2.1)
def Out{d:Type}(O:KeyOrd)(key:Keyed->O.α)(a b:Array Keyed)(n:Nat)(r:ForInStep (Option (Array Keyed)×Array Keyed×Nat×Nat×d)):Prop:=match r with
 | .done c=>Fin O key a b n c
 | .yield c=>c.1=none/\Inv O key a b n c.2.1 c.2.2.1 c.2.2.2.1
def Uj{d:Type}(O:KeyOrd)(key:Keyed->O.α)(a b:Array Keyed)(n:Nat)(r:ForInStep (Option (Array Keyed)×Array Keyed×Nat×Nat×d)):Prop:=match r with
 | .done c=>∃r,c.1=some r/\Res O key (a.toList++b.toList) r.toList
 | .yield c=>c.1=none/\Inv O key a b n c.2.1 c.2.2.1 c.2.2.2.1
theorem xQ(T:mV O key S a b)(g:GS bO st)(v:MI O key (a.toList++b.toList) out.toList (a.toList.drop c) (b.toList.drop d))(u:c+1<a.size)(p:d<b.size)(w:n<=c+d)
  (q:∀x,a[c]? =some x->∀y∈b.toList.drop d,LE O key x y):wpS M A E s (Bh a b o h j c out d) (λr t=>GS bO t/\Out O key a b n r) st:=by
 unfold Bh;obtain⟨x,e,z,_⟩:=bA (xs:=a) (i:=c) (by lia)
 refine Da (bw e ?_);have k:=IV.ui v e (q x e);dsimp only
 by_cases f:c+1+1=a.size
 .rw[tz (by simpa using f)]
  exact FB #[g, .inl #[_,rfl,IV.last T k f]]
 .rw[mo (by simpa using f)]
  have l:Inv O key a b n (out.push x) (c+1) d:=#[k,by lia,p,by lia]
  by_cases m:(decide (h<7)&&decide (j<7))=true
  .rw[tz m]
   exact FB #[g, .inr #[rfl,l]]
  .rw[mo m]
   exact FB #[g,rfl,l]
theorem xP(C:gN O key S k0 M A E s)(Q:kindOf st=k0)(T:mV O key S a b)(g:GS bO st)(v:MI O key (a.toList++b.toList) out.toList (a.toList.drop d) (b.toList.drop c))(G:d+1<a.size)(Y:c<b.size)(hn:n<=d+c)
  (Z:∀y,b[c]? =some y->∀x∈a.toList.drop d,LE O key y x):wpS M A E s (ua a b R U X c out d) (λr ar=>GS bO ar/\Out O key a b n r) st:=by
 unfold ua;obtain⟨y,m,my,_⟩:=bA (xs:=b) (i:=c) Y;refine Da (bw m ?_);have o:=IV.uj v m (Z y m);dsimp only
 by_cases q:c+1=b.size
 .rw[tz (by simpa using q)]
  exact FB #[g, .inl #[_,rfl,IV.tQ o q]]
 .rw[mo (by simpa using q)]
  obtain⟨x,H,mx,lx⟩:=bA (xs:=a) (i:=d) (by lia)
  refine Da (bw H ?_)
  have t:∀z∈a.toList.drop d,LE O key x z:=λz f=>by
   obtain⟨j,_,k⟩:=gE f;exact fU T.sa (by lia) lx k
  have I:∀j z,c+1+j<b.size->b.toList[c+1+j]? =some z->b[c+1+j]?.getD (Value.none,Value.none)=z:=λj z w e=>by rw[kg e];rfl
  refine Da (gM C (pK T.mb (i:=c+1) (n:=b.size-(c+1)) (by lia)) (T.ma x mx) Q (by lia) (λi j dP w h=>?_) λp hp pt pf=>?_)
  .obtain⟨yi,e1,_,l1⟩:=bA (xs:=b) (i:=c+1+i) (by lia)
   obtain⟨yj,e2,_,l2⟩:=bA (xs:=b) (i:=c+1+j) (by lia)
   unfold dN at h ⊢;rw[tz rfl] at h ⊢;rw[e2] at h;rw[e1];exact aa2 (fU T.sb (by lia) l1 l2) h
  .have lo:∀y∈(b.toList.drop (c+1)).take p,∀x∈a.toList.drop d,LE O key y x:=λz f u hu=>by
    obtain⟨j,w,l,k⟩:=eJ f;rw[eX] at l
    have:=pt j w
    unfold dN at this;rw[tz rfl,I j z l k] at this;exact KM (Re this) (t u hu)
   have J:∀B,a[d]? =some B->∀y∈b.toList.drop (c+1+p),LE O key B y:=λB L z f=>by
    rw[H] at L;cases L;obtain⟨j,l,k⟩:=gE f;rw[eX] at l
    have:=pf (p+j) (by lia) (by lia)
    unfold dN at this;rw[tz rfl,I (p+j) z (by lia) (by rw[<-k];congr 1;lia)] at this
    exact this
   dsimp only
   by_cases N:p>0
   .rw[tz N]
    have P:=IV.lS o lo
    by_cases F:c+1+p=b.size
    .rw[tz (by simpa using F)]
     exact FB #[g, .inl #[_,rfl,IV.tQ P F]]
    .rw[mo (by simpa using F)]
     exact xQ T g P G (by lia) (by lia) J
   .rw[mo N]
    have:p=0:=by lia
    subst this;exact xQ T g o G (by lia) (by lia) J
theorem xO(C:gN O key S k0 M A E s)(U:kindOf st=k0)(T:mV O key S a b)(g:GS bO st)(iv:Inv O key a b n out c d):wpS M A E s (qB a b Z Y c d out X) (λr ar=>GS bO ar/\Out O key a b n r) st:=by
 obtain⟨v,ha,o,hn⟩:=iv;unfold qB;refine Da (pM λBM J=>?_);have q:kindOf BM=k0:=J.kind.trans U;have l:=g.trans J;obtain⟨y,L,my,ly⟩:=bA (xs:=b) (i:=d) o;refine Da (bw L ?_)
 have t:∀z∈b.toList.drop d,LE O key y z:=λz f=>by
  obtain⟨j,_,k⟩:=gE f;exact fU T.sb (by lia) ly k
 have N:∀j z,c+j<a.size->a.toList[c+j]? =some z->a[c+j]?.getD (Value.none,Value.none)=z:=λj z w e=>by rw[kg e];rfl
 refine Da (gM C (pK T.ma (i:=c) (n:=a.size-c) (by lia)) (T.mb y my) q (by lia) (λi j dP w h=>?_) λp hp pt pf=>?_)
 .obtain⟨xi,e1,_,l1⟩:=bA (xs:=a) (i:=c+i) (by lia)
  obtain⟨xj,e2,_,l2⟩:=bA (xs:=a) (i:=c+j) (by lia)
  unfold dN at h ⊢;rw[mo (by decide)] at h ⊢
  rw[e2] at h;rw[e1];have B:O.kle (key xj) (key y):=by unfold KeyOrd.kle;simpa using h
  have:=KM (fU T.sa (by lia) l1 l2) B
  unfold KeyOrd.kle at this;simpa using this
 .have lo:∀x∈(a.toList.drop c).take p,∀y∈b.toList.drop d,LE O key x y:=λz f u hu=>by
   obtain⟨j,w,m,k⟩:=eJ f;rw[eX] at m
   have:=pt j w
   unfold dN at this;rw[mo (by decide),N j z m k] at this
   have B:O.kle (key z) (key y):=by unfold KeyOrd.kle;simpa using this
   exact KM B (t u hu)
  have P:∀F,b[d]? =some F->∀x∈a.toList.drop (c+p),LE O key F x:=λF Q z f=>by
   rw[L] at Q;cases Q;obtain⟨j,m,k⟩:=gE f;rw[eX] at m
   have:=pf (p+j) (by lia) (by lia)
   unfold dN at this;rw[mo (by decide),N (p+j) z (by lia) (by rw[<-k];congr 1;lia)] at this
   exact Re (show O.blt _ _=true by simpa using this)
  dsimp only
  by_cases R:p>0
  .rw[tz R]
   have G:=IV.lR v lo
   by_cases H:c+p+1=a.size
   .rw[tz (by simpa using H)]
    exact FB #[l, .inl #[_,rfl,IV.last T G H]]
   .rw[mo (by simpa using H)]
    by_cases I:c+p=a.size
    .rw[tz (by simpa using I)]
     exact FB #[l, .inl #[_,rfl,IV.tP G I]]
    .rw[mo (by simpa using I)]
     exact xP C q T l G (by lia) o (by lia) P
  .rw[mo R]
   have:p=0:=by lia
   subst this;exact xP C q T l v ha o hn P
theorem Gy(C:gN O key S k0 M A E s)(d:kindOf st=k0)(T:mV O key S a b)(g:GS bO st)(c:Option (Array Keyed)×Array Keyed×Nat×Nat×Nat×Nat×Nat)(e:Inv O key a b n c.2.1 c.2.2.1 c.2.2.2.1):
  wpS M A E s (Bj a b c) (λr f=>GS bO f/\Out O key a b n r) st:=by
 unfold Bj
 by_cases h:c.2.2.2.2.1>1
 .rw[tz h];exact xO C d T g e
 .rw[mo h];exact xO C d T g e
theorem Gx(C:gN O key S k0 M A E s)(B:kindOf st=k0)(T:mV O key S a b)(g:GS bO st)(c:Option (Array Keyed)×Array Keyed×Nat×Nat×Nat×Nat)(d:Inv O key a b n c.2.1 c.2.2.1 c.2.2.2.1):
  wpS M A E s (Bi a b o c) (λr F=>GS bO F/\Out O key a b (n+1) r) st:=by
 obtain⟨R,out,l,m,G,H⟩:=c;obtain⟨v,I,w,J⟩:=d;dsimp only at v I w J;unfold Bi;dsimp only;obtain⟨y,p,L,N⟩:=bA (xs:=b) (i:=m) w;obtain⟨x,q,P,Q⟩:=bA (xs:=a) (i:=l) (by lia)
 refine Da (bw p (Da (bw q (Da (C _ _ _ _ (T.mb y L) (T.ma x P) B ?_)))));cases e:O.blt (key y) (key x) with
 |true=>
  dsimp only;rw[tz rfl];refine Da (bw p ?_)
  have h:=IV.uj v p λz t=>by
   obtain⟨j,_,u⟩:=gE t;exact KM (Re e) (fU T.sa (by lia) Q u)
  by_cases f:m+1=b.size
  .rw[tz (by simpa using f)]
   exact FB #[g, .inl #[_,rfl,IV.tQ h f]]
  .rw[mo (by simpa using f)]
   have d:Inv O key a b (n+1) (out.push y) l (m+1):=#[h,by lia,by lia,by lia]
   by_cases k:H+1>=o
   .rw[tz k];exact FB #[g, .inr #[rfl,d]]
   .rw[mo k];exact FB #[g,rfl,d]
 |false=>
  dsimp only;rw[mo (by decide)]
  refine Da (bw q ?_)
  have h:=IV.ui v q λz t=>by
   obtain⟨j,_,u⟩:=gE t;exact KM e (fU T.sb (by lia) N u)
  by_cases f:l+1+1=a.size
  .rw[tz (by simpa using f)]
   exact FB #[g, .inl #[_,rfl,IV.last T h f]]
  .rw[mo (by simpa using f)]
   have d:Inv O key a b (n+1) (out.push x) (l+1) m:=#[h,by lia,by lia,by lia]
   by_cases k:G+1>=o
   .rw[tz k];exact FB #[g, .inr #[rfl,d]]
   .rw[mo k];exact FB #[g,rfl,d]
theorem Inv.le(h:Inv O key a b n out c d)(e:m<=n):Inv O key a b m out c d:=#[h.1,h.2.1,h.2.2.1,kE e h.2.2.2]
theorem BW(C:gN O key S k0 M A E s)(B:kindOf st=k0)(T:mV O key S a b)(g:GS bO st)(p:kindOf bO=k0)(c:Option (Array Keyed)×Array Keyed×Nat×Nat×Nat)(q:Inv O key a b n c.2.1 c.2.2.1 c.2.2.2.1):
  wpS M A E s (rZ a b c) (λr h=>GS bO h/\Uj O key a b (n+1) r) st:=by
 have F:0<a.size+b.size:=by have:=T.na;lia
 unfold rZ;refine Da (SB (SL (I:=λ(x:Nat)(f:Option (Array Keyed)×Array Keyed×Nat×Nat×Nat×Nat)(h:SortSt)=>GS bO h/\f.1=none/\Inv O key a b (n+min x 1) f.2.1 f.2.2.1 f.2.2.2.1) (Q:=λf h=>GS bO h/\Fin O key a b (n+1) f) ?step ?fin #[g,rfl,q.le (by lia)]) ?post)
 case fin=>
  rintro f h ⟨i,l,j⟩;exact#[i, .inr #[l,j.le (by lia)]]
 case step=>
  rintro x f h _ _ ⟨i,l,j⟩;refine SB (Gx C (i.kind.trans p) T i f j) λr t #[m,o]=>?_;cases r with
  |done d=>
   exists m
   rcases o with o| ⟨u,v⟩
   .exact .inl o
   .exact .inr #[u,v.le (by lia)]
  |yield d=>exact#[m,o.1,o.2.le (by lia)]
 case post=>
  rintro⟨G,H⟩ h ⟨i,o⟩
  rcases o with ⟨r,e,k⟩ | ⟨e,w⟩
  .dsimp only at e
   subst e;exact FB #[i,r,rfl,k]
  .dsimp only at e
   subst e;dsimp only;refine Da (abl (aaK #[rfl,?_]));refine Da (SB (SL (I:=λ(x:Nat)(f:Option (Array Keyed)×Array Keyed×Nat×Nat×Nat×Nat×Nat)(h:SortSt)=>GS bO h/\f.1=none/\Inv O key a b (n+1) f.2.1 f.2.2.1 f.2.2.2.1) (Q:=λf h=>GS bO h/\Fin O key a b (n+1) f) ?step2 ?fin2 #[i,rfl,w]) ?post2)
   case fin2=>
    rintro f h ⟨i,l,j⟩;exact#[i, .inr #[l,j]]
   case step2=>
    rintro x f h _ _ ⟨i,l,j⟩;refine SB (Gy C (i.kind.trans p) T i f j) λr t #[m,o]=>?_;cases r with
    |done d=>exact#[m,o]
    |yield d=>exact#[m,o]
   case post2=>
    rintro⟨J,L⟩ h ⟨i,o⟩
    rcases o with ⟨r,e,k⟩ | ⟨e,y⟩
    .dsimp only at e
     subst e;exact FB #[i,r,rfl,k]
    .dsimp only at e
     subst e;refine Da (pM λN z=>FB #[i.trans z,rfl,y])
theorem BZ(C:gN O key S k0 M A E s)(n:kindOf st=k0)(T:mV O key S a b)(q:∀r c,GS st c->Res O key (a.toList++b.toList) r.toList->Q r c):wpS M A E s (pI a b) Q st:=by
 rw[Bo];refine Da (abl (aaK #[rfl,?_]));obtain⟨y,l,v,w⟩:=bA (xs:=b) (i:=0) T.nb;refine Da (bw l ?_);have t:MI O key (a.toList++b.toList) (#[]:Array Keyed).toList (a.toList.drop 0) (b.toList.drop 0):=#[by simp,by simp,by simpa using T.sa,by simpa using T.sb,by simp]
 have k:=IV.uj t l (by simpa using T.first y l)
 have u:(#[]:Array Keyed).push y= [y].toArray:=rfl;rw[u] at k
 by_cases h:1=b.size
 .rw[tz (by simpa using h)]
  exact FB (q _ _ (GS.refl _) (IV.tQ k h))
 .rw[mo (by simpa using h)]
  by_cases f:0+1=a.size
  .rw[tz (by simpa using f)]
   exact FB (q _ _ (GS.refl _) (IV.last T k f))
  .rw[mo (by simpa using f)]
   refine Da (aaX ?_);have z:=T.na;have B:=T.nb;refine Da (SB (SL (I:=λ(x:Nat)(g:Option (Array Keyed)×Array Keyed×Nat×Nat×Nat)(c:SortSt)=>GS st c/\g.1=none/\Inv O key a b (x+1) g.2.1 g.2.2.1 g.2.2.2.1) (Q:=λg c=>GS st c/\∃r,g.1=some r/\Res O key (a.toList++b.toList) r.toList) ?step ?fin #[GS.refl _,rfl,k,by show 0+1<a.size;lia,by show 1<b.size;lia,by show 0+1<=0+1;lia]) ?post)
   case fin=>
    rintro g c ⟨j,h,f⟩
    have:=f.2.2.2
    have:=f.2.1
    have:=f.2.2.1
    lia
   case step=>
    rintro x g c _ _ ⟨j,h,f⟩;refine SB (BW C (j.kind.trans n) T j n g f) λr F #[p,o]=>?_;cases r with
    |done d=>exact#[p,o]
    |yield d=>exact#[p,o]
   case post=>
    rintro⟨G,H⟩ c ⟨j,r,e,m⟩;dsimp only at e;subst e;exact FB (q r c j m)
end
theorem yJ(a b:Array Keyed):pH a b=(do
 rule "list.sort.merge-hi"
 let total:=a.size+b.size
 let done (out:Array Keyed) (na nb:Nat):=a.extract 0 na++b.extract 0 nb++out.reverse
 let c (out:Array Keyed) (na nb:Nat):=b.extract 0 nb++a.extract 0 na++out.reverse
 let mut na:=a.size-1
 let mut nb:=b.size
 let mut out:Array Keyed:= [<-elem' a na].toArray
 if na==0 then return done out na nb
 if nb==1 then return c out na nb
 let mut minGallop:=gallopOf (<-get)
 for _ in [0:total] do
  let mut acount:=0
  let mut bcount:=0
  for _ in [0:total] do
   let some ES <-lt' (<-elem' b (nb-1)) (<-elem' a (na-1)) |return done out na nb
   if ES then
    na:=na-1;out:=out.push (<-elem' a na);acount:=acount+1;bcount:=0
    if na==0 then return done out na nb
    if acount>=minGallop then break
   else
    nb:=nb-1;out:=out.push (<-elem' b nb);bcount:=bcount+1;acount:=0
    if nb==1 then return c out na nb
    if bcount>=minGallop then break
  rule "list.sort.gallop"
  minGallop:=minGallop+1
  for _ in [0:total] do
   if minGallop>1 then minGallop:=minGallop-1
   setMinGallop' minGallop
   let some at_ <-eZ false (<-elem' b (nb-1)) a 0 na (na-1) |return done out na nb
   let k:=na-at_
   acount:=k
   if k>0 then
    out:=out++(a.extract at_ na).reverse;na:=at_
    if na==0 then return done out na nb
   nb:=nb-1;out:=out.push (<-elem' b nb)
   if nb==1 then return c out na nb
   let some at_ <-eZ true (<-elem' a (na-1)) b 0 nb (nb-1) |return done out na nb
   let k:=nb-at_
   bcount:=k
   if k>0 then
    out:=out++(b.extract at_ nb).reverse;nb:=at_
    if nb==1 then return c out na nb
    if nb==0 then return done out na nb
   na:=na-1;out:=out.push (<-elem' a na)
   if na==0 then return done out na nb
   if acount<7&&bcount<7 then break
  minGallop:=minGallop+1
  setMinGallop' minGallop
 unsupported "internal:list.sort.merge-bound"):=rfl
abbrev S7:=Option (Array Keyed)×Nat×Nat×Array Keyed×Nat×Nat×Nat
abbrev S6:=Option (Array Keyed)×Nat×Nat×Array Keyed×Nat×Nat
abbrev S5:=Option (Array Keyed)×Nat×Nat×Array Keyed×Nat
def i5(a b out:Array Keyed)(c d:Nat):Array Keyed:=a.extract 0 c++b.extract 0 d++out.reverse
def pE(a b out:Array Keyed)(c d:Nat):Array Keyed:=b.extract 0 d++a.extract 0 c++out.reverse
def AJ(a b:Array Keyed)(g d e c:Nat)(out:Array Keyed)(f:Nat):StateT SortSt Sem (ForInStep S7):=do
 let x <-elem' a (c-1)
 if (c-1==0)=true then pure (ForInStep.done (some (i5 a b (out.push x) (c-1) f),c-1,f,out.push x,g,d,e))
 else if (decide (d<7)&&decide (e<7))=true then pure (ForInStep.done (none,c-1,f,out.push x,g,d,e))
 else pure (ForInStep.yield (none,c-1,f,out.push x,g,d,e))
def tV(a b:Array Keyed)(e f h c:Nat)(out:Array Keyed)(d:Nat):StateT SortSt Sem (ForInStep S7):=do
 let y <-elem' b (c-1)
 if (c-1==1)=true then pure (ForInStep.done (some (pE a b (out.push y) d (c-1)),d,c-1,out.push y,e,f,h))
 else do
  let x <-elem' a (d-1)
  let g <-eZ true x b 0 (c-1) (c-1-1)
  match g with
  |some p=>
   if c-1-p>0 then
    if (p==1)=true then pure (ForInStep.done (some (pE a b (out.push y++(b.extract p (c-1)).reverse) d p),d,p,out.push y++(b.extract p (c-1)).reverse,e,f,c-1-p))
    else if (p==0)=true then pure (ForInStep.done (some (i5 a b (out.push y++(b.extract p (c-1)).reverse) d p),d,p,out.push y++(b.extract p (c-1)).reverse,e,f,c-1-p))
    else AJ a b e f (c-1-p) d (out.push y++(b.extract p (c-1)).reverse) p
   else AJ a b e f (c-1-p) d (out.push y) (c-1)
  |_=>pure (ForInStep.done (some (i5 a b (out.push y) d (c-1)),d,c-1,out.push y,e,f,h))
def wG(a b:Array Keyed)(f h c d:Nat)(out:Array Keyed)(e:Nat):StateT SortSt Sem (ForInStep S7):=do
 setMinGallop' e
 let y <-elem' b (d-1)
 let g <-eZ false y a 0 c (c-1)
 match g with
 |some p=>
  if c-p>0 then
   if (p==0)=true then pure (ForInStep.done (some (i5 a b (out++(a.extract p c).reverse) p d),p,d,out++(a.extract p c).reverse,e,c-p,f))
   else tV a b e (c-p) f d (out++(a.extract p c).reverse) p
  else tV a b e (c-p) f d out c
 |_=>pure (ForInStep.done (some (i5 a b out c d),c,d,out,e,h,f))
def AL(a b:Array Keyed)(c:S7):StateT SortSt Sem (ForInStep S7):=
 if c.2.2.2.2.1>1 then wG a b c.2.2.2.2.2.2 c.2.2.2.2.2.1 c.2.1 c.2.2.1 c.2.2.2.1 (c.2.2.2.2.1-1) else wG a b c.2.2.2.2.2.2 c.2.2.2.2.2.1 c.2.1 c.2.2.1 c.2.2.2.1 c.2.2.2.2.1
def AK(a b:Array Keyed)(e:Nat)(c:S6):StateT SortSt Sem (ForInStep S6):=do
 let y <-elem' b (c.2.2.1-1)
 let x <-elem' a (c.2.1-1)
 let d <-lt' y x
 match d with
 |some f=>
  if f=true then do
   let x <-elem' a (c.2.1-1)
   if (c.2.1-1==0)=true then pure (ForInStep.done (some (i5 a b (c.2.2.2.1.push x) (c.2.1-1) c.2.2.1),c.2.1-1,c.2.2.1,c.2.2.2.1.push x,c.2.2.2.2.1+1,0))
   else if c.2.2.2.2.1+1>=e then pure (ForInStep.done (none,c.2.1-1,c.2.2.1,c.2.2.2.1.push x,c.2.2.2.2.1+1,0))
   else pure (ForInStep.yield (none,c.2.1-1,c.2.2.1,c.2.2.2.1.push x,c.2.2.2.2.1+1,0))
  else do
   let y <-elem' b (c.2.2.1-1)
   if (c.2.2.1-1==1)=true then pure (ForInStep.done (some (pE a b (c.2.2.2.1.push y) c.2.1 (c.2.2.1-1)),c.2.1,c.2.2.1-1,c.2.2.2.1.push y,0,c.2.2.2.2.2+1))
   else if c.2.2.2.2.2+1>=e then pure (ForInStep.done (none,c.2.1,c.2.2.1-1,c.2.2.2.1.push y,0,c.2.2.2.2.2+1))
   else pure (ForInStep.yield (none,c.2.1,c.2.2.1-1,c.2.2.2.1.push y,0,c.2.2.2.2.2+1))
 |_=>pure (ForInStep.done (some (i5 a b c.2.2.2.1 c.2.1 c.2.2.1),c.2.1,c.2.2.1,c.2.2.2.1,c.2.2.2.2.1,c.2.2.2.2.2))
def rO(a b:Array Keyed)(f:S5):StateT SortSt Sem (ForInStep S5):=do
 let e <-forIn [0:a.size+b.size] ((none,f.2.1,f.2.2.1,f.2.2.2.1,0,0):S6) λ_ c=>AK a b f.2.2.2.2 c
 match e.1 with
 |some r=>pure (ForInStep.done (some r,e.2.1,e.2.2.1,e.2.2.2.1,f.2.2.2.2))
 |none=>do
  liftM (rule "list.sort.gallop")
  let d <-forIn [0:a.size+b.size] ((none,e.2.1,e.2.2.1,e.2.2.2.1,f.2.2.2.2+1,e.2.2.2.2.1,e.2.2.2.2.2):S7) λ_ c=>AL a b c
  match d.1 with
  |some r=>pure (ForInStep.done (some r,d.2.1,d.2.2.1,d.2.2.2.1,d.2.2.2.2.1))
  |none=>do
   setMinGallop' (d.2.2.2.2.1+1)
   pure (ForInStep.yield (none,d.2.1,d.2.2.1,d.2.2.2.1,d.2.2.2.2.1+1))
theorem Bn(a b:Array Keyed):pH a b=(do
 liftM (rule "list.sort.merge-hi")
 let x <-elem' a (a.size-1)
 if (a.size-1==0)=true then pure (i5 a b [x].toArray (a.size-1) b.size)
 else if (b.size==1)=true then pure (pE a b [x].toArray (a.size-1) b.size)
 else do
  let d <-get
  let e <-forIn [0:a.size+b.size] ((none,a.size-1,b.size, [x].toArray,gallopOf d):S5) λ_ c=>rO a b c
  match e.1 with
  |some r=>pure r
  |none=>liftM (unsupported (α:=Array Keyed) "internal:list.sort.merge-bound")):=by
 rw[yJ];dsimp only;refine c5 rfl λ_=>c5 rfl λy=>?_;refine IR (ite _ _) (IR (ite _ _) ?_);refine c5 rfl λg=>c5 (Ax λ_ c=>?_) λu=>?_
 .unfold rO
  refine c5 (Ax λ_ t=>?_) λt=>?_
  .unfold AK
   refine c5 rfl λ_=>c5 rfl λ_=>c5 rfl λz=>?_;cases z<;>rfl
  .obtain⟨h,j⟩:=t
   cases h with
   |some r=>rfl
   |none=>
    dsimp only;refine c5 rfl λ_=>c5 (Ax λ_ u=>?_) λu=>?_
    .unfold AL
     refine fD (λ_=>?_) (λ_=>?_)
     all_goals
      unfold wG;refine c5 rfl λ_=>c5 rfl λ_=>c5 rfl λz=>?_;cases z with
      |none=>rfl
      |some k=>
       dsimp only;refine fD (λ_=>?_) (λ_=>?_)
       .refine fD (λ_=>rfl) (λ_=>?_)
        unfold tV;refine c5 rfl λ_=>fD (λ_=>rfl) (λ_=>c5 rfl λ_=>c5 rfl λz=>?_);cases z with
        |none=>rfl
        |some k=>rfl
       .unfold tV
        refine c5 rfl λ_=>fD (λ_=>rfl) (λ_=>c5 rfl λ_=>c5 rfl λz=>?_);cases z with
        |none=>rfl
        |some k=>rfl
    .obtain⟨f,i⟩:=u
     cases f<;>rfl
 .obtain⟨f,i⟩:=u
  cases f<;>rfl
def Qi(O:KeyOrd):KeyOrd:={α:=O.α,blt:=λa b=>O.blt b a,irrefl:=O.irrefl,trans:=λa b c d e=>O.trans _ _ _ e d,negTrans:=λa b c h=>(O.negTrans c b a h).symm,total:=λa b d e=>O.total a b e d}
section
variable {O:KeyOrd} {key:Keyed->O.α} {S:Keyed->Prop} {k0:SortKind} {M:Model} {A:Around} {E:Value->Shared->Prop} {s:Shared} {st bO:SortSt} {a b:Array Keyed}
abbrev MJ(O:KeyOrd)(key:Keyed->O.α)(a b out:Array Keyed)(c d:Nat):Prop:=MI (Qi O) key (a.toList++b.toList) out.toList (a.toList.take c).reverse (b.toList.take d).reverse
theorem uk(h:Res (Qi O) key l r.reverse):Res O key l r:=
 #[(abZ r).symm.trans h.1,by
   have:=abt.mp h.2
   exact this.imp λh=>h]
theorem ze(c:Array Keyed)(n:Nat):(c.extract 0 n).toList=c.toList.take n:=by rw[ext_toList];simp
theorem zP{xs:Array Keyed}(f:1<=n)(h:xs[n-1]? =some x):(xs.toList.take n).reverse=x::(xs.toList.take (n-1)).reverse:=by
 have c:=lg h;obtain⟨d,e⟩:=c9.mp c
 have:xs.toList.take n=xs.toList.take (n-1)++ [x]:=by
  have:=abm d
  rw[show n-1+1=n by lia,e] at this
  exact this
 rw[this,yc];rfl
theorem oQ(l:List Keyed)(h:p<=n):l.take n=l.take p++(l.drop p).take (n-p):=by
 conv=>lhs;rw[<-mQ p (l.take n)]
 rw[List.take_take,show min p n=p by lia,List.drop_take]
theorem gF{l:List Keyed}{x:Keyed}(h:x∈l.take n):∃j,j<n/\j<l.length/\l[j]? =some x:=by
 have:=eJ (l:=l) (i:=0) (k:=n) (x:=x) (by simpa using h)
 obtain⟨j,c,d,e⟩:=this;exact#[j,c,by simpa using d,by simpa using e]
theorem MJ.ui(v:MJ O key a b out c d)(e:1<=c)(f:a[c-1]? =some x)(h:∀y∈b.toList.take d,LE O key y x):MJ O key a b (out.push x) (c-1) d:=by
 unfold MJ at v ⊢;rw[zP e f] at v;rw[ye];exact MI.lR (xs:= [x]) v λz g y i=>by rw[dF.mp g];exact h y (u7.mp i)
theorem MJ.uj(v:MJ O key a b out d c)(e:1<=c)(f:b[c-1]? =some y)(h:∀x∈a.toList.take d,LE O key x y):MJ O key a b (out.push y) d (c-1):=by
 unfold MJ at v ⊢;rw[zP e f] at v;rw[ye];exact MI.lS (xs:= [y]) v λz g x i=>by rw[dF.mp g];exact h x (u7.mp i)
theorem MJ.lR(v:MJ O key a b out c d)(e:p<=c)(h:∀x∈(a.toList.drop p).take (c-p),∀y∈b.toList.take d,LE O key y x):MJ O key a b (out++(a.extract p c).reverse) p d:=by
 unfold MJ at v ⊢;rw[oQ a.toList e,yc] at v;rw[jk,EF,ext_toList];exact MI.lR v λx f y g=>h x (u7.mp f) y (u7.mp g)
theorem MJ.lS(v:MJ O key a b out d c)(e:p<=c)(h:∀y∈(b.toList.drop p).take (c-p),∀x∈a.toList.take d,LE O key x y):MJ O key a b (out++(b.extract p c).reverse) d p:=by
 unfold MJ at v ⊢;rw[oQ b.toList e,yc] at v;rw[jk,EF,ext_toList];exact MI.lS v λx f y g=>h x (u7.mp f) y (u7.mp g)
theorem MJ.tP(v:MJ O key a b out 0 c):Res O key (a.toList++b.toList) (i5 a b out 0 c).toList:=by
 refine uk ?_;unfold i5 MJ at*;rw[jk,jk,ze,ze,EF,u9,yf,yc,aby];rw[u9,List.reverse_nil] at v;exact v.swap.CO
theorem MJ.tQ(v:MJ O key a b out c 0):Res O key (a.toList++b.toList) (i5 a b out c 0).toList:=by
 refine uk ?_;unfold i5 MJ at*;rw[jk,jk,ze,ze,EF,u9,f6,yc,aby];rw[u9,List.reverse_nil] at v;exact v.CO
theorem MJ.first(T:mV O key S a b)(v:MJ O key a b out c 1):Res O key (a.toList++b.toList) (pE a b out c 1).toList:=by
 refine uk ?_;have h:=v.swap.Bc λx d y f=>?_
 .unfold pE
  rw[jk,jk,ze,ze,EF,yc,aby,yc,<-j1];exact h
 .obtain⟨j,g,_,e⟩:=gF (u7.mp f)
  have:j=0:=by lia
  subst this;exact T.first y (kg e) x (B5 (u7.mp d))
def pO(O:KeyOrd)(key:Keyed->O.α)(a b:Array Keyed)(n:Nat)(c d:Nat)(out:Array Keyed):Prop:=MJ O key a b out c d/\1<=c/\c<=a.size/\2<=d/\d<=b.size/\n+c+d<=a.size+b.size
def QT{d:Type}(O:KeyOrd)(key:Keyed->O.α)(a b:Array Keyed)(n:Nat)(c:Option (Array Keyed)×Nat×Nat×Array Keyed×d):Prop:=
 (∃r,c.1=some r/\Res O key (a.toList++b.toList) r.toList)\/(c.1=none/\pO O key a b n c.2.1 c.2.2.1 c.2.2.2.1)
def JQ{d:Type}(O:KeyOrd)(key:Keyed->O.α)(a b:Array Keyed)(n:Nat)(r:ForInStep (Option (Array Keyed)×Nat×Nat×Array Keyed×d)):Prop:=match r with
 | .done c=>QT O key a b n c
 | .yield c=>c.1=none/\pO O key a b n c.2.1 c.2.2.1 c.2.2.2.1
def Ui{d:Type}(O:KeyOrd)(key:Keyed->O.α)(a b:Array Keyed)(n:Nat)(r:ForInStep (Option (Array Keyed)×Nat×Nat×Array Keyed×d)):Prop:=match r with
 | .done c=>∃r,c.1=some r/\Res O key (a.toList++b.toList) r.toList
 | .yield c=>c.1=none/\pO O key a b n c.2.1 c.2.2.1 c.2.2.2.1
theorem xN(g:GS bO st)(v:MJ O key a b out c d)(p:1<=c)(f:c<=a.size)(q:2<=d)(t:d<=b.size)(z:n+c+d<=a.size+b.size)
  (u:∀x,a[c-1]? =some x->∀y∈b.toList.take d,LE O key y x):wpS M A E s (AJ a b o k l c out d) (λr w=>GS bO w/\JQ O key a b n r) st:=by
 unfold AJ;obtain⟨x,h,B,_⟩:=bA (xs:=a) (i:=c-1) (by lia)
 refine Da (bw h ?_);have j:=MJ.ui v p h (u x h)
 by_cases e:c-1=0
 .rw[tz (by simpa using e)]
  rw[e] at j ⊢;exact FB #[g, .inl #[_,rfl,j.tP]]
 .rw[mo (by simpa using e)]
  have m:pO O key a b n (c-1) d (out.push x):=#[j,by lia,by lia,q,t,by lia]
  by_cases f:(decide (k<7)&&decide (l<7))=true
  .rw[tz f]
   exact FB #[g, .inr #[rfl,m]]
  .rw[mo f]
   exact FB #[g,rfl,m]
theorem xM(C:gN O key S k0 M A E s)(P:kindOf st=k0)(T:mV O key S a b)(g:GS bO st)(v:MJ O key a b out d c)(G:1<=d)(H:d<=a.size)(h3:2<=c)(h4:c<=b.size)(hn:n+d+c<=a.size+b.size)
  (X:∀y,b[c-1]? =some y->∀x∈a.toList.take d,LE O key x y):wpS M A E s (tV a b Q R U c out d) (λr Y=>GS bO Y/\JQ O key a b n r) st:=by
 unfold tV;obtain⟨y,t,my,_⟩:=bA (xs:=b) (i:=c-1) (by lia)
 refine Da (bw t ?_);have o:=MJ.uj v (by lia) t (X y t)
 by_cases e:c-1=1
 .rw[tz (by simpa using e)]
  rw[e] at o ⊢;exact FB #[g, .inl #[_,rfl,MJ.first T o]]
 .rw[mo (by simpa using e)]
  obtain⟨x,I,Z,lx⟩:=bA (xs:=a) (i:=d-1) (by lia)
  refine Da (bw I ?_)
  have w:∀z∈a.toList.take d,LE O key z x:=λz f=>by
   obtain⟨j,q,_,k⟩:=gF f;exact fU T.sa (by lia) k lx
  have J:∀j z,b.toList[j]? =some z->b[0+j]?.getD (Value.none,Value.none)=z:=λj z e=>by rw[tB,kg e];rfl
  refine Da (gM C (pK T.mb (i:=0) (n:=c-1) (by lia)) (T.ma x Z) P (by lia) (λi j dP q h=>?_) λp hp pt pf=>?_)
  .obtain⟨yi,l,_,l1⟩:=bA (xs:=b) (i:=0+i) (by lia)
   obtain⟨yj,m,_,l2⟩:=bA (xs:=b) (i:=0+j) (by lia)
   unfold dN at h ⊢;rw[tz rfl] at h ⊢;rw[m] at h;rw[l];exact aa2 (fU T.sb (by lia) l1 l2) h
  .have hi:∀y∈(b.toList.drop p).take (c-1-p),∀x∈a.toList.take d,LE O key x y:=λz f u hu=>by
    obtain⟨j,q,hl,k⟩:=eJ f
    have:=pf (p+j) (by lia) (by lia)
    unfold dN at this;rw[tz rfl,J (p+j) z k] at this;exact KM (w u hu) this
   have lo:∀B,a[d-1]? =some B->∀y∈b.toList.take p,LE O key y B:=λB L z f=>by
    rw[I] at L;cases L;obtain⟨j,q,_,k⟩:=gF f
    have:=pt j q
    unfold dN at this;rw[tz rfl,J j z k] at this;exact Re this
   dsimp only
   by_cases N:c-1-p>0
   .rw[tz N]
    have F:=MJ.lS o hp hi
    by_cases l:p=1
    .rw[tz (by simpa using l)]
     subst l;exact FB #[g, .inl #[_,rfl,MJ.first T F]]
    .rw[mo (by simpa using l)]
     by_cases m:p=0
     .rw[tz (by simpa using m)]
      subst m;exact FB #[g, .inl #[_,rfl,F.tQ]]
     .rw[mo (by simpa using m)]
      exact xN g F G H (by lia) (by lia) (by lia) lo
   .rw[mo N]
    have:p=c-1:=by lia
    subst this;exact xN g o G H (by lia) (by lia) (by lia) lo
theorem xK(C:gN O key S k0 M A E s)(P:kindOf st=k0)(T:mV O key S a b)(g:GS bO st)(X:pO O key a b n c d out):wpS M A E s (wG a b U R c d out Q) (λr Y=>GS bO Y/\JQ O key a b n r) st:=by
 obtain⟨v,Z,h2,B,F,hn⟩:=X;unfold wG;refine Da (pM λBM G=>?_);have o:kindOf BM=k0:=G.kind.trans P;have q:=g.trans G;obtain⟨y,H,my,ly⟩:=bA (xs:=b) (i:=d-1) (by lia)
 refine Da (bw H ?_)
 have t:∀z∈b.toList.take d,LE O key z y:=λz f=>by
  obtain⟨j,m,_,k⟩:=gF f;exact fU T.sb (by lia) k ly
 have I:∀j z,a.toList[j]? =some z->a[0+j]?.getD (Value.none,Value.none)=z:=λj z e=>by rw[tB,kg e];rfl
 refine Da (gM C (pK T.ma (i:=0) (n:=c) (by lia)) (T.mb y my) o (by lia) (λi j dP m h=>?_) λp hp pt pf=>?_)
 .obtain⟨xi,l,_,l1⟩:=bA (xs:=a) (i:=0+i) (by lia)
  obtain⟨xj,e2,_,l2⟩:=bA (xs:=a) (i:=0+j) (by lia)
  unfold dN at h ⊢;rw[mo (by decide)] at h ⊢
  rw[e2] at h;rw[l];have h':O.kle (key xj) (key y):=by unfold KeyOrd.kle;simpa using h
  have:=KM (fU T.sa (by lia) l1 l2) h'
  unfold KeyOrd.kle at this;simpa using this
 .have hi:∀x∈(a.toList.drop p).take (c-p),∀y∈b.toList.take d,LE O key y x:=λz f u hu=>by
   obtain⟨j,m,hl,k⟩:=eJ f
   have:=pf (p+j) (by lia) (by lia)
   unfold dN at this;rw[mo (by decide),I (p+j) z k] at this
   exact KM (t u hu) (Re (show O.blt _ _=true by simpa using this))
  have lo:∀w,b[d-1]? =some w->∀x∈a.toList.take p,LE O key x w:=λw J z f=>by
   rw[H] at J;cases J;obtain⟨j,m,_,k⟩:=gF f
   have:=pt j m
   unfold dN at this;rw[mo (by decide),I j z k] at this
   show O.blt _ _=false;simpa using this
  dsimp only
  by_cases L:c-p>0
  .rw[tz L]
   have N:=MJ.lR v hp hi
   by_cases l:p=0
   .rw[tz (by simpa using l)]
    subst l;exact FB #[q, .inl #[_,rfl,N.tP]]
   .rw[mo (by simpa using l)]
    exact xM C o T q N (by lia) (by lia) B F (by lia) lo
  .rw[mo L]
   have:p=c:=by lia
   subst this;exact xM C o T q v Z h2 B F hn lo
theorem Gw(C:gN O key S k0 M A E s)(d:kindOf st=k0)(T:mV O key S a b)(g:GS bO st)(c:S7)(e:pO O key a b n c.2.1 c.2.2.1 c.2.2.2.1):
  wpS M A E s (AL a b c) (λr f=>GS bO f/\JQ O key a b n r) st:=by
 unfold AL
 by_cases h:c.2.2.2.2.1>1
 .rw[tz h];exact xK C d T g e
 .rw[mo h];exact xK C d T g e
theorem Gv(C:gN O key S k0 M A E s)(G:kindOf st=k0)(T:mV O key S a b)(g:GS bO st)(c:S6)(d:pO O key a b n c.2.1 c.2.2.1 c.2.2.2.1):
  wpS M A E s (AK a b o c) (λr H=>GS bO H/\JQ O key a b (n+1) r) st:=by
 obtain⟨X,l,m,out,I,J⟩:=c;obtain⟨v,w,f,B,F,L⟩:=d;dsimp only at v w f B F L;unfold AK;dsimp only;obtain⟨y,p,N,P⟩:=bA (xs:=b) (i:=m-1) (by lia)
 obtain⟨x,q,Q,R⟩:=bA (xs:=a) (i:=l-1) (by lia)
 refine Da (bw p (Da (bw q (Da (C _ _ _ _ (T.mb y N) (T.ma x Q) G ?_)))));cases e:O.blt (key y) (key x) with
 |true=>
  dsimp only;rw[tz rfl];refine Da (bw q ?_)
  have h:=MJ.ui v w q λz t=>by
   obtain⟨j,U,_,u⟩:=gF t;exact KM (fU T.sb (by lia) u P) (Re e)
  by_cases k:l-1=0
  .rw[tz (by simpa using k)]
   rw[k] at h ⊢;exact FB #[g, .inl #[_,rfl,h.tP]]
  .rw[mo (by simpa using k)]
   have d:pO O key a b (n+1) (l-1) m (out.push x):=#[h,by lia,by lia,B,F,by lia]
   by_cases f:I+1>=o
   .rw[tz f];exact FB #[g, .inr #[rfl,d]]
   .rw[mo f];exact FB #[g,rfl,d]
 |false=>
  dsimp only;rw[mo (by decide)]
  refine Da (bw p ?_)
  have h:=MJ.uj v (by lia) p λz t=>by
   obtain⟨j,U,_,u⟩:=gF t;exact KM (fU T.sa (by lia) u R) e
  by_cases k:m-1=1
  .rw[tz (by simpa using k)]
   rw[k] at h ⊢;exact FB #[g, .inl #[_,rfl,MJ.first T h]]
  .rw[mo (by simpa using k)]
   have d:pO O key a b (n+1) l (m-1) (out.push y):=#[h,by lia,by lia,by lia,by lia,by lia]
   by_cases f:J+1>=o
   .rw[tz f];exact FB #[g, .inr #[rfl,d]]
   .rw[mo f];exact FB #[g,rfl,d]
theorem pO.le(h:pO O key a b n c d out)(e:m<=n):pO O key a b m c d out:=#[h.1,h.2.1,h.2.2.1,h.2.2.2.1,h.2.2.2.2.1,by have:=h.2.2.2.2.2;lia]
theorem BV(C:gN O key S k0 M A E s)(T:mV O key S a b)(g:GS bO st)(p:kindOf bO=k0)(c:S5)(q:pO O key a b n c.2.1 c.2.2.1 c.2.2.2.1):
  wpS M A E s (rO a b c) (λr h=>GS bO h/\Ui O key a b (n+1) r) st:=by
 have B:0<a.size+b.size:=by have:=T.na;lia
 unfold rO;refine Da (SB (SL (I:=λ(x:Nat)(f:S6)(h:SortSt)=>GS bO h/\f.1=none/\pO O key a b (n+min x 1) f.2.1 f.2.2.1 f.2.2.2.1) (Q:=λf h=>GS bO h/\QT O key a b (n+1) f) ?step ?fin #[g,rfl,q.le (by lia)]) ?post)
 case fin=>
  rintro f h ⟨i,l,j⟩;exact#[i, .inr #[l,j.le (by lia)]]
 case step=>
  rintro x f h _ _ ⟨i,l,j⟩;refine SB (Gv C (i.kind.trans p) T i f j) λr t #[m,o]=>?_;cases r with
  |done d=>
   exists m
   rcases o with o| ⟨u,v⟩
   .exact .inl o
   .exact .inr #[u,v.le (by lia)]
  |yield d=>exact#[m,o.1,o.2.le (by lia)]
 case post=>
  rintro⟨F,G⟩ h ⟨i,o⟩
  rcases o with ⟨r,e,k⟩ | ⟨e,w⟩
  .dsimp only at e
   subst e;exact FB #[i,r,rfl,k]
  .dsimp only at e
   subst e;dsimp only;refine Da (abl (aaK #[rfl,?_]));refine Da (SB (SL (I:=λ(x:Nat)(f:S7)(h:SortSt)=>GS bO h/\f.1=none/\pO O key a b (n+1) f.2.1 f.2.2.1 f.2.2.2.1) (Q:=λf h=>GS bO h/\QT O key a b (n+1) f) ?step2 ?fin2 #[i,rfl,w]) ?post2)
   case fin2=>
    rintro f h ⟨i,l,j⟩;exact#[i, .inr #[l,j]]
   case step2=>
    rintro x f h _ _ ⟨i,l,j⟩;refine SB (Gw C (i.kind.trans p) T i f j) λr t #[m,o]=>?_;cases r with
    |done d=>exact#[m,o]
    |yield d=>exact#[m,o]
   case post2=>
    rintro⟨H,J⟩ h ⟨i,o⟩
    rcases o with ⟨r,e,k⟩ | ⟨e,y⟩
    .dsimp only at e
     subst e;exact FB #[i,r,rfl,k]
    .dsimp only at e
     subst e;refine Da (pM λL z=>FB #[i.trans z,rfl,y])
theorem BY(C:gN O key S k0 M A E s)(t:kindOf st=k0)(T:mV O key S a b)(q:∀r c,GS st c->Res O key (a.toList++b.toList) r.toList->Q r c):wpS M A E s (pH a b) Q st:=by
 rw[Bn];refine Da (abl (aaK #[rfl,?_]));have u:=T.na;have B:=T.nb;obtain⟨x,m,F,G⟩:=bA (xs:=a) (i:=a.size-1) (by lia)
 refine Da (bw m ?_)
 have v:MJ O key a b #[] a.size b.size:=by
  refine#[?_,by simp,?_,?_,by simp]
  .rw[uZ (by simp),uZ (by simp)]
   simpa using(abZ a.toList).append (abZ b.toList)
  .rw[uZ (by simp)]
   exact abt.mpr (T.sa.imp λh=>h)
  .rw[uZ (by simp)]
   exact abt.mpr (T.sb.imp λh=>h)
 have j:=MJ.ui v u m λy w=>T.last x m y (B5 w);have z:(#[]:Array Keyed).push x= [x].toArray:=rfl;rw[z] at j
 by_cases k:a.size-1=0
 .rw[tz (by simpa using k)]
  rw[k] at j ⊢;exact FB (q _ _ (GS.refl _) j.tP)
 .rw[mo (by simpa using k)]
  by_cases g:b.size=1
  .rw[tz (by simpa using g)]
   rw[g] at j ⊢;exact FB (q _ _ (GS.refl _) (MJ.first T j))
  .rw[mo (by simpa using g)]
   refine Da (aaX ?_);refine Da (SB (SL (I:=λ(x:Nat)(f:S5)(c:SortSt)=>GS st c/\f.1=none/\pO O key a b (x+1) f.2.1 f.2.2.1 f.2.2.2.1) (Q:=λf c=>GS st c/\∃r,f.1=some r/\Res O key (a.toList++b.toList) r.toList) ?step ?fin #[GS.refl _,rfl,j,by show 1<=a.size-1;lia,by show a.size-1<=a.size;lia,by show 2<=b.size;lia,bJ _,by show 0+1+(a.size-1)+b.size<=a.size+b.size;lia]) ?post)
   case fin=>
    rintro f c ⟨l,k,g⟩
    have:=g.2.2.2.2.2
    have:=g.2.1
    lia
   case step=>
    rintro x f c _ _ ⟨l,k,g⟩;refine SB (BV C T l t f g) λr H #[p,o]=>?_;cases r with
    |done d=>exact#[p,o]
    |yield d=>exact#[p,o]
   case post=>
    rintro⟨J,L⟩ c ⟨l,r,e,n⟩;dsimp only at e;subst e;exact FB (q r c l n)
end
theorem Bm(i:Nat):mergeAt' i=(do
 let s <-get
 let (some (sa,na,power),some (sb,nb,_)):=((pendingOf s)[i]?,(pendingOf s)[i+1]?) |unsupported "internal:list.sort.pending"
 set (setPending s (((pendingOf s).setIfInBounds i (sa,na+nb,power)).eraseIdxIfInBounds (i+1)))
 let some k <-eZ false (<-elem' (arrOf s) sb) (arrOf s) sa na 0|return false
 let (sa,na):=(sa+k,na-k)
 if na==0 then return true
 let some nb <-eZ true (<-elem' (arrOf s) (sa+na-1)) (arrOf s) sb nb (nb-1) |return false
 if nb==0 then return true
 let x:=(arrOf s).extract sa sb
 let y:=(arrOf s).extract sb (sb+nb)
 let merged <-if na<=nb then pI x y else pH x y
 modify λs=>setArr s (merged.toList.zipIdx.foldl (λa (p,j)=>a.setIfInBounds (sa+j) p) (arrOf s))
 return (failedOf (<-get)).isNone):=rfl
theorem qp:∀(m:List Keyed)(off b:Nat)(c:Array Keyed),b+off+m.length<=c.size->
  ((m.zipIdx off).foldl (λa (p:Keyed×Nat)=>a.setIfInBounds (b+p.2) p.1) c).size=c.size/\∀i,((m.zipIdx off).foldl (λa (p:Keyed×Nat)=>a.setIfInBounds (b+p.2) p.1) c)[i]? =if b+off<=i/\i<b+off+m.length then m[i-(b+off)]? else c[i]?
 | [],off,b,c,_=>#[rfl,λi=>by rw[mo (by simp)];rfl]
 |x::m,off,b,c,h=>by
  rw[dG] at h;have e:=qp m (off+1) b (c.setIfInBounds (b+off) x) (by rw[aa3];lia)
  rw[List.zipIdx_cons,tw];refine#[by rw[e.1,aa3],λi=>?_]
  rw[e.2 i]
  by_cases f:b+(off+1)<=i/\i<b+(off+1)+m.length
  .rw[tz f,tz (by rw[dG];lia),show i-(b+off)=(i-(b+(off+1)))+1 by lia,uY]
  .rw[mo f,abI]
   by_cases d:b+off=i
   .rw[tz d,tz (by lia),tz (by rw[dG];lia),<-d,qe];rfl
   .rw[mo d,mo (by rw[dG];lia)]
def putAt(c m:Array Keyed)(b:Nat):Array Keyed:=m.toList.zipIdx.foldl (λa (p:Keyed×Nat)=>a.setIfInBounds (b+p.2) p.1) c
theorem xr(h:b+m.size<=a.size)(i:Nat):(putAt a m b)[i]? =if b<=i/\i<b+m.size then m[i-b]? else a[i]? :=by
 have:=(qp m.toList 0 b a (by simpa using h)).2 i
 unfold putAt;rw[this];simp
theorem D5(h:b+m.size<=a.size):(putAt a m b).size=a.size:=(qp m.toList 0 b a (by simpa using h)).1
theorem D4(h:b+m.size<=a.size)(p:m.toList.Perm ((a.toList.drop b).take m.size)):(putAt a m b).Perm a:=by
 rw[HI]
 have e:(putAt a m b).toList=a.toList.take b++(m.toList++a.toList.drop (b+m.size)):=by
  apply zV;intro i;rw[dX,xr h,List.getElem?_append,List.getElem?_append,ik,eX,eX,List.getElem?_take,xS,dX,dX,dX]
  repeat' split
  all_goals first|rfl| (exfalso;lia) | (congr 1;lia)
 have c:a.toList=a.toList.take b++((a.toList.drop b).take m.size++a.toList.drop (b+m.size)):=by
  conv=>lhs;rw[<-mQ b a.toList,nq a.toList b m.size]
 rw[e]
 conv=>rhs;rw[c]
 exact abr _ (p.append_right _)
section
variable {O:KeyOrd} {key:Keyed->O.α} {S:Keyed->Prop} {k0:SortKind} {prog:Program} {w:World} {A:Around} {E:Value->Shared->Prop} {s:Shared} {st bO:SortSt}
theorem Nk(h:Q ⟨⟩ a):wpS M A E s (set a:StateT SortSt Sem PUnit) Q st:=by
 unfold wpS;rw[StateT.run_set];exact ls #[rfl,h]
theorem fE{xs:Array Keyed}{a b:Nat}(h:jn O key xs a b){i j:Nat}(c:a<=i)(d:i<=j)(e:j<b)(f:xs[i]? =some x)(g:xs[j]? =some y):LE O key x y:=by
 have:=h i j c d e
 unfold ky at this;rw[f,g] at this;exact this
theorem BL{xs:Array Keyed}(k:b<=xs.size)(h:∀i j x y,a<=i->i<=j->j<b->xs[i]? =some x->xs[j]? =some y->LE O key x y):jn O key xs a b:=λi j e f g=>by
 obtain⟨x,c,_,_⟩:=bA (xs:=xs) (i:=i) (by lia)
 obtain⟨y,d,_,_⟩:=bA (xs:=xs) (i:=j) (by lia)
 unfold ky;rw[c,d];exact h i j x y e f g c d
theorem ext_get{xs:Array Keyed}{a b i:Nat}(c:b<=xs.size)(d:i<b-a):(xs.extract a b)[i]? =xs[a+i]? :=by
 rw[Array.getElem?_extract,tz (by lia)]
theorem ext_mem{c:Array Keyed}{a b:Nat}{x:Keyed}(h:x∈(c.extract a b).toList):∃i,a<=i/\i<b/\i<c.size/\c[i]? =some x:=by
 rw[ext_toList] at h;obtain⟨j,f,d,e⟩:=eJ h;rw[eX] at d;exact#[a+j,by lia,by lia,d,kg e]
theorem He(h:jn O key xs a b)(c:b<=xs.size):(xs.extract a b).toList.Pairwise (LE O key):=by
 rw[EC];intro i j d e l;have f:(xs.extract a b).toList.length=b-a:=by rw[eX,zU];lia
 rw[f] at d e;have g:=ext_get (xs:=xs) (a:=a) c d;have k:=ext_get (xs:=xs) (a:=a) c e;refine fE h (i:=a+i) (j:=a+j) (by lia) (by lia) (by lia) ?_ ?_
 .rw[<-g,<-dX];exact eu _
 .rw[<-k,<-dX];exact eu _
theorem BX(C:gN O key S k0 (model prog w) A E s)(o:Ok S k0 st)(hf:failedOf st=none)(p1:(pendingOf st)[i]? =some (b,d,pw))(p2:(pendingOf st)[i+1]? =some (b+d,v,WD))(hna:1<=d)(Om:1<=v)(fQ:b+d+v<=(arrOf st).size)
  (N:jn O key (arrOf st) b (b+d)) (P:jn O key (arrOf st) (b+d) (b+d+v))
  (q:∀l,(arrOf l).Perm (arrOf st)->kindOf l=kindOf st->failedOf l=none->pendingOf l=((pendingOf st).setIfInBounds i (b,d+v,pw)).eraseIdxIfInBounds (i+1)->(∀j,j<b\/b+d+v<=j->(arrOf l)[j]? =(arrOf st)[j]?)->jn O key (arrOf l) b (b+(d+v))->Q true l):
  wpS (model prog w) A E s (mergeAt' i) Q st:=by
 rw[Bm];refine Da (aaX ?_);rw[p1,p2];dsimp only;refine Da (Nk ?_);generalize ((pendingOf st).setIfInBounds i (b,d+v,pw)).eraseIdxIfInBounds (i+1)=pn at q;have o':Ok S k0 (setPending st pn):=#[o.mem,o.kind];have mem:∀x∈(arrOf st).toList,S x:=o.mem;obtain⟨X,RA,mb0,lb0⟩:=bA (xs:=arrOf st) (i:=b+d) (by lia)
 refine Da (bw RA ?_);have pU:∀(j:Nat)(z:Keyed),(arrOf st)[j]? =some z->(arrOf st)[j]?.getD (Value.none,Value.none)=z:=λj z e=>by rw[e];rfl
 refine Da (gM C (pK mem (i:=b) (n:=d) (by lia)) (mem X mb0) o'.kind (by lia) (λi j G Y h=>?_) λk hk kt kf=>?_)
 .obtain⟨xi,M,_,_⟩:=bA (xs:=arrOf st) (i:=b+i) (by lia)
  obtain⟨xj,Z,_,_⟩:=bA (xs:=arrOf st) (i:=b+j) (by lia)
  unfold dN at h ⊢;rw[mo (by decide)] at h ⊢
  rw[Z] at h;rw[M];have h':O.kle (key xj) (key X):=by unfold KeyOrd.kle;simpa using h
  have:=KM (fE N (by lia) (by lia) (by lia) M Z) h'
  unfold KeyOrd.kle at this;simpa using this
 have Wf:∀j x,b<=j->j<b+k->(arrOf st)[j]? =some x->LE O key x X:=λj x f B e=>by
  have:=kt (j-b) (by lia)
  unfold dN at this;rw[mo (by decide),show b+(j-b)=j by lia,pU j x e] at this
  show O.blt _ _=false;simpa using this
 have khi:∀j x,b+k<=j->j<b+d->(arrOf st)[j]? =some x->LE O key X x:=λj x f B e=>by
  have:=kf (j-b) (by lia) (by lia)
  unfold dN at this;rw[mo (by decide),show b+(j-b)=j by lia,pU j x e] at this
  exact Re (show O.blt _ _=true by simpa using this)
 dsimp only;have P9:∀j y,b+d<=j->j<b+d+v->(arrOf st)[j]? =some y->LE O key X y:=λj y f B e=>fE P (by lia) f B RA e
 by_cases e0:d-k=0
 .rw[tz (by simpa using e0)]
  refine FB (q _ (.refl _) rfl hf rfl (λ_ _=>rfl) ?_);refine BL (by show b+(d+v)<=(arrOf st).size;lia) λi j x y f G Y H I=>?_
  by_cases c1:j<b+d
  .exact fE N f G c1 H I
  .by_cases c2:i<b+d
   .exact KM (Wf i x f (by lia) H) (P9 j y (by lia) (by lia) I)
   .exact fE P (by lia) G (by lia) H I
 rw[mo (by simpa using e0)]
 have U4:b+k+(d-k)-1=b+d-1:=by lia
 obtain⟨al,N2,mal,lal⟩:=bA (xs:=arrOf st) (i:=b+k+(d-k)-1) (by lia)
 refine Da (bw N2 ?_);rw[U4] at N2;refine Da (gM C (pK mem (i:=b+d) (n:=v) (by lia)) (mem al mal) o'.kind (by lia) (λi j G Y h=>?_) λm hm mt mf=>?_)
 .obtain⟨yi,M,_,_⟩:=bA (xs:=arrOf st) (i:=b+d+i) (by lia)
  obtain⟨yj,Z,_,_⟩:=bA (xs:=arrOf st) (i:=b+d+j) (by lia)
  unfold dN at h ⊢;rw[tz rfl] at h ⊢;rw[Z] at h;rw[M];exact aa2 (fE P (by lia) (by lia) (by lia) M Z) h
 have mlo:∀j y,b+d<=j->j<b+d+m->(arrOf st)[j]? =some y->LE O key y al:=λj y f B e=>by
  have:=mt (j-(b+d)) (by lia)
  unfold dN at this;rw[tz rfl,show b+d+(j-(b+d))=j by lia,pU j y e] at this
  exact Re this
 have Wj:∀j y,b+d+m<=j->j<b+d+v->(arrOf st)[j]? =some y->LE O key al y:=λj y f B e=>by
  have:=mf (j-(b+d)) (by lia) (by lia)
  unfold dN at this;rw[tz rfl,show b+d+(j-(b+d))=j by lia,pU j y e] at this
  exact this
 have Xk:∀j x,b<=j->j<b+d->(arrOf st)[j]? =some x->LE O key x al:=λj x f B e=>fE N f (by lia) (by lia) e N2
 dsimp only
 by_cases M:m=0
 .rw[tz (by simpa using M)]
  refine FB (q _ (.refl _) rfl hf rfl (λ_ _=>rfl) ?_);refine BL (by show b+(d+v)<=(arrOf st).size;lia) λi j x y f G Y H I=>?_
  by_cases c1:j<b+d
  .exact fE N f G c1 H I
  .by_cases c2:i<b+d
   .exact KM (Xk i x f c2 H) (Wj j y (by lia) (by lia) I)
   .exact fE P (by lia) G (by lia) H I
 rw[mo (by simpa using M)]
 have T:mV O key S ((arrOf st).extract (b+k) (b+d)) ((arrOf st).extract (b+d) (b+d+m)):=by
  refine#[λx J=>?_,λx J=>?_,He (λi j f B h3=>N i j (by lia) B h3) (by lia),He (λi j f B h3=>P i j f B (by lia)) (by lia),by rw[zU];lia,by rw[zU];lia,λy hy x J=>?_,λx J y hy=>?_]
  .obtain⟨i,_,_,_,e⟩:=ext_mem J
   exact mem x (gb (lg e))
  .obtain⟨i,_,_,_,e⟩:=ext_mem J
   exact mem x (gb (lg e))
  .rw[ext_get (by lia) (by lia)] at hy
   have IG:(arrOf st)[b+d]? =some y:=hy;rw[RA] at IG;cases IG;obtain⟨i,f,B,_,e⟩:=ext_mem J;exact khi i x f B e
  .have hsz2:((arrOf st).extract (b+k) (b+d)).size=d-k:=by rw[zU];lia
   rw[hsz2,ext_get (by lia) (by lia)] at J
   rw[show b+k+(d-k-1)=b+d-1 by lia,N2] at J;cases J
   obtain⟨i,f,B,_,e⟩:=ext_mem hy;exact mlo i y f B e
 have szx:((arrOf st).extract (b+k) (b+d)).size=d-k:=by rw[zU];lia
 have szy:((arrOf st).extract (b+d) (b+d+m)).size=m:=by rw[zU];lia
 have fin:∀(r:Array Keyed)(l:SortSt),GS (setPending st pn) l->Res O key (((arrOf st).extract (b+k) (b+d)).toList++((arrOf st).extract (b+d) (b+d+m)).toList) r.toList->
   wpS (model prog w) A E s (do
    modify λs=>setArr s (r.toList.zipIdx.foldl (λa (p,j)=>a.setIfInBounds (b+k+j) p) (arrOf s))
    return (failedOf (<-get)).isNone) Q l:=by
  intro r l g u;refine Da (aba (Da (aaX ?_)));have IC:failedOf l=none:=g.failed.trans hf
  have hr:r.size=d-k+m:=by
   have:=u.1.length_eq
   rw[dJ,eX,eX,eX,szx,szy] at this;exact this
  have hb:b+k+r.size<=(arrOf l).size:=by rw[g.arr];show _<=(arrOf st).size;lia
  have aae:(r.toList.zipIdx.foldl (λa (x:Keyed×Nat)=>match x with| (p,j)=>a.setIfInBounds (b+k+j) p) (arrOf l))=putAt (arrOf l) r (b+k):=rfl
  show wpS _ _ _ _ (pure (failedOf l).isNone) Q (setArr l (putAt (arrOf l) r (b+k)));rw[IC];have ga:arrOf l=arrOf st:=g.arr;rw[ga] at hb ⊢;have Hf:=λi=>xr hb i;rw[hr] at Hf
  have QA:∀j x,b+k<=j->j<b+d+m->(putAt (arrOf st) r (b+k))[j]? =some x->∃i,b+k<=i/\i<b+d+m/\(arrOf st)[i]? =some x:=λj x f B e=>by
   rw[Hf,tz (by lia)] at e
   have hm:=u.1.mem_iff.mp (gb (lg e))
   rcases cU.mp hm with z|z
   .obtain⟨i,R,a2,_,U⟩:=ext_mem z
    exact#[i,R,by lia,U]
   .obtain⟨i,R,a2,_,U⟩:=ext_mem z
    exact#[i,by lia,a2,U]
  have t:∀j,j<b+k\/b+d+m<=j->(putAt (arrOf st) r (b+k))[j]? =(arrOf st)[j]? :=λj h=>by rw[Hf,mo (by lia)]
  have L4:∀i x j y,b<=i->i<b+k->(arrOf st)[i]? =some x->b+k<=j->j<b+d+v->(arrOf st)[j]? =some y->LE O key x y:=λi x j y R a2 a3 U a5 a6=>by
   by_cases c:j<b+d
   .exact fE N R (by lia) c a3 a6
   .exact KM (Wf i x R a2 a3) (P9 j y (by lia) a5 a6)
  have Oh:∀i x j y,b<=i->i<b+d+m->(arrOf st)[i]? =some x->b+d+m<=j->j<b+d+v->(arrOf st)[j]? =some y->LE O key x y:=λi x j y R a2 a3 U a5 a6=>by
   by_cases c:i<b+d
   .exact KM (Xk i x R c a3) (Wj j y U a5 a6)
   .exact fE P (by lia) (by lia) a5 a3 a6
  refine FB (q _ ?_ g.kind IC g.pend (λj Y=>t j (by lia)) ?_)
  .refine D4 hb ?_
   rw[hr];refine u.1.trans ?_;rw[ext_toList,ext_toList,show b+d-(b+k)=d-k by lia,show b+d+m-(b+d)=m by lia]
   have:((arrOf st).toList.drop (b+k)).take (d-k+m)=((arrOf st).toList.drop (b+k)).take (d-k)++((arrOf st).toList.drop (b+d)).take m:=by
    rw[oQ _ (show d-k<=d-k+m by lia),List.drop_drop,show b+k+(d-k)=b+d by lia,show d-k+m-(d-k)=m by lia]
   rw[this]
  .refine BL (by show b+(d+v)<=(putAt (arrOf st) r (b+k)).size;rw[D5 hb];lia) λi j x y f G Y H I=>?_
   have L:(putAt (arrOf st) r (b+k))[i]? =some x:=H;have F:(putAt (arrOf st) r (b+k))[j]? =some y:=I
   by_cases ci:i<b+k
   .rw[t i (.inl ci)] at L
    by_cases cj:j<b+k
    .rw[t j (.inl cj)] at F
     exact fE N f G (by lia) L F
    .by_cases Uy:j<b+d+m
     .obtain⟨j',b1,b2,b3⟩:=QA j y (by lia) Uy F
      exact L4 i x j' y f ci L b1 (by lia) b3
     .rw[t j (.inr (by lia))] at F
      exact L4 i x j y f ci L (by lia) (by lia) F
   .by_cases Yh:i<b+d+m
    .by_cases Uy:j<b+d+m
     .rw[Hf,tz (by lia)] at L F
      exact fU u.2 (by lia) (lg L) (lg F)
     .obtain⟨i',b1,b2,b3⟩:=QA i x (by lia) Yh L
      rw[t j (.inr (by lia))] at F
      exact Oh i' x j y (by lia) b2 b3 (by lia) (by lia) F
    .rw[t i (.inr (by lia))] at L
     rw[t j (.inr (by lia))] at F
     exact fE P (by lia) G (by lia) L F
 by_cases c:d-k<=m
 .rw[tz c]
  exact Da (BZ C o'.kind T λr l g u=>fin r l g u)
 .rw[mo c]
  exact Da (BY C o'.kind T λr l g u=>fin r l g u)
end
abbrev U1:=Option Unit×Unit
def HB(a:Nat):StateT SortSt Sem (ForInStep U1):=do
 let st <-get
 match (if (pendingOf st).size>1 then(pendingOf st)[(pendingOf st).size-2]? else none) with
 |some (_,_,b)=>
  if b<=a then pure (ForInStep.done (none,()))
  else do
   let ok <-mergeAt' ((pendingOf st).size-2)
   if (!ok)=true then pure (ForInStep.done (some (),())) else pure (ForInStep.yield (none,()))
 |_=>pure (ForInStep.done (none,()))
def l9(size lo n:Nat):StateT SortSt Sem (ForInStep (Option Unit×Nat)):=do
 let st <-get
 match (pendingOf st).back? with
 |some (b,a,_)=>do
  let t <-forIn [0:size] ((none,()):U1) λ_ _=>HB (power' size (2*b+a) (2*b+a+a+n) size)
  match t.1 with
  |some r=>pure (ForInStep.done (some r,lo))
  |none=>do
   modify λs=>setPending s ((pendingOf s).modify ((pendingOf s).size-1) λx=>(x.1,x.2.1,power' size (2*b+a) (2*b+a+a+n) size))
   modify λs=>setPending s ((pendingOf s).push (lo,n,0))
   pure (ForInStep.yield (none,lo+n))
 |_=>do
  modify λs=>setPending s ((pendingOf s).push (lo,n,0))
  pure (ForInStep.yield (none,lo+n))
def BK(size lo:Nat):StateT SortSt Sem (ForInStep (Option Unit×Nat)):=
 if lo>=size then pure (ForInStep.done (none,lo))
 else do
  let x <-countRun' lo (size-lo)
  match x with
  |some a=>
   if a<minRun' size size 0 then do
    liftM (rule "list.sort.binary-insertion")
    let ok <-binarySort' lo (min (size-lo) (minRun' size size 0)) a
    if (!ok)=true then pure (ForInStep.done (some (),lo)) else l9 size lo (min (size-lo) (minRun' size size 0))
   else l9 size lo a
  |_=>pure (ForInStep.done (some (),lo))
def Gd:StateT SortSt Sem (ForInStep U1):=do
 let st <-get
 if (pendingOf st).size<=1 then pure (ForInStep.done (none,()))
 else do
  let ok <-mergeAt' (if (if (pendingOf st).size-2>0 then(pendingOf st)[(pendingOf st).size-2-1]?.map (·.2.1) else none).any (·<((pendingOf st)[(pendingOf st).size-2+1]?.elim 0 (·.2.1))) then(pendingOf st).size-2-1 else(pendingOf st).size-2)
  if (!ok)=true then pure (ForInStep.done (some (),())) else pure (ForInStep.yield (none,()))
theorem xw:sortRuns'=(do
 let st <-get
 let c <-forIn [0:(arrOf st).size] ((none,0):Option Unit×Nat) λ_ c=>BK (arrOf st).size c.2
 match c.1 with
 |some r=>pure r
 |none=>do
  let t <-forIn [0:(arrOf st).size] ((none,()):U1) λ_ _=>Gd
  match t.1 with
  |some r=>pure r
  |none=>pure ()):=by
 rw[sortRuns'_eq];dsimp only;refine c5 rfl λst=>c5 (Ax λ_ c=>?_) λc=>?_
 .unfold BK
  refine fD (λ_=>rfl) (λ_=>c5 rfl λx=>?_);cases x with
  |none=>rfl
  |some f=>
   dsimp only;have i:∀n:Nat,l9 (arrOf st).size c.2 n=l9 (arrOf st).size c.2 n:=λ_=>rfl;refine fD (λ_=>c5 rfl λ_=>c5 rfl λok=>fD (λ_=>rfl) (λ_=>?_)) (λ_=>?_)
   all_goals
    unfold l9;refine c5 rfl λd=>?_;cases(pendingOf d).back? with
    |none=>rfl
    |some e=>
     obtain⟨j,k,l⟩:=e;dsimp only;refine c5 (Ax λ_ c=>?_) λt=>?_
     .unfold HB
      refine c5 rfl λa=>?_;cases(if (pendingOf a).size>1 then(pendingOf a)[(pendingOf a).size-2]? else none) with
      |none=>rfl
      |some e=>rfl
     .obtain⟨b,g⟩:=t
      cases b<;>rfl
 .obtain⟨h,m⟩:=c
  cases h with
  |some r=>rfl
  |none=>
   dsimp only;refine c5 (Ax λ_ c=>?_) λt=>?_
   .rfl
   .obtain⟨b,g⟩:=t
    cases b<;>rfl
section
variable {O:KeyOrd} {key:Keyed->O.α} {S:Keyed->Prop} {k0:SortKind} {prog:Program} {w:World} {A:Around} {E:Value->Shared->Prop} {s:Shared} {st bO:SortSt}
def jD(O:KeyOrd)(key:Keyed->O.α)(c:Array Keyed):Nat->List (Nat×Nat)->Nat->Prop
 |a,[],b=>a=b
 |a,e::r,b=>e.1=a/\1<=e.2/\jn O key c a (a+e.2)/\jD O key c (a+e.2) r b
theorem jD.app:∀{j g:List (Nat×Nat)}{a b:Nat},jD O key i a (j++g) b↔∃c,jD O key i a j c/\jD O key i c g b
 | [],g,a,b=>#[λh=>#[a,rfl,h],λ#[c,d,f]=>by cases d;exact f]
 |e::j,g,a,b=>by
  constructor
  .rintro⟨d,f,k,n⟩
   obtain⟨c,l,m⟩:=jD.app.mp n;exact#[c,#[d,f,k,l],m]
  .rintro⟨c,⟨d,f,k,l⟩,m⟩
   exact#[d,f,k,jD.app.mpr #[c,l,m]]
theorem jD.le:∀{l:List (Nat×Nat)}{a b:Nat},jD O key c a l b->a+l.length<=b
 | [],a,b,h=>by cases h;simp
 |e::l,a,b,#[_,f,_,d]=>by
  have:=jD.le d
  rw[dG];lia
theorem xB(h:∀i,a<=i->i<b->d[i]? =c[i]?)(g:jn O key c a b):jn O key d a b:=λi j e k f=>by
 rw[iB (h i e (by lia)),iB (h j (by lia) f)];exact g i j e k f
theorem jD.congr:∀{l:List (Nat×Nat)}{a b:Nat},(∀i,a<=i->i<b->d[i]? =c[i]?)->jD O key c a l b->jD O key d a l b
 | [],a,b,_,h=>h
 |e::l,a,b,f,#[m,n,o,g]=>by
  have:=jD.le g
  exact#[m,n,xB (λi j k=>f i j (by lia)) o,jD.congr (λi j k=>f i (by lia) k) g]
def pl(st:SortSt):List (Nat×Nat):=(pendingOf st).toList.map λe=>(e.1,e.2.1)
structure SI (O:KeyOrd) (key:Keyed->O.α) (S:Keyed->Prop) (k0:SortKind) (a0:Array Keyed) (st:SortSt) (lo:Nat):Prop where
 ok:Ok S k0 st
 failed:failedOf st=none
 perm:(arrOf st).Perm a0
 cov:jD O key (arrOf st) 0 (pl st) lo
 le:lo<=a0.size
theorem SI.size{a:Array Keyed}{lo:Nat}(h:SI O key S k0 a st lo):(arrOf st).size=a.size:=h.perm.size_eq
theorem Ex(C:gN O key S k0 (model prog w) A E s){m:Array Keyed}{lo i:Nat}{Q:Bool->SortSt->Prop}(h:SI O key S k0 m st lo)(I:i+1<(pendingOf st).size)
  (q:∀a,SI O key S k0 m a lo->(pendingOf a).size=(pendingOf st).size-1->(∀j,lo<=j->(arrOf a)[j]? =(arrOf st)[j]?)->Q true a):wpS (model prog w) A E s (mergeAt' i) Q st:=by
 have J:(pendingOf st)[i]? =some (pendingOf st)[i]:=aaP _ i (by lia)
 have L:(pendingOf st)[i+1]? =some (pendingOf st)[i+1]:=aaP _ (i+1) I
 have n:(pendingOf st).toList=(pendingOf st).toList.take i++((pendingOf st)[i]::(pendingOf st)[i+1]::(pendingOf st).toList.drop (i+2)):=by
  conv=>lhs;rw[<-mQ i (pendingOf st).toList]
  congr 1
  rw[qc (by rw[eX];lia),qc (by rw[eX];lia)]
  rfl
 generalize hx:(pendingOf st)[i]=x at*;generalize hy:(pendingOf st)[i+1]=y at*;obtain⟨d,e,M⟩:=x;obtain⟨sb,f,WD⟩:=y;have g:=h.cov;unfold pl at g;rw[n,df,bV,bV] at g;obtain⟨c,N,P⟩:=jD.app.mp g;obtain⟨o,r,t,u,v,z,k⟩:=P;dsimp only at o r t u v z k;subst o;subst u;have R:=k.le;have fQ:=h.size;have Dd:=h.le;refine BX C h.ok h.failed J L r v (by lia) t z λa B T U X l Y=>?_
 have F:(pendingOf a).toList=(pendingOf st).toList.take i++((d,e+f,M)::(pendingOf st).toList.drop (i+2)):=by
  rw[X,Array.toList_eraseIdxIfInBounds,Array.toList_setIfInBounds]
  conv=>lhs;rw[n]
  have b:((pendingOf st).toList.take i).length=i:=by rw[ik,eX];lia
  rw[List.set_append_right _ _ (by lia),List.eraseIdx_append_of_length_le (by lia),b,qe,show i+1-i=1 by lia]
  rfl
 refine q a #[#[λp Z=>h.ok.mem p ((HI.mp B).mem_iff.mp Z),T.trans h.ok.kind],U,B.trans h.perm,?_,h.le] ?_ λj hj=>l j (.inr (by lia))
 .unfold pl
  rw[F,df,bV];refine jD.app.mpr #[d,jD.congr (λj G H=>l j (.inl H)) N,rfl,?_,Y,?_]
  .show 1<=e+f;lia
  .show jD O key (arrOf a) (d+(e+f)) _ lo
   rw[<-Nat.add_assoc];exact jD.congr (λj G H=>l j (.inr G)) k
 .rw[<-eX,F,dJ,dG,ik,u4,eX];lia
def Kp(bO st:SortSt)(lo:Nat):Prop:=∀j,lo<=j->(arrOf st)[j]? =(arrOf bO)[j]?
theorem JF(C:gN O key S k0 (model prog w) A E s){f:Array Keyed}{lo g:Nat}(h:SI O key S k0 f st lo)(d:Kp bO st lo):wpS (model prog w) A E s (HB g) (λr a=>match r with| .done c=>c=(none,())/\SI O key S k0 f a lo/\Kp bO a lo| .yield c=>c=(none,())/\SI O key S k0 f a lo/\Kp bO a lo) st:=by
 unfold HB;refine Da (aaX ?_)
 by_cases i:(pendingOf st).size>1
 .rw[tz i]
  cases e:(pendingOf st)[(pendingOf st).size-2]? with
  |none=>exact FB #[rfl,h,d]
  |some x=>
   obtain⟨o,p,l⟩:=x;dsimp only
   by_cases b:l<=g
   .rw[tz b];exact FB #[rfl,h,d]
   .rw[mo b]
    refine Da (Ex C h (by lia) λa m _ n=>?_)
    exact FB #[rfl,m,λj k=>(n j k).trans (d j k)]
 .rw[mo i]
  exact FB #[rfl,h,d]
theorem MD{lo n:Nat}:pl (setPending st ((pendingOf st).push (lo,n,0)))=pl st++ [(lo,n)]:=by
 unfold pl;show((pendingOf st).push (lo,n,0)).toList.map _=_;rw[ye,df];rfl
theorem F1:pl (setPending st ((pendingOf st).modify i λx=>(x.1,x.2.1,a)))=pl st:=by
 unfold pl;show((pendingOf st).modify i λx=>(x.1,x.2.1,a)).toList.map _=_;apply zV;intro j;rw[cc,cc,dX,dX,Array.getElem?_modify]
 by_cases e:i=j
 .rw[tz e]
  cases(pendingOf st)[j]? <;>rfl
 .rw[mo e]
theorem SI.Hw{a:Array Keyed}{lo n:Nat}(h:SI O key S k0 a st lo)(b:1<=n)(c:lo+n<=a.size)(d:jn O key (arrOf st) lo (lo+n)):SI O key S k0 a (setPending st ((pendingOf st).push (lo,n,0))) (lo+n):=by
 refine#[#[h.ok.mem,h.ok.kind],h.failed,h.perm,?_,c];rw[MD];exact jD.app.mpr #[lo,h.cov,rfl,b,d,rfl]
theorem uV(C:gN O key S k0 (model prog w) A E s){b:Array Keyed}{lo n:Nat}(h:SI O key S k0 b st lo)(k:1<=n)(l:lo+n<=b.size)(m:jn O key (arrOf st) lo (lo+n)):
  wpS (model prog w) A E s (l9 b.size lo n) (λr a=>match r with| .done c=>False| .yield c=>c=(none,lo+n)/\SI O key S k0 b a (lo+n)) st:=by
 unfold l9;refine Da (aaX ?_);cases(pendingOf st).back? with
 |none=>exact Da (aba (FB #[rfl,h.Hw k l m]))
 |some e=>
  obtain⟨p,j,v⟩:=e;dsimp only;refine Da (SB (SL (I:=λ(x:Nat)(c:U1)(a:SortSt)=>c=(none,())/\SI O key S k0 b a lo/\Kp st a lo) (Q:=λc a=>c=(none,())/\SI O key S k0 b a lo/\Kp st a lo) (λx c a _ _ g=>?_) (λc a g=>g) #[rfl,h,λ_ _=>rfl]) ?_)
  .refine SB (JF C g.2.1 g.2.2) λr y o=>?_
   cases r with
   |done d=>exact o
   |yield d=>exact o
  .rintro c a ⟨rfl,f,q⟩
   dsimp only;refine Da (aba (Da (aba (FB #[rfl,?_]))))
   have t:SI O key S k0 b (setPending a ((pendingOf a).modify ((pendingOf a).size-1) λx=>(x.1,x.2.1,power' b.size (2*p+j) (2*p+j+j+n) b.size))) lo:=
    #[#[f.ok.mem,f.ok.kind],f.failed,f.perm,by rw[F1];exact f.cov,f.le]
   exact t.Hw k l (xB (λi u z=>q i u) m)
theorem SI.WZ{b:Array Keyed}{lo c:Nat}{a:SortSt}(h:SI O key S k0 b st lo)(t:gO st a lo c):SI O key S k0 b a lo:=
 #[h.ok.step t,t.failed.trans h.failed,t.perm.trans h.perm,by
  have:pl a=pl st:=by unfold pl;rw[t.pend]
  rw[this];exact jD.congr (λi _ d=>t.out i (.inl d)) h.cov,h.le]
theorem GA(C:gN O key S k0 (model prog w) A E s){a:Array Keyed}{lo:Nat}(h:SI O key S k0 a st lo):
  wpS (model prog w) A E s (BK a.size lo) (λr b=>match r with| .done c=>c=(none,lo)/\a.size<=lo/\SI O key S k0 a b lo| .yield c=>∃n,1<=n/\c=(none,lo+n)/\SI O key S k0 a b (lo+n)) st:=by
 unfold BK;have u:=h.size;have k:=h.le
 by_cases f:lo>=a.size
 .rw[tz f];exact FB #[rfl,f,h]
 .rw[mo f]
  refine Da (wpS_countRun C h.ok (by lia) (by lia) λm v l g x i=>?_)
  dsimp only;have e:=h.WZ l;have p:=e.size
  by_cases j:m<minRun' a.size a.size 0
  .rw[tz j]
   refine Da (abl (aaK #[rfl,?_]));refine Da (wpS_binarySort C e.ok (by lia) (by lia) i λy q t=>?_)
   rw[mo (by decide)]
   refine SB (uV C (e.WZ q) (by lia) (by lia) t) λr b o=>?_
   cases r with
   |done d=>exact o.elim
   |yield d=>exact#[_,by lia,o.1,o.2]
  .rw[mo j]
   refine SB (uV C e g (by lia) i) λr b o=>?_
   cases r with
   |done d=>exact o.elim
   |yield d=>exact#[_,g,o.1,o.2]
theorem ite_le [Decidable c]:(if c then p-1 else p)<=p:=by split<;>lia
theorem Gz(C:gN O key S k0 (model prog w) A E s)(h:SI O key S k0 a st a.size)(g:(pendingOf st).size<=max 1 (a.size-x)):
  wpS (model prog w) A E s Gd (λr b=>match r with| .done c=>c=(none,())/\SI O key S k0 a b a.size/\(pendingOf b).size<=1| .yield c=>c=(none,())/\SI O key S k0 a b a.size/\(pendingOf b).size<=max 1 (a.size-(x+1))) st:=by
 unfold Gd;refine Da (aaX ?_)
 by_cases d:(pendingOf st).size<=1
 .rw[tz d];exact FB #[rfl,h,d]
 .rw[mo d]
  refine Da (Ex C h (abO (Nat.succ_le_succ ite_le) (by lia)) λb f e _=>?_)
  exact FB #[rfl,f,by lia]
theorem wpS_sortRuns(C:gN O key S k0 (model prog w) A E s){Q:Unit->SortSt->Prop}(o:Ok S k0 st)(m:failedOf st=none)(p:pendingOf st= #[])(F:1<=(arrOf st).size)
  (q:∀a,(arrOf a).Perm (arrOf st)->failedOf a=none->jn O key (arrOf a) 0 (arrOf st).size->Q () a):wpS (model prog w) A E s sortRuns' Q st:=by
 rw[xw];refine Da (aaX ?_);have t:SI O key S k0 (arrOf st) st 0:=#[o,m, .refl _,by unfold pl;rw[p];rfl,fm _]
 refine Da (SB (SL (I:=λ(x:Nat)(c:Option Unit×Nat)(a:SortSt)=>∃lo,c=(none,lo)/\min x (arrOf st).size<=lo/\SI O key S k0 (arrOf st) a lo) (Q:=λc a=>c=(none,(arrOf st).size)/\SI O key S k0 (arrOf st) a (arrOf st).size) (λx c a _ _ b=>?_) (λc a b=>?_) #[0,rfl,by lia,t]) ?_)
 .obtain⟨lo,rfl,u,f⟩:=b
  refine SB (GA C f) λr g o=>?_;cases r with
  |done d=>
   obtain⟨e,G,h⟩:=o
   have:=h.le
   have j:lo=(arrOf st).size:=by lia
   rw[j] at e h;exact#[e,h]
  |yield d=>
   obtain⟨n,H,e,h⟩:=o;exact#[lo+n,e,by lia,h]
 .obtain⟨lo,rfl,u,f⟩:=b
  have:=f.le
  have j:lo=(arrOf st).size:=by lia
  rw[j] at f ⊢;exact#[rfl,f]
 .rintro c a ⟨rfl,f⟩
  dsimp only
  have l:(pendingOf a).size<=(arrOf st).size:=by
   have:=f.cov.le
   unfold pl at this;rw[aH,eX] at this;lia
  refine Da (SB (SL (I:=λ(x:Nat)(c:U1)(a:SortSt)=>c=(none,())/\SI O key S k0 (arrOf st) a (arrOf st).size/\(pendingOf a).size<=max 1 ((arrOf st).size-x)) (Q:=λc a=>c=(none,())/\SI O key S k0 (arrOf st) a (arrOf st).size/\(pendingOf a).size<=1) (λx c a _ _ b=>?_) (λc a b=>?_) #[rfl,f,by lia]) ?_)
  .refine SB (Gz C b.2.1 b.2.2) λr g o=>?_
   cases r with
   |done d=>exact o
   |yield d=>exact o
  .exact#[b.1,b.2.1,by have:=b.2.2;lia]
  .rintro c g ⟨rfl,k,v⟩
   refine FB (q g k.perm k.failed ?_);have i:=k.cov;have y:(pl g).length<=1:=by unfold pl;rw[aH,eX];exact v
   match cg:pl g,y with
   | [],_=>rw[cg] at i;exact absurd i (by show ¬(0=(arrOf st).size);lia)
   | [e],_=>
    rw[cg] at i;obtain⟨J,L,z,B⟩:=i
    have:0+e.2=(arrOf st).size:=B
    rw[<-this];exact z
end
section
variable {O:KeyOrd} {key:Keyed->O.α} {S:Keyed->Prop} {k0:SortKind} {prog:Program} {w:World} {A:Around} {E:Value->Shared->Prop} {s:Shared}
def Keeps(s a:Shared):Prop:=∀b o,s.heap.get? b=some o->a.heap.get? b=some o
theorem uv(a:List Value):(a.toArray.zip a.toArray).toList=a.map λv=>(v,v):=by
 rw[Array.toList_zip];show List.zip a a=_
 induction a with
 |nil=>rfl
 |cons v r b=>rw[List.zip_cons_cons,bV,b]
theorem PK(h:jn O key a 0 a.size):a.toList.Pairwise (LE O key):=by
 rw[EC];intro i j c b d;rw[eX] at c b;exact fE h (fm _) (qP d) b (kg (eu _)) (kg (eu _))
theorem nX(j:s.heap.get? a=some (seqObj "list" c.toArray n))(R:2<=c.length)(T:c.length<=1000)(ne:∀b o,s.heap.get? b=some o->b≠a->True)
  {s0:Shared} (y:∀b o,s0.heap.get? b=some o->b≠a/\s.heap.get? b=some o)
  (z:∀(E:Value->Shared->Prop)(d:Shared)(l:SortKind->Shared->Prop),Keeps s0 d->l k0 d->wpAny (model prog w) A (keyKind' c.toArray) l E d)
  (C:∀(E:Value->Shared->Prop)(d:Shared),Keeps s0 d->gN O key S k0 (model prog w) A E d) (mem:∀v∈c,S (v,v))
  (h:∀out:Array Keyed,out.toList.Perm (c.map λv=>(v,v))->out.toList.Pairwise (LE O key)->P (.done (.ret .none)) {s with heap:=sortedHeap s.heap a c (out.map (·.2))}):
  wpAny (model prog w) A (Builtin.«list.sort» #[[.ref a],[]]) P E s:=by
 rw[list_sort_plain];have m:a<s.heap.objs.size:=Do j;have U:1000<sizeLine:=by decide
 refine ir (listItems_at j rfl ?_);refine ir (abU j rfl ?_ (by rw[cT];lia) (fm _))
 obtain⟨k,q⟩:∃k,(s.heap.update a (Obj.mapSeq λ_=> #[])).get? a=some (seqObj "list" #[] k):=#[_,get?_update_seq j (λ_=> #[])];refine ir (aco q rfl ?_);refine ir (wpAny_newTuple ?_ (by show c.length<=_;lia))
 refine ir (abi ?_ (fm _));refine M2 ?_
 have r:(((s.heap.update a (Obj.mapSeq λ_=> #[])).push (seqObj "tuple" c.toArray 0)).push (seqObj "list" #[] 0)).get? a=some (seqObj "list" #[] k):=by
  rw[abe _ _ _ (by rw[aa9,aaR];exact bB (oZ m)),abe _ _ _ (by rw[aaR];exact bB m)]
  exact q
 show wpAny (model prog w) A _ P E {s with heap:=((s.heap.update a (Obj.mapSeq λ_=> #[])).push (seqObj "tuple" c.toArray 0)).push (seqObj "list" #[] 0)}
 have t:Keeps s0 {s with heap:=((s.heap.update a (Obj.mapSeq λ_=> #[])).push (seqObj "tuple" c.toArray 0)).push (seqObj "list" #[] 0)}:=λb o e=>by
  obtain⟨B,F⟩:=y b o e;refine AC _ (AC _ ?_);rw[abE _ _ _ _ B];exact F
 dsimp only;have X:c.toArray.size=c.length:=by simp
 have u:¬c.toArray.size<2:=by lia
 rw[mo u,mo u];refine ir (z _ _ _ t ?_);have g:(c.toArray.zip c.toArray).size=c.length:=by rw[<-eX,uv,aH]
 refine ir (wpAny_mono (wpS_sortRuns (C _ _ t) (st:=SortSt.mk' k0 (c.toArray.zip c.toArray) #[] 7 none)
   (Q:=λ_ f=>(arrOf f).Perm (c.toArray.zip c.toArray)/\failedOf f=none/\jn O key (arrOf f) 0 (c.toArray.zip c.toArray).size)
   #[λp i=>?_,rfl] rfl rfl (by show 1<=(c.toArray.zip c.toArray).size;lia) λf G H I=>#[G,H,I]) ?_ λ_ _ e=>e)
 .have x:p∈(c.toArray.zip c.toArray).toList:=i
  rw[uv] at x;obtain⟨v,J,rfl⟩:=bL.mp x;exact mem v J
 rintro⟨⟨⟩,f⟩ d ⟨rfl,i,L,M⟩;dsimp only;have N:(arrOf f).size=c.length:=by rw[i.size_eq,g]
 refine ir (aco r rfl ?_);refine ir (abU r rfl ?_ (fm _) (by rw[Array.size_map];lia))
 rw[L];simp only[abd,dY,Os];refine ls (h (arrOf f) ?_ ?_)
 .rw[<-uv];exact HI.mp i
 .refine PK ?_
  rw[i.size_eq];exact M
theorem Ef(j:s.heap.IsList l a.toArray)(k:2<=a.length)(n:a.length<=1000)
  (p:∀(E:Value->Shared->Prop)(c:Shared)(g:SortKind->Shared->Prop),Keeps s c->g k0 c->wpAny (model prog w) A.in1.in1 (keyKind' a.toArray) g E c)
  (C:∀(E:Value->Shared->Prop)(c:Shared),Keeps s c->gN O key S k0 (model prog w) A.in1.in1 E c) (mem:∀v∈a,S (v,v))
  (h:∀out:Array Keyed,out.toList.Perm (a.map λv=>(v,v))->out.toList.Pairwise (LE O key)->Q (.ref (s.heap.objs.size+1)) {s with heap:=sortedAll s.heap a (out.map (·.2))}):
  wpAny (model prog w) A (call (.builtin "sorted") [.ref l]) Q E s:=by
 have u:1000<sizeLine:=by decide
 refine aaY kind_sorted acy acz (acA _) ?_;unfold Builtin.«sorted»;refine ir (m:=checkCount "sorted" 1 1 _) (ls ?_);refine ir (acB j ?_ (by lia))
 refine ir (abi ?_ (by show a.length<=_;lia))
 have d:((s.heap.push (seqObj "list" #[] 0)).update s.heap.objs.size (Obj.mapSeq (·++a.toArray))).objs.size=s.heap.objs.size+1:=by
  rw[aaR,aa9]
 have i:(((s.heap.push (seqObj "list" #[] 0)).update s.heap.objs.size (Obj.mapSeq (·++a.toArray))).push (seqObj "list" a.toArray 0)).get? (s.heap.objs.size+1)=some (seqObj "list" a.toArray 0):=by
  rw[<-d];exact FS _ rfl
 have keep:∀b o,s.heap.get? b=some o->(((s.heap.push (seqObj "list" #[] 0)).update s.heap.objs.size (Obj.mapSeq (·++a.toArray))).push (seqObj "list" a.toArray 0)).get? b=some o:=λb o q=>by
  have f:b<s.heap.objs.size:=Do q;rw[abe _ _ _ (by rw[d];exact bB (oZ f)),abE _ _ _ _ (bB f),abe _ _ _ (bB f)]
  exact q
 show wpAny _ _ _ _ _ {s with heap:=((s.heap.push (seqObj "list" #[] 0)).update s.heap.objs.size (Obj.mapSeq (·++a.toArray))).push (seqObj "list" a.toArray 0)}
 rw[d];refine ir (M2 (SC slot_list_sort #[_,i,rfl] entry_list_sort (nX (s0:=s) i k n (λ_ _ _ _=>trivial) (λb o e=>#[bB (oZ (Do e)),keep b o e]) p C mem λout r t=>#[_,rfl,?_]) (abH _)));exact ls #[_,rfl,h out r t]
end
end TS
namespace L2
open PySem PySem.Spec PyProof.Rows
def lexOrd:KeyOrd where
 α:=Nat×Nat
 blt:=jN
 irrefl:=λa=>by unfold jN;rw[tz rfl];simp
 trans:=λa b c d e=>LW _ _ _ d e
 negTrans:=λa b c h=>IS _ _ _ h
 total:=λa b d e=>Wb.pG (wO e) (wO d)
def keyOf(L:List (Addr×(Nat×Nat)))(v:Keyed):Nat×Nat:=match v.1 with
 | .ref a=>((L.find? λe=>e.1==a).map (·.2)).getD (0,0)
 |_=>(0,0)
theorem FX(h:uf k=uf b):k=b:=by
 unfold uf at h
 injection h with c a
 injection a with a _
 injection c with c
 injection a with a
 exact aar (by lia) (by lia)
theorem lN(c:vS H L)(d:e∈L)(v:Value):keyOf L (.ref e.1,v)=e.2:=by
 unfold keyOf;dsimp only;cases b:L.find? λx=>x.1==e.1 with
 |none=>exact absurd (abP.mp b e d) (by simp)
 |some x=>
  have f:=ab0 b;have g:=List.find?_some b;have h:x.1=e.1:=by simpa using g
  have a:=c x f;have i:=c e d;rw[h,i] at a
  injection a with a
  injection a with a
  exact(FX a).symm
theorem hJ [DecidableEq a] (f:a->b):∀(l:List b)(L:List a),l.Perm (L.map f)->∃M:List a,M.Perm L/\l=M.map f
 | [],L,h=>by
  have:=h.length_eq
  rw[aH] at this
  have:L= []:=zT.mp this.symm
  subst this;exact#[[], .refl _,rfl]
 |x::r,L,h=>by
  obtain⟨e,d,rfl⟩:=bL.mp (h.mem_iff.mp cP);have c:=List.perm_cons_erase d;have g:(f e::r).Perm (f e::(L.erase e).map f):=h.trans (c.map f);obtain⟨M,i,rfl⟩:=hJ f r (L.erase e) ((List.perm_cons _).mp g);exact#[e::M,(i.cons e).trans c.symm,rfl]
section
variable {X:Cx}
theorem uU{L:List (Addr×(Nat×Nat))}(I:Inv X d U H s)(E:vS H L)(hz:L.length<=1000)
  (Y:∀(N:List Value->Shared->Prop),(∀Z tk,s.heap.objs.size<=Z.objs.size->(∀b o,s.heap.get? b=some o->Z.get? b=some o)->N (L.map λe=>Value.ref e.1) {s with heap:=Z,toks:=tk})->wpAny (model X.prog X.w) X.A.in1 (collect v) N X.xe s)
  (q:∀(q:Addr)(M:List (Addr×(Nat×Nat))),H q=none->M.Perm L->(M.map (·.2)).Pairwise Wb.lexLe->Q (.ref q) (upd H q (.lst (M.map λe=>V.ref e.1)))):
  wpAny (model X.prog X.w) X.A (call (.builtin "sorted") [v]) (EP X d U Q) X.xe s:=by
 have cf:1000<sizeLine:=by decide
 refine aaY kind_sorted acy acz (acA _) ?_;unfold Builtin.«sorted»;refine ir (m:=checkCount "sorted" 1 1 _) (ls (ir (Y _ λk Nf Wg Ml=>ir (abi ?_ (by rw[aH];lia)))))
 have F:(k.push (seqObj "list" (L.map λe=>Value.ref e.1).toArray 0)).get? k.objs.size=some (seqObj "list" (L.map λe=>Value.ref e.1).toArray 0):=FS _ rfl;have FK:∀b o,s.heap.get? b=some o->b<k.objs.size:=λb o e=>Do (Ml b o e)
 have fin:∀(M:List (Addr×(Nat×Nat)))(out:Array Value),M.Perm L->(M.map (·.2)).Pairwise Wb.lexLe->out.toList=M.map (λe=>Value.ref e.1)->EP X d U Q (.ref k.objs.size) {s with heap:=sortedHeap (k.push (seqObj "list" (L.map λe=>Value.ref e.1).toArray 0)) k.objs.size (L.map λe=>Value.ref e.1) out,toks:=Nf}:=λM out B ms G=>by
  obtain⟨c,J⟩:=sortedHeap_at (out:=out) F;refine#[.ref k.objs.size,_,I.laid (t':=Nf) (λb o e=>?_) Wg (o:= .lst (M.map λe=>V.ref e.1)) #[by rw[aH,B.length_eq];lia,out.toList,c,?_,by rw[Array.toArray_toList];exact J],rfl,q _ M (I.hok.fresh Wg) B ms]
  .rw[sortedHeap_old (bB (FK b o e)) (by rw[aa9];exact oZ (FK b o e))]
   exact AC _ (Ml b o e)
  .rw[G,show(λe:Addr×(Nat×Nat)=>V.ref e.1)=V.ref∘(·.1) from rfl,show(λe:Addr×(Nat×Nat)=>Value.ref e.1)=Value.ref∘(·.1) from rfl,<-dH,<-dH]
   exact qF _
 by_cases h2:L.length<2
 .refine ir (M2 (SC slot_list_sort #[_,F,rfl] entry_list_sort (KS.uT F (by rw[aH];exact h2) #[_,rfl,ls #[_,rfl,fin L _ (.refl _) ?_ rfl]]) (abH _)))
  match L,h2 with
  | [],_=>exact .nil
  | [_],_=>exact abc _ _
 .have l:∀e∈L,∀j:Shared,TS.Keeps s j->∃t u,IsTup j.heap e.1 [.int (e.2.1:Nat) t, .int (e.2.2:Nat) u].toArray:=λe he j C=>by
   refine ah λG0 k0=>?_;obtain⟨t,u,o,G,J,n,hd⟩:=Je I (E e he);refine k0 ?_;exact#[t,u,o,C _ _ G,J,n,hd]
  refine ir (M2 (SC slot_list_sort #[_,F,rfl] entry_list_sort (TS.nX (s0:=s) (O:=lexOrd) (key:=keyOf L) (S:=λp=>∃e∈L,p=(Value.ref e.1,Value.ref e.1)) (k0:=tuples' true) F (by rw[aH];lia) (by rw[aH];lia) (λ_ _ _ _=>trivial) (λb o e=>#[bB (FK b o e),AC _ (Ml b o e)]) (λE' j N C hq=>?_) (λE' j C x y st N sx sy hk hq=>?_) (λv r=>?_) λout nO Fv=>#[_,rfl,ls #[_,rfl,?_]]) (abH _)))
  .have go:∀(M:List (Addr×(Nat×Nat))),(∀e∈M,e∈L)->∃fs:List Value,PySem.W.KatTups j.heap (M.map λe=>Value.ref e.1) fs/\fs.length=M.length/\∀v∈fs,∃i t,v= .int i t:=by
    intro M
    induction M with
    |nil=>exact λ_=>#[[],PySem.W.KatTups.nil,rfl,λv r=>by cases r]
    |cons e M ih=>
     intro hM;refine ah λG0 k0=>?_;obtain⟨fs,a,b,c⟩:=ih λx hx=>hM x (dh _ hx);obtain⟨t,u,o,G,J,n,hd⟩:=l e (hM e cP) j C;refine k0 ?_;refine#[.int (e.2.1:Nat) t::fs,PySem.W.KatTups.cons G J hd rfl a,by simp[b],λv r=>?_]
     rcases cV.mp r with z|z
     .exact#[_,_,z]
     .exact c v z
   obtain⟨fs,kt,kl,ki⟩:=go L λ_ h=>h;refine PySem.W.kat_kind (T:= .type "int") kt (by lia) (λv r=>by obtain⟨i,t,rfl⟩:=ki v r;exact .now) (by decide) ?_
   have hb:(Value.type "int" !=Value.type "tuple")=true:=by decide
   rw[hb];exact hq
  .obtain⟨f,P,rfl⟩:=sx
   obtain⟨g,R,rfl⟩:=sy;rw[lt'_eq];refine Da (aaX ?_);rw[hk];refine ah λG0 k0=>?_;obtain⟨t1,t2,k1⟩:=l f P j C;obtain⟨u1,u2,k2⟩:=l g R j C;refine k0 ?_;refine Da (abl (aaT (OB k1 k2 #[rfl,?_])))
   have eb:(if ((f.2.1:Nat):Int)=((g.2.1:Nat):Int) then decide (((f.2.2:Nat):Int)<((g.2.2:Nat):Int)) else decide (((f.2.1:Nat):Int)<((g.2.1:Nat):Int)))=lexOrd.blt (keyOf L (.ref f.1, .ref f.1)) (keyOf L (.ref g.1, .ref g.1)):=by
    rw[lN E P,lN E R];show _=jN f.2 g.2;unfold jN;simp only[Int.ofNat_inj,Int.ofNat_lt]
   rw[eb];exact FB hq
  .obtain⟨e,he,rfl⟩:=bL.mp r
   exact#[e,he,rfl]
  .rw[dH] at nO
   obtain⟨M,B,em⟩:=hJ (λe:Addr×(Nat×Nat)=>((Value.ref e.1,Value.ref e.1):Keyed)) out.toList L nO;refine fin M _ B ?_ (by rw[Array.toList_map,em,dH];rfl)
   rw[em,iV] at Fv;rw[iV];refine aaI ?_ Fv;intro f g P R hle;have Dc:jN (keyOf L (.ref g.1, .ref g.1)) (keyOf L (.ref f.1, .ref f.1))=false:=hle;rw[lN E (B.mem_iff.mp P),lN E (B.mem_iff.mp R)] at Dc;exact wO Dc
theorem yt:CallR X (.builtin "sorted") (λc H Q=>∃(p:Addr)(L:List (Addr×(Nat×Nat))),c= [.ref p]/\cz X.K H p (L.map λe=>V.ref e.1)/\vS H L/\L.length<=1000/\
  ∀(q:Addr)(M:List (Addr×(Nat×Nat))),H q=none->M.Perm L->(M.map (·.2)).Pairwise Wb.lexLe->Q (.ref q) (upd H q (.lst (M.map λe=>V.ref e.1)))):=by
 intro d s n H c us Q I f h;rfl';obtain⟨p,L,rfl,i,j,k,q⟩:=h;obtain⟨u,rfl,l⟩:=f.one;subst l;obtain⟨a,r,pl,_⟩:=I.list i
 have m:a=L.map λe=>Value.ref e.1:=by
  have:=mn (as:=L.map (·.1)) (us:=a) (by rw[dH];exact r)
  rw[this,dH];rfl
 have v:1000<sizeLine:=by decide
 ac_rfl;subst m;refine uU I j k (λw h=>acB pl.isList (h _ _ ?_ λb o e=>?_) (by rw[aH];lia)) q
 .rw[aaR,aa9];exact o9 _
 .rw[abE _ _ _ _ (bB (Do e))];exact AC _ e
end
section
open PySem.SeqAt
open PySem.AutoSeq1 (wpAny_loadPart')
open PySem.MeetsSeq PySem.MeetsSeq2 PySem.MeetsSeq3
theorem Dk{c:List Value}{d:List Int}(h:IntsAre c d){i:Nat}{a:Int}(e:d[i]? =some a):∃t,c[i]? =some (.int a t):=by
 induction h generalizing i with
 |nil=>simp at e
 |cons b t _ f=>
  cases i with
  |zero=>simp at e;subst e;exact#[t,rfl]
  |succ i=>simp at e;obtain⟨u,g⟩:=f e;exact#[u,by simpa using g]
theorem L6(l b:Addr)(a j:Array Value)(n F:Nat)(G H:Option Addr)(I J:Array (Option Value))(m f:List Int)(B:IntsAre a.toList m)(C:IntsAre j.toList f)(k:Nat):
  ∀i:Nat,a.size-i=k->i<=a.size->i<=j.size->Meets (Builtin.«list.__eq__.loop» #[[.ref l, .ref b,rawInt i,rawInt 0],[]])
   (λA R s=>s.heap.get? l=some {cls:= .type "list",dict:=G,data:= .seq a n,slots:=I}/\s.heap.get? b=some {cls:= .type "list",dict:=H,data:= .seq j F,slots:=J}/\
    R (.ok (.ret (.bool (HT.lexLt (m.drop i) (f.drop i))))) s):=by
 have Z:a.size=m.length:=by rw[<-B.length];simp
 have z2:j.size=f.length:=by rw[<-C.length];simp
 induction k with
 |zero=>
  intro i L M N prog w A R s h;obtain⟨x,g,d,y,os⟩:=s;obtain⟨o,p,h⟩:=h
  wp_walk using wpAny_loadPart' o,wpAny_loadPart' p
  have r:a[((i:Nat):Int).toNat]? =none:=by simp;lia
  rw[r];have O:m.drop i= []:=EE (by lia)
  rw[O] at h
  have P:HT.lexLt [] (f.drop i)=decide (a.size<j.size):=by
   by_cases c:i<f.length
   .rw[qc c,HT.vm]
    exact(FM (by lia)).symm
   .rw[EE (by lia),HT.wQ]
    exact(GM (by lia)).symm
  rw[P] at h
  wp_walk using wpAny_loadPart' o,wpAny_loadPart' p
  exact h
 |succ k Q=>
  intro i L M N prog w A R s h;obtain⟨x,g,d,y,os⟩:=s;obtain⟨o,p,h⟩:=h
  wp_walk using wpAny_loadPart' o,wpAny_loadPart' p
  have z:i<m.length:=by lia
  obtain⟨t,S⟩:=Dk B (eu z);have r:a[((i:Nat):Int).toNat]? =some (.int m[i] t):=by rw[u3,<-dX];exact S
  have T:((i:Int)+1)=((i+1:Nat):Int):=by push_cast;rfl
  rw[r]
  by_cases c:i<f.length
  .obtain⟨u,U⟩:=Dk C (eu c)
   have v:j[((i:Nat):Int).toNat]? =some (.int f[i] u):=by rw[u3,<-dX];exact U
   rw[v];rw[qc z,qc c,HT.gK] at h;obtain⟨e,X,E⟩:=HT.Ik A.in1 #[x,g,d,y,os] m[i] t f[i] u;refine ir (X prog w _ _ ?_);cases e with
   |true=>
    rw[tz (E.mp rfl)] at h
    wp_walk
    rw[T]
    exact#[aaF abV _,aao entry_eq_loop (by
     rw[Wp abV _];exact Q (i+1) (by lia) (by lia) (by lia) prog w A R _ #[o,p,h])]
   |false=>
    rw[mo (λq=>absurd (E.mpr q) cO)] at h
    wp_walk using wpAny_loadPart' o,wpAny_loadPart' p
    rw[r,v];have Y:=HT.Jt A.in1 #[x,g,d,y,os] m[i] t f[i] u prog w
    wp_walk using Y
    exact h
  .have v:j[((i:Nat):Int).toNat]? =none:=by simp;lia
   rw[v];rw[qc z,EE (show f.length<=i by lia),HT.vk] at h
   wp_walk using wpAny_loadPart' o,wpAny_loadPart' p
   show R (.ok (.ret (.bool (decide (a.size<j.size))))) _;rw[GM (by lia)]
   exact h
end
section
open PySem.SeqAt
open PySem.AutoSeq1 (wpAny_loadPart')
open PySem.MeetsSeq PySem.MeetsSeq2 PySem.MeetsSeq3
theorem yI(l b:Addr)(a c:Array Value)(n i:Nat)(j k:Option Addr)(m o:Array (Option Value))(e f:List Int)(r:IntsAre a.toList e)(t:IntsAre c.toList f):
  Meets (Builtin.«list.__lt__» #[[.ref l, .ref b],[]])
   (λ_ R s=>s.heap.get? l=some {cls:= .type "list",dict:=j,data:= .seq a n,slots:=m}/\s.heap.get? b=some {cls:= .type "list",dict:=k,data:= .seq c i,slots:=o}/\
    R (.ok (.ret (.bool (HT.lexLt e f)))) s):=by
 intro prog w A R s h;obtain⟨u,g,d,v,os⟩:=s;obtain⟨p,q,h⟩:=h;have x:=AutoSeq1.sub_list_list
 wp_walk using wpAny_loadPart' p,wpAny_loadPart' q
 exact#[aaF abV _,aao entry_eq_loop (by
  rw[Wp abV _];exact L6 l b a c n i j k m o e f r t _ 0 rfl (fm _) (fm _) prog w A R _ #[p,q,h])]
end
section
variable {prog:Program} {w:World} {A:Around} {E:Value->Shared->Prop} {s:Shared}
theorem DS(o:s.heap.IsList l a)(p:s.heap.IsList b d)(q:IntsAre a.toList e)(r:IntsAre d.toList f)(t:A.units<cLine)
  (h:Q (HT.lexLt e f) s):wpAny (model prog w) A (oneLt' true (.ref l) (.ref b)) Q E s:=by
 rfl';obtain⟨⟨cls,v,i,x⟩,g,j,n,k⟩:=id o;obtain⟨⟨H,y,data2,z⟩,B,m,C,c⟩:=id p;ac_rfl;simp only at j k m c;subst j k m c;rw[oneLt'_eq];simp only[aaB];refine ir (wpAny_cRoomFor t ?_);refine ir (wpAny_callSpecialIfBound?_slot #[_,g,rfl] PySem.F.slot_list_lt (aa8 PySem.F.slot_list_lt #[_,g,rfl] PySem.F.entry_list_lt (PySem.F.args_list_lt_2 _ _) (yI l b a d n C v y x z e f q r) #[g,B,?_]));exact UF h
end
theorem wR:∀a:List Int,HT.lexLt a a=false
 | []=>rfl
 |x::b=>by rw[HT.gK,tz rfl];exact wR b
theorem Be:∀a b c:List Int,HT.lexLt a b=true->HT.lexLt b c=true->HT.lexLt a c=true
 | [],[],_,h,_=>by cases h
 | [],_::_,[],_,h=>by cases h
 | [],_::_,_::_,_,_=>rfl
 |_::_,[],_,h,_=>by cases h
 |_::_,_::_,[],_,h=>by cases h
 |x::i,y::j,z::k,g,e=>by
  rw[HT.gK] at*
  by_cases f:x=y
  .rw[tz f] at g
   by_cases d:y=z
   .rw[tz d] at e
    rw[tz (f.trans d)];exact Be i j k g e
   .rw[mo d] at e
    rw[mo (by rw[f];exact d),f];exact e
  .rw[mo f] at g
   have l:=KB g
   by_cases d:y=z
   .rw[mo (by rw[<-d];exact f),<-d];exact g
   .rw[mo d] at e
    have m:=KB e;rw[mo (by lia)]
    exact FM (by lia)
theorem rW:∀a b:List Int,HT.lexLt a b=false->HT.lexLt b a=false->a=b
 | [],[],_,_=>rfl
 | [],_::_,h,_=>by cases h
 |_::_,[],_,h=>by cases h
 |x::f,y::g,c,d=>by
  rw[HT.gK] at*
  by_cases e:x=y
  .rw[tz e] at c
   rw[tz e.symm] at d;rw[e,rW f g c d]
  .rw[mo e] at c
   rw[mo (λz=>e z.symm)] at d
   have:=On c
   have:=On d
   lia
theorem LX(a b c:List Int)(h:HT.lexLt a c=true):HT.lexLt a b=true\/HT.lexLt b c=true:=by
 cases e:HT.lexLt a b with
 |true=>exact .inl rfl
 |false=>
  right
  cases d:HT.lexLt b a with
  |true=>exact Be _ _ _ d h
  |false=>rw[<-rW a b e d];exact h
def L3:KeyOrd where
 α:=List Int
 blt:=HT.lexLt
 irrefl:=wR
 trans:=Be
 negTrans:=LX
 total:=rW
def ja(r:List Nat):List Int:=r.map λ(n:Nat)=>(n:Int)
def nY(a b:List Nat):Prop:=HT.lexLt (ja b) (ja a)=false
def EN(H:Hp)(L:List (Addr×List Nat)):Prop:=∀p∈L,H p.1=some (.lst ((ja p.2).map V.int))
theorem Eo(h:(ja a).map V.int=(ja b).map V.int):a=b:=by
 unfold ja at h;rw[dH,dH] at h
 induction a generalizing b with
 |nil=>cases b with
  |nil=>rfl
  |cons y b=>simp at h
 |cons x a d=>
  cases b with
  |nil=>simp at h
  |cons y b=>
   rw[bV,bV] at h
   injection h with e f
   have c:V.int (x:Int)=V.int (y:Int):=e
   injection c with c
   rw[d f,show x=y by lia]
def qw(L:List (Addr×List Nat))(v:Keyed):List Int:=match v.1 with
 | .ref a=>((L.find? λe=>e.1==a).map λe=>ja e.2).getD []
 |_=> []
theorem lM(c:EN H L)(d:e∈L)(v:Value):qw L (.ref e.1,v)=ja e.2:=by
 unfold qw;dsimp only;cases b:L.find? λx=>x.1==e.1 with
 |none=>exact absurd (abP.mp b e d) (by simp)
 |some x=>
  have f:=ab0 b;have g:=List.find?_some b;have h:x.1=e.1:=by simpa using g
  have a:=c x f;have i:=c e d;rw[h,i] at a
  injection a with a
  injection a with a
  show ja x.2=ja e.2;rw[Eo a]
section
variable {X:Cx}
theorem wa(hu:X.A.units+64<cLine):CallR X (.builtin "sorted") (λP H Q=>∃(p:Addr)(L:List (Addr×List Nat)),P= [.ref p]/\cz X.K H p (L.map λe=>V.ref e.1)/\EN H L/\L.length<=1000/\
  ∀(q:Addr)(M:List (Addr×List Nat)),H q=none->M.Perm L->(M.map (·.2)).Pairwise nY->Q (.ref q) (upd H q (.lst (M.map λe=>V.ref e.1)))):=by
 intro R s σ H P us Q I rv h;refine ah λU k0=>?_;obtain⟨p,L,rfl,hp,l,hz,q⟩:=h;obtain⟨u,rfl,ru⟩:=rv.one;subst ru;obtain⟨d,r,pl,_⟩:=I.list hp;have hl:=r.length;rw[aH] at hl;have cf:1000<sizeLine:=by decide
 refine k0 ?_
 have C:d=L.map λe=>Value.ref e.1:=by
  have:=mn (as:=L.map (·.1)) (us:=d) (by rw[dH];exact r)
  rw[this,dH];rfl
 by_cases h2:L.length<2
 .refine KS.yO pl.isList (by lia) ?_
  obtain⟨e,g⟩:=acx s.heap d d.toArray;have E:H (s.heap.objs.size+1)=none:=I.hok.fresh (o9 _);refine#[.ref (s.heap.objs.size+1),_,I.laid (t':=s.toks) (λb o F=>acv F) (o9 _) (o:= .lst (L.map λe=>V.ref e.1)) #[by rw[aH];lia,d,e,r,g],rfl,q _ L E (.refl _) ?_]
  match L,h2 with
  | [],_=>exact .nil
  | [_],_=>exact abc _ _
 .have lst:∀e∈L,∀f:Shared,TS.Keeps s f->∃a:Array Value,f.heap.IsList e.1 a/\IntsAre a.toList (ja e.2):=λe g f k=>by
   refine ah λU k0=>?_;obtain⟨ZZ,r2,p2,_⟩:=I.list (cz.of (l e g));obtain⟨o,G,m,n,hd⟩:=p2.isList;refine k0 ?_;exact#[ZZ.toArray,#[o,k _ _ G,m,n,hd],by simpa using intsAre_of r2]
  refine TS.Ef (O:=L3) (key:=qw L) (S:=λp=>∃e∈L,p=(Value.ref e.1,Value.ref e.1)) (k0:=oneType') pl.isList (by lia) (by lia) (λE' f Q' k J=>?_) (λE' f k x y st Q' sx sy hk J=>?_) (λv t=>?_) λout Y Z=>?_
  .refine PySem.W.kas_kind (T:= .type "list") (by lia) (λv t=>?_) (by decide) (by decide) J
   rw[C] at t;obtain⟨e,g,rfl⟩:=bL.mp t;obtain⟨a,⟨o,G,m,_⟩,_⟩:=lst e g f k;rw[<-m];exact(PySem.W.Looks.ld G).andThen .now
  .obtain⟨i,w,rfl⟩:=sx
   obtain⟨j,z,rfl⟩:=sy;rw[lt'_eq];refine Da (aaX ?_);rw[hk,keyLt'_oneType];refine ah λU k0=>?_;obtain⟨i1,l1,n1⟩:=lst i w f k;obtain⟨i2,l2,n2⟩:=lst j z f k;refine k0 ?_;refine Da (abl (aaT (DS l1 l2 n1 n2 ?_ #[rfl,?_])))
   .rw[Around.in1_units,Around.in1_units];lia
   .have eb:HT.lexLt (ja i.2) (ja j.2)=L3.blt (qw L (.ref i.1, .ref i.1)) (qw L (.ref j.1, .ref j.1)):=by
     rw[lM l w,lM l z];rfl
    rw[eb];exact FB J
  .rw[C] at t
   obtain⟨e,g,rfl⟩:=bL.mp t;exact#[e,g,rfl]
  .rw[C,dH] at Y
   obtain⟨M,B,em⟩:=hJ (λe:Addr×List Nat=>((Value.ref e.1,Value.ref e.1):Keyed)) out.toList L Y
   have VX:(out.map (·.2)).toList=M.map λe=>Value.ref e.1:=by
    rw[Array.toList_map,em,dH];rfl
   obtain⟨c,m⟩:=acx s.heap d (out.map (·.2));have E:H (s.heap.objs.size+1)=none:=I.hok.fresh (o9 _);have Zw:=B.length_eq;refine#[.ref (s.heap.objs.size+1),_,I.laid (t':=s.toks) (λb o F=>acv F) (o9 _) (o:= .lst (M.map λe=>V.ref e.1)) #[by rw[aH];lia,(out.map (·.2)).toList,c,?_,by rw[Array.toArray_toList];exact m],rfl,q _ M E B ?_]
   .rw[VX,show(λe:Addr×List Nat=>V.ref e.1)=V.ref∘(·.1) from rfl,show(λe:Addr×List Nat=>Value.ref e.1)=Value.ref∘(·.1) from rfl,<-dH,<-dH]
    exact qF _
   .rw[em,iV] at Z
    rw[iV];refine aaI ?_ Z;intro i j w z N;have Dc:HT.lexLt (qw L (.ref j.1, .ref j.1)) (qw L (.ref i.1, .ref i.1))=false:=N;rw[lM l (B.mem_iff.mp w),lM l (B.mem_iff.mp z)] at Dc;exact Dc
end
end L2
namespace PySem.SetTable
def m9(xs:Array Nat):Prop:=∀i j (a:j<xs.size),i<j->xs[i]! <xs[j]!
theorem K6{a:Array Nat}{i d:Nat}(h:i<a.size):a.getD i d=a[i]! :=by
 simp[Array.getD,h]
theorem wC(R:m9 h)(j:Nat):∀(f lo g:Nat),g-lo<=f->lo<=g->g<=h.size->(∀i,i<lo->h[i]! <j)->(∀i,g<=i->i<h.size->j<=h[i]!)->
  lo<=below.go h j f lo g/\below.go h j f lo g<=g/\(∀i,i<below.go h j f lo g->h[i]! <j)/\∀i,below.go h j f lo g<=i->i<h.size->j<=h[i]!
 |0,lo,g,m,n,k,a,b=>by
  have:lo=g:=by lia
  subst this;rw[below.go];exact#[bJ _,bJ _,a,b]
 |f+1,lo,g,m,n,k,a,b=>by
  rw[below.go]
  by_cases c:lo<g
  .rw[tz c]
   have l:(lo+g) / 2<h.size:=by lia
   dsimp only;rw[K6 l]
   by_cases d:h[(lo+g) / 2]! <j
   .rw[tz d]
    have:=wC R j f ((lo+g) / 2+1) g (by lia) (by lia) k (λi p=>by
     by_cases e:i=(lo+g) / 2
     .rw[e];exact d
     .have:=R i ((lo+g) / 2) l (by lia);lia) b
    exact#[by lia,this.2.1,this.2.2]
   .rw[mo d]
    have:=wC R j f lo ((lo+g) / 2) (by lia) (by lia) (by lia) a (λi q o=>by
     by_cases e:i=(lo+g) / 2
     .rw[e];lia
     .have:=R ((lo+g) / 2) i o (by lia);lia)
    exact#[this.1,by lia,this.2.2]
  .rw[mo c]
   have:lo=g:=by lia
   subst this;exact#[bJ _,bJ _,a,b]
theorem iO{xs:Array Nat}(R:m9 xs)(j:Nat):below xs j<=xs.size/\(∀i,i<below xs j->xs[i]! <j)/\∀i,below xs j<=i->i<xs.size->j<=xs[i]! :=by
 have:=wC R j xs.size 0 xs.size (by lia) (fm _) (bJ _) (λi h=>by lia) (λi a b=>by lia)
 exact#[this.2.1,this.2.2]
theorem below_at(R:m9 a)(h:a[i]? =some j):below a j=i:=by
 obtain⟨b,e⟩:=uW.mp h;have g:a[i]! =j:=by simp[b,e]
 obtain⟨k,d,f⟩:=iO R j;apply Nat.le_antisymm
 .apply GE
  intro c
  have:=d i (by lia)
  lia
 .apply GE
  intro c;have l:=f (below a j) (bJ _) (by lia)
  have m:=R (below a j) i b (by lia)
  lia
theorem qH{t:SetTable}(R:m9 t.place)(h:t.place[i]? =some j):t.slot j= .live i:=by
 unfold slot;rw[below_at R h];simp[h]
theorem Ee{t:SetTable}(R:m9 t.place)(a:t.dummies= #[])(h:∀i:Nat,t.place[i]? ≠some j):t.slot j= .empty:=by
 unfold slot
 have b:(t.place[below t.place j]? ==some j)=false:=by
  rw[aaz];exact h _
 dsimp only;rw[mo (by rw[b];exact cO)]
 unfold has;rw[a];rfl
def mX(mask:Nat)(p:Probe):Probe:=
 if p.more>0 then {p with j:=p.j+1,more:=p.more-1} else
 let (i,perturb):=leap mask p.i p.perturb
 {p with j:=i,more:=runEnd mask i-i,i,perturb}
def bO(mask:Nat)(h:Int):Probe:={j:=bits h%(mask+1),more:=runEnd mask (bits h%(mask+1))-bits h%(mask+1),i:=bits h%(mask+1),perturb:=bits h,dummy:=none}
def qJ(mask:Nat)(h:Int):Nat->Probe
 |0=>bO mask h
 |k+1=>mX mask (qJ mask h k)
def bU(mask:Nat)(h:Int)(k:Nat):Nat:=(qJ mask h k).j
theorem J5(h:Int):bits h<2^64:=by
 unfold bits;have a:0<=h%(2^64:Int):=acf _ (by decide)
 have b:h%(2^64:Int)<2^64:=abQ _ (by decide)
 lia
def dW(mask:Nat)(i p:Nat):Nat->Nat×Nat
 |0=>(i,p)
 |r+1=>leap mask (dW mask i p r).1 (dW mask i p r).2
theorem kK(mask i p:Nat):∀r,(dW mask i p r).2=p / 32^r
 |0=>by simp[dW]
 |r+1=>by
  show(dW mask i p r).2 / 32=_;rw[kK mask i p r,Nat.div_div_eq_div_mul,Nat.pow_succ]
def OH(mask:Nat)(i:Nat):Nat:=(i*5+1)%(mask+1)
def kq(mask:Nat)(i:Nat):Nat->Nat
 |0=>i
 |r+1=>OH mask (kq mask i r)
theorem k7(mask i:Nat)(a:Nat):∀b,kq mask i (a+b)=kq mask (kq mask i a) b
 |0=>rfl
 |b+1=>by
  show OH mask (kq mask i (a+b))=_;rw[k7 mask i a b];rfl
theorem uo{mask i p a:Nat}(h:(dW mask i p a).2=0):∀r,dW mask i p (a+r)=(kq mask (dW mask i p a).1 r,0)
 |0=>by rw[Nat.add_zero,kq];exact aar rfl h
 |r+1=>by
  show leap mask (dW mask i p (a+r)).1 (dW mask i p (a+r)).2=_;rw[uo h r];unfold leap;simp[kq,OH]
def vc(mask:Nat):Prop:=mask=7\/mask=31\/mask=127\/mask=511
def S9(mask:Nat):Nat->Nat->List Nat
 |_,0=> []
 |i,n+1=>i::S9 mask (OH mask i) n
theorem DL{mask s:Nat}:∀{i n:Nat},s∈S9 mask i n->∃r,r<n/\kq mask i r=s
 |i,0,h=>by cases h
 |i,n+1,h=>by
  rcases cV.mp h with rfl|h
  .exact#[0,by lia,rfl]
  .obtain⟨r,a,e⟩:=DL h
   refine#[r+1,by lia,?_]
   have:=k7 mask i 1 r
   rw[show 1+r=r+1 by lia] at this
   rw[this];exact e
theorem Ta{mask:Nat}(h:vc mask):(∀s,s<=mask->∃r,r<=mask/\kq mask 0 r=s)/\kq mask 0 (mask+1)=0:=by
 have key:∀m,(aJ (m+1)).all (λs=>(S9 m 0 (m+1)).contains s)=true->∀s,s<=m->∃r,r<=m/\kq m 0 r=s:=λm a s b=>by
  have:=ab5.mp a s (fF.mpr (by lia))
  obtain⟨r,c,e⟩:=DL (List.contains_iff_mem.mp this);exact#[r,by lia,e]
 rcases h with rfl|rfl|rfl|rfl
 .exact#[key 7 (by decide+kernel),by decide+kernel]
 .exact#[key 31 (by decide+kernel),by decide+kernel]
 .exact#[key 127 (by decide+kernel),by decide+kernel]
 .exact#[key 511 (by decide+kernel),by decide+kernel]
theorem cover{mask:Nat}(h:vc mask){i s:Nat}(d:i<=mask)(e:s<=mask):∃r,r<=mask/\kq mask i r=s:=by
 obtain⟨o,per⟩:=Ta h;obtain⟨a,f,rfl⟩:=o i d;obtain⟨b,g,rfl⟩:=o s e
 by_cases c:a<=b
 .refine#[b-a,by lia,?_]
  rw[<-k7,show a+(b-a)=b by lia]
 .refine#[mask+1-a+b,by lia,?_]
  rw[<-k7,show a+(mask+1-a+b)=mask+1+b by lia,k7,per]
def cy(mask:Nat)(p:Probe):Nat->Probe
 |0=>p
 |k+1=>mX mask (cy mask p k)
theorem kU(mask:Nat)(p:Probe)(a:Nat):∀b,cy mask p (a+b)=cy mask (cy mask p a) b
 |0=>rfl
 |b+1=>by
  show mX mask (cy mask p (a+b))=_;rw[kU mask p a b];rfl
theorem me(mask:Nat)(h:Int):∀k,qJ mask h k=cy mask (bO mask h) k
 |0=>rfl
 |k+1=>by
  show mX mask _=mX mask _;rw[me mask h k]
theorem tK(mask:Nat)(p:Probe):∀c,c<=p.more->cy mask p c={p with j:=p.j+c,more:=p.more-c}
 |0,_=>rfl
 |c+1,a=>by
  show mX mask (cy mask p c)=_;rw[tK mask p c (by lia)]
  unfold mX;rw[tz (by show p.more-c>0;lia)]
  show({p with j:=p.j+c+1,more:=p.more-c-1}:Probe)={p with j:=p.j+(c+1),more:=p.more-(c+1)}
  rw[show p.more-c-1=p.more-(c+1) by lia,show p.j+c+1=p.j+(c+1) by lia]
def PL(mask:Nat)(p:Probe)(a:Nat×Nat):Probe:={p with j:=a.1,more:=runEnd mask a.1-a.1,i:=a.1,perturb:=a.2}
theorem more_le(mask i:Nat):runEnd mask i-i<=9:=by
 unfold runEnd
 split<;>lia
theorem qh(mask:Nat)(p:Probe):cy mask p (p.more+1)=PL mask p (leap mask p.i p.perturb):=by
 show mX mask (cy mask p p.more)=_;rw[tK mask p p.more (bJ _)];unfold mX;rw[mo (by show ¬p.more-p.more>0;lia)]
 rfl
theorem vU(mask:Nat)(p:Probe):∀r,∃k,k<=p.more+1+10*r/\cy mask p k=PL mask p (dW mask p.i p.perturb (r+1))
 |0=>#[p.more+1,by lia,qh mask p]
 |r+1=>by
  obtain⟨k,a,e⟩:=vU mask p r;have b:=more_le mask (dW mask p.i p.perturb (r+1)).1;refine#[k+((runEnd mask (dW mask p.i p.perturb (r+1)).1-(dW mask p.i p.perturb (r+1)).1)+1),by lia,?_]
  rw[kU,e];exact qh mask (PL mask p (dW mask p.i p.perturb (r+1)))
theorem Ea(mask i p:Nat)(r:Nat):(dW mask i p (r+1)).1<=mask:=by
 show(((dW mask i p r).1*5+1+(dW mask i p r).2 / 32)%(mask+1))<=mask
 have:=mw ((dW mask i p r).1*5+1+(dW mask i p r).2 / 32) (show 0<mask+1 by lia)
 lia
theorem Hy{mask i:Nat}(h:i<=mask):i+(runEnd mask i-i)<=mask:=by
 unfold runEnd
 split<;>lia
structure tJ (mask:Nat) (p:Probe):Prop where
 le:p.j+p.more<=mask
 more:p.more<=9
 per:p.perturb<2^64
 dum:p.dummy=none
theorem tJ.mX{mask:Nat}{p:Probe}(o:tJ mask p):tJ mask (mX mask p):=by
 unfold SetTable.mX
 split
 .next h=>exact#[by show p.j+1+(p.more-1)<=mask;have:=o.le;lia,by show p.more-1<=9;have:=o.more;lia,o.per,o.dum]
 .refine#[Hy (by have:=mw (p.i*5+1+p.perturb / 32) (show 0<mask+1 by lia);show(p.i*5+1+p.perturb / 32)%(mask+1)<=mask;lia),more_le _ _,?_,o.dum]
  show p.perturb / 32<2^64
  have:=o.per
  lia
theorem tJ.start(mask:Nat)(h:Int):tJ mask (bO mask h):=#[Hy (mask:=mask) (i:=bits h%(mask+1)) (by have:=mw (bits h) (show 0<mask+1 by lia);lia),more_le _ _,J5 h,rfl]
theorem tJ.cy{mask:Nat}{p:Probe}(o:tJ mask p):∀k,tJ mask (cy mask p k)
 |0=>o
 |k+1=>(o.cy k).mX
theorem meets{mask:Nat}(f:vc mask){p:Probe}(o:tJ mask p){s:Nat}(a:s<=mask):∃k,k<10*turns mask/\(cy mask p k).j=s:=by
 have z:(dW mask p.i p.perturb 13).2=0:=by
  rw[kK];exact Nat.div_eq_of_lt (fk o.per (by decide))
 obtain⟨r,c,e⟩:=cover f (Ea mask p.i p.perturb 12) a;obtain⟨k,d,b⟩:=vU mask p (12+r);refine#[k,?_,?_]
 .have:=o.more
  unfold turns;lia
 .rw[b]
  show(dW mask p.i p.perturb (12+r+1)).1=s;rw[show 12+r+1=13+r by lia,uo z]
  exact e
theorem zI(R:m9 t.place)(n:t.dummies= #[])(hashAt:Nat->Int)(h:Int):∀(K d:Nat)(p:Probe),p.dummy=none->K<d->(∀i:Nat,t.place[i]? ≠some (cy t.mask p K).j)->
  ∃e,e<=K/\(∀f,f<e->∃i:Nat,t.place[i]? =some (cy t.mask p f).j/\hashAt i≠h)/\
   (((∀i:Nat,t.place[i]? ≠some (cy t.mask p e).j)/\probe.go t hashAt h d p=some (.empty (cy t.mask p e).j none))\/
    (∃i:Nat,t.place[i]? =some (cy t.mask p e).j/\hashAt i=h/\probe.go t hashAt h d p=some (.candidate (cy t.mask p e).j i (cy t.mask p (e+1)))))
 |K,0,p,_,u,_=>by lia
 |K,d+1,p,o,u,q=>by
  by_cases c:∃i:Nat,t.place[i]? =some p.j
  .obtain⟨i,g⟩:=c
   have r:=qH R g
   by_cases l:hashAt i=h
   .refine#[0,fm _,λf s=>by lia, .inr #[i,g,l,?_]]
    rw[probe.go,r];dsimp only;rw[tz (by simpa using l)]
    rfl
   .cases K with
    |zero=>exact absurd g (q i)
    |succ K=>
     have v:(mX t.mask p).dummy=none:=by
      unfold mX
      split<;>exact o
     have m:∀k,cy t.mask (mX t.mask p) k=cy t.mask p (k+1):=λk=>by
      have:=kU t.mask p 1 k
      rw[show 1+k=k+1 by lia] at this
      exact this.symm
     obtain⟨e,x,a,b⟩:=zI R n hashAt h K d (mX t.mask p) v (by lia) (by rw[m];exact q)
     have w:probe.go t hashAt h (d+1) p=probe.go t hashAt h d (mX t.mask p):=by
      rw[probe.go,r];dsimp only;rw[mo (by simpa using l)]
      rfl
     refine#[e+1,by lia,λf s=>?_,?_]
     .cases f with
      |zero=>exact#[i,g,l]
      |succ f=>
       have:=a f (by lia)
       rw[m] at this;exact this
     .rw[m,m] at b
      rw[w];exact b
  .have c:∀i:Nat,t.place[i]? ≠some p.j:=λi g=>c #[i,g]
   refine#[0,fm _,λf s=>by lia, .inl #[c,?_]]
   rw[probe.go,Ee R n c];dsimp only;rw[o];rfl
structure TOk (t:SetTable) (hs:List Int):Prop where
 few:vc t.mask
 dum:t.dummies= #[]
 rise:m9 t.place
 size:t.place.size=hs.length
 le:∀(i j:Nat),t.place[i]? =some j->j<=t.mask
 room:t.place.size<=t.mask
 path:∀(i:Nat)(h:Int),hs[i]? =some h->∃k,t.place[i]? =some (bU t.mask h k)/\∀k',k'<k->∃i':Nat,t.place[i']? =some (bU t.mask h k')
theorem BH(mask:Nat)(h:Int)(k:Nat):bU mask h k<=mask:=by
 unfold bU;rw[me]
 have:=((tJ.start mask h).cy k).le
 lia
theorem TOk.empty(T:TOk t a):∃s,s<=t.mask/\∀i:Nat,t.place[i]? ≠some s:=by
 apply GE;intro c
 have all:∀s∈aJ (t.mask+1),s∈t.place.toList:=λs a=>by
  apply GE;intro n;refine c #[s,by have:=fF.mp a;lia,λi b=>n ?_]
  rw[<-dX] at b;exact gb b
 have:=Wb.aR abn all
 rw[xT,eX] at this
 have:=T.room
 lia
theorem TOk.probe(T:TOk t g)(hashAt:Nat->Int)(h:Int)(k:Nat):
  ∃d,k<=d/\(∀e,k<=e->e<d->∃i:Nat,t.place[i]? =some (bU t.mask h e)/\hashAt i≠h)/\
   (((∀i:Nat,t.place[i]? ≠some (bU t.mask h d))/\t.probe hashAt h (qJ t.mask h k)=some (.empty (bU t.mask h d) none))\/
    (∃i:Nat,t.place[i]? =some (bU t.mask h d)/\hashAt i=h/\t.probe hashAt h (qJ t.mask h k)=some (.candidate (bU t.mask h d) i (qJ t.mask h (d+1))))):=by
 obtain⟨s,j,l⟩:=T.empty;have o:=(tJ.start t.mask h).cy k;rw[<-me] at o;obtain⟨K,m,n⟩:=meets T.few o j;have f:∀c,cy t.mask (qJ t.mask h k) c=qJ t.mask h (k+c):=λc=>by rw[me,me,<-kU]
 obtain⟨d,p,a,b⟩:=zI T.rise T.dum hashAt h K (10*turns t.mask) (qJ t.mask h k) o.dum m (by rw[n];exact l)
 refine#[k+d,by lia,λe q r=>?_,?_]
 .have:=a (e-k) (by lia)
  rw[f,show k+(e-k)=e by lia] at this
  exact this
 .rw[f,f] at b
  exact b
theorem kI{xs:Array a}(x:a)(e:p<=xs.size)(i:Nat):(insertAt xs p x)[i]? =if i<p then xs[i]? else if i=p then some x else xs[i-1]? :=by
 rw[<-dX,ab6];have lt:(xs.toList.take p).length=p:=by rw[ik,eX];lia
 by_cases c:i<p
 .rw[tz c,kD (by lia),HJ c,dX]
 .rw[mo c]
  by_cases d:i=p
  .subst d
   rw[tz rfl,mP (by lia),lt,qe];rfl
  .rw[mo d,mP (by lia),lt]
   obtain⟨m,b⟩:∃m,i-p=m+1:=#[i-p-1,by lia]
   rw[b,uY,xS,dX]
   congr 1;lia
theorem g5(xs:Array a)(p:Nat)(x:a):(insertAt xs p x).size=xs.size+1:=by
 rw[<-eX,(acp xs p x).length_eq];simp
theorem ju{a:Array Nat}{i j:Nat}(h:a[i]? =some j):a[i]! =j:=by
 obtain⟨b,e⟩:=uW.mp h;simp[b,e]
theorem Ju{xs:Array Nat}(R:m9 xs){j:Nat}(h:∀i:Nat,xs[i]? ≠some j):m9 (insertAt xs (below xs j) j):=by
 obtain⟨t,w,x⟩:=iO R j;have g:=kI (xs:=xs) j t;intro a b y A;rw[g5] at y
 have m:∀i,i<xs.size+1->∃v,(insertAt xs (below xs j) j)[i]? =some v/\((i<below xs j/\xs[i]? =some v)\/(i=below xs j/\v=j)\/(below xs j<i/\xs[i-1]? =some v)):=λi r=>by
  rw[g i]
  by_cases c:i<below xs j
  .rw[tz c,oY (by lia)]
   exact#[_,rfl, .inl #[c,rfl]]
  .rw[mo c]
   by_cases d:i=below xs j
   .rw[tz d];exact#[j,rfl, .inr (.inl #[d,rfl])]
   .rw[mo d,oY (by lia)]
    exact#[_,rfl, .inr (.inr #[by lia,rfl])]
 obtain⟨G,B,C⟩:=m a (by lia)
 obtain⟨H,E,s⟩:=m b (by lia)
 rw[ju B,ju E];have lo:∀i v,i<below xs j->xs[i]? =some v->v<j:=λi v n f=>by have:=w i n;rw[ju f] at this;exact this
 have r:∀i v,below xs j<=i->xs[i]? =some v->j<v:=λi v n f=>by
  have:=x i n (uW.mp f).1
  rw[ju f] at this
  have:v≠j:=λz=>h i (by rw[f,z])
  lia
 have o:∀i k v u,xs[i]? =some v->xs[k]? =some u->i<k->v<u:=λi k v u n f F=>by
  have:=R i k (uW.mp f).1 F
  rw[ju n,ju f] at this;exact this
 rcases C with ⟨q,p⟩ | ⟨q,rfl⟩ | ⟨q,p⟩
 .rcases s with ⟨l,e⟩ | ⟨l,rfl⟩ | ⟨l,e⟩
  .exact o _ _ _ _ p e A
  .exact lo _ _ q p
  .have:=lo _ _ q p;have:=r (b-1) _ (by lia) e;lia
 .rcases s with ⟨l,e⟩ | ⟨l,rfl⟩ | ⟨l,e⟩
  .lia
  .lia
  .exact r (b-1) _ (by lia) e
 .rcases s with ⟨l,e⟩ | ⟨l,rfl⟩ | ⟨l,e⟩
  .lia
  .lia
  .exact o _ _ _ _ p e (by lia)
theorem MM{xs:Array Nat}(R:m9 xs){j s:Nat}:(∃i:Nat,(insertAt xs (below xs j) j)[i]? =some s)↔s=j\/∃i:Nat,xs[i]? =some s:=by
 obtain⟨a,_,_⟩:=iO R j;have g:=kI (xs:=xs) j a
 constructor
 .rintro⟨i,h⟩
  rw[g i] at h
  split at h
  .exact .inr #[i,h]
  .split at h
   .exact .inl (Fk h).symm
   .exact .inr #[_,h]
 .rintro(rfl| ⟨i,h⟩)
  .exact#[below xs s,by rw[g,mo (by lia),tz rfl]]
  .by_cases c:i<below xs j
   .exact#[i,by rw[g,tz c];exact h]
   .exact#[i+1,by rw[g,mo (by lia),mo (by lia)];exact h]
theorem TOk.put(T:TOk t l)(v:∀i:Nat,t.place[i]? ≠some (bU t.mask h k))(w:∀a,a<k->∃i:Nat,t.place[i]? =some (bU t.mask h a))(room:t.place.size+1<=t.mask):
  (t.put (bU t.mask h k)).2=below t.place (bU t.mask h k)/\below t.place (bU t.mask h k)<=l.length/\
  TOk (t.put (bU t.mask h k)).1 (l.take (below t.place (bU t.mask h k))++h::l.drop (below t.place (bU t.mask h k))):=by
 obtain⟨x,z,A⟩:=iO T.rise (bU t.mask h k);have g:=kI (xs:=t.place) (bU t.mask h k) x;have sz:=T.size;have o:=λs=>MM (s:=s) (j:=bU t.mask h k) T.rise;refine#[rfl,by lia,T.few,?_,Ju T.rise v,?_,?_,?_,?_]
 .show(if has t.dummies _=true then _ else t.dummies)= #[]
  rw[T.dum];rfl
 .show(insertAt t.place _ _).size=_
  rw[g5,dJ,ik,dG,u4];lia
 .intro i j p
  have p:(insertAt t.place (below t.place (bU t.mask h k)) (bU t.mask h k))[i]? =some j:=p
  rcases(o j).mp #[i,p] with rfl| ⟨u,e⟩
  .exact BH _ _ _
  .exact T.le _ _ e
 .show(insertAt t.place _ _).size<=_
  rw[g5];exact room
 .intro i e b
  show ∃f,(insertAt t.place (below t.place (bU t.mask h k)) (bU t.mask h k))[i]? =some (bU t.mask e f)/\∀a,a<f->∃u:Nat,(insertAt t.place (below t.place (bU t.mask h k)) (bU t.mask h k))[u]? =some (bU t.mask e a);have lt:(l.take (below t.place (bU t.mask h k))).length=below t.place (bU t.mask h k):=by rw[ik];lia
  by_cases c:i<below t.place (bU t.mask h k)
  .rw[kD (by lia),HJ c] at b
   obtain⟨f,q,r⟩:=T.path i e b;exact#[f,by rw[g,tz c];exact q,λa n=>(o _).mpr (.inr (r a n))]
  .rw[mP (by lia),lt] at b
   by_cases d:i=below t.place (bU t.mask h k)
   .rw[d,qe] at b
    cases(Fk b);exact#[k,by rw[d,g,mo (by lia),tz rfl],λa n=>(o _).mpr (.inr (w a n))]
   .obtain⟨m,y⟩:∃m,i-below t.place (bU t.mask h k)=m+1:=#[i-below t.place (bU t.mask h k)-1,by lia]
    rw[y,uY,xS] at b;obtain⟨f,q,r⟩:=T.path _ e b;refine#[f,?_,λa n=>(o _).mpr (.inr (r a n))];rw[g,mo c,mo d,show i-1=below t.place (bU t.mask h k)+m by lia]
    exact q
theorem uP(mask i p:Nat):∀r,dW mask i p (r+1)=dW mask (leap mask i p).1 (leap mask i p).2 r
 |0=>rfl
 |r+1=>by
  show leap mask (dW mask i p (r+1)).1 (dW mask i p (r+1)).2=_;rw[uP mask i p r];rfl
def Own(o:Array (Option Nat))(s:Nat):Prop:=(o.getD s (some 0)).isNone=false
theorem wB{mask:Nat}(e:Array (Option Nat)):∀(f:Nat)(p:Probe),p.j=p.i->p.more=runEnd mask p.i-p.i->p.i<=runEnd mask p.i->(∃r,r<f/\¬Own e (dW mask p.i p.perturb r).1)->
  ∃h,layClean.free mask e f p.i p.perturb=some (cy mask p h).j/\¬Own e (cy mask p h).j/\∀g,g<h->Own e (cy mask p g).j
 |0,p,_,_,_,#[r,v,_]=>by lia
 |f+1,p,w,E,F,#[r,v,q]=>by
  have run:∀c,c<=p.more->(cy mask p c).j=p.i+c:=λc t=>by rw[tK mask p c t];show p.j+c=_;rw[w]
  cases l:(aJ (runEnd mask p.i+1-p.i)).find? λk=>(e.getD (p.i+k) (some 0)).isNone with
  |some k=>
   obtain⟨x,m,bs,o,y⟩:=List.find?_eq_some_iff_append.mp l;have G:k<runEnd mask p.i+1-p.i:=fF.mp (by rw[o];simp)
   have z:m.length=k:=by
    have A:m.length<(aJ (runEnd mask p.i+1-p.i)).length:=by rw[o];simp
    have:=EG (n:=runEnd mask p.i+1-p.i) (i:=m.length) (by simpa using A)
    rw[o,mP (bJ _),qe] at this;exact(Fk this).symm
   refine#[k,?_,?_,λg B=>?_]
   .rw[layClean.free,l,run k (by lia)]
   .rw[run k (by lia)]
    unfold Own;rw[x];exact Bool.noConfusion
   .rw[run g (by lia)]
    have C:g∈m:=by
     have:=EG (n:=runEnd mask p.i+1-p.i) (i:=g) (by lia)
     rw[o,kD (by lia)] at this
     exact gb this
    have:=y g C
    unfold Own;exact Bool.not_eq_true' _▸this
  |none=>
   have all:=abP.mp l
   have own:∀c,c<=p.more->Own e (p.i+c):=λc t=>by
    have:=all c (fF.mpr (by lia))
    unfold Own;exact qd.mpr this
   cases r with
   |zero=>exact absurd (own 0 (fm _)) q
   |succ r=>
    have u:=qh mask p
    obtain⟨h,a,b,c⟩:=wB e f (PL mask p (leap mask p.i p.perturb)) rfl rfl (by
     show(leap mask p.i p.perturb).1<=runEnd mask (leap mask p.i p.perturb).1;unfold runEnd;split<;>lia) #[r,by lia,by rw[uP] at q;exact q]
    rw[<-u] at a b c;have s:∀k,cy mask (cy mask p (p.more+1)) k=cy mask p (p.more+1+k):=λk=>(kU mask p (p.more+1) k).symm;refine#[p.more+1+h,?_,?_,λg B=>?_]
    .rw[layClean.free,l,<-s,<-a,u];rfl
    .rw[<-s];exact b
    .by_cases d:g<=p.more
     .rw[run g d];exact own g d
     .have:=c (g-(p.more+1)) (by lia)
      rw[s,show p.more+1+(g-(p.more+1))=g by lia] at this
      exact this
structure Laid (mask:Nat) (hs:List Int) (owner:Array (Option Nat)) (ss:List Nat):Prop where
 size:owner.size=mask+1
 len:ss.length=hs.length
 nd:ss.Nodup
 le:∀s∈ss,s<=mask
 get:∀s,s<=mask->∀k,owner.getD s (some 0)=some k↔ss[k]? =some s
 path:∀(k:Nat)(h:Int),hs[k]? =some h->∃c,ss[k]? =some (bU mask h c)/\∀c',c'<c->bU mask h c'∈ss
theorem Laid.own{mask:Nat}{c:List Int}{a:Array (Option Nat)}{b:List Nat}(L:Laid mask c a b){s:Nat}(h:s<=mask):Own a s↔s∈b:=by
 unfold Own
 constructor
 .intro e
  cases o:a.getD s (some 0) with
  |none=>rw[o] at e;cases e
  |some k=>exact gb ((L.get s h k).mp o)
 .intro e
  obtain⟨k,d⟩:=tm e;rw[(L.get s h k).mpr d];rfl
theorem FE{mask:Nat}(f:vc mask){l:List Int}{g:Array (Option Nat)}{m:List Nat}(L:Laid mask l g m)(room:l.length<=mask)(h:Int):
  ∃j,layClean.free mask g (turns mask) (bits h%(mask+1)) (bits h)=some j/\Laid mask (l++ [h]) (g.setIfInBounds j (some l.length)) (m++ [j]):=by
 have o:=tJ.start mask h
 obtain⟨s,C,F⟩:∃s,s<=mask/\s∉m:=by
  apply GE;intro c
  have all:∀s∈aJ (mask+1),s∈m:=λs l=>by
   apply GE;intro n;exact c #[s,by have:=fF.mp l;lia,n]
  have:=Wb.aR abn all
  rw[xT,L.len] at this;lia
 have z:(dW mask (bO mask h).i (bO mask h).perturb 13).2=0:=by
  rw[kK];exact Nat.div_eq_of_lt (fk o.per (by decide))
 obtain⟨r,N,e⟩:=cover f (Ea mask (bO mask h).i (bO mask h).perturb 12) C
 have O:(bO mask h).i<=mask:=by
  have:=mw (bits h) (show 0<mask+1 by lia)
  show bits h%(mask+1)<=mask;lia
 obtain⟨p,a,b,c⟩:=wB g (turns mask) (bO mask h) rfl rfl (by unfold runEnd;split<;>lia) #[13+r,by unfold turns;lia,by
  rw[uo z];show ¬Own g (kq mask _ r);rw[e,L.own C];exact F]
 have E:∀k,(cy mask (bO mask h) k).j=bU mask h k:=λk=>by unfold bU;rw[me]
 rw[E] at a b;have u:=BH mask h p;rw[L.own u] at b;refine#[bU mask h p,a,?_,?_,?_,?_,?_,?_]
 .rw[aa3];exact L.size
 .rw[dJ,dJ,L.len];rfl
 .exact ic.mpr #[L.nd,by simp,λx t y G z=>b (by rw[<-dF.mp G,<-z];exact t)]
 .intro x t
  rcases cU.mp t with t|t
  .exact L.le x t
  .rw[dF.mp t];exact u
 .intro x t k
  have w:(g.setIfInBounds (bU mask h p) (some l.length)).getD x (some 0)=if bU mask h p=x then some l.length else g.getD x (some 0):=by
   rw[EB,EB,abI]
   by_cases d:bU mask h p=x
   .rw[tz d,tz d,tz (by rw[L.size];lia)];rfl
   .rw[mo d,mo d]
  rw[w]
  by_cases d:bU mask h p=x
  .rw[tz d]
   constructor
   .intro e
    cases(Fk e);rw[<-L.len,mP (bJ _),qe,<-d];rfl
   .intro e
    by_cases q:k<m.length
    .rw[kD q] at e
     exact absurd (by rw[d];exact gb e) b
    .have:k<(m++ [bU mask h p]).length:=(c9.mp e).1
     rw[dJ] at this
     have:k<m.length+1:=this
     rw[show k=m.length by lia,L.len]
  .rw[mo d,L.get x t k]
   constructor
   .intro e
    rw[kD (c9.mp e).1];exact e
   .intro e
    by_cases q:k<m.length
    .rw[kD q] at e;exact e
    .have:k<(m++ [bU mask h p]).length:=(c9.mp e).1
     rw[dJ] at this
     have:k<m.length+1:=this
     rw[show k=m.length by lia,mP (bJ _),qe] at e
     exact absurd (Fk e) d
 .intro k H v
  by_cases q:k<l.length
  .rw[kD q] at v
   obtain⟨I,w,J⟩:=L.path k H v;exact#[I,by rw[kD (by rw[L.len];exact q)];exact w,λA B=>ig _ (J A B)]
  .have:k<(l++ [h]).length:=(c9.mp v).1
   rw[dJ] at this
   have:k<l.length+1:=this
   have M:k=l.length:=by lia
   subst M;rw[mP (bJ _),qe] at v;cases(Fk v);refine#[p,by rw[<-L.len,mP (bJ _),qe];rfl,λA B=>ig _ ?_]
   have:=c A B
   rw[E] at this;exact(L.own (BH _ _ _)).mp this
theorem FF(mask:Nat):Laid mask [] (dn (mask+1) none) [] where
 size:=by simp
 len:=rfl
 nd:=f7
 le:=λs h=>by cases h
 get:=λs a k=>by
  rw[EB,Array.getElem?_replicate,tz (by lia)]
  simp
 path:=λk h e=>by cases e
def zr(mask:Nat)(a:Option (Array (Option Nat)×Nat))(h:Int):Option (Array (Option Nat)×Nat):=do
 let (owner,k) <-a
 let j <-layClean.free mask owner (turns mask) (bits h%(mask+1)) (bits h)
 pure (owner.setIfInBounds j (some k),k+1)
theorem zt{mask:Nat}(f:vc mask):∀(b done:List Int)(a:Array (Option Nat))(d:List Nat),Laid mask done a d->done.length+b.length<=mask+1->
  ∃c i,b.foldl (zr mask) (some (a,done.length))=some (c,done.length+b.length)/\Laid mask (done++b) c i
 | [],done,a,d,L,_=>#[a,d,rfl,by rw[f6];exact L]
 |h::b,done,a,d,L,l=>by
  rw[dG] at l;obtain⟨j,e,m⟩:=FE f L (by lia) h
  have n:zr mask (some (a,done.length)) h=some (a.setIfInBounds j (some done.length),done.length+1):=by
   unfold zr;simp[e]
  obtain⟨c,i,g,k⟩:=zt f b (done++ [h]) _ _ m (by rw[dJ];show done.length+1+b.length<=_;lia)
  refine#[c,i,?_,by rw[j1] at k;exact k]
  rw[tw,n];rw[dJ] at g;have g:b.foldl (zr mask) (some (a.setIfInBounds j (some done.length),done.length+1))=some (c,done.length+1+b.length):=g;rw[g,dG]
  congr 2;lia
theorem Bd{mask:Nat}(f:vc mask)(b:List Int)(room:b.length<=mask+1):∃a c,layClean mask b.toArray=some a/\Laid mask b a c:=by
 rfl';obtain⟨a,c,e,L⟩:=zt f b [] _ _ (FF mask) (by simpa using room)
 ac_rfl;refine#[a,c,?_,by simpa using L]
 have:layClean mask b.toArray=(b.foldl (zr mask) (some (dn (mask+1) none,0))).map (·.1):=by
  unfold layClean;rw[List.foldl_toArray];rfl
 have e:b.foldl (zr mask) (some (dn (mask+1) none,0))=some (a,[].length+b.length):=e;rw[this,e];rfl
def dR(mask:Nat)(a:Array (Option Nat)):List (Nat×Nat):=(aJ (mask+1)).filterMap λj=>(a.getD j none).map (j,·)
theorem IW{mask:Nat}{b:List Int}{a:Array (Option Nat)}{c:List Nat}(L:Laid mask b a c){j k:Nat}:(j,k)∈dR mask a↔c[k]? =some j:=by
 unfold dR;rw[abN]
 have dflt:∀s,s<=mask->a.getD s none=a.getD s (some 0):=λs b=>by
  rw[EB,EB,oY (by rw[L.size];lia)];rfl
 constructor
 .rintro⟨s,d,e⟩
  have d:=fF.mp d;rw[dflt s (by lia)] at e
  cases o:a.getD s (some 0) with
  |none=>rw[o] at e;cases e
  |some f=>
   rw[o] at e;have e:=Fk e;have h:s=j:=(aaH e).1;have i:f=k:=(aaH e).2;rw[<-h,<-i];exact(L.get s (by lia) f).mp o
 .intro e
  have g:=L.le j (gb e);refine#[j,fF.mpr (by lia),?_]
  rw[dflt j g,(L.get j g k).mpr e];rfl
theorem FH(mask:Nat)(c:Array (Option Nat)):((dR mask c).map (·.1)).Pairwise (·<·):=by
 unfold dR;rw[iV,List.pairwise_filterMap];refine abg.imp λ {a b} h x d y e=>?_;cases f:c.getD a none with
 |none=>rw[f] at d;cases d
 |some i=>
  cases g:c.getD b none with
  |none=>rw[g] at e;cases e
  |some j=>
   rw[f] at d;rw[g] at e;cases(Fk d);cases(Fk e);exact h
theorem LS{mask:Nat}(f:vc mask)(l:List Int)(room:l.length<=mask)(finger moves:Nat)(led plain:Bool):
  ∃t g,laid mask finger moves led plain l.toArray=some (t,g)/\t.mask=mask/\t.led=led/\t.plain=plain/\t.moves=moves/\g.toList.Perm (aJ l.length)/\TOk t (g.toList.map λk=>l.getD k 0):=by
 rfl';obtain⟨d,u,e,L⟩:=Bd f l (by lia)
 have m:=λ {j k:Nat}=>IW (j:=j) (k:=k) L;have v:=FH mask d;ac_rfl
 have F:((dR mask d).map (·.2)).Nodup:=by
  rw[tj,iV];rw[iV] at v;refine v.imp_of_mem λ {a b} G q r z=>?_;obtain⟨H,I⟩:=a;obtain⟨J,bk⟩:=b;have y:=m.mp G;have M:=m.mp q;have z:I=bk:=z;rw[z,M] at y
  have:=Fk y
  have r:H<J:=r;lia
 have perm:((dR mask d).map (·.2)).Perm (aJ l.length):=by
  refine(zR F abn).mpr λk=>?_;rw[bL,fF]
  constructor
  .rintro⟨⟨j,Z⟩,h,rfl⟩
   have:=(c9.mp (m.mp h)).1
   rw[L.len] at this;exact this
  .intro n
   have N:k<u.length:=by rw[L.len];exact n
   exact#[(u[k],k),m.mpr (eu N),rfl]
 have O:(dR mask d).length=l.length:=by
  have:=perm.length_eq
  simpa using this
 refine#[{mask,place:=((dR mask d).map (·.1)).toArray,dummies:= #[],finger,led,moves,plain},((dR mask d).map (·.2)).toArray,?_,rfl,rfl,rfl,rfl,by simpa using perm,?_]
 .unfold laid
  rw[e];rfl
 have w:∀(i j:Nat),((dR mask d).map (·.1)).toArray[i]? =some j↔∃k,(dR mask d)[i]? =some (j,k):=λi j=>by
  rw[List.getElem?_toArray,cc];cases o:(dR mask d)[i]? with
  |none=>simp
  |some x=>
   obtain⟨a,b⟩:=x;simp
 have P:∀s,s∈u->∃i:Nat,((dR mask d).map (·.1)).toArray[i]? =some s:=λs Q=>by
  obtain⟨k,n⟩:=tm Q;obtain⟨i,p⟩:=tm (m.mpr n);exact#[i,(w i s).mpr #[k,p]]
 refine#[f,rfl,?_,?_,?_,?_,?_]
 .intro a b q r
  have q:b<((dR mask d).map (·.1)).length:=q
  have:=EC.mp v a b (by lia) q r
  simp[show a<(dR mask d).length by simpa using(show a<((dR mask d).map (·.1)).length by lia),show b<(dR mask d).length by simpa using q]
  simpa using this
 .simp
 .intro i j h
  obtain⟨k,n⟩:=(w i j).mp h;exact L.le j (gb (m.mp (gb n)))
 .show((dR mask d).map (·.1)).toArray.size<=mask
  simp[O];exact room
 .intro i A p
  rw[cc] at p;cases o:(dR mask d)[i]? with
  |none=>
   have:(((dR mask d).map (·.2)).toArray.toList)[i]? =none:=by simp[o]
   rw[this] at p;cases p
  |some x=>
   obtain⟨j,k⟩:=x;have R:(((dR mask d).map (·.2)).toArray.toList)[i]? =some k:=by simp[o]
   rw[R] at p;have B:=m.mp (gb o);have n:k<l.length:=by rw[<-L.len];exact(c9.mp B).1
   have S:l[k]? =some A:=by
    rw[<-Fk p];show _=some (l.getD k 0);rw[fX,eu n];rfl
   obtain⟨c,C,T⟩:=L.path k A S;rw[B] at C;refine#[c,(w i _).mpr #[k,by rw[o,Fk C]],λU X=>P _ (T U X)]
end PySem.SetTable
namespace PySem
open SetTable PyProof.Rows
def cG(w:World):Bool:=w.params.followText "set-order"
structure gR (bt:Bool) (o:Obj) (es:Array (Int×Value)) (ep:Nat) (t:SetTable):Prop where
 ex:o.ExactSet
 dat:o.data= .set es ep t
 tok:TOk t (es.toList.map (·.1))
 pl:t.plain=true
 ld:t.led= !bt
 few:5*es.size<3*t.mask
theorem TOk.fits(T:TOk t a):t.fits a.length=true:=by
 simp only[SetTable.fits,SetTable.fill,T.dum,T.size,u5,aax,decide_eq_true_eq,true_and]
 have:=T.room
 rw[T.size] at this;simpa using this
theorem gR.fits(S:gR w o a b t):t.fits a.size=true:=by
 have:=TOk.fits S.tok
 simpa using this
theorem Il{mask n:Nat}(f:vc mask)(h:5*n<3*mask):n+1<=mask:=by
 rcases f with rfl|rfl|rfl|rfl<;>lia
theorem Fo{mask n:Nat}(f:vc mask)(a:3*mask<=5*n)(b:5*(n-1)<3*mask)(c:n<=306):vc (sizeAbove (grown n)-1)/\5*n<3*(sizeAbove (grown n)-1)/\n<=sizeAbove (grown n)-1/\sizeAbove (grown n)<=512:=by
 rcases f with rfl|rfl|rfl|rfl
 .have:n=5:=by lia
  subst this;exact#[.inr (.inl rfl),by decide,by decide,by decide]
 .have:n=19:=by lia
  subst this;exact#[.inr (.inr (.inl rfl)),by decide,by decide,by decide]
 .have:n=77:=by lia
  subst this;exact#[.inr (.inr (.inr rfl)),by decide,by decide,by decide]
 .lia
theorem F6{t:SetTable}{c:Array (Int×Value)}(T:TOk t (c.toList.map (·.1)))(d:t.tooFull=true)(near:5*(c.size-1)<3*t.mask)(small:c.size<=306):
  ∃f a,t.relaid (c.map (·.1)) (grown c.size)=some (f,a)/\a.toList.Perm (aJ c.size)/\(a.filterMap (c[·]?)).toList.Perm c.toList/\(a.filterMap (c[·]?)).size=c.size/\
   TOk f ((a.filterMap (c[·]?)).toList.map (·.1))/\f.plain=t.plain/\f.led=t.led/\5*c.size<3*f.mask/\sizeAbove (grown c.size)<=512:=by
 have sz:t.place.size=c.size:=by rw[T.size];simp
 have m:3*t.mask<=5*c.size:=by
  unfold SetTable.tooFull SetTable.fill at d;rw[T.dum,sz] at d;simp at d;lia
 rfl';obtain⟨o,p,q,r⟩:=Fo T.few m near small;obtain⟨f,a,e,em,s,u,_,g,v⟩:=LS o (c.toList.map (·.1)) (by simpa using q) t.finger (t.movedTo (sizeAbove (grown c.size)-1)) t.led t.plain
 rw[aH,eX] at g;ac_rfl
 have i:(a.filterMap (c[·]?)).toList.Perm c.toList:=by
  rw[acq];exact(g.filterMap _).trans (by rw[filterMap_getElem?_range])
 have w:(a.filterMap (c[·]?)).size=c.size:=by rw[<-eX,i.length_eq,eX]
 refine#[f,a,?_,g,i,w,?_,u,s,by rw[em];exact p,r]
 .unfold SetTable.relaid
  rw[show c.map (·.1)=(c.toList.map (·.1)).toArray by apply ab4.mp;simp]
  exact e
 .have:(a.filterMap (c[·]?)).toList.map (·.1)=a.toList.map λk=>(c.toList.map (·.1)).getD k 0:=by
   rw[acq];have lt:∀k∈a.toList,k<c.size:=λk h=>fF.mp (g.mem_iff.mp h);generalize a.toList=l at lt
   induction l with
   |nil=>rfl
   |cons k l x=>
    have h:=lt k (cP ..);rw[List.filterMap_cons_some (b:=c[k]) (by simp[h]),bV,bV,x λj y=>lt j (dh _ y)]
    simp[h]
  rw[this];exact v
end PySem
set_option maxHeartbeats 1000000
namespace PySem
open SetTable PyProof.Rows
section
variable {prog:Program} {w:World} {A:Around} {E:Value->Shared->Prop} {s:Shared}
theorem uR{h:Heap}(g:h.get? a=some o)(e:o.data= .set f d t)(b:Array (Int×Value))(c:SetTable):
  (h.update a (Obj.putSet b c)).get? a=some {o with data:= .set b (d+1) c}:=by
 have:=Pi (Obj.putSet b c) g (by rw[putSet_of b c e];rfl)
 rw[putSet_of b c e] at this;exact this
theorem wc{Q₁:Value->Shared->Prop}
  (h:Q₁ (.ref s.heap.objs.size) {s with heap:=s.heap.push {cls:= .type "set",dict:=none,data:= .set #[] 0 (.fresh 0 0 (!cG w))}}):
  codeAny (model prog w) A (.call (.builtin "set.__new__") #[[.type "set"],[]]) (wants Q₁ E) s:=by
 refine aaM ?_;refine ir (aaW F.newCall_set_0 (ls #[aaF F.plain_set_new _,aao F.entry_set_new ?_]));rw[Wp F.plain_set_new _];unfold Builtin.«set.__new__» Builtin.Frozenset.newClass;have a:=acC;obtain⟨b,g,d,c,os⟩:=s;dsimp only
 wp_walk
 refine aaC (ls ?_);dsimp only;simp only[newObj];refine ir (wpAny_alloc (ls ?_));exact ls h
theorem Ab 
  (h:Q (.ref s.heap.objs.size) {s with heap:=s.heap.push {cls:= .type "set",dict:=none,data:= .set #[] 0 (.fresh 0 0 (!cG w))}}):
  wpAny (model prog w) A (call (.type "set") []) Q E s:=by
 obtain⟨c,m,n⟩:=F.called_set.mro;have o:=F.called_set.made;have p:=F.called_set.sub;refine aaG (aaM ?_);show wpAny _ _ (callAny (.type "set") _) _ _ _;refine ls #[aa1 _ (by decide+kernel),aao F.entry_type_call ?_]
 rw[Around.under_plain (weight_type_call_type "set" [] []) rfl];have q:=F.called_set.notType;have t:=F.called_set.canCreate;have u:=F.typeCall_set_0
 repeat (any_goals (first|assumption|wp_step))
 refine aay (wc (E:=E) (Q₁:=λobj a=>obj= .ref s.heap.objs.size/\a={s with heap:=s.heap.push {cls:= .type "set",dict:=none,data:= .set #[] 0 (.fresh 0 0 (!cG w))}}) #[rfl,rfl]) λr a b=>?_
 cases r with
 |error e=>exact b
 |ok g=>
  cases g with
  |ret obj=>
   obtain⟨rfl,rfl⟩:=b;have i:(s.heap.push {cls:= .type "set",dict:=none,data:= .set #[] 0 (.fresh 0 0 (!cG w))}).get? s.heap.objs.size=some {cls:= .type "set",dict:=none,data:= .set #[] 0 (.fresh 0 0 (!cG w))}:=FS _ rfl;have j:Shared.TypeIs {s with heap:=s.heap.push {cls:= .type "set",dict:=none,data:= .set #[] 0 (.fresh 0 0 (!cG w))}} (.ref s.heap.objs.size) "set":=#[_,i,rfl]
   have v:=F.called_set.init.lookup;have x:=F.called_set.init.bind (.ref s.heap.objs.size)
   repeat (any_goals (first|assumption|wp_step))
   refine aay (aaS (R:=wants (λr f=>r= .none/\Q (.ref s.heap.objs.size) f) E) F.called_set.init.plain F.entry_set_init (check_set_init j ?_)) λk f d=>?_
   .unfold Builtin.«set.__init__» noKeywords
    wp_walk
    exact#[rfl,h]
   .cases k with
    |error e=>exact d
    |ok l=>
     cases l with
     |ret r=>
      obtain⟨rfl,y⟩:=d
      repeat (any_goals (first|assumption|wp_step))
     |_=>exact d.elim
  |_=>exact b.elim
theorem gR.new(w:World):gR (cG w) {cls:= .type "set",dict:=none,data:= .set #[] 0 (.fresh 0 0 (!cG w))} #[] 0 (.fresh 0 0 (!cG w)) where
 ex:=#[rfl,rfl,rfl]
 dat:=rfl
 tok:=#[.inl rfl,rfl,λi j a=>by simp[SetTable.fresh] at a,rfl,λi j h=>by simp[SetTable.fresh] at h,by simp[SetTable.fresh],λi h e=>by simp at e]
 pl:=rfl
 ld:=rfl
 few:=by simp[SetTable.fresh]
end
namespace F
theorem vh:entryFor table "set.__iter__"=some Builtin.«frozenset.__iter__»:=
 entryFor_alias (id':="frozenset.__iter__") (by kernel_rfl) rfl (by decide+kernel) (by kernel_rfl)
theorem jg:Manifest.owners.lookup (String.ofList ['r','o','t','a','r','e','t','i','_','t','e','s'].reverse)=some Manifest.sig_set_iterator:=by kernel_rfl
theorem bE:Slot "set_iterator" "__next__" "set_iterator.__next__":=
 .of (owner:="set_iterator") (n:="__next__") (by rw[typeLookup_type,builtinLookup_eq_fast];kernel_rfl) (by decide+kernel) (by decide+kernel) (by decide+kernel)
  (by first|exact .inl (by decide+kernel) |exact .inr (by decide+kernel)) (by rw[isSubtype_type];kernel_rfl)
theorem gm:entryFor table "set_iterator.__next__"=some Builtin.«set_iterator.__next__»:=entryFor_of_tree (by kernel_rfl)
theorem fZ(a:Value):argsOk "set_iterator.__next__" #[[a],[]]:=by
 unfold argsOk;rw[signature?_of (id:="set_iterator.__next__") (n:= ['_','_','t','x','e','n','_','_']) (o:= ['r','o','t','a','r','e','t','i','_','t','e','s']) (by kernel_rfl) jg];kernel_rfl
theorem gL:Slot "set_iterator" "__iter__" "set_iterator.__iter__":=
 .of (owner:="set_iterator") (n:="__iter__") (by rw[typeLookup_type,builtinLookup_eq_fast];kernel_rfl) (by decide+kernel) (by decide+kernel) (by decide+kernel)
  (by first|exact .inl (by decide+kernel) |exact .inr (by decide+kernel)) (by rw[isSubtype_type];kernel_rfl)
theorem kF:entryFor table "set_iterator.__iter__"=some Builtin.«dict_keyiterator.__iter__»:=
 entryFor_alias (id':="dict_keyiterator.__iter__") (by kernel_rfl) rfl (by decide+kernel) (by kernel_rfl)
theorem j7(a:Value):argsOk "set_iterator.__iter__" #[[a],[]]:=by
 unfold argsOk;rw[signature?_of (id:="set_iterator.__iter__") (n:= ['_','_','r','e','t','i','_','_']) (o:= ['r','o','t','a','r','e','t','i','_','t','e','s']) (by kernel_rfl) jg];kernel_rfl
end F
theorem uN:∀(l:List a)(i:Nat)(h:i<l.length),(l[i]::l.eraseIdx i).Perm l
 |y::l,0,_=> .refl _
 |y::l,i+1,h=>by
  have:=uN l i (by simpa using h)
  simp only[List.getElem_cons_succ,ED];exact(List.Perm.swap ..).trans (this.cons y)
theorem D0(next:Nat->Nat):∀(a k:Nat)(left:List b)(out:Array b),left.length<=a->(pickOrder.go next a k left out).toList.Perm (out.toList++left)
 |0,k,left,out,h=>by
  have:left= []:=zT.mp (by lia)
  subst this;simp[pickOrder.go]
 |a+1,k,[],out,h=>by
  simp[pickOrder.go]
 |a+1,k,y::left,out,h=>by
  have lt:next k%(y::left).length<(y::left).length:=mw _ (by simp)
  unfold pickOrder.go;rw[eu lt];dsimp only;refine(D0 next a (k+1) _ _ (by rw[List.length_eraseIdx_of_lt lt];simp at h ⊢;lia)).trans ?_
  rw[ye,j1];refine abr _ ?_;exact uN _ _ lt
def kr(w:World)(a:Addr)(c:Nat)(b:Array (Int×Value)):Array (Int×Value):=if cG w=true then pickOrder (w.params.setOrder a c) b else b
theorem xk(w:World)(a:Addr)(c:Nat)(b:Array (Int×Value)):(kr w a c b).toList.Perm b.toList:=by
 unfold kr
 split
 .unfold pickOrder
  simpa using D0 (w.params.setOrder a c) b.size 0 b.toList #[] (by simp)
 .exact .refl _
theorem jR(w:World)(a:Addr)(c:Nat)(b:Array (Int×Value)):(kr w a c b).size=b.size:=by
 rw[<-eX,(xk w a c b).length_eq,eX]
def dS(w:World)(t:SetTable)(i:Nat):Nat:=if cG w=true then 0 else if i=0 then 0 else t.place[i-1]! +1
section
variable {prog:Program} {w:World} {A:Around} {E:Value->Shared->Prop} {s:Shared}
theorem Ct(T:TOk t a)(d:cG w=false){i:Nat}(f:i<=a.length):below t.place (dS w t i)=i:=by
 have sz:=T.size;obtain⟨g,c,e⟩:=iO T.rise (dS w t i);unfold dS at*;rw[mo (by rw[d];exact cO)] at*
 by_cases z:i=0
 .rw[tz z] at*
  rcases Nat.eq_zero_or_pos (below t.place 0) with h|h
  .rw[h,z]
  .exact absurd (c 0 h) (acg _)
 .rw[mo z] at*
  generalize below t.place (t.place[i-1]! +1)=b at*
  rcases Nat.lt_trichotomy b i with h|h|h
  .have:=e (i-1) (by lia) (by lia)
   lia
  .exact h
  .have:=c i h
   have:=T.rise (i-1) i (by lia) (by lia)
   lia
theorem lE(f:s.heap.get? a=some o)(S:gR (cG w) o c d t)(l:i<=c.size)
  (h:Q (((kr w a d c)[i]?).map λe=>(e.2,dS w t (i+1))) s):wpAny (model prog w) A (setNext a (dS w t i) i d) Q E s:=by
 have g:=S.dat;have j:=S.fits;unfold setNext;refine ir (UV f g j ?_);dsimp only;unfold setsByText;refine ir (ir (aaC (ls ?_)));cases b:cG w with
 |true=>
  refine abJ (FM (show w.params.followText "set-order"=true from b)) ?_;rw[mo (by simp)]
  unfold setWalk setsByText;refine ir (ir (UV f g j ?_));dsimp only;refine ir (ir (aaC (ls ?_)));refine abJ (FM (show w.params.followText "set-order"=true from b)) ?_;refine ir (aaC (ls (ls ?_)));unfold kr dS at h;rw[tz b,tz b] at h;unfold dS;rw[tz b];exact h
 |false=>
  refine abz (GM (show ¬w.params.followText "set-order"=true from by rw[show w.params.followText "set-order"=false from b];exact cO)) ?_
  refine abz ?_ ?_
  .refine GM ?_
   show ¬((!t.plain&&decide (c.size>1))=true);rw[S.pl];simp
  refine ir ?_;show wpAny _ _ (if (!t.led&& !c.isEmpty)=true then _ else _) _ _ _;rw[mo (by rw[S.ld,b];simp)]
  refine ls ?_;have m:=Ct (w:=w) S.tok b (i:=i) (by simpa using l)
  rw[m];refine ls ?_;have sz:t.place.size=c.size:=by rw[S.tok.size];simp
  unfold kr at h;rw[mo (by rw[b];exact cO)] at h
  by_cases lt:i<c.size
  .have k:i<t.place.size:=by lia
   rw[oY lt] at h ⊢;rw[oY k];dsimp only
   have e:dS w t (i+1)=t.place[i]+1:=by
    unfold dS;rw[mo (by rw[b];exact cO),mo (by lia)]
    simp[k]
   rw[Option.map_some,e] at h;exact h
  .rw[B3 (by lia)] at h ⊢
   exact h
end
def iu(w:World)(h:Heap)(I a:Addr)(t:SetTable)(i n b:Nat):Prop:=
 ∃o,h.get? I=some o/\o.cls= .type "set_iterator"/\o.data= .fields [.int (dS w t i:Nat) 0, .int i 0, .ref a, .int n 0, .int b 0].toArray
section
variable {prog:Program} {w:World} {A:Around} {E:Value->Shared->Prop} {s:Shared}
theorem iu.typeIs(x:iu w s.heap I a t i n b):s.TypeIs (.ref I) "set_iterator":=let #[o,c,d,_]:=x;#[o,c,d]
theorem sX(b:s.heap.get? a=some o)(S:gR (cG w) o c g t)
  (h:Q (.ref s.heap.objs.size) {s with heap:=s.heap.push {cls:= .type "set_iterator",data:= .fields [.int (dS w t 0:Nat) 0, .int (0:Nat) 0, .ref a, .int c.size 0, .int g 0].toArray}}):
  wpAny (model prog w) A (pyIter (.ref a)) Q E s:=by
 have d:=S.dat;have f:=S.fits;have i:s.TypeIs (.ref a) "set":=#[o,b,S.ex.1];refine wpAny_pyIter_slot i F.slot_set_iter (SC F.slot_set_iter i F.vh ?_ (F.args_set_iter_1 _));unfold Builtin.«frozenset.__iter__» Builtin.Frozenset.slot0 slotArgs;simp only[ab7,abj,dY, ↓reduceIte,bind_assoc,mS,abd];unfold Builtin.Frozenset.addrOf Builtin.Frozenset.sizeOf;refine ir (ls ?_)
 try dsimp only
 refine ir (ls ?_);refine ir (ir (abF b d f (ls ?_)));unfold setDrawn setsByText;refine ir (ir (UV b d f ?_));dsimp only;refine ir (ir (aaC (ls ?_)));refine ls ?_;refine abz ?_ ?_
 .refine GM ?_
  show ¬((!w.params.followText "set-order"&&(!t.plain&&decide (c.size>1)))=true);rw[S.pl];simp
 refine ir (ls ?_);refine ir ?_;unfold setEpoch;refine ir (UV b d f (ls ?_));refine ir (P3 (ls #[_,rfl,"set_iterator",_,#[_,FS _ rfl,rfl],F.bE.lookup,?_]));have e:dS w t 0=0:=by unfold dS;simp
 rw[e] at h;exact h
theorem sY(b:iu w s.heap I a t i c.size d)(j:s.heap.get? a=some o)(S:gR (cG w) o c d t)
  (k:(kr w a d c)[i]? =some x) (n:∀f,iu w f I a t (i+1) c.size d->Heap.SameBut I s.heap f->Q (some x.2) {s with heap:=f}):wpAny (model prog w) A (pyNext (.ref I)) Q E s:=by
 obtain⟨u,g,p,e⟩:=id b
 have q:i<c.size:=by
  have:=(uW.mp k).1
  rwa [jR] at this
 unfold pyNext
 refine ir (aaT (abb (name:=Str.ofString "__next__") b.typeIs F.bE
  (SC F.bE b.typeIs F.gm ?_ (F.fZ _))))
 unfold Builtin.«set_iterator.__next__»;refine ir (m:=slotArgs "__next__" 0 _) (ls ?_);refine ir (wpAny_fieldsOf g e ?_);dsimp only;refine ir (abF j S.dat S.fits ?_);rw[mo (by simp)]
 refine ir ?_;rw[u3,u3,u3];refine lE j S (qP q) ?_;rw[k];dsimp only[Option.map_some];refine ir (aaO g e (by simp) ?_)
 have l:=Pi (Obj.mapFields (·.setIfInBounds 0 (rawInt (dS w t (i+1):Nat)))) g (aaE (aap e _));have h:=aap e (·.setIfInBounds 0 (rawInt (dS w t (i+1):Nat)));refine ir (aaO l h (by simp) ?_)
 have r:=Pi (Obj.mapFields (·.setIfInBounds 1 (rawInt ((i:Int)+1)))) l (aaE (aap h _));refine ls #[_,rfl,ls (n _ #[_,r,?_,?_] ((aau ..).trans (aau ..)))]
 .exact(Obj.cls_mapFields ..).trans ((Obj.cls_mapFields ..).trans p)
 .rw[aap h];simp[rawInt]
theorem mZ(j:A.handled=none)(c:iu w s.heap I a t d.size d.size e)(f:s.heap.get? a=some o)(S:gR (cG w) o d e t)
  (k:∀g,Heap.ExtBut I s.heap g->Q none {s with heap:=g}):wpAny (model prog w) A (pyNext (.ref I)) Q E s:=by
 obtain⟨l,h,n,i⟩:=id c;unfold pyNext
 refine ir (aaT (abb (name:=Str.ofString "__next__") c.typeIs F.bE
  (SC F.bE c.typeIs F.gm ?_ (F.fZ _))))
 unfold Builtin.«set_iterator.__next__»;refine ir (m:=slotArgs "__next__" 0 _) (ls ?_);refine ir (wpAny_fieldsOf h i ?_);dsimp only;refine ir (abF f S.dat S.fits ?_);rw[mo (by simp)]
 refine ir ?_;rw[u3,u3,u3];refine lE f S (bJ _) ?_;rw[B3 (by rw[jR];exact bJ _)]
 dsimp only[Option.map_none];refine ir (aaO h i (by simp) ?_)
 show wpAny _ _ (newExc (.type "StopIteration") []>>=_) _ _ _;refine ir ?_;simp only[newExc,newTuple];refine ir (P3 ?_ (by size_fits))
 refine ir (m:=firstArgMember _ _) (aaW (a:=Value.none) (by first|rfl| (simp only[firstArgMember];rfl)) ?_)
 refine P3 ?_ (by size_fits)
 simp only[raiseNew];refine ir (wpAny_handled ?_);rw[show A.in1.handled=none from j];refine ir (ls (wpAny_throw ?_));refine ir (wpAny_isInstance (T:="StopIteration") (b:=true) #[_,FS _ rfl,rfl] isSubtype_stop ?_);exact ls (k _ (((aau ..).extBut.push _).push _))
theorem Walks.sets(p:A.handled=none)(I a:Addr)(q:a≠I)(S:gR (cG w) o c f t):
  Walks prog w A I [I,a] [I] c.size (λi v=>∃x,(kr w a f c)[i]? =some x/\v=x.2) (λi h=>iu w h I a t i c.size f/\h.get? a=some o) where
 sub:=λb d=>by simp at d;simp[d]
 frame:=λi h j st k=>#[let #[u,y,r]:=st.1;#[u,k I (by simp) _ y,r],k a (by simp) _ st.2]
 item:=λi s Q E z st g=>by
  have l:(kr w a f c)[i]? =some ((kr w a f c)[i]'(by rw[jR];exact z)):=oY _
  refine sY st.1 st.2 S l λj B n=>?_;exact g _ j s.toks #[_,l,rfl] #[B,(n.2 a q).trans st.2] λb o d e=>n.extBut b o (λh=>d (by simp[h])) e
 done:=λs Q E st g=>mZ p st.1 st.2 S λj C=>g j s.toks λb o d e=>C b o (λh=>d (by simp[h])) e
 self:=λi s Q E st g=>by
  refine wpAny_pyIter_slot st.1.typeIs F.gL (SC F.gL st.1.typeIs F.kF ?_ (F.j7 _));unfold Builtin.«dict_keyiterator.__iter__»;refine ir (m:=slotArgs "__iter__" 0 _) (ls ?_);exact ls #[_,rfl,"set_iterator",_,st.1.typeIs,F.bE.lookup,g]
end
section
variable {prog:Program} {w:World} {A:Around} {E:Value->Shared->Prop} {s:Shared}
theorem qN(Z:A.handled=none)(H:s.heap.get? a=some o)(S:gR (cG w) o c d t)
  (hQ:∀k tk,s.heap.objs.size<k.objs.size->(∀b o,s.heap.get? b=some o->k.get? b=some o)->Q ((kr w a d c).toList.map (·.2)) {s with heap:=k,toks:=tk}) (hn:c.size<=sizeLine:=by size_fits):
  wpAny (model prog w) A (collect (.ref a)) Q E s:=by
 have m:a<s.heap.objs.size:=Do H;unfold collect;refine ir (wpAny_runValue (aao F.entry_proto_collect ?_));rw[Wp F.plain_proto_collect _];show wpAny _ A.in1 (newList []>>=λl=>again (.builtin "list.__iadd__" #[[l, .ref a],[]])) _ _ s;refine ir (P3 ?_);refine ls #[aaF F.plain_list_iadd _,aao F.entry_list_iadd ?_];rw[Wp F.plain_list_iadd _];have n:(s.heap.push {cls:= .type "list",data:= .seq ([]:List Value).toArray}).get? a=some o:=AC _ H;show wpAny _ A.in1 (Builtin.List.listExtendWith (.ref s.heap.objs.size) (.ref a) (.ref s.heap.objs.size)) _ _ {s with heap:=s.heap.push {cls:= .type "list",data:= .seq ([]:List Value).toArray}}
 unfold Builtin.List.listExtendWith;have hT:Shared.TypeIs {s with heap:=s.heap.push {cls:= .type "list",data:= .seq ([]:List Value).toArray}} (.ref a) "set":=#[o,n,S.ex.1]
 refine ir (ab3 hT ?_);have h1:Builtin.List.listSameRef (.ref s.heap.objs.size) (.ref a)=false:=by simp[Builtin.List.listSameRef,qQ m]
 have f:(Value.type "set"==Value.type "list")=false:=by decide
 have h3:(Value.type "set"==Value.type "tuple")=false:=by decide
 simp only[h1,f,h3,Bool.or_false,dY,Os];refine ir (sX n S ?_);generalize J:(s.heap.push {cls:= .type "list",data:= .seq ([]:List Value).toArray}).objs.size=I;have p:I=s.heap.objs.size+1:=by rw[<-J,aa9]
 have YW:a≠I:=by rw[p];exact bB (oZ m)
 have L:s.heap.objs.size≠I:=by rw[p];exact bB (xU _)
 have M:s.heap.objs.size≠a:=qQ m;have q:((s.heap.push {cls:= .type "list",data:= .seq ([]:List Value).toArray}).push {cls:= .type "set_iterator",data:= .fields [.int (dS w t 0:Nat) 0, .int (0:Nat) 0, .ref a, .int c.size 0, .int d 0].toArray}).get? s.heap.objs.size=some {cls:= .type "list",data:= .seq ([]:List Value).toArray}:=AC _ (FS _ rfl);have N:((s.heap.push {cls:= .type "list",data:= .seq ([]:List Value).toArray}).push {cls:= .type "set_iterator",data:= .fields [.int (dS w t 0:Nat) 0, .int (0:Nat) 0, .ref a, .int c.size 0, .int d 0].toArray}).get? I=some {cls:= .type "set_iterator",data:= .fields [.int (dS w t 0:Nat) 0, .int (0:Nat) 0, .ref a, .int c.size 0, .int d 0].toArray}:=by rw[<-J];exact FS _ rfl
 have r:((s.heap.push {cls:= .type "list",data:= .seq ([]:List Value).toArray}).push {cls:= .type "set_iterator",data:= .fields [.int (dS w t 0:Nat) 0, .int (0:Nat) 0, .ref a, .int c.size 0, .int d 0].toArray}).get? a=some o:=AC _ n;have O:∀b o,s.heap.get? b=some o->((s.heap.push {cls:= .type "list",data:= .seq ([]:List Value).toArray}).push {cls:= .type "set_iterator",data:= .fields [.int (dS w t 0:Nat) 0, .int (0:Nat) 0, .ref a, .int c.size 0, .int d 0].toArray}).get? b=some o:=λb o e=>AC _ (AC _ e);generalize ((s.heap.push {cls:= .type "list",data:= .seq ([]:List Value).toArray}).push {cls:= .type "set_iterator",data:= .fields [.int (dS w t 0:Nat) 0, .int (0:Nat) 0, .ref a, .int c.size 0, .int d 0].toArray})=f at q N r O ⊢;have u:Shared.TypeIs {s with heap:=f} (.ref a) "set":=#[o,r,S.ex.1]
 refine ir (M2 ?_);unfold Builtin.List.listLengthHint;refine ir (ach u F.slot_set_len.lookup ?_)
 (generalize v:("set.__len__":String)=P;(fail_if_success (clear v P));wp_delta;rw[show splitId P=some ("set","__len__") from by subst v;decide+kernel];subst v)
 refine ir (wpAny_isInstance (b:=true) u acC ?_);dsimp only;refine abz (by decide) ?_
 refine abJ (by decide+kernel) ?_
 refine ir (ab3 u ?_);refine ls ?_;refine abJ (by decide+kernel) ?_
 refine ir (aaK ?_);refine ir ?_;show wpAny _ A.in1 (updateSeq s.heap.objs.size (·.push .none)>>=λ_=>updateSeq s.heap.objs.size (·.pop)) _ _ _;refine ir (wpAny_updateSeq q rfl ?_);have R:=Pi (Obj.mapSeq (·.push Value.none)) q rfl;refine wpAny_updateSeq R rfl ?_;have RT:=Pi (Obj.mapSeq (·.pop)) R rfl
 have y:∀b o,b≠s.heap.objs.size->f.get? b=some o->
   ((f.update s.heap.objs.size (Obj.mapSeq (·.push Value.none))).update s.heap.objs.size (Obj.mapSeq (·.pop))).get? b=some o:=
  λb o g e=>(Pv _ _ (Ne.symm g)).trans ((Pv _ _ (Ne.symm g)).trans e)
 have W:=(Walks.sets (prog:=prog) (A:=A.in1) Z I a YW S).toS;have z:s.heap.objs.size∉ [I,a]:=by simp[L,M]
 refine ls #[aaF F.plain_extend_loop _,codeAny_extend_loopS W hn _ z _ c.size 0 _ _ _ rfl (fm _)
  #[#[_,y _ _ (Ne.symm L) N,rfl,rfl],y _ _ (Ne.symm M) r] RT (ItemsOf.nil _) λh i c' T U X=>?_]
 show wpAny _ A (load s.heap.objs.size>>=_) _ _ h;refine ir (wpAny_load U ?_)
 have ie:h={s with heap:=h.heap,toks:=h.toks}:=by
  obtain⟨nN,g',d',tk',Tb⟩:=h;obtain⟨_,B,C,G,_⟩:=T;have B:g'=s.gens:=B;have C:d'=s.drawn:=C;have G:Tb=s.os:=G;subst B C G;rfl
 have ea:i.toList=(kr w a d c).toList.map (·.2):=by
  refine zV λj=>?_;rw[dX,cc,dX];have sz:i.size=(kr w a d c).size:=by rw[X.1,jR]
  by_cases lt:j<i.size
  .obtain⟨x,hx,hv⟩:=X.2 j i[j] (oY lt)
   rw[hx,oY lt,hv];rfl
  .rw[B3 (by lia),B3 (by lia)];rfl
 rw[ie];show wpAny _ _ (pure i.toList) Q E _;rw[ea];refine ls (hQ _ _ (Do U) λb o e=>?_);have g:=Do e;have Y:b≠s.heap.objs.size:=bB g;have b2:b≠I:=by rw[p];exact bB (oZ g)
 exact T.heap b o (by simp[Y,b2]) (y b o Y (O b o e))
end
section
variable {prog:Program} {w:World} {A:Around} {E:Value->Shared->Prop} {s:Shared}
theorem ItemsAre.ints(h:ItemsAre (intKind prog w) c b):∀v∈b,∃i t,v= .int i t:=by
 induction h with
 |nil=>intro v a;simp at a
 | @cons k f c b d _ e=>
  intro v a
  rcases cV.mp a with rfl|a
  .obtain⟨t,rfl⟩:=Value.isInt_shape d
   exact#[k,t,rfl]
  .exact e v a
theorem oV(f:IsTupleKey (intKind prog w) s.heap j a)(h:Q false s):wpAny (model prog w) A (ofAClassStatement 8 (.ref a)) Q E s:=by
 have k:=f.typeIs;obtain⟨o,c,n,l,_,m,p⟩:=f;unfold ofAClassStatement;refine ir (ab3 k ?_);dsimp only;simp only[ab8, ↓reduceIte];refine ir (ls ?_);simp only[abj,dY, ↓reduceIte];refine ir (wpAny_seqItems l m ?_);dsimp only;refine ir ?_;rw[<-Array.forIn_toList];refine ab9 _ (λb r d=>r.1=none/\d=s/\∀v∈b,∃i t,v=Value.int i t) _ ?_ ?_ _ _ #[rfl,rfl,p.ints]
 .rintro v b r d ⟨e,rfl,g⟩
  obtain⟨i,t,rfl⟩:=g v cP;refine ir (aaW (show ofAClassStatement 7 (.int i t)=pure false from by unfold ofAClassStatement;rfl) ?_)
  simp only[dY,Os];exact ls #[rfl,rfl,λu q=>g u (dh _ q)]
 .rintro⟨x,y⟩ d ⟨e,rfl,_⟩
  simp only at e;subst e;exact ls h
theorem Ew(j:IsTupleKey (intKind prog w) s.heap n b)(stored:List Value)(o:∀y∈stored,∃f a,y=Value.ref a/\IsTupleKey (intKind prog w) s.heap f a)(h:Q false s):
  wpAny (model prog w) A (searchCouldBeSeen (.ref b) stored) Q E s:=by
 unfold searchCouldBeSeen;refine ir ?_;refine ab9 _ (λd r g=>r.1=none/\g=s/\∀y∈d,∃f a,y=Value.ref a/\IsTupleKey (intKind prog w) s.heap f a) _ ?_ ?_ _ _ #[rfl,rfl,o]
 .rintro y d r g ⟨i,rfl,k⟩
  obtain⟨f,a,rfl,l⟩:=k y cP;have m:∀y∈d,∃f a,y=Value.ref a/\IsTupleKey (intKind prog w) g.heap f a:=λy p=>k y (dh _ p);have e:(carriedByValue (Value.ref b)&&carriedByValue (Value.ref a))=false:=by simp[carriedByValue]
  dsimp only;rw[e,Bool.or_false]
  by_cases c:(b==a)=true
  .rw[tz c]
   exact ls #[rfl,rfl,m]
  .rw[mo c]
   refine ir (wpAny_eqIsQuiet_tuple j ?_);simp only[abj,dY,Os];refine ir (wpAny_eqIsQuiet_tuple l ?_);simp only[abj,dY,Os];refine ir (oV j ?_);simp only[dY,Os];refine ir (oV l ?_);simp only[dY,Os];exact ls #[rfl,rfl,m]
 .rintro⟨q,t⟩ g ⟨i,rfl,_⟩
  simp only at i;subst i;exact ls h
theorem yT(f:IsTupleKey (intKind prog w) s.heap j a)(h:Q true s):wpAny (model prog w) A (hashByValue 8 (.ref a)) Q E s:=by
 rfl';have l:=f.typeIs;obtain⟨o,c,n,m,_,p,q⟩:=f;ac_rfl;unfold hashByValue;refine ir (ach l F.slot_tuple_hash.lookup ?_);dsimp only;refine ir (wpAny_seqItems m p ?_);refine ir ?_;show wpAny _ _ (forIn c _ _) _ _ s;rw[<-Array.forIn_toList];refine ab9 _ (λb r d=>r.1=none/\d=s/\∀v∈b,∃i t,v=Value.int i t) _ ?_ ?_ _ _ #[rfl,rfl,q.ints]
 .rintro v b r d ⟨e,rfl,g⟩
  obtain⟨i,t,rfl⟩:=g v cP;refine ir (aaW (show hashByValue 7 (.int i t)=pure true from by unfold hashByValue;rfl) ?_)
  simp only[abj,dY,Os];exact ls #[rfl,rfl,λu x=>g u (dh _ x)]
 .rintro⟨z,B⟩ d ⟨e,rfl,_⟩
  simp only at e;subst e;exact ls h
def HQ(prog:Program)(w:World)(h:Heap)(b:Array (Int×Value)):Prop:=∀(i:Nat)(e:Int×Value),b[i]? =some e->∃k a,e=(tupleKeyHash (intKind prog w) k, .ref a)/\IsTupleKey (intKind prog w) h k a
def M7(a:Array (Int×Value))(i:Nat):Int:=(a[i]?.map (·.1)).getD 0
theorem KU(h:vc m):m%2=1:=by rcases h with rfl|rfl|rfl|rfl<;>rfl
theorem zK{a:Array Nat}(R:m9 a){i j v:Nat}(b:a[i]? =some v)(c:a[j]? =some v):i=j:=by
 rw[<-below_at R b,<-below_at R c]
theorem qb(hu:A.units<cLine)(ho:s.heap.get? a=some o)(S:gR (cG w) o q M t)(P:HQ prog w s.heap q)(hk:IsTupleKey (intKind prog w) s.heap u b)
  (Og:(∃(i:Nat)(c:Addr),q[i]? =some (tupleKeyHash (intKind prog w) u, .ref c)/\IsTupleKey (intKind prog w) s.heap u c)->∀r:Option Nat,(B=false->r.isSome=true)->Q (.there r) s)
  (AI:(∀(i:Nat)(e:Int×Value),q[i]? =some e->∀c,e.2= .ref c->¬IsTupleKey (intKind prog w) s.heap u c)->∀g,(∀i:Nat,t.place[i]? ≠some (bU t.mask (tupleKeyHash (intKind prog w) u) g))->(∀j,j<g->∃i:Nat,t.place[i]? =some (bU t.mask (tupleKeyHash (intKind prog w) u) j))->
   Q (.free (bU t.mask (tupleKeyHash (intKind prog w) u) g) false) s):
  wpAny (model prog w) A (setSearch a (.ref b) (tupleKeyHash (intKind prog w) u) B) Q E s:=by
 generalize hh:tupleKeyHash (intKind prog w) u=h at*;have T:=S.tok;obtain⟨s0,ZJ,Vy⟩:=T.empty;obtain⟨K,hK,Z⟩:=meets T.few (tJ.start t.mask h) ZJ;have Z:bU t.mask h K=s0:=by unfold bU;rw[me];exact Z
 have kb:K<6000:=by
  have:10*turns t.mask<=5260:=by
   rcases T.few with e|e|e|e<;>rw[e]<;>decide
  lia
 have sz:t.place.size=q.size:=by rw[T.size];simp
 have hN:(t.mask%2==0)=false:=by rw[KU T.few];rfl
 have N:∀(n:Nat)(k:Nat)(l:Nat)(O:Option Probe),K+1-k<=n->n<l->k<=K->O.getD (t.probeStart h)=qJ t.mask h k->(∀j,j<k->∃i:Nat,t.place[i]? =some (bU t.mask h j))->
   (∀(i:Nat) c,q[i]? =some (h, .ref c)->IsTupleKey (intKind prog w) s.heap u c->∀C,t.place[i]? =some (bU t.mask h C)->k<=C)->
   wpAny (model prog w) A (setSearchFrom a (.ref b) h B l O) Q E s:=by
  intro n
  induction n with
  |zero=>intro k l O h1 h2 h3;lia
  |succ n ih=>
   intro k l O h1 h2 h3 h4 h5 h6;obtain⟨f,rfl⟩:∃f,l=f+1:=#[l-1,by lia]
   unfold setSearchFrom;refine ir (UV ho S.dat S.fits ?_);dsimp only;unfold SetTable.gaveWay;rw[hN];simp only[dY,Os]
   have Vh:∀(i:Nat)(e:Int×Value),q[i]? =some e->M7 q i=e.1:=λi e d=>by
    show(q[i]?.map (·.1)).getD 0=e.1;rw[d];rfl
   generalize I:t.probe _ h (O.getD (t.probeStart h))=r;have I:t.probe (M7 q) h (qJ t.mask h k)=r:=by rw[<-h4];exact I
   generalize M7 q=hA at Vh I;obtain⟨g,vj,hp,alt⟩:=TOk.probe T hA h k
   have k0K:g<=K:=by
    apply GE;intro c;obtain⟨i,d,_⟩:=hp K h3 (by lia)
    rw[Z] at d;exact Vy i d
   have OR:∀j,j<g->∃i:Nat,t.place[i]? =some (bU t.mask h j):=λj h'=>by
    by_cases c:j<k
    .exact h5 j c
    .obtain⟨i,d,_⟩:=hp j (by lia) h'
     exact#[i,d]
   have F:∀(i:Nat) c,q[i]? =some (h, .ref c)->IsTupleKey (intKind prog w) s.heap u c->∀C,t.place[i]? =some (bU t.mask h C)->g<=C:=λi c d hc C R=>by
    have Oj:=h6 i c d hc C R;apply GE;intro z;obtain⟨p,G,tW⟩:=hp C Oj (by lia)
    have:i=p:=zK T.rise R G
    subst this;exact tW (Vh i _ d)
   rcases alt with ⟨Ll,M⟩ | ⟨i,d,Fs,M⟩
   .rw[M] at I
    subst I;dsimp only;refine ls (AI (λi e d c hc VF=>?_) g Ll OR);obtain⟨j,a',U,X⟩:=P i e d;subst U;cases hc
    have:j=u:=X.inj VF
    subst this;rw[hh] at d;obtain⟨ky,V4,ZX⟩:=T.path i h (by rw[cc,dX,d];rfl)
    have lt:=F i _ d VF ky V4
    by_cases c1:g<ky
    .obtain⟨p,G⟩:=ZX g c1
     exact Ll p G
    .have:ky=g:=by lia
     subst this;exact Ll i V4
   .rw[M] at I
    subst I;dsimp only
    have V6:i<q.size:=by
     have:=(uW.mp d).1
     lia
    obtain⟨j,c,U,X⟩:=P i q[i] (oY V6);have L:q[i]? =some (tupleKeyHash (intKind prog w) j, .ref c):=by rw[oY V6,U]
    have H:wpAny (model prog w) A (match q[i]? with
      |some (fst,y)=>do
       let m <-holding [y] (eqBool y (Value.ref b))
       let J <-setState a
       if (B&&m)=true then pure (SetFound.there none)
        else
         match J.2.snd.sameMemory t.moves t.mask with
         |some same=>
          match if same=true then J.2.snd.slot (bU t.mask h g) else Slot.empty with
          |Slot.live p=>
           match J.fst[p]? with
           |some (fst,y')=>do
            let v <-isSame y' y
            let Y <-pure (if v=true then some p else none)
            match Y with
             |none=>do
              rule "set.search.anew"
              setSearchFrom a (Value.ref b) h B f none
             |some p=>
              if m=true then pure (SetFound.there (some p))
              else setSearchFrom a (Value.ref b) h B f (some (qJ t.mask h (g+1)))
           |none=>do
            let Y <-pure none
            match Y with
             |none=>do
              rule "set.search.anew"
              setSearchFrom a (Value.ref b) h B f none
             |some p=>
              if m=true then pure (SetFound.there (some p))
              else setSearchFrom a (Value.ref b) h B f (some (qJ t.mask h (g+1)))
          |x=>do
           let Y <-pure none
           match Y with
            |none=>do
             rule "set.search.anew"
             setSearchFrom a (Value.ref b) h B f none
            |some p=>
             if m=true then pure (SetFound.there (some p))
             else setSearchFrom a (Value.ref b) h B f (some (qJ t.mask h (g+1)))
         |x=>unsupported "set.changed-during-lookup:is-the-new-block-at-the-old-address"
      |x=>unsupported "internal:set-entry") Q E s:=by
     rw[L];dsimp only;refine ir (M2 (wpAny_eqBool_tuple hu X hk ?_));refine ir (UV ho S.dat S.fits ?_);dsimp only;have sm:t.sameMemory t.moves t.mask=some true:=by unfold SetTable.sameMemory;simp
     have tW:j≠u->wpAny (model prog w) A (setSearchFrom a (Value.ref b) h B f (some (qJ t.mask h (g+1)))) Q E s:=λne=>by
      by_cases kk:g=K
      .subst kk
       rw[Z] at d;exact absurd d (Vy i)
      refine ih (g+1) f _ (by lia) (by lia) (by lia) rfl (λOy h''=>?_) λp c' G rM C R=>?_
      .by_cases z:Oy=g
       .subst z;exact#[i,d]
       .exact OR Oy (by lia)
      .have l1:=F p c' G rM C R
       have:C≠g:=λz=>by
        subst z
        have:p=i:=zK T.rise R d
        subst this;rw[L] at G;cases G;exact ne (X.inj rM)
       lia
     have there:j=u->∀r:Option Nat,(B=false->r.isSome=true)->Q (.there r) s:=λe=>by
      subst e;rw[hh] at L;exact Og #[i,c,L,X]
     by_cases e:j=u
     .rw[FM e,Bool.and_true]
      cases B with
      |true=>exact ls (there e none λz=>absurd z (by decide))
      |false=>
       simp only[dY,Os];rw[sm];dsimp only;rw[tz rfl,qH T.rise d];dsimp only;rw[L];dsimp only;refine ir (wpAny_isSame_ref_self ?_);refine ir (ls ?_);simp only[aaB];exact ls (there e (some i) λ_=>rfl)
     .rw[GM e,acu]
      simp only[dY,Os];rw[sm];dsimp only;rw[tz rfl,qH T.rise d];dsimp only;rw[L];dsimp only;refine ir (wpAny_isSame_ref_self ?_);refine ir (ls ?_);simp only[aaB];exact tW e
    by_cases led:(!t.led)=true
    .rw[tz led]
     refine ir (Ew hk _ (λy hy=>?_) ?_)
     .obtain⟨e,he,rfl⟩:=bL.mp hy
      have he:=(Array.mem_filter.mp (Array.mem_toList_iff.mp he)).1;obtain⟨p,G,rfl⟩:=Array.mem_iff_getElem.mp he;obtain⟨Oy,c',U,VE⟩:=P p q[p] (oY G);exact#[Oy,c',by rw[U],VE]
     .simp only[dY,Os]
      exact H
    .rw[mo led]
     exact H
 refine N (K+1) 0 100000 none (bJ _) (by lia) (fm _) rfl (λj h'=>by lia) λi c d hc C _=>fm _
end
section
variable {prog:Program} {w:World} {A:Around} {E:Value->Shared->Prop} {s:Shared}
theorem uA(b:Addr)(a:Array (Int×Value)):byScan (.ref b) a=false:=rfl
theorem yS(k:A.units<cLine)(g:s.heap.get? a=some o)(S:gR (cG w) o f j t)(P:HQ prog w s.heap f)(l:IsTupleKey (intKind prog w) s.heap d b)
  (m:(∃(i:Nat)(c:Addr),f[i]? =some (tupleKeyHash (intKind prog w) d, .ref c)/\IsTupleKey (intKind prog w) s.heap d c)->∀r:Option Nat,r.isSome=true->Q r s)
  (n:(∀(i:Nat)(e:Int×Value),f[i]? =some e->∀c,e.2= .ref c->¬IsTupleKey (intKind prog w) s.heap d c)->Q none s):
  wpAny (model prog w) A (setFind a (.ref b) (tupleKeyHash (intKind prog w) d)) Q E s:=by
 unfold setFind setFindIn;refine ir (UV g S.dat S.fits ?_);dsimp only;rw[uA];simp only[dY,Os];refine ir (qb k g S P l (λh r p=>?_) λh q _ _=>?_)
 .exact ls (m h r (p rfl))
 .exact ls (n h)
theorem sV(Z:A.units<cLine)(n:s.heap.get? a=some o)(S:gR (cG w) o d Y t)(P:HQ prog w s.heap d)(H:IsTupleKey (intKind prog w) s.heap g b)(room:d.size<=305)
  (hy:(∃(i:Nat)(c:Addr),d[i]? =some (tupleKeyHash (intKind prog w) g, .ref c)/\IsTupleKey (intKind prog w) s.heap g c)->Q false s)
  (I:(∀(i:Nat)(e:Int×Value),d[i]? =some e->∀c,e.2= .ref c->¬IsTupleKey (intKind prog w) s.heap g c)->∀z J L tR t',Heap.SameBut a s.heap z->z.get? a=some J->gR (cG w) J L tR t'->L.toList.Perm (d.toList++ [(tupleKeyHash (intKind prog w) g, .ref b)])->Q true {s with heap:=z}):
  wpAny (model prog w) A (setAddHashed a (.ref b) (tupleKeyHash (intKind prog w) g)) Q E s:=by
 have u:=S.dat;have M:=S.fits;have T:=S.tok;have sz:t.place.size=d.size:=by rw[T.size];simp
 unfold setAddHashed setAddHashedIn;refine M2 (ir (UV n u M ?_));dsimp only;rw[uA];simp only[dY,Os];refine ir (qb Z n S P H (λh r hr=>?_) λh k B OR=>?_)
 .exact ls (hy h)
 .dsimp only
  refine ir (UV n u M ?_);dsimp only;obtain⟨p1,p2,l⟩:=TOk.put T B OR (by rw[sz];exact Il T.few S.few)
  rw[p1]
  have e:(SetTable.insertAt d (below t.place (bU t.mask (tupleKeyHash (intKind prog w) g) k)) (tupleKeyHash (intKind prog w) g,Value.ref b)).toList.map (·.1)=(d.toList.map (·.1)).take (below t.place (bU t.mask (tupleKeyHash (intKind prog w) g) k))++tupleKeyHash (intKind prog w) g::(d.toList.map (·.1)).drop (below t.place (bU t.mask (tupleKeyHash (intKind prog w) g) k)):=by
   rw[ab6];simp
  rw[<-e] at l;have pl:(t.put (bU t.mask (tupleKeyHash (intKind prog w) g) k)).1.plain=true:=S.pl;have ld:(t.put (bU t.mask (tupleKeyHash (intKind prog w) g) k)).1.led= !cG w:=S.ld;have mk:(t.put (bU t.mask (tupleKeyHash (intKind prog w) g) k)).1.mask=t.mask:=rfl;generalize hx:((tupleKeyHash (intKind prog w) g,Value.ref b):Int×Value)=x at*;generalize hp:below t.place (bU t.mask (tupleKeyHash (intKind prog w) g) k)=p at*;generalize (t.put (bU t.mask (tupleKeyHash (intKind prog w) g) k)).1=m at*;rw[tz pl];refine ir (yT H ?_);simp only[aaB,Bool.not_false,Bool.true_and];have q:(SetTable.insertAt d p x).size=d.size+1:=SetTable.g5 ..;have C:=acp d p x;rw[ye] at C;refine ir (wpAny_storeSet_of n u ?_ (by rw[q];refine fits_of_scanBound ?_;show d.size+1<4096;lia))
  have v:=uR n u (SetTable.insertAt d p x) m;have N:=aau s.heap a (Obj.putSet (SetTable.insertAt d p x) m)
  have YJ:m.fits (SetTable.insertAt d p x).size=true:=by
   have:=TOk.fits l
   rw[aH,eX] at this;exact this
  by_cases j:m.tooFull=true
  .rw[tz j]
   refine ah λG0 k=>?_;obtain⟨y,f,O,_,pf,R,T2,F,l2,U,WO⟩:=F6 l j (by rw[q,mk];have:=S.few;lia) (by rw[q];lia)
   refine k ?_;rw[q] at O U WO;refine ir ?_;unfold setRelay;refine ir (UV v rfl YJ ?_);dsimp only;have big:512<=sizeLine:=by decide
   rw[mo (by lia),O]
   have X:(f.filterMap ((SetTable.insertAt d p x)[·]?)).size=d.size+1:=by rw[R,q]
   refine ir (aaW (a:=(f.filterMap ((SetTable.insertAt d p x)[·]?),y)) ?_ ?_)
   .show(if ((f.filterMap ((SetTable.insertAt d p x)[·]?)).size !=(SetTable.insertAt d p x).size)=true then _ else pure (f.filterMap ((SetTable.insertAt d p x)[·]?),y))=_
    rw[mo (by rw[R];simp)]
   .dsimp only
    refine wpAny_storeSet_of v rfl ?_ (by rw[X];refine fits_of_scanBound ?_;show d.size+1<4096;lia)
    have yF:=uR v rfl (f.filterMap ((SetTable.insertAt d p x)[·]?)) y;exact ls (I h _ _ _ _ y (N.trans (aau _ a _)) yF #[S.ex,rfl,T2,by rw[F];exact pl,by rw[l2];exact ld,by rw[X];exact U] (pf.trans C))
  .rw[mo j]
   refine ls (I h _ _ _ _ m N v #[S.ex,rfl,l,pl,ld,?_] C);have G:m.tooFull=false:=by simpa using j
   unfold SetTable.tooFull SetTable.fill at G;rw[l.dum,l.size] at G;simp at G;lia
variable {a b:Addr} {o:Obj} {es:Array (Int×Value)} {ep:Nat} {t:SetTable} {ks:List Int}
open Classical in
noncomputable def nI(prog:Program)(w:World)(h:Heap)(es:Array (Int×Value))(ks:List Int):Bool:=decide (∃(i:Nat)(c:Addr),es[i]? =some (tupleKeyHash (intKind prog w) ks, .ref c)/\IsTupleKey (intKind prog w) h ks c)
theorem Le(h:∀(i:Nat)(e:Int×Value),es[i]? =some e->∀c,e.2= .ref c->¬IsTupleKey (intKind prog w) s.heap ks c):nI prog w s.heap es ks=false:=by
 classical
 unfold nI;exact GM λ#[i,c,d,f]=>h i _ d c rfl f
theorem Iy(h:∃(i:Nat)(c:Addr),es[i]? =some (tupleKeyHash (intKind prog w) ks, .ref c)/\IsTupleKey (intKind prog w) s.heap ks c):nI prog w s.heap es ks=true:=by
 classical
 unfold nI;exact FM h
theorem sW(k:A.units+64<cLine)(d:s.heap.get? a=some o)(S:gR (cG w) o es ep t)(P:HQ prog w s.heap es)(e:IsTupleKey (intKind prog w) s.heap ks b)
  (h:∀f,Q (nI prog w s.heap es ks) {s with toks:=f}):wpAny (model prog w) A (contains (.ref a) (.ref b)) Q E s:=by
 have c:s.TypeIs (.ref a) "set":=#[o,d,S.ex.1];unfold contains
 try with_reducible refine M2 ?_
 refine ir (ach c F.slot_set_contains.lookup ?_);show wpAny _ _ (if (some (Value.builtin "set.__contains__")==some Value.none)=true then _ else _) _ E s;rw[mo (by rw[beq_builtin_none];exact cO)]
 refine ir (wpAny_callSpecialUnlessNone?_slot (name:=Str.ofString "__contains__") c F.slot_set_contains
  (SC F.slot_set_contains c entry_set_contains ?_ (F.args_set_contains_2 _ _)))
 unfold Builtin.«frozenset.__contains__» Builtin.Frozenset.oneOther;simp only[ab7,bind_assoc];unfold Builtin.Frozenset.addrOf Builtin.Frozenset.withSetAsKey setContains;refine ir (ls ?_)
 try dsimp only
 refine ir (ls ?_)
 try dsimp only
 refine ir (wpAny_tryCatch ?_);refine M2 ?_;refine ir (abR ?_ e ?_)
 .show A.units+1<cLine;lia
 refine ir (yS (s:={s with toks:=s.toks+(ks.length+1)}) ?_ d S P e (λg r i=>?_) λj=>?_)
 .show A.units+1<cLine;lia
 .refine ls ?_
  show wpAny _ _ (ret (Value.bool r.isSome)) _ _ _;rw[i]
  have:=h (s.toks+(ks.length+1))
  rw[Iy g] at this;exact ls #[_,rfl,UF this]
 .refine ls ?_
  have:=h (s.toks+(ks.length+1))
  rw[Le j] at this;exact ls #[_,rfl,UF this]
end
end PySem
set_option maxHeartbeats 4000000
namespace L2
open PySem PySem.Spec PyProof.Rows
inductive FV where
 |int (i:Int) |bl (b:Bool)
inductive XD where
 |mF (b:Bool) (ps:List (Int×Int)) |lj (ks:List (Int×Int)) (vs:List FV)
inductive D where
 |bu|bl (b:Bool) |int (i:Int) |str (x:Str) |lst (l:List D) |tup (l:List D) |jY (ns:List Int) |rng (lo hi:Int) |obj (a:Addr) |fj (w:List (List Nat)) |set (b:Bool) (l:List Int) |x (k:XD) |err (C:Addr) (ks:List Str) (l:List D)
structure DC where
 K:ac
 C:Addr
def af(n:Nat):D:= .int n
def aq(r:List Nat):D:= .lst (r.map af)
def aP(w:List (List Nat)):D:= .lst (w.map aq)
def Ug(a:Array (Int×Value))(b:List Int):Prop:=(∀e∈a.toList,∃k t,e=(hashInt k,Value.int k t))/\b.Nodup/\∃c,IntsAre (a.toList.map (·.2)) c/\c.Perm b
def P8(b:Bool)(a:Addr)(d:List Int)(h:Heap):Prop:=∃o c e t,h.get? a=some o/\gR b o c e t/\Ug c d
def bR(p:Int×Int):Int:=reduceHash (Builtin.Tuple.tupleHashOf [hashInt p.1,hashInt p.2])
inductive fL (H:Hp):List (Int×Addr)->List (Int×Int)->Prop
 |nil:fL H [] []
 |cons {a:Addr} {p:Int×Int} {es:List (Int×Addr)} {ps:List (Int×Int)}:H a=some (.tup [.int p.1, .int p.2])->fL H es ps->fL H ((bR p,a)::es) (p::ps)
theorem fL.mono{H a:Hp}(s:aN H a):∀{b:List (Int×Addr)}{c:List (Int×Int)},fL H b c->fL a b c
 |_,_, .nil=> .nil
 |_,_, .cons h t=> .cons (s _ _ h) (t.mono s)
def c4(b:Bool)(a:Addr)(d:List (Int×Addr))(h:Heap):Prop:=∃o c f t,h.get? a=some o/\gR b o c f t/\c.toList.Perm (d.map λe=>(e.1,Value.ref e.2))
def HN:FV->Value->Prop
 | .int i,v=>∃t,v= .int i t
 | .bl b,v=>v= .bool b
inductive HK:List DictEntry->List (Int×Addr)->List FV->Prop
 |nil:HK [] [] []
 |cons {e:DictEntry} {l:List DictEntry} {h:Int} {a:Addr} {v:FV} {es:List (Int×Addr)} {vs:List FV}:e.hash=h->e.key= .ref a->HN v e.val->HK l es vs->HK (e::l) ((h,a)::es) (v::vs)
def eG(a:Addr)(c:List (Int×Addr))(d:List FV)(h:Heap):Prop:=(a==sysModules)=false/\∃o b e,h.get? a=some o/\o.ExactDict/\o.data= .dict b e/\HK b.toList c d
def HR(H:Hp)(a:Addr)(d:Heap->Prop):XD->Prop
 | .mF b e=>e.Nodup/\∃c,d=c4 b a c/\fL H c e
 | .lj ks f=>ks.Nodup/\∃c,d=eG a c f/\fL H c ks
theorem HR.mono{H c:Hp}(s:aN H c):∀{k:XD},HR H a d k->HR c a d k
 | .mF _ _,#[n,b,e,p]=>#[n,b,e,p.mono s]
 | .lj _ _,#[n,b,e,p]=>#[n,b,e,p.mono s]
def EK(H:Hp)(d:Option Addr)(a:List Str)(b:List V):Prop:=(d=none/\a= []/\b= [])\/∃c,d=some c/\H c=some (Uo c (a.zip b))/\a.length=b.length
theorem EK.mono{H d:Hp}(s:aN H d)(h:EK H e f g):EK d e f g:=h.imp id λ#[i,a,b,c]=>#[i,a,s _ _ b,c]
mutual
inductive Dv (Z:DC) (H:Hp):V->D->Prop
 |bu:Dv Z H .bu .bu
 |bl (b:Bool):Dv Z H (.bl b) (.bl b)
 |int (i:Int):Dv Z H (.int i) (.int i)
 |str (x:Str) (h:PyData.strOk x=true):Dv Z H (.str x) (.str x)
 |lst {a:Addr} {xs:List V} {ds:List D}:H a=some (.lst xs)->DvAll Z H xs ds->Dv Z H (.ref a) (.lst ds)
 |tup {a:Addr} {xs:List V} {ds:List D}:H a=some (.tup xs)->DvAll Z H xs ds->Dv Z H (.ref a) (.tup ds)
 |obj (a:Addr):Dv Z H (.ref a) (.obj a)
 |rng {a:Addr} {lo hi:Int}:H a=some (.rng lo hi)->Dv Z H (.ref a) (.rng lo hi)
 |jY {a:Addr} {ns:List Int}:cz Z.K H a (ns.map V.int)->ns.length<=63->Dv Z H (.ref a) (.jY ns)
 |fj {p dx R:Addr} {w:List (List Nat)}:H p=some (.ins Z.C dx [("rows", .ref R)])->Dv Z H (.ref R) (aP w)->Wb.Good w->1<=w.length->w.length<=14->Dv Z H (.ref p) (.fj w)
 |set {a:Addr} {b:Bool} {ns:List Int}:H a=some (.ext (P8 b a ns))->Dv Z H (.ref a) (.set b ns)
 |x {a:Addr} {φ:Heap->Prop} {k:XD}:H a=some (.ext φ)->HR H a φ k->Dv Z H (.ref a) (.x k)
 |err {a C:Addr} {od:Option Addr} {ks:List Str} {xs:List V} {ds:List D}:H a=some (mU C a od)->EK H od ks xs->DvAll Z H xs ds->Dv Z H (.ref a) (.err C ks ds)
inductive DvAll (Z:DC) (H:Hp):List V->List D->Prop
 |nil:DvAll Z H [] []
 |cons {v:V} {vs:List V} {d:D} {ds:List D}:Dv Z H v d->DvAll Z H vs ds->DvAll Z H (v::vs) (d::ds)
end
theorem cz.mono{K:ac}{H b:Hp}(s:aN H b)(h:cz K H a c):cz K b a c:=by
 rcases h with (h| ⟨o,h⟩) |h
 .exact .inl (.inl (s _ _ h))
 .exact .inl (.inr #[o,s _ _ h])
 .exact .inr h
section
variable {Z:DC} {H H' G G':Hp}
theorem Dv.ofInt(h:Dv Z H v (.int i)):v= .int i:=by cases h;rfl
theorem Dv.se(h:Dv Z H v (.bl b)):v= .bl b:=by cases h;rfl
theorem Dv.fz(h:Dv Z H v (.lst b)):∃a c,v= .ref a/\H a=some (.lst c)/\DvAll Z H c b:=by cases h with|lst h e=>exact#[_,_,rfl,h,e]
theorem Dv.n6{v:V}{ds:List D}(h:Dv Z H v (.tup ds)):∃a xs,v= .ref a/\H a=some (.tup xs)/\DvAll Z H xs ds:=by cases h with|tup h e=>exact#[_,_,rfl,h,e]
theorem Dv.Me{v:V}{ns:List Int}(h:Dv Z H v (.jY ns)):∃a,v= .ref a/\cz Z.K H a (ns.map V.int)/\ns.length<=63:=by cases h with|jY h z=>exact#[_,rfl,h,z]
theorem DvAll.jP(h:DvAll Z H a []):a= []:=by cases h;rfl
theorem DvAll.fT(h:DvAll Z H c (d::e)):∃v f,c=v::f/\Dv Z H v d/\DvAll Z H f e:=by cases h with|cons a b=>exact#[_,_,rfl,a,b]
theorem DvAll.ofOne(h:DvAll Z H c [d]):∃v,c= [v]/\Dv Z H v d:=by
 obtain⟨v,e,rfl,a,b⟩:=h.fT;rw[b.jP];exact#[v,rfl,a]
theorem DvAll.Bv(h:DvAll Z H f [d,e]):∃v u,f= [v,u]/\Dv Z H v d/\Dv Z H u e:=by
 obtain⟨v,g,rfl,a,b⟩:=h.fT;obtain⟨u,rfl,c⟩:=b.ofOne;exact#[v,u,rfl,a,c]
theorem Dv.mono(s:aN H H'){v:V}(h:Dv Z H v d):Dv Z H' v d:=
 Dv.rec (motive_1:=λv d _=>Dv Z H' v d) (motive_2:=λc e _=>DvAll Z H' c e) .bu .bl .int .str (λh _ a=> .lst (s _ _ h) a) (λh _ a=> .tup (s _ _ h) a) .obj (λh=> .rng (s _ _ h)) (λh z=> .jY (h.mono s) z) (λh _ g a b r=> .fj (s _ _ h) r g a b) (λh=> .set (s _ _ h)) (λh k=> .x (s _ _ h) (k.mono s)) (λh k _ a=> .err (s _ _ h) (k.mono s) a) .nil (λ_ _ a b=> .cons a b) h
theorem DvAll.ind{p:List V->List D->Prop}(n:p [] [])(c:∀{v:V}{e:List V}{d:D}{f:List D},Dv Z H v d->DvAll Z H e f->p e f->p (v::e) (d::f)){f:List D}(h:DvAll Z H e f):p e f:=
 DvAll.rec (motive_1:=λ_ _ _=>True) (motive_2:=λe f _=>p e f) trivial (λ_=>trivial) (λ_=>trivial) (λ_ _=>trivial) (λ_ _ _=>trivial) (λ_ _ _=>trivial) (λ_=>trivial) (λ_=>trivial) (λ_ _=>trivial) (λ_ _ _ _ _ _=>trivial) (λ_=>trivial) (λ_ _=>trivial) (λ_ _ _ _=>trivial) n (λa b _ q=>c a b q) h
theorem DvAll.mono(s:aN H H')(h:DvAll Z H c d):DvAll Z H' c d:=h.ind .nil λa _ b=> .cons (a.mono s) b
theorem DvAll.length{a:List V}(h:DvAll Z H a b):a.length=b.length:=h.ind (p:=λa b=>a.length=b.length) rfl λ_ _ e=>IR (·+1) e
theorem DvAll.get{b:List V}{i:Nat}{d:D}(h:DvAll Z H b c)(e:c[i]? =some d):∃v,b[i]? =some v/\Dv Z H v d:=by
 revert i
 refine h.ind (p:=λb c=>∀{i:Nat},c[i]? =some d->∃v,b[i]? =some v/\Dv Z H v d) (λe=>by cases e) λa _ f i e=>?_
 cases i with
 |zero=>cases e;exact#[_,rfl,a]
 |succ i=>exact f e
theorem DvAll.K7{b:List V}{c:List D}{i:Nat}{v:V}(h:DvAll Z H b c)(e:b[i]? =some v):∃d,c[i]? =some d/\Dv Z H v d:=by
 revert i
 refine h.ind (p:=λb c=>∀{i:Nat},b[i]? =some v->∃d,c[i]? =some d/\Dv Z H v d) (λe=>by cases e) λa _ f i e=>?_
 cases i with
 |zero=>cases e;exact#[_,rfl,a]
 |succ i=>exact f e
theorem DvAll.append(h:DvAll Z H c d)(k:DvAll Z H e f):DvAll Z H (c++e) (d++f):=h.ind (p:=λc d=>DvAll Z H (c++e) (d++f)) k λa _ b=> .cons a b
theorem DvAll.take:∀{b:List V}{c:List D}(n:Nat),DvAll Z H b c->DvAll Z H (b.take n) (c.take n)
 |_,_,0,_=>DvAll.nil
 |_,_,n+1, .nil=>DvAll.nil
 |_,_,n+1, .cons a d=>DvAll.cons a (d.take n)
theorem DvAll.drop:∀{b:List V}{c:List D}(n:Nat),DvAll Z H b c->DvAll Z H (b.drop n) (c.drop n)
 |_,_,0,h=>h
 |_,_,n+1, .nil=>by simpa using DvAll.nil
 |_,_,n+1, .cons a d=>by simpa using d.drop n
theorem DvAll.set{v:V}{d:D}(h:Dv Z H v d):∀{c:List V}{e:List D}(n:Nat),DvAll Z H c e->DvAll Z H (c.set n v) (e.set n d)
 |_,_,_, .nil=> .nil
 |_,_,0, .cons a b=> .cons h b
 |_,_,n+1, .cons a b=> .cons a (DvAll.set h n b)
theorem DvAll.ints:∀(a:List Int),DvAll Z H (a.map V.int) (a.map D.int)
 | []=> .nil
 |n::a=> .cons (.int n) (DvAll.ints a)
theorem DvAll.snoc{e:List D}(a:DvAll Z H c e)(b:Dv Z H v d):DvAll Z H (c++ [v]) (e++ [d]):=a.append (.cons b .nil)
structure Ext (G H G' H':Hp):Prop where
 gg:aN G G'
 sub:aN G' H'
 hh:aN H H'
 off:∀b,H b≠none->G b=none->G' b=none
theorem Ext.refl(s:aN G H):Ext G H G H:=#[.refl _,s, .refl _,λ_ _ h=>h]
theorem Ext.trans{c d f i:Hp}(a:Ext G H c d)(b:Ext c d f i):Ext G H f i:=
 #[a.gg.trans b.gg,b.sub,a.hh.trans b.hh,λx h g=>b.off x (λz=>by
  cases e:H x with
  |none=>exact h e
  |some o=>rw[a.hh x o e] at z;cases z) (a.off x h g)]
theorem Ext.new{o:HO}(s:aN G H)(h:H p=none):Ext G H (upd G p o) (upd H p o):=by
 have a:G p=none:=s.free h;refine#[aM a o,λb u e=>?_,aM h o,λb c a=>?_]
 .by_cases z:b=p
  .subst z;rw[aw] at e ⊢;exact e
  .rw[ay z] at e ⊢;exact s b u e
 .have:b≠p:=λz=>c (by rw[z];exact h)
  rw[ay this];exact a
end
abbrev DN:=List (Option D)
structure cJ (Z:DC) (G:Hp) (σ:St) (ρ:DN):Prop where
 len:ρ.length=σ.length
 at_:∀(i:Nat)(d:D),ρ[i]? =some (some d)->∃v,σ[i]? =some (some v)/\Dv Z G v d
section
variable {Z:DC} {G G' H H':Hp} {σ:St} {ρ:DN}
theorem cJ.mono(e:cJ Z G σ ρ)(s:aN G G'):cJ Z G' σ ρ:=#[e.len,λi d h=>let #[v,a,b]:=e.at_ i d h;#[v,a,b.mono s]]
theorem cJ.set{v:V}{d:D}(e:cJ Z G σ ρ)(h:Dv Z G v d):cJ Z G (σ.set i (some v)) (ρ.set i (some d)):=by
 refine#[by rw[dm,dm];exact e.len,λj c a=>?_]
 by_cases z:i=j
 .subst z
  by_cases b:i<ρ.length
  .rw[ji b] at a
   cases Fk a;exact#[v,by rw[ji (e.len▸b)],h]
  .rw[xX (iY b)] at a
   rw[j0 (iY b)] at a;cases a
 .rw[jj z] at a ⊢
  exact e.at_ j c a
end
abbrev aW:=DN->(D->Prop)->Prop
abbrev dM:=DN->(Bool->Prop)->Prop
abbrev iM:=DN->(List D->Prop)->Prop
abbrev gx:=D->D->(D->Prop)->Prop
abbrev eS:=D->DN->(DN->Prop)->Prop
abbrev jm:=DN->(List D->Prop)->Prop
def dQ(Z:DC)(t:aW):TE:=λe H Q=>∃(G:Hp)(a:DN)(P:D->Prop),aN G H/\cJ Z G e a/\t a P/\∀d,P d->∀v b c,Ext G H b c->Dv Z b v d->Q v c
def liftT(Z:DC)(t:dM):TT:=λd H Q=>∃(G:Hp)(a:DN)(P:Bool->Prop),aN G H/\cJ Z G d a/\t a P/\∀b,P b->∀e c,Ext G H e c->Q b c
def Bg(Z:DC)(t:iM):TA:=λf H Q=>∃(G:Hp)(a:DN)(P:List D->Prop),aN G H/\cJ Z G f a/\t a P/\∀b,P b->∀c d e,Ext G H d e->DvAll Z d c b->Q c e
def bT(Z:DC)(r:gx):R2:=λx y H Q=>∃(G:Hp)(a b:D)(P:D->Prop),aN G H/\Dv Z G x a/\Dv Z G y b/\r a b P/\∀d,P d->∀v c e,Ext G H c e->Dv Z c v d->Q v e
def g7(Z:DC)(r:List D->(D->Prop)->Prop):List V->Hp->VK->Prop:=λe H Q=>∃(G:Hp)(a:List D)(P:D->Prop),aN G H/\DvAll Z G e a/\r a P/\∀d,P d->∀v b c,Ext G H b c->Dv Z b v d->Q v c
abbrev cI:=List D->(D->Prop)->Prop
def bh(Z:DC)(a:cI):Sp:=λb H Q _=>g7 Z a b H Q
def DE(Z:DC)(X:Cx)(e:Expr)(t:aW):Prop:=PE X e (dQ Z t)
def DT(Z:DC)(X:Cx)(e:Expr)(t:dM):Prop:=PT X e (liftT Z t)
def DA(Z:DC)(X:Cx)(a:List Expr)(t:iM):Prop:=PA X a (Bg Z t)
theorem PE.imp{X:Cx}(h:PE X e t)(f:∀b H Q,t' b H Q->t b H Q):PE X e t':=λa s b H Q I q=>h a s b H Q I (f _ _ _ q)
theorem PT.imp{X:Cx}(h:PT X e t)(f:∀b H Q,c b H Q->t b H Q):PT X e c:=λa s b H Q I q=>h a s b H Q I (f _ _ _ q)
theorem PW.imp{X:Cx}(h:PW X e t)(f:∀b H Q,c b H Q->t b H Q):PW X e c:=λd a s b H Q I q=>h d a s b H Q I (f _ _ _ q)
theorem PA.imp{X:Cx}{d:List Expr}(h:PA X d t)(f:∀b H Q,t' b H Q->t b H Q):PA X d t':=λc a s b H Q I q=>h c a s b H Q I (f _ _ _ q)
theorem OpR.imp{X:Cx}{f:Value->Value->Sem Value}{r d:R2}(h:OpR X f r)(g:∀x y H Q,d x y H Q->r x y H Q):OpR X f d:=λc s e H x y v u Q I a b q=>h c s e H x y v u Q I a b (g _ _ _ _ q)
theorem CallR.imp{X:Cx}{f:Value}{r d:List V->Hp->VK->Prop}(h:CallR X f r)(g:∀c H Q,d c H Q->r c H Q):CallR X f d:=λb s e H c i Q I a q=>h b s e H c i Q I a (g _ _ _ q)
def Ko(i:Nat):aW:=λa P=>∃d,a[i]? =some (some d)/\P d
def dC(d:D):aW:=λ_ P=>P d
section
variable {Z:DC} {X:Cx}
theorem aa(i:Nat)(f:X.N[i]? =some x:=by rfl)(b:mW X.env.scope x:=by subst_eqs)(c:(x==("__debug__":Str))=false:=by decide)
  (g:(x==("__classdict__":Str))=false:=by decide):DE Z X (.Name x a) (Ko i):=by
 refine(Bz f b c g).imp λk H Q h=>?_;rfl';obtain⟨G,m,P,s,e,⟨d,c,p⟩,q⟩:=h;ac_rfl;exact let #[v,b,dv]:=e.at_ i d c;#[v,b,q d p v G H (.refl s) dv]
theorem ax{i j pos}:DE Z X (.Constant (.int i) j pos) (dC (.int i)):=by
 refine O8.imp λc H Q a=>?_;rfl';obtain⟨G,f,P,s,e,p,q⟩:=a;ac_rfl;exact q _ p _ G H (.refl s) (.int i)
theorem jI{b j pos}:DE Z X (.Constant (.bool b) j pos) (dC (.bl b)):=by
 refine Te.imp λd H Q a=>?_;rfl';obtain⟨G,g,P,s,e,p,q⟩:=a;ac_rfl;exact q _ p _ G H (.refl s) (.bl b)
theorem fO{j pos}:DE Z X (.Constant .none j pos) (dC .bu):=by
 refine Pa.imp λc H Q a=>?_;rfl';obtain⟨G,f,P,s,e,p,q⟩:=a;ac_rfl;exact q _ p _ G H (.refl s) .bu
theorem rm{x j pos}(h:PyData.strOk x=true:=by decide+kernel):DE Z X (.Constant (.str x) j pos) (dC (.str x)):=by
 refine Hs.imp λc H Q a=>?_;rfl';obtain⟨G,f,P,s,e,p,q⟩:=a;ac_rfl;exact q _ p _ G H (.refl s) (.str x h)
theorem Ib(d:Gl X x)(b:∃c,X.mg x=some (.int i c))(f:(x==("__debug__":Str))=false:=by decide):DE Z X (.Name x a) (dC (.int i)):=by
 obtain⟨c,b⟩:=b;exact(xq d b (v:= .int i) #[c,rfl] f).imp λg H Q #[G,h,P,s,e,p,q]=>q _ p _ G H (.refl s) (.int i)
def E6(r:gx)(d e:aW):aW:=λc P=>d c λa=>e c λb=>r a b P
variable {a b c:Expr} {ta tb tc:aW} {pos:Pos}
theorem Bf:∀f H Q,dQ Z (E6 r ta tb) f H Q->Nb (bT Z r) (dQ Z ta) (dQ Z tb) f H Q:=by
 intro f H Q k;rfl';obtain⟨G,j,P,s,e,h,q⟩:=k;ac_rfl;refine#[G,j,_,s,e,h,λa m v n E g dv=>?_];refine#[n,j,_,g.sub,e.mono g.gg,m,λb o u p F i t=>?_];exact#[p,a,b,P,i.sub,dv.mono i.gg,t,o,λd w x y z A B=>q d w x y z ((g.trans i).trans A) B]
theorem aC(e:OpR X (binaryOp d) (bT Z r))(f:DE Z X a ta)(g:DE Z X b tb):DE Z X (.BinOp a d b pos) (E6 r ta tb):=(Mz e f g).imp Bf
theorem pj(e:OpR X (compareOp d) (bT Z r))(f:DE Z X a ta)(g:DE Z X b tb)(h:behindInMarks d b=false):DE Z X (.Compare a [d] [b] pos) (E6 r ta tb):=(Mt e f g h).imp Bf
def Al(t:aW):dM:=λe P=>t e λd=>∃k,d= .bl k/\P k
theorem zy:∀d H Q,liftT Z (Al t) d H Q->Gj (dQ Z t) d H Q:=by
 intro d H Q f;rfl';obtain⟨G,i,P,s,e,h,q⟩:=f;ac_rfl;exists G,i,_,s,e,h;rintro _ ⟨k,rfl,p⟩ v j l m dv;cases dv.se;exact#[k,rfl,q k p j l m]
theorem bb(f:OpR X (compareOp d) (bT Z r))(g:DE Z X a ta)(i:DE Z X b tb)(j:behindInMarks d b=false):DT Z X (.Compare a [d] [b] pos) (Al (E6 r ta tb)):=
 (MK f g i j).imp λe H Q h=>by
  obtain h:=zy e H Q h;exact Bf e H _ h
def Aj(r e:gx)(f g h:aW):aW:=λd P=>f d λx=>g d λy=>r x y λz=>∃k,z= .bl k/\(if k=true then h d λi=>e y i P else P (.bl false))
theorem wU:∀f H Q,dQ Z (Aj r o ta tb tc) f H Q->BP (bT Z r) (bT Z o) (dQ Z ta) (dQ Z tb) (dQ Z tc) f H Q:=by
 intro f H Q y;rfl';obtain⟨G,g,P,s,e,h,q⟩:=y;ac_rfl;refine#[G,g,_,s,e,h,λa A v B Y i dv=>?_];refine#[B,g,_,i.sub,e.mono i.gg,A,λb C u E X j p=>?_];exists E,a,b,_,j.sub,dv.mono j.gg,p,C;rintro _ ⟨k,rfl,t⟩ v' w F l I;cases I.se;exists k,rfl;have x:=(i.trans j).trans l;cases k with
 |false=>exact bY (q _ t _ w F x (.bl false))
 |true=>
  refine bF #[w,g,_,l.sub,e.mono x.gg,t,λc J w' L H4 m M=>?_];exact#[L,b,c,P,m.sub,(p.mono l.gg).mono m.gg,M,J,λd N n O R S T=>q d N n O R ((x.trans m).trans S) T]
theorem Ia(g:OpR X (compareOp d) (bT Z r))(h:OpR X (compareOp e) (bT Z f))(i:DE Z X a ta)(j:DE Z X b tb)(k:DE Z X c tc)
  (l:lastMarks [d,e] [b,c]=false:=by with_unfolding_all rfl):DE Z X (.Compare a [d,e] [b,c] pos) (Aj r f ta tb tc):=(Jg g h i j k l).imp wU
theorem pA(i:OpR X (compareOp d) (bT Z r))(j:OpR X (compareOp e) (bT Z f))(k:DE Z X a ta)(l:DE Z X b tb)(m:DE Z X c tc)
  (n:lastMarks [d,e] [b,c]=false:=by with_unfolding_all rfl):DT Z X (.Compare a [d,e] [b,c] pos) (Al (Aj r f ta tb tc)):=
 (Jq i j k l m n).imp λg H Q h=>by
  obtain h:=zy g H Q h;exact wU g H _ h
def HF:D->Bool
 | .bu=>false
 | .bl b=>b
 | .int i=>i !=0
 | .str x=>x.length !=0
 | .lst l=>!l.isEmpty
 | .tup l=>!l.isEmpty
 | .jY l=>!l.isEmpty
 | .rng lo d=>decide (lo<d)
 | .obj _=>true
 | .fj _=>true
 | .set _ l=>!l.isEmpty
 | .x _=>true
 | .err _ _ _=>true
def Wa:D->Bool
 | .bl _=>true
 | .int _=>true
 | .lst _=>true
 | .tup _=>true
 | .bu=>true
 |_=>false
def UT(t:aW):dM:=λe P=>t e λd=>Wa d=true/\P (HF d)
theorem uJ(h:DvAll Z G d e):d.isEmpty=e.isEmpty:=by cases h<;>rfl
theorem eD(ha:DE Z X a ta)(he:∀whole,isTrue a X.env whole=(do let v <-whole;standAt a.pos;holding [v] (truthy v)):=by intro _;rfl):DT Z X a (UT ta):=by
 refine(Jr ha he).imp ?_;intro σ H Q aI;rfl';obtain⟨G,ρ,P,s,e,h,q⟩:=aI;ac_rfl;exists G,ρ,_,s,e,h;rintro d ⟨hd,p⟩ v G1 H1 x1 dv;refine#[HF d,?_,q _ p G1 H1 x1];cases dv with
 |bu=>rfl
 |bl b=>rfl
 |int i=>rfl
 |lst h a=>exact .inl #[_,cz.of (x1.sub _ _ h),by rw[uJ a];rfl]
 |tup h a=>exact .inr (.inl #[_,gd.of (x1.sub _ _ h),by rw[uJ a];rfl])
 |_=>cases hd
def UC(t u:dM):dM:=λd P=>t d λc=>if c=true then u d P else P false
def Yr(t u:dM):dM:=λd P=>t d λc=>if c=true then P true else u d P
def UN(t:dM):dM:=λd P=>t d λc=>P (!c)
variable {tA BO:dM} {rest:List Expr}
def DW(Z:DC)(X:Cx)(e:Expr)(t:dM):Prop:=PW X e (liftT Z t)
theorem DW.dt(h:DW Z X e t):DT Z X e t:=PW.pt h
theorem CM(d:DT Z X a tA):DW Z X (.BoolOp .And [a] pos) tA:=MN d
theorem iJ(d:DT Z X a tA):DW Z X (.BoolOp .Or [a] pos) tA:=Pm d
theorem Hb(k:DT Z X a tA)(f:DW Z X (.BoolOp .And (b::rest) pos) BO):DW Z X (.BoolOp .And (a::b::rest) pos) (UC tA BO):=by
 refine(Pl k f).imp ?_;intro t H Q l;rfl';obtain⟨G,g,P,s,e,h,q⟩:=l;ac_rfl;refine#[G,g,_,s,e,h,λc i j n d=>?_];cases c with
 |true=>exact bF #[j,g,P,d.sub,e.mono d.gg,i,λb f o p r=>q b f o p (d.trans r)]
 |false=>exact bY (q _ i j n d)
theorem i3(k:DT Z X a tA)(f:DW Z X (.BoolOp .Or (b::rest) pos) BO):DW Z X (.BoolOp .Or (a::b::rest) pos) (Yr tA BO):=by
 refine(Tj k f).imp ?_;intro t H Q l;rfl';obtain⟨G,g,P,s,e,h,q⟩:=l;ac_rfl;refine#[G,g,_,s,e,h,λc i j n d=>?_];cases c with
 |false=>exact bY #[j,g,P,d.sub,e.mono d.gg,i,λb f o p r=>q b f o p (d.trans r)]
 |true=>exact bF (q _ i j n d)
theorem dB(d:DT Z X a tA):DT Z X (.UnaryOp .Not a pos) (UN tA):=by
 refine(Pk d).imp ?_;rintro l H Q ⟨G,f,P,s,e,h,q⟩;exact#[G,f,_,s,e,h,λc g i j k=>q _ g i j k]
def Q3(e f:aW):aW:=λd P=>e d λx=>∃c,x= .bl c/\if c=true then f d P else P (.bl false)
def Rb(d:aW):aW:=λe P=>d e λx=>∃c,x= .bl c/\P (.bl (!c))
theorem rk{op}(h:DE Z X a ta):DE Z X (.BoolOp op [a] pos) ta:=Pc h
theorem kj(k:DE Z X a ta)(f:DE Z X (.BoolOp .And (b::rest) pos) tb):DE Z X (.BoolOp .And (a::b::rest) pos) (Q3 ta tb):=by
 refine(O3 k f).imp ?_;intro u H Q l;rfl';obtain⟨G,g,P,s,e,h,q⟩:=l;ac_rfl;exists G,g,_,s,e,h;rintro _ ⟨c,rfl,i⟩ v j n d dv;cases dv.se;exists c,rfl;cases c with
 |true=>exact bF #[j,g,P,d.sub,e.mono d.gg,i,λb f v o p r t=>q b f v o p (d.trans r) t]
 |false=>exact bY (q _ i _ j n d (.bl false))
theorem GV(d:DE Z X a ta):DE Z X (.UnaryOp .Not a pos) (Rb ta):=by
 refine(Pb d).imp ?_;intro n H Q f;rfl';obtain⟨G,i,P,s,e,h,q⟩:=f;ac_rfl;exists G,i,_,s,e,h;rintro _ ⟨c,rfl,j⟩ v k l m dv;cases dv.se;exact#[c,rfl,q _ j _ k l m (.bl _)]
def Yo(t:dM)(e f:aW):aW:=λd P=>t d λc=>if c=true then e d P else f d P
theorem Rk{c:Expr}(g:DT Z X c tA)(o:DE Z X a ta)(f:DE Z X b tb):DE Z X (.IfExp c a b pos) (Yo tA ta tb):=by
 refine(Jh g o f).imp ?_;intro t H Q p;rfl';obtain⟨G,i,P,s,e,h,q⟩:=p;ac_rfl;refine#[G,i,_,s,e,h,λc g n w d=>?_];cases c with
 |true=>exact bF #[n,i,P,d.sub,e.mono d.gg,g,λb f v j k l m=>q b f v j k (d.trans l) m]
 |false=>exact bY #[n,i,P,d.sub,e.mono d.gg,g,λb f v j k l m=>q b f v j k (d.trans l) m]
def pV:iM:=λ_ P=>P []
def Kb(e:aW)(t:iM):iM:=λd P=>e d λx=>t d λf=>P (x::f)
variable {es:List Expr} {t:iM} {e:Expr}
theorem ag:DA Z X [] pV:=by
 refine eF.imp λg H Q d=>?_;rfl';obtain⟨G,i,P,s,e,p,q⟩:=d;ac_rfl;exact q _ p _ G H (.refl s) .nil
theorem ae(d:DE Z X e ta)(j:DA Z X es t)(k:starEach (e::es) X.env=(false,eval e X.env)::starEach es X.env:=by rfl):DA Z X (e::es) (Kb ta t):=by
 refine(bH d j k).imp ?_;intro w H Q l;rfl';obtain⟨G,g,P,s,e,h,q⟩:=l;ac_rfl;refine#[G,g,_,s,e,h,λa d v n y f dv=>?_];exact#[n,g,_,f.sub,e.mono f.gg,d,λz o A p r i u=>q _ o _ p r (f.trans i) (.cons (dv.mono i.gg) u)]
def UW(t:iM):aW:=λf P=>t f λd=>d.length<=sizeLine/\P (.tup d)
def UL(t:iM):aW:=λf P=>t f λd=>d.length<=sizeLine/\P (.lst d)
theorem eB{d}(h:DA Z X es t):DE Z X (.Tuple es d pos) (UW t):=by
 refine(Ht h).imp ?_;intro n H Q i;rfl';obtain⟨G,k,P,s,e,h,q⟩:=i;ac_rfl;exists G,k,_,s,e,h;rintro r ⟨l,m⟩ u v w d f;exact#[by rw[f.length];exact l,λp g=>q _ m _ _ _ (d.trans (.new d.sub g)) (.tup aw (f.mono (aM (d.sub.free g) _)))]
theorem iH(h:DA Z X es t):DE Z X (.List es pos) (UL t):=by
 refine(Hr h).imp ?_;intro n H Q i;rfl';obtain⟨G,k,P,s,e,h,q⟩:=i;ac_rfl;exists G,k,_,s,e,h;rintro r ⟨l,m⟩ u v w d f;exact#[by rw[f.length];exact l,λp g=>q _ m _ _ _ (d.trans (.new d.sub g)) (.lst aw (f.mono (aM (d.sub.free g) _)))]
def tL(r:List D->(D->Prop)->Prop)(t:iM):aW:=λd P=>t d λf=>r f P
theorem t7:∀f H Q,dQ Z (tL r t) f H Q->Bg Z t f H λg i=>g7 Z r g i Q:=by
 intro f H Q k;rfl';obtain⟨G,m,P,s,e,h,q⟩:=k;ac_rfl;exact#[G,m,_,s,e,h,λn o g p i j u=>#[p,n,P,j.sub,u,o,λd w v x y z dv=>q d w v x y (j.trans z) dv]]
theorem Ks(F:FnOk X.prog X.w X.K X.mg X.base cw k f g i (bh Z d))(m:bW k X.A)(n:Gl X x)(o:X.mg x=some (.ref f))(r:aA X.K (.ref f)=true)(u:Binds X.K g i [])
  (v:DA Z X (e::es) t) (y:(x==("__debug__":Str))=false:=by decide) (z:starEach (e::es) X.env=(false,eval e X.env)::starEach es X.env:=by rfl) (B:(backTo pos (starEach es X.env)).any (·.1)=false:=by rfl):
  DE Z X (.Call (.Name x p) (e::es) [] pos) (tL d t):=
 (sj F m n o r u .nil og v y z B).imp λC H Q h=>by
  rfl';have h:=t7 C H Q h;obtain⟨G,I,P,s,e,h,q⟩:=h;ac_rfl;exact#[G,I,P,s,e,h,λJ L j M l N O=>by show bh Z d (j++ []) l Q E0;rw[f6];exact q J L j M l N O]
theorem aB{id:String}{x:Str}{p:Pos}{r:List D->(D->Prop)->Prop}(d:CallR X (.builtin id) (g7 Z r))(f:Gl X x)(g:X.mg x=none)(h:bootBuiltins x=some (.builtin id))(i:DA Z X (e::es) t)(j:x≠"__name__":=by decide)(k:(x==("__debug__":Str))=false:=by decide)
  (l:starEach (e::es) X.env=(false,eval e X.env)::starEach es X.env:=by rfl) (m:(backTo pos (starEach es X.env)).any (·.1)=false:=by rfl):
  DE Z X (.Call (.Name x p) (e::es) [] pos) (tL r t):=(lq d f g h i j k l m).imp t7
theorem jJ(d:CallR X (.type T) (g7 Z r))(f:Gl X x)(g:X.mg x=none)(h:bootBuiltins x=some (.type T))(i:DA Z X (e::es) t)(j:x≠"__name__":=by decide)(k:(x==("__debug__":Str))=false:=by decide)
  (l:starEach (e::es) X.env=(false,eval e X.env)::starEach es X.env:=by rfl) (m:(backTo pos (starEach es X.env)).any (·.1)=false:=by rfl):
  DE Z X (.Call (.Name x p) (e::es) [] pos) (tL r t):=(FY d f g h i j k l m).imp t7
end
end L2
namespace L2
open PySem PySem.Spec PyProof.Rows
section
variable {Z:DC} {X:Cx}
def Qb:gx:=λx y P=>match x,y with
 | .int i, .int j=>P (.int (i+j))
 | .lst a, .lst b=>a.length+b.length<=sizeLine/\P (.lst (a++b))
 | .tup a, .tup b=>a≠ []/\a.length+b.length<=sizeLine/\b≠ []/\P (.tup (a++b))
 |_,_=>False
def dI(c:Int->Int->Prop)(g:Int->Int->Int):gx:=λx y P=>match x,y with
 | .int i, .int j=>c i j/\P (.int (g i j))
 |_,_=>False
def Q8(g:Int->Int->Int):gx:=λx y P=>match x,y with
 | .int i, .int j=>P (.int (g i j))
 |_,_=>False
def US:gx:=Q8 λi j=>i-j
def Qh:gx:=λx y P=>match x,y with
 | .int i, .int j=>GG i j/\P (.int (i*j))
 | .lst a, .int k=> -(2^63)<=k/\k<2^63/\a.length*k.toNat<=sizeLine/\P (.lst (am k.toNat a).flatten)
 |_,_=>False
def Qc:gx:=dI P6 λi j=>i / j
def UM:gx:=dI (λ_ j=>0<j) λi j=>i%j
theorem Hk(h:OpR X f (rI c λi j=> .int (g i j))):OpR X f (bT Z (dI c g)):=by
 refine h.imp ?_;intro x y H Q e;rfl';obtain⟨G,a,b,P,s,l,m,d,q⟩:=e;ac_rfl;unfold dI at d
 split at d
 .exact#[_,_,l.ofInt,m.ofInt,d.1,q _ d.2 _ G H (.refl s) (.int _)]
 .exact d.elim
theorem OJ(h:OpR X f (yM λi j=> .int (g i j))):OpR X f (bT Z (Q8 g)):=by
 refine h.imp ?_;intro x y H Q d;rfl';obtain⟨G,a,b,P,s,k,l,c,q⟩:=d;ac_rfl;unfold Q8 at c
 split at c
 .exact#[_,_,k.ofInt,l.ofInt,q _ c _ G H (.refl s) (.int _)]
 .exact c.elim
theorem fS:OpR X (binaryOp .Sub) (bT Z US):=OJ O1
theorem fR:OpR X (binaryOp .FloorDiv) (bT Z Qc):=Hk Mn
theorem bQ:OpR X (binaryOp .Mod) (bT Z UM):=Hk OX
theorem cR(e:X.K=Z.K:=by rfl):OpR X (binaryOp .Add) (bT Z Qb):=by
 refine(OU.or (Hq.or (Mm))).imp ?_;rintro x y H Q ⟨G,a,b,P,s,h,i,c,q⟩;unfold Qb at c
 split at c
 .exact .inl #[_,_,h.ofInt,i.ofInt,q _ c _ G H (.refl s) (.int _)]
 .obtain⟨n,o,rfl,j,d⟩:=h.fz
  obtain⟨r,t,rfl,k,f⟩:=i.fz;obtain⟨l,m⟩:=c;refine .inr (.inl #[_,_,_,_,rfl,rfl,s _ _ j,s _ _ k,by rw[d.length,f.length];exact l,λp g=>?_])
  exact q _ m _ _ _ (.new s g) (.lst aw ((d.append f).mono (aM (s.free g) _)))
 .obtain⟨n,o,rfl,j,d⟩:=h.n6
  obtain⟨r,t,rfl,k,f⟩:=i.n6;obtain⟨u,l,v,m⟩:=c;refine .inr (.inr #[_,_,_,_,rfl,rfl,gd.of (s _ _ j),gd.of (s _ _ k),?_,by rw[d.length,f.length];exact l,?_])
  .rintro rfl;cases d;exact u rfl
  .refine#[?_,λ_ p g=>q _ m _ _ _ (.new s g) (.tup aw ((d.append f).mono (aM (s.free g) _)))]
   rintro rfl;cases f;exact(v rfl).elim
 .exact c.elim
theorem DvAll.rep(h:DvAll Z G a b):∀k:Nat,DvAll Z G (am k a).flatten (am k b).flatten
 |0=> .nil
 |k+1=>by rw[yb,yb,tq,tq];exact h.append (DvAll.rep h k)
theorem Bu:OpR X (binaryOp .Mult) (bT Z Qh):=by
 refine(OY.or O0).imp ?_;intro x y H Q h;rfl';obtain⟨G,a,b,P,s,d,e,c,q⟩:=h;ac_rfl;unfold Qh at c
 split at c
 .exact .inl #[_,_,d.ofInt,e.ofInt,c.1,q _ c.2 _ G H (.refl s) (.int _)]
 .obtain⟨r,t,rfl,j,f⟩:=d.fz
  obtain⟨k,l,m,n⟩:=c;refine .inr #[_,_,_,rfl,e.ofInt,s _ _ j,k,l,by rw[f.length];exact m,λp g=>?_]
  exact q _ n _ _ _ (.new s g) (.lst aw ((f.rep _).mono (aM (s.free g) _)))
 .exact c.elim
mutual
def D.py:D->Option PyData
 | .bu=>some .none
 | .bl b=>some (.bool b)
 | .int i=>some (.int i)
 | .str x=>some (.str x)
 | .lst l=>(hV l).map PyData.list
 | .tup l=>(hV l).map PyData.tuple
 | .jY _=>none
 | .rng _ _=>none
 | .obj _=>none
 | .fj _=>none
 | .set _ _=>none
 | .x _=>none
 | .err _ _ _=>none
def hV:List D->Option (List PyData)
 | []=>some []
 |d::ds=>(D.py d).bind λa=>(hV ds).map λas=>a::as
end
theorem Dv.dp{K:ac}{G:Hp}{v:V}{d:D}(h:Dv Z G v d):∀{e:PyData},d.py=some e->Dp K G v e:=by
 refine Dv.rec (motive_1:=λv d _=>∀{e:PyData},d.py=some e->Dp K G v e) (motive_2:=λn f _=>∀{g:List PyData},hV f=some g->iZ K G n g) ?_ ?_ ?_ ?_ ?_ ?_ ?_ ?_ ?_ ?_ ?_ ?_ ?_ ?_ ?_ h
 .intro e h;rw[D.py] at h;cases h;exact .bu
 .intro b e h;rw[D.py] at h;cases h;exact .bl b
 .intro i e h;rw[D.py] at h;cases h;exact .int i
 .intro x k e h;rw[D.py] at h;cases h;exact .str x k
 .intro a o f q _ j e h
  rw[D.py] at h;cases c:hV f with
  |none=>rw[c] at h;cases h
  |some l=>rw[c] at h;cases h;exact .lst (cz.of q) (j c)
 .intro a o f q _ j e h
  rw[D.py] at h;cases c:hV f with
  |none=>rw[c] at h;cases h
  |some l=>rw[c] at h;cases h;exact .tup (gd.of q) (j c)
 .intro a e h;simp[D.py] at h
 .intro a lo u _ e h;simp[D.py] at h
 .intro a r _ _ e h;simp[D.py] at h
 .intro p z R w _ _ _ _ _ _ e h;simp[D.py] at h
 .intro a b r _ e h;simp[D.py] at h
 .intro a A k _ _ e h;simp[D.py] at h
 .intro a C B E o f _ _ _ _ e h;simp[D.py] at h
 .intro g h;rw[hV] at h;cases h;exact .nil
 .intro v n d f _ _ s t g h
  rw[hV] at h;cases c:d.py with
  |none=>rw[c] at h;cases h
  |some x=>
   rw[c] at h;cases m:hV f with
   |none=>rw[m] at h;cases h
   |some y=>rw[m] at h;cases h;exact .cons (s c) (t m)
theorem gd.mono{K:ac}{H b:Hp}(s:aN H b)(h:gd K H a c):gd K b a c:=by
 rcases h with (h| ⟨o,h⟩) |h
 .exact .inl (.inl (s _ _ h))
 .exact .inl (.inr #[o,s _ _ h])
 .exact .inr h
theorem Dp.mono{K:ac}{G H:Hp}(s:aN G H){v:V}(h:Dp K G v d):Dp K H v d:=
 Dp.rec (motive_1:=λv d _=>Dp K H v d) (motive_2:=λc e _=>iZ K H c e) .bu .bl .int .str (λh _ a=> .lst (h.mono s) a) (λh _ a=> .tup (h.mono s) a) .nil (λ_ _ a b=> .cons a b) h
def Qd(c:Bool):gx:=λx y P=>∃a b,x.py=some a/\y.py=some b/\a.depth<=64/\P (.bl (if c then !PyData.eqv a b else PyData.eqv a b))
abbrev tN:gx:=Qd false
abbrev Ak:gx:=Qd true
theorem fI(e:X.A.units+64<cLine):OpR X (compareOp .Eq) (bT Z tN):=by
 refine(OV e).imp ?_;intro x y H Q f;rfl';obtain⟨G,a,b,P,s,h,i,⟨c,d,j,k,l,m⟩,q⟩:=f;ac_rfl;exact#[c,d,(h.dp j).mono s,(i.dp k).mono s,l,q _ m _ G H (.refl s) (.bl _)]
theorem w9(e:X.A.units+64<cLine):OpR X (compareOp .NotEq) (bT Z Ak):=by
 refine(OZ e).imp ?_;intro x y H Q f;rfl';obtain⟨G,a,b,P,s,h,i,⟨c,d,j,k,l,m⟩,q⟩:=f;ac_rfl;exact#[c,d,(h.dp j).mono s,(i.dp k).mono s,l,q _ m _ G H (.refl s) (.bl _)]
theorem jH(h:P (.bl (decide (i=j)))):tN (.int i) (.int j) P:=#[.int i, .int j,rfl,rfl,by simp[PyData.depth],by
 have:PyData.eqv (.int i) (.int j)=decide (i=j):=by
  rw[PyData.eqv]
  by_cases z:i=j<;>simp[z]
 simpa [this] using h]
theorem CD(h:P (.bl (!decide (i=j)))):Ak (.int i) (.int j) P:=#[.int i, .int j,rfl,rfl,by simp[PyData.depth],by
 have:PyData.eqv (.int i) (.int j)=decide (i=j):=by
  rw[PyData.eqv]
  by_cases z:i=j<;>simp[z]
 simpa [this] using h]
def y3(p:Int->Int->Bool):gx:=λx y P=>match x,y with
 | .int i, .int j=>P (.bl (p i j))
 |_,_=>False
theorem rX(h:OpR X f (yM λi j=> .bl (p i j))):OpR X f (bT Z (y3 p)):=by
 refine h.imp ?_;intro x y H Q d;rfl';obtain⟨G,a,b,P,s,g,k,c,q⟩:=d;ac_rfl;unfold y3 at c
 split at c
 .exact#[_,_,g.ofInt,k.ofInt,q _ c _ G H (.refl s) (.bl _)]
 .exact c.elim
end
end L2
namespace L2
open PySem PySem.Spec PyProof.Rows
section
variable {Z:DC} {X:Cx}
abbrev Yq:gx:=y3 λi j=>decide (i<j)
abbrev Yp:gx:=y3 λi j=>decide (i<=j)
abbrev Yn:gx:=y3 λi j=>decide (j<i)
abbrev Ym:gx:=y3 λi j=>decide (j<=i)
theorem n5:OpR X (compareOp .Lt) (bT Z Yq):=rX S8
theorem ud:OpR X (compareOp .LtE) (bT Z Yp):=rX S0
theorem SQ:OpR X (compareOp .Gt) (bT Z Yn):=rX SY
theorem SN:OpR X (compareOp .GtE) (bT Z Ym):=rX SX
def FD:D->Bool
 | .bu=>true
 |_=>false
def Qf(a:Bool):gx:=λx y P=>match y with
 | .bu=>P (.bl (if a then !FD x else FD x))
 |_=>False
theorem zo(h:Dv Z G v d):decide (v= .bu)=FD d:=by cases h<;>rfl
theorem w6:OpR X (compareOp .Is) (bT Z (Qf false)):=by
 refine OW.imp ?_;rintro x y H Q ⟨G,a,b,P,s,d,e,c,q⟩;cases e<;>first|exact c.elim|skip
 exact#[rfl,by rw[zo d];exact q _ c _ G H (.refl s) (.bl _)]
theorem Jd:OpR X (compareOp .IsNot) (bT Z (Qf true)):=by
 refine Mq.imp ?_;rintro x y H Q ⟨G,a,b,P,s,d,e,c,q⟩;cases e<;>first|exact c.elim|skip
 exact#[rfl,by rw[zo d];exact q _ c _ G H (.refl s) (.bl _)]
def eH:D->Bool
 | .bu=>true
 | .bl _=>true
 | .int _=>true
 | .str _=>true
 |_=>false
def km:D->D->Bool
 | .bu, .bu=>true
 | .bl a, .bl b=>a==b
 | .bl a, .int b=>(if a then 1 else 0)==b
 | .int a, .bl b=>a==(if b then 1 else 0)
 | .int a, .int b=>a==b
 | .str a, .str b=>a==b
 |_,_=>false
def inD(x:D)(l:List D):Bool:=l.any λy=>km y x
theorem rE(h:Dv Z G v d):gY v=eH d:=by cases h<;>rfl
theorem nG(h:DvAll Z G b c):b.all gY=c.all eH:=h.ind (p:=λb c=>b.all gY=c.all eH) rfl λa _ e=>by rw[abh,abh,rE a,e]
theorem Au(h:Dv Z G v d)(k:Dv Z G u e):wz v u=km d e:=by cases h<;>first|rfl| (cases k<;>rfl)
theorem Fy(h:Dv Z G v d):∀{b:List V}{c:List D},DvAll Z G b c->Ov v b=inD d c
 |_,_, .nil=>rfl
 |_,_, .cons a e=>by
  unfold Ov inD;rw[abT,abT,Au a h];exact IR _ (Fy h e)
def NK(a:Bool):gx:=λx y P=>match y with
 | .lst l=>eH x=true/\l.all eH=true/\P (.bl (if a then !inD x l else inD x l))
 | .tup l=>eH x=true/\l.all eH=true/\P (.bl (if a then !inD x l else inD x l))
 |_=>False
theorem MQ:∀x y H Q,bT Z (NK c) x y H Q->Ts X.K c x y H Q:=by
 rintro x y H Q ⟨G,a,b,P,s,d,l,f,q⟩;cases l<;>first|exact f.elim|skip
 .rename_i p g m h e
  obtain⟨i,j,k⟩:=f;refine#[p,g,rfl, .inl (cz.of (s _ _ h)),by rw[rE d];exact i,by rw[nG e];exact j,?_]
  rw[Fy d e];exact q _ k _ G H (.refl s) (.bl _)
 .rename_i p g m h e
  obtain⟨i,j,k⟩:=f;refine#[p,g,rfl, .inr (gd.of (s _ _ h)),by rw[rE d];exact i,by rw[nG e];exact j,?_]
  rw[Fy d e];exact q _ k _ G H (.refl s) (.bl _)
theorem Bt:OpR X (compareOp .In) (bT Z (NK false)):=FU.imp MQ
theorem zB:OpR X (compareOp .NotIn) (bT Z (NK true)):=yL.imp MQ
def UK:gx:=λx y P=>match x,y with
 | .lst l, .int i=>∃d,dZ l i=some d/\P d
 | .tup l, .int i=>∃d,dZ l i=some d/\P d
 | .jY l, .int i=>∃n,dZ l i=some n/\P (.int n)
 |_,_=>False
theorem GI(h:DvAll Z G b a)(e:dZ a i=some d):∃v,dZ b i=some v/\Dv Z G v d:=by
 unfold dZ at e ⊢;rw[h.length];cases z:lL a.length i with
 |none=>rw[z] at e;cases e
 |some j=>rw[z] at e;exact h.get e
theorem JW(f:a->b)(l:List a)(i:Int):dZ (l.map f) i=(dZ l i).map f:=by
 unfold dZ;rw[aH];cases lL l.length i with
 |none=>rfl
 |some j=>show(l.map f)[j]? =_;rw[cc];rfl
variable {a b c e:Expr} {ta tb tc te:aW} {pos:Pos}
theorem aF(p:DE Z X a ta)(r:DE Z X b tb)(t:X.K=Z.K:=by rfl)(u:Cf b:=by exact λ_ _=>rfl):DE Z X (.Subscript a b pos) (E6 UK ta tb):=by
 refine(Mv (Dt.or Ox) p r u).imp λw H Q h=>?_;rfl';obtain⟨G,x,P,s,e,h,q⟩:=Bf w H Q h;ac_rfl;refine#[G,x,P,s,e,h,λd y v z A B dv=>?_];rfl';obtain⟨C,E,F,I,J,L,M⟩:=q d y v z A B dv;ac_rfl;refine#[C,E,F,I,J,L,λN k O R S T U=>?_];obtain⟨G,a,b,P,s,l,m,f,q⟩:=M N k O R S T U;unfold UK at f
 split at f
 .obtain⟨d,i,j⟩:=f
  obtain⟨_,_,rfl,h,e⟩:=l.fz;obtain⟨v,n,dv⟩:=GI e i;exact .inl #[_,_,_,v,rfl,m.ofInt,cz.of (s _ _ h),n,q _ j _ G _ (.refl s) dv]
 .obtain⟨d,i,j⟩:=f
  obtain⟨_,_,rfl,h,e⟩:=l.n6;obtain⟨v,n,dv⟩:=GI e i;exact .inr #[_,_,_,v,rfl,m.ofInt,gd.of (s _ _ h),n,q _ j _ G _ (.refl s) dv]
 rotate_left
 .exact f.elim
 .obtain⟨d,i,j⟩:=f
  rfl';obtain⟨_,rfl,h,_⟩:=l.Me;ac_rfl;refine .inl #[_,_,_, .int d,rfl,m.ofInt,by rw[t];exact h.mono s,by rw[JW,i];rfl,q _ j _ G _ (.refl s) (.int d)]
def cutD{f:Type}(d:List f)(lo g:Option Int):List f:=(d.drop (HT.b7 d.length 0 lo)).take (HT.b7 d.length d.length g-HT.b7 d.length 0 lo)
theorem GN(h:DvAll Z G d f)(lo g:Option Int):DvAll Z G (uD d lo g) (cutD f lo g):=by
 unfold uD cutD;rw[h.length];exact(h.drop _).take _
theorem HY(f:d->h)(l:List d)(lo g:Option Int):cutD (l.map f) lo g=(cutD l lo g).map f:=by
 unfold cutD;rw[aH,qO,ux]
abbrev EI:=DN->(Option Int->Prop)->Prop
def Kj:EI:=λ_ P=>P none
def Rc(t:aW):EI:=λf P=>t f λd=>match d with
 | .int i=>P (some i)
 |_=>False
def SF(Z:DC)(t:EI):TO:=λg H Q=>∃(G:Hp)(d:DN)(P:Option Int->Prop),aN G H/\cJ Z G g d/\t d P/\∀o,P o->∀h f,Ext G H h f->Q o f
def DO(Z:DC)(X:Cx)(e:Option Expr)(t:EI):Prop:=PO X e (SF Z t)
theorem PO.imp{e:Option Expr}(h:PO X e t)(f:∀g H Q,t' g H Q->t g H Q):PO X e t':=λd s g H Q I q=>h d s g H Q I (f _ _ _ q)
theorem jK:DO Z X none Kj:=by
 refine MF.imp λg H Q d=>?_;rfl';obtain⟨G,i,P,s,e,p,q⟩:=d;ac_rfl;exact q _ p G H (.refl s)
theorem jL(h:DE Z X e te):DO Z X (some e) (Rc te):=by
 refine(MG h).imp ?_;intro n H Q g;rfl';obtain⟨G,j,P,s,e,h,q⟩:=g;ac_rfl;refine#[G,j,_,s,e,h,λd f v k l m dv=>?_];cases dv<;>first|exact f.elim|skip
 exact#[_,rfl,q _ f k l m]
def Ys(g:aW)(h i:EI):aW:=λf P=>g f λx=>h f λlo=>i f λd=>match x with
 | .lst l=>P (.lst (cutD l lo d))
 | .tup l=>¬(HT.b7 l.length 0 lo=0/\HT.b7 l.length l.length d=l.length)/\P (.tup (cutD l lo d))
 | .jY l=>P (.lst ((cutD l lo d).map D.int))
 |_=>False
variable {lo hi:Option Expr} {tl th:EI} {p2:Pos}
theorem iz(r:DE Z X e te)(m:DO Z X lo tl)(g:DO Z X hi th)(t:X.K=Z.K:=by rfl):DE Z X (.Subscript e (.Slice lo hi none p2) pos) (Ys te tl th):=by
 refine(Jj (MZ.or Px) r m g).imp ?_;intro C H Q w;rfl';obtain⟨G,n,P,s,o,h,q⟩:=w;ac_rfl;refine#[G,n,_,s,o,h,λd z v A F j dv=>?_];refine#[A,n,_,j.sub,o.mono j.gg,z,λl m B I k=>?_];refine#[B,n,_,k.sub,(o.mono j.gg).mono k.gg,m,λu g J L f=>?_];have x:=(j.trans k).trans f;have dv:=(dv.mono k.gg).mono f.gg;cases dv<;>first|exact g.elim|skip
 .rename_i h e
  exact .inl #[_,_,rfl,cz.of (f.sub _ _ h),λp i=>q _ g _ _ _ (x.trans (.new f.sub i)) (.lst aw ((GN e l u).mono (aM (f.sub.free i) _)))]
 .rename_i h e
  refine .inr #[_,_,rfl,gd.of (f.sub _ _ h),by rw[e.length];exact g.1,λp i=>q _ g.2 _ _ _ (x.trans (.new f.sub i)) (.tup aw ((GN e l u).mono (aM (f.sub.free i) _)))]
 .rename_i h _
  refine .inl #[_,_,rfl,by rw[t];exact h.mono f.sub,λp i=>q _ g _ _ _ (x.trans (.new f.sub i)) (.lst aw ?_)]
  show DvAll Z _ (cutD _ l u) _;rw[HY];exact .ints _
def Cr:cI:=λd P=>match d with
 | [.lst l]=>P (.int l.length)
 | [.tup l]=>P (.int l.length)
 | [.jY l]=>P (.int l.length)
 |_=>False
theorem aZ(f:X.K=Z.K:=by rfl):CallR X (.builtin "len") (g7 Z Cr):=by
 refine yp.imp ?_;rintro g H Q ⟨G,i,P,s,dv,d,q⟩;unfold Cr at d
 split at d
 .obtain⟨_,rfl,a⟩:=dv.ofOne
  obtain⟨_,_,rfl,h,e⟩:=a.fz;exact#[_,_,rfl, .inl (cz.of (s _ _ h)),by rw[e.length];exact q _ d _ G H (.refl s) (.int _)]
 .obtain⟨_,rfl,a⟩:=dv.ofOne
  obtain⟨_,_,rfl,h,e⟩:=a.n6;exact#[_,_,rfl, .inr (gd.of (s _ _ h)),by rw[e.length];exact q _ d _ G H (.refl s) (.int _)]
 .obtain⟨_,rfl,a⟩:=dv.ofOne
  obtain⟨_,rfl,h,_⟩:=a.Me;exact#[_,_,rfl, .inl (by rw[f];exact h.mono s),by rw[aH];exact q _ d _ G H (.refl s) (.int _)]
 .exact d.elim
def JY:cI:=λd P=>match d with
 | [.lst l]=>P (.lst l)
 | [.tup l]=>P (.lst l)
 |_=>False
theorem qZ:CallR X (.type "list") (g7 Z JY):=by
 refine yq.imp ?_;rintro g H Q ⟨G,i,P,s,dv,d,q⟩;unfold JY at d
 split at d
 .obtain⟨_,rfl,a⟩:=dv.ofOne
  obtain⟨_,_,rfl,h,e⟩:=a.fz;exact#[_,_,rfl, .inl (cz.of (s _ _ h)),λp f=>q _ d _ _ _ (.new s f) (.lst aw (e.mono (aM (s.free f) _)))]
 .obtain⟨_,rfl,a⟩:=dv.ofOne
  obtain⟨_,_,rfl,h,e⟩:=a.n6;exact#[_,_,rfl, .inr (gd.of (s _ _ h)),λp f=>q _ d _ _ _ (.new s f) (.lst aw (e.mono (aM (s.free f) _)))]
 .exact d.elim
def V8:String->D->Bool
 |"int", .int _=>true
 |"int", .bl _=>true
 |"bool", .bl _=>true
 |"list", .lst _=>true
 |"tuple", .tup _=>true
 |_,_=>false
def SU(n:String):Bool:=n=="int"||n=="bool"||n=="list"||n=="tuple"
def QD:D->Bool
 | .bu=>true
 | .bl _=>true
 | .int _=>true
 | .str _=>true
 | .lst _=>true
 | .tup _=>true
 |_=>false
def UJ(n:String)(t:aW):aW:=λf P=>t f λd=>QD d=true/\P (.bl (V8 n d))
theorem OE{K:ac}{H:Hp}{v:V}{d:D}{n:String}(hn:SU n=true)(hd:QD d=true)(h:Dv Z H v d):∃t,jE K H v t/\ak K t (.type n)=some (V8 n d):=by
 unfold SU at hn;rw[Bool.or_eq_true,Bool.or_eq_true,Bool.or_eq_true,beq_iff_eq,beq_iff_eq,beq_iff_eq,beq_iff_eq] at hn;cases h with
 |bu=>exists _, .bu;rcases hn with ((rfl|rfl) |rfl) |rfl<;>kernel_rfl
 |bl b=>exists _, .bl b;rcases hn with ((rfl|rfl) |rfl) |rfl<;>kernel_rfl
 |int b=>exists _, .int b;rcases hn with ((rfl|rfl) |rfl) |rfl<;>kernel_rfl
 |str b=>exists _, .str b;rcases hn with ((rfl|rfl) |rfl) |rfl<;>kernel_rfl
 |lst h a=>exists _, .lst h;rcases hn with ((rfl|rfl) |rfl) |rfl<;>kernel_rfl
 |tup h a=>exists _, .tup h;rcases hn with ((rfl|rfl) |rfl) |rfl<;>kernel_rfl
 |_=>cases hd
end
section
variable {Z:DC} {X:Cx} {a b c e:Expr} {ta tb tc te:aW} {pos:Pos}
theorem GU(n:String)(k:DE Z X a ta)(l:Gl X "isinstance")(m:X.mg "isinstance"=none)(o:Gl X x)(r:X.mg x=none)(u:bootBuiltins x=some (.type n))(ok:SU n=true:=by decide)
  (w:x≠"__name__":=by decide) (y:(x==("__debug__":Str))=false:=by decide) (g:starEach [a, .Name x f] X.env=(false,eval a X.env)::starEach [.Name x f] X.env:=by rfl)
  (z:(backTo pos (starEach [.Name x f] X.env)).any (·.1)=false:=by rfl) (A:starEach [.Name x f] X.env=(false,eval (.Name x f) X.env)::starEach [] X.env:=by rfl):
  DE Z X (.Call (.Name "isinstance" p) [a, .Name x f] [] pos) (UJ n ta):=by
 have B:PE X (.Name x f) (tC (.ty n)):=DZ o r u rfl w y;refine(lq Aa l m (by decide+kernel) (bH k (bH B eF A) g) (by decide) (by decide) g z).imp ?_
 intro O H Q C;rfl';obtain⟨G,F,P,s,e,h,q⟩:=C;ac_rfl;exists G,F,_,s,e,h;rintro d ⟨I,J⟩ v L i j dv;obtain⟨t,M,N⟩:=OE (K:=X.K) (H:=i) ok I (dv.mono j.sub);exact#[v,n,t,_,rfl,M,N,q _ J _ L i j (.bl _)]
def qA(Z:DC)(g:eS):TG:=λv j H Q=>∃(G:Hp)(f:DN)(d:D)(P:DN->Prop),aN G H/\cJ Z G j f/\Dv Z G v d/\g d f P/\∀h,P h->∀i,cJ Z G i h->Q i H
def DG(Z:DC)(X:Cx)(e:Expr)(g:eS):Prop:=PG X e (qA Z g)
theorem PG.imp{e:Expr}{t i:TG}(h:PG X e t)(f:∀v g H Q,i v g H Q->t v g H Q):PG X e i:=λd s g H v u Q I r q=>h d s g H v u Q I r (f _ _ _ _ q)
def rA(i:Nat):eS:=λd f P=>P (f.set i (some d))
theorem c7(i:Nat)(f:X.N.Nodup)(g:X.N[i]? =some x:=by rfl)(j:Loc X.env.scope x:=by exact Or.inl rfl)(k:X.fn x=true\/X.env.scope.names.lookup x=some .local:=by subst_eqs):DG Z X (.Name x l) (rA i):=by
 refine(sq f g j k).imp λv o H Q m=>?_;rfl';obtain⟨G,r,d,P,s,e,dv,h,q⟩:=m;ac_rfl;exact q _ h _ (e.set dv)
abbrev mB:=List D->DN->(DN->Prop)->Prop
def OI(Z:DC)(g:mB):ym:=λj k H Q=>∃(G:Hp)(d:DN)(f:List D)(P:DN->Prop),aN G H/\cJ Z G k d/\DvAll Z G j f/\g f d P/\∀h,P h->∀i,cJ Z G i h->Q i H
def Np(Z:DC)(X:Cx)(d:List Expr)(g:mB):Prop:=z3 X d (OI Z g)
theorem z3.imp{i:List Expr}(h:z3 X i t)(f:∀v g H Q,j v g H Q->t v g H Q):z3 X i j:=λd s g H v u Q I r q=>h d s g H v u Q I r (f _ _ _ _ q)
def Kv:mB:=λd f P=>d= []/\P f
def GX(g:eS)(f:mB):mB:=λh i P=>match h with
 |d::r=>g d i λj=>f r j P
 | []=>False
theorem wu:Np Z X [] Kv:=by
 refine su.imp λv g H Q d=>?_;rfl';obtain⟨G,j,k,P,s,e,dv,⟨h,p⟩,q⟩:=d;subst h;cases dv;ac_rfl;exact#[rfl,q _ p _ e]
theorem js(i:DG Z X e g)(j:Np Z X d f)(k:(assignEach (e::d) X.env).map (·.2)=assign e X.env::(assignEach d X.env).map (·.2):=by rfl):Np Z X (e::d) (GX g f):=by
 refine(jx i j k).imp ?_;intro v u H Q l;rfl';obtain⟨G,n,x,P,s,e,dv,h,q⟩:=l;ac_rfl;cases dv with
 |nil=>exact h.elim
 |cons a o=>
  refine#[_,_,rfl,G,n,_,_,s,e,a,h,λp r y t=>?_];exact#[G,p,_,P,s,t,o,r,q]
def Kw(n:Nat)(f:mB):eS:=λd g P=>match d with
 | .tup l=>l.length=n/\f l g P
 |_=>False
theorem As(n:Nat)(i:X.calm=true)(h:Np Z X f g)(j:(assignEach f X.env).length=n:=by rfl)(l:(assignEach f X.env).findIdx? (·.1)=none:=by rfl):DG Z X (.Tuple f k pos) (Kw n g):=by
 refine(vH i h j l).imp ?_;rintro v r H Q ⟨G,m,d,P,s,e,dv,h,q⟩;cases dv<;>first|exact h.elim|skip
 rename_i a o t p f
 exact#[a,o,rfl,gd.of (s _ _ p),by rw[f.length];exact h.1,G,m,_,P,s,e,f,h.2,q]
def vP(Z:DC)(G:Hp)(J:It)(g:List D):Prop:=∀h f,aN G h->aN h f->∀i:Nat,(i<g.length->J.go i f)/\(g.length<=i->J.stop i f)/\
 ∀x j,i<g.length->J.yld i f x j->∃k d,Ext h f k j/\g[i]? =some d/\Dv Z k x d
def t9(Z:DC)(i:jm):TI:=λj H R=>∃(G:Hp)(d:DN)(P:List D->Prop),aN G H/\cJ Z G j d/\i d P/\∀f,P f->∀J g h,Ext G H g h->vP Z g J f->R J h
def DI(Z:DC)(X:Cx)(d e:Expr)(f:jm):Prop:=PI X d e (t9 Z f)
theorem PI.imp{i e:Expr}(h:PI X i e t)(f:∀g H Q,t' g H Q->t g H Q):PI X i e t':=λd s g H Q I q=>h d s g H Q I (f _ _ _ q)
def Rm(t:aW):jm:=λf P=>t f λd=>match d with
 | .lst l=>P l
 |_=>False
theorem LO{K:ac}{a:Addr}(h:G a=some (.lst f))(e:DvAll Z G f j):vP Z G (QS K a) j:=by
 intro o r k m i;have g:=cz.of (K:=K) (m _ _ (k _ _ h));have l:=e.length;refine#[λn=>#[f,f[i],g,eu (by lia)],λn=>#[f,g,by lia],?_]
 rintro x s n ⟨rfl,p⟩;obtain⟨d,q,dv⟩:=e.K7 (p _ g);exact#[o,d, .refl m,q,dv.mono k]
theorem bX(h:DE Z X e te):DI Z X j e (Rm te):=by
 refine(MC h).imp ?_;intro r H Q k;rfl';obtain⟨G,m,P,s,n,h,q⟩:=k;ac_rfl;refine#[G,m,_,s,n,h,λd f v o p g dv=>?_];cases dv<;>first|exact f.elim|skip
 rename_i i e
 exact#[_,rfl,#[_,cz.of (g.sub _ _ i)],q _ f _ o p g (LO i e)]
def iL(lo:Int)(n:Nat):List D:=(aJ n).map λ(k:Nat)=>D.int (lo+(k:Int))
theorem uO{lo:Int}{n i:Nat}(h:i<n):(iL lo n)[i]? =some (.int (lo+i)):=by
 unfold iL;rw[cc,EG h];rfl
theorem IL(lo:Int)(n:Nat):vP Z G (Nt lo n) (iL lo n):=by
 intro f h j g i;have l:(iL lo n).length=n:=by unfold iL;simp
 rw[l];refine#[λd=>d,λd=>d,?_];rintro x k d ⟨rfl,rfl⟩;exact#[f,_, .refl g,uO d, .int _]
def UZ(t:iM):jm:=λd P=>t d λf=>match f with
 | [.int j]=>(-(2^62)<=j/\j<2^62)/\P (iL 0 j.toNat)
 |_=>False
variable {t:iM}
def gX(l:List D):List D:=l.mapIdx λi x=> .tup [.int (i:Int),x]
def NU(t:iM):jm:=λd P=>t d λf=>match f with
 | [.lst l]=>P (gX l)
 |_=>False
theorem LN{K:ac}{a:Addr}(h:G a=some (.lst f))(e:DvAll Z G f g):vP Z G (QR K a) (gX g):=by
 intro r s m j i;have k:=cz.of (K:=K) (j _ _ (m _ _ h));have l:=e.length;rw[show(gX g).length=g.length by unfold gX;simp]
 refine#[λn=>#[f,f[i],k,eu (by lia)],λn=>#[f,k,by lia],?_]
 rintro x u n ⟨t,y,rfl,o,rfl,p⟩;obtain⟨d,q,dv⟩:=e.K7 (p _ k);refine#[_,_, .new j o,by unfold gX;rw[List.getElem?_mapIdx,q];rfl,?_]
 exact .tup aw (.cons (.int _) (.cons ((dv.mono m).mono (aM (j.free o) _)) .nil))
theorem eY{k1}(j:Gl X "enumerate")(k:X.mg "enumerate"=none)(l:DA Z X [a] t)(m:starEach [a] X.env= [(false,eval a X.env)]:=by rfl):DI Z X (.Tuple g k1 i) (.Call (.Name "enumerate" p) [a] [] pos) (NU t):=by
 refine(MB j k l m).imp ?_;intro x H Q n;rfl';obtain⟨G,r,P,s,u,h,q⟩:=n;ac_rfl;refine#[G,r,_,s,u,h,λz d A v w f dv=>?_]
 split at d
 .obtain⟨_,rfl,a⟩:=dv.ofOne
  obtain⟨_,_,rfl,h,e⟩:=a.fz;exact#[_,rfl,#[_,f.sub _ _ h],q _ d _ v w f (LN h e)]
 .exact d.elim
def xy(src:List (Option Nat))(d:DN):DN:=src.map λo=>o.bind λi=>(d[i]?).bind id
theorem cJ.src{ρ:DN}(e:cJ Z G g ρ)(src:List (Option Nat)):cJ Z G (mO src g) (xy src ρ):=by
 refine#[by unfold mO xy;simp,λi d h=>?_]
 unfold xy at h;unfold mO;rw[cc] at h ⊢;cases k:src[i]? with
 |none=>rw[k] at h;cases h
 |some o=>
  rw[k] at h;cases o with
  |none=>cases h
  |some j=>
   have f:(ρ[j]?).bind id=some d:=Fk h;cases m:ρ[j]? with
   |none=>rw[m] at f;cases f
   |some z=>
    rw[m] at f;rfl';have n:z=some d:=f;subst n;obtain⟨v,p,dv⟩:=e.at_ j d m;ac_rfl;exact#[v,by show some ((g[j]?).bind id)=_;rw[p];rfl,dv]
def lcW(g:eS)(i:dM)(j:aW):List D->DN->List D->(DN->List D->Prop)->Prop
 | [],k,f,N=>N k f
 |x::l,k,f,N=>g x k λh=>i h λb=>if b=true then j h λd=>f.length<sizeLine/\lcW g i j l h (f++ [d]) N else lcW g i j l h f N
def Q9(f:jm)(g:eS)(h:dM)(i:aW)(src:List (Option Nat)):aW:=λd P=>f d λj=>lcW g h i j (xy src d) [] λ_ out=>P (.lst out)
def pX(g:eS)(h:dM)(i:jm)(j:eS)(k:dM)(l:aW):List D->DN->List D->(List D->Prop)->Prop
 | [],_,d,P=>P d
 |x::m,n,d,P=>g x n λf=>h f λb=>if b=true then i f λo=>lcW j k l o f d λp q=>pX g h i j k l m p q P else pX g h i j k l m f d P
def Qg(f:jm)(g:eS)(h:dM)(i:jm)(j:eS)(k:dM)(l:aW)(src:List (Option Nat)):aW:=λd P=>f d λm=>pX g h i j k l m (xy src d) [] λout=>P (.lst out)
def wk:dM:=λ_ P=>P true
def Ca(Z:DC)(X:Cx)(d:List Expr)(t:dM):Prop:=m8 X d (liftT Z t)
theorem m8.imp{d:List Expr}{t j:TT}(h:m8 X d t)(f:∀i H Q,j i H Q->t i H Q):m8 X d j:=λg s i H Q I q=>h g s i H Q I (f _ _ _ q)
theorem gk:Ca Z X [] wk:=by
 refine D3.imp λg H Q d=>?_;rfl';obtain⟨G,i,P,s,e,p,q⟩:=d;ac_rfl;exact q _ p G H (.refl s)
theorem KG(h:DT Z X c d):Ca Z X [c] d:=ML h
def CS(Z:DC)(f g:Hp)(h:Addr)(j:DN)(d:List D)(k:St)(H:Hp):Prop:=
 ∃(G:Hp)(i:List V),aN f G/\aN G H/\aN g H/\(∀b,g b≠none->f b=none->G b=none)/\G h=none/\H h=some (.lst i)/\DvAll Z G i d/\cJ Z G k j
theorem fh(s:aN H d){b:Addr}(h:H b≠none):d b≠none:=λz=>by
 cases e:H b with
 |none=>exact h e
 |some o=>rw[s b o e] at z;cases z
theorem nk{d:Type}{l:List d}{i:Nat}{x:d}(h:l[i]? =some x):l.drop i=x::l.drop (i+1):=by
 obtain⟨f,e⟩:=c9.mp h;rw[qc f,e]
theorem zu(hA:n f=none)(B:Hp)(it:vP Z B J p)(i:Nat)(M:DN)(k:List D)(X:St)(H:Hp)
  (c:CS Z m n f M k X H) (hG:∀G,aN m G->aN B G) (hi:i<p.length) (h:lcW g w A (p.drop i) M k N):
  J.go i H/\∀x C,J.yld i H x C->qA Z g x X C λq H4=>liftT Z w q H4 λb O=>
   if b=true then dQ Z A q O λv P=>∃l,P f=some (.lst l)/\l.length<sizeLine/\(∃r s,CS Z m n f r s q (upd P f (.lst (l++ [v])))/\lcW g w A (p.drop (i+1)) r s N)
   else ∃r s,CS Z m n f r s q O/\lcW g w A (p.drop (i+1)) r s N:=by
 rfl';obtain⟨R,l,S,s2,T,off,gA,U,Y,en⟩:=c;obtain⟨go,_,yld⟩:=it R H (hG _ S) s2 i;ac_rfl;refine#[go hi,λx C y=>?_];rfl';obtain⟨G3,d,E,hd,dv⟩:=yld x C hi y;rw[nk hd] at h;ac_rfl;refine#[G3,M,d,_,E.sub,en.mono E.gg,dv,h,λF I q L=>?_];refine#[G3,F,_,E.sub,L,I,λb hb G5 O u=>?_];have j:=E.trans u;have a:∀{G t:Hp},Ext R H G t->G f=none:=λx=>x.off f (by rw[U];exact λz=>nomatch z) gA
 have DP:∀{G t:Hp},Ext R H G t->∀b,n b≠none->m b=none->G b=none:=λx b I h2=>x.off b (fh T I) (off b I h2);cases b with
 |false=>
  refine bY #[F,k,#[G5,l,S.trans j.gg,j.sub,T.trans j.hh,DP j,a j,j.hh _ _ U,Y.mono j.gg,L.mono u.gg],?_];simpa using hb
 |true=>
  refine bF #[G5,F,_,u.sub,L.mono u.gg,(by simpa using hb),λd' j9 v G6 P x6 Rp=>?_]
  have x:=j.trans x6;refine#[l,x.hh _ _ U,by rw[Y.length];exact j9.1,F,_,#[G6,l++ [v],S.trans x.gg,λb o e=>?_,λb o e=>?_,DP x,a x,aw,(Y.mono x.gg).snoc Rp,(L.mono u.gg).mono x6.gg],j9.2]
  .rw[ay (aV e (a x))];exact x.sub _ _ e
  .rw[ay (aV e hA)];exact(T.trans x.hh) _ _ e
theorem CS.done(c:CS Z i h d p f q j)(g:Ext G H i h)(r:h d=none):∃k,Ext G H k j/\Dv Z k (.ref d) (.lst f):=by
 rfl';obtain⟨u,v,w,x,y,off,l,A,B,F⟩:=c;ac_rfl;refine#[upd u d (.lst v),#[(g.gg.trans w).trans (aM l _),λb o e=>?_,g.hh.trans y,λb m C=>?_], .lst aw (B.mono (aM l _))]
 .by_cases z:b=d
  .subst z;rw[aw] at e;cases e;exact A
  .rw[ay z] at e;exact x _ _ e
 .have n:=fh g.hh m
  rw[ay (λz=>n (by rw[z];exact r))]
  exact off b n (g.off b m C)
theorem CS.begin(s:aN d f)(i:f g=none)(l:cJ Z d k j):CS Z d f g j [] k (upd f g (.lst [])):=
 #[d,[], .refl _,λb o e=>by rw[ay (aV e (s.free i))];exact s _ _ e,aM i _,λ_ _ h=>h,s.free i,aw, .nil,l]
variable {tg iter elt:Expr} {ifs:List Expr} {scope:Scope} {NC:List Str} {src:List (Option Nat)} {wi:jm} {g:eS} {tt:dM}
theorem Hl:∀p H Q,dQ Z (Q9 wi g tt te src) p H Q->M9 (t9 Z wi) (qA Z g) (liftT Z tt) (dQ Z te) src p H Q:=by
 intro p H Q E;rfl';obtain⟨G,F,P,s,z,h,q⟩:=E;ac_rfl;refine#[G,F,_,s,z,h,λf I J A L r B M u=>?_];refine#[λi m v k=>m=f.length-i/\i<=f.length/\∃o d,CS Z A L M o d v k/\lcW g tt te (f.drop i) o d λ_ out=>P (.lst out),#[_,rfl,fm _,_,[], .begin r.sub u ((z.mono r.gg).src src),I],?_];intro i m v k N;rfl';obtain⟨rfl,Y,o,d,c,w⟩:=N;ac_rfl
 by_cases C:i<f.length
 .obtain⟨O,l⟩:=zu u A B i o d v k c (λ_ s=>s) C w
  exact .inr #[O,_,λa b n=>#[f.length-(i+1),by lia,rfl,C,n],l]
 .have e:f.drop i= []:=xZ (by lia)
  rfl';rw[e] at w;obtain⟨R,x,dv⟩:=c.done r u;obtain⟨S,t,T,U,_⟩:=c;ac_rfl;exact .inl #[(B S k T U i).2.1 (by lia),q _ w _ R k x dv]
theorem Ap(f:X.calm=true)(c:ck X scope)(h:dz scope X.N src NC)(i:DI Z X tg iter wi)
  (j:∀d s H,DG Z (cW X scope NC d s H) tg g) (k:∀d s H,Ca Z (cW X scope NC d s H) ifs tt) (l:∀d s H,DE Z (cW X scope NC d s H) elt te)
  (m:∀x,foldedSetIterable iter X.env x=pure x:=by intro _;rfl):DE Z X (.ListComp elt [#[tg,iter,ifs,0]] scope pos) (Q9 wi g tt te src):=(Mw f c h i j k l m).imp Hl
variable {t0 i0 t1 i1:Expr} {f0 f1:List Expr} {gG:jm} {g1:eS} {fi:dM}
theorem LZ:∀σ H Q,dQ Z (Qg wi g tt gG g1 fi te src) σ H Q->QI (t9 Z wi) (qA Z g) (liftT Z tt) (t9 Z gG) (qA Z g1) (liftT Z fi) (dQ Z te) src σ H Q:=by
 intro σ H Q aI;rfl';obtain⟨G,ρ,P,s,en,h,q⟩:=aI;ac_rfl;refine#[G,ρ,_,s,en,h,λp hd J F u x1 it l hA=>?_];refine#[λi m fA I=>m=p.length-i/\i<=p.length/\∃w j,CS Z F u l w j fA I/\pX g tt gG g1 fi te (p.drop i) w j λout=>P (.lst out),#[_,rfl,fm _,_,[], .begin x1.sub hA ((en.mono x1.gg).src src),hd],?_];intro i m fA I iG;rfl';obtain⟨rfl,hi,w,j,c,hl⟩:=iG;ac_rfl
 by_cases bI:i<p.length
 .have c0:=c
  rfl';obtain⟨S,r,T,s2,s3,off,gA,qt,bq,RB⟩:=c;obtain⟨go,_,yld⟩:=it S I T s2 i;ac_rfl;refine .inr #[go bI,λU L=>∃Y a,CS Z F u l Y a U L/\pX g tt gG g1 fi te (p.drop (i+1)) Y a λout=>P (.lst out),λU L n=>#[p.length-(i+1),by lia,rfl,bI,n],λx H3 y=>?_]
  rfl';obtain⟨G3,d,x3,AH,dv⟩:=yld x H3 bI y;rw[nk AH] at hl;ac_rfl;refine#[G3,w,d,_,x3.sub,RB.mono x3.gg,dv,hl,λt M fK vg=>?_];refine#[G3,t,_,x3.sub,vg,M,λb X G5 H5 x5=>?_];have A:=x3.trans x5;have zD:∀{G N:Hp},Ext S I G N->G l=none:=λx=>x.off l (by rw[qt];exact λz=>nomatch z) gA
  have DP:∀{G N:Hp},Ext S I G N->∀b,u b≠none->F b=none->G b=none:=λx b M h2=>x.off b (fh s3 M) (off b M h2);cases b with
  |false=>exact bY #[t,j,#[G5,r,T.trans A.gg,A.sub,s3.trans A.hh,DP A,zD A,A.hh _ _ qt,bq.mono A.gg,vg.mono x5.gg],by simpa using X]
  |true=>
   refine bF #[G5,t,_,x5.sub,vg.mono x5.gg,(by simpa using X),λO Zj J1 G6 H6 x6 LM=>?_]
   have x:=A.trans x6;have c6:CS Z G6 H6 l t j fK H6->True:=λ_=>trivial
   refine#[λk m tD B=>m=O.length-k/\k<=O.length/\∃(Nm:DN)(Ck:List D),(∃(G:Hp)(r:List V),aN G6 G/\aN G B/\aN u B/\(∀b,u b≠none->F b=none->G b=none)/\G l=none/\B l=some (.lst r)/\DvAll Z G r Ck/\cJ Z G tD Nm)/\
    lcW g1 fi te (O.drop k) Nm Ck λw vT=>pX g tt gG g1 fi te (p.drop (i+1)) w vT λout=>P (.lst out),
    #[_,rfl,fm _,t,j,#[G6,r, .refl _,x.sub,s3.trans x.hh,DP x,zD x,x.hh _ _ qt,bq.mono x.gg,(vg.mono x5.gg).mono x6.gg],Zj],?_]
   intro k m tD B iG;rfl';obtain⟨rfl,hk,Nm,Ck,⟨G7,P1,a1,a2,a3,a4,a5,a6,a7,a8⟩,Ol⟩:=iG;ac_rfl;have YK:aN F G6:=T.trans x.gg
   by_cases Lv:k<O.length
   .obtain⟨YM,_,Xl⟩:=LM G7 B a1 a2 k
    refine .inr #[YM Lv,λU L=>∃(Y:DN)(a:List D),(∃(G:Hp)(r:List V),aN G6 G/\aN G L/\aN u L/\(∀b,u b≠none->F b=none->G b=none)/\G l=none/\L l=some (.lst r)/\DvAll Z G r a/\cJ Z G U Y)/\
     lcW g1 fi te (O.drop (k+1)) Y a λw vT=>pX g tt gG g1 fi te (p.drop (i+1)) w vT λout=>P (.lst out),λU L n=>#[O.length-(k+1),by lia,rfl,Lv,n],λy H8 hy=>?_]
    rfl';obtain⟨G8,d8,x8,Za,Rq⟩:=Xl y H8 Lv hy;rw[nk Za] at Ol;ac_rfl;refine#[G8,Nm,d8,_,x8.sub,a8.mono x8.gg,Rq,Ol,λP5 h9 σ9 N3=>?_];refine#[G8,P5,_,x8.sub,N3,h9,λb X Nq JL B0=>?_];have C:=x8.trans B0;have oA:∀{G N:Hp},Ext G7 B G N->G l=none:=λx=>x.off l (by rw[a6];exact λz=>nomatch z) a5
    have oB:∀{G N:Hp},Ext G7 B G N->∀b,u b≠none->F b=none->G b=none:=λx b M h2=>x.off b (fh a3 M) (a4 b M h2);cases b with
    |false=>exact bY #[P5,Ck,#[Nq,P1,a1.trans C.gg,C.sub,a3.trans C.hh,oB C,oA C,C.hh _ _ a6,a7.mono C.gg,N3.mono B0.gg],by simpa using X]
    |true=>
     refine bF #[Nq,P5,_,B0.sub,N3.mono B0.gg,(by simpa using X),λd' j9 v QO Nr JG KI=>?_]
     have E:=C.trans JG;refine#[P1,E.hh _ _ a6,by rw[a7.length];exact j9.1,P5,_,#[QO,P1++ [v],a1.trans E.gg,λb o e=>?_,λb o e=>?_,oB E,oA E,aw,(a7.mono E.gg).snoc KI,(N3.mono B0.gg).mono JG.gg],j9.2]
     .rw[ay (aV e (oA E))];exact E.sub _ _ e
     .rw[ay (aV e hA)];exact(a3.trans E.hh) _ _ e
   .have e:O.drop k= []:=xZ (by lia)
    rw[e] at Ol;exact .inl #[(LM G7 B a1 a2 k).2.1 (by lia),Nm,Ck,#[G7,P1,YK.trans a1,a2,a3,a4,a5,a6,a7,a8],Ol]
 .have e:p.drop i= []:=xZ (by lia)
  rfl';rw[e] at hl;obtain⟨G',x,dv⟩:=c.done x1 hA;obtain⟨S,r,T,s2,_⟩:=c;ac_rfl;exact .inl #[(it S I T s2 i).2.1 (by lia),q _ hl _ G' I x dv]
theorem NQ(f:X.calm=true)(c:ck X scope)(h:dz scope X.N src NC)(i:DI Z X t0 i0 wi)
  (j:∀d s H,DG Z (cW X scope NC d s H) t0 g) (k:∀d s H,Ca Z (cW X scope NC d s H) f0 tt) (l:∀d s H,DI Z (cW X scope NC d s H) t1 i1 gG) (m:∀d s H,DG Z (cW X scope NC d s H) t1 g1)
  (n:∀d s H,Ca Z (cW X scope NC d s H) f1 fi) (o:∀d s H,DE Z (cW X scope NC d s H) elt te)
  (p:∀x,foldedSetIterable i0 X.env x=pure x:=by intro _;rfl) (q:∀env x,foldedSetIterable i1 env x=pure x:=by intro _ _;rfl):
  DE Z X (.ListComp elt [#[t0,i0,f0,0],#[t1,i1,f1,0]] scope pos) (Qg wi g tt gG g1 fi te src):=(O9 f c h i j k l m n o p q).imp LZ
end
inductive cZ (R:V->D->List Addr->Prop):List V->List D->List Addr->Prop
 |nil:cZ R [] [] []
 |cons {v:V} {vs:List V} {d:D} {ds:List D} {f fs:List Addr}:R v d f->cZ R vs ds fs->cZ R (v::vs) (d::ds) (f++fs)
def V9:D->Bool
 | .lst _=>true
 |_=>false
def Own(Z:DC)(G H:Hp):Nat->V->D->List Addr->Prop
 |0,v,d,c=>Dv Z G v d/\c= []
 |n+1,v,d,c=>(∃a e g i,v= .ref a/\d= .lst g/\H a=some (.lst e)/\c=a::i/\cZ (Own Z G H n) e g i)\/(1<=n/\∃a e g,v= .ref a/\d= .tup g/\G a=some (.tup e)/\cZ (λv d f=>(V9 d=true/\Own Z G H n v d f)\/(V9 d=false/\Dv Z G v d/\f= [])) e g c)\/(∃a h,v= .ref a/\H a=some (.ext h)/\c= [a]/\((n=98/\∃b j,d= .set b j/\h=P8 b a j)\/(n=97/\∃k,d= .x k/\HR G a h k)))
theorem Own.lst{Z:DC}{G H:Hp}{n:Nat}{v:V}{c:List D}{f:List Addr}(o:Own Z G H (n+1) v (.lst c) f):∃a d g h,v= .ref a/\D.lst c= .lst g/\H a=some (.lst d)/\f=a::h/\cZ (Own Z G H n) d g h:=by
 rcases o with o| ⟨_,a,d,c,_,e,_⟩ | ⟨a,i,_,_,_,⟨_,b,j,e,_⟩ | ⟨_,k,e,_⟩⟩
 .exact o
 .cases e
 .cases e
 .cases e
theorem Own.xA(o:Own Z G H 98 v (.x k) d):∃a c,v= .ref a/\H a=some (.ext c)/\d= [a]/\HR G a c k:=by
 rcases o with ⟨_,_,_,_,_,e,_⟩ | ⟨_,a,j,l,_,e,_⟩ | ⟨a,c,f,g,h,⟨_,b,m,e,n⟩ | ⟨_,k,e,i⟩⟩
 .cases e
 .cases e
 .cases e
 .cases e;exact#[a,c,f,g,h,i]
theorem Own.one{d:D}(o:Own Z G H 1 v d b):∃a c e f,v= .ref a/\d= .lst e/\H a=some (.lst c)/\b=a::f/\cZ (Own Z G H 0) c e f:=by
 rcases o with o| ⟨z,_⟩ | ⟨_,_,_,_,_,⟨z,_⟩ | ⟨z,_⟩⟩
 .exact o
 .exact absurd z (by decide)
 .exact absurd z (by decide)
 .exact absurd z (by decide)
theorem cZ.imp{i:List V}(o:cZ R i j c)(h:∀v d f,(∀b∈f,b∈c)->R v d f->g v d f):cZ g i j c:=by
 induction o with
 |nil=>exact .nil
 |cons a _ k=>exact .cons (h _ _ _ (λb e=>ig _ e) a) (k λv d f l r=>h v d f (λb e=>dE _ (l b e)) r)
theorem cZ.length{a:List V}(o:cZ R a b c):a.length=b.length:=by
 induction o with
 |nil=>rfl
 |cons _ _ d=>exact IR (·+1) d
section
variable {Z:DC} {G G' H H':Hp}
theorem Own.keep:∀{v:V}{d:D}{g:List Addr},Own Z G H n v d g->aN G G'->(∀b∈g,H' b=H b)->Own Z G' H' n v d g:=by
 induction n with
 |zero=>exact λh s _=>#[h.1.mono s,h.2]
 |succ n u=>
  intro v d g h s k
  rcases h with ⟨a,j,l,w,c,m,e,i,o⟩ | ⟨p,a,j,l,c,m,e,o⟩ | ⟨a,x,c,e,i,y⟩
  .subst i
   exact .inl #[a,j,l,w,c,m,by rw[k a (cP ..)];exact e,rfl,o.imp λv d f t r=>u r s λb q=>k b (dh _ (t b q))]
  .exact .inr (.inl #[p,a,j,l,c,m,s _ _ e,o.imp λv d f t r=>r.imp (λr=>#[r.1,u r.2 s λb q=>k b (t b q)]) λr=>#[r.1,r.2.1.mono s,r.2.2]])
  .exact .inr (.inr #[a,x,c,by rw[k a (by rw[i];exact cP ..)];exact e,i,y.imp id λ#[p,k,z,A]=>#[p,k,z,A.mono s]])
theorem cZ.Qk(o:cZ R e g h)(k:∀v d f,(∀b∈f,b∈h)->R v d f->Dv Z G' v d):DvAll Z G' e g:=by
 induction o with
 |nil=>exact .nil
 |cons a _ i=>exact .cons (k _ _ _ (λb c=>ig _ c) a) (i λv d f j r=>k v d f (λb c=>dE _ (j b c)) r)
theorem Own.Qj(o:HO->Prop)(y:∀j,o (.lst j))(t:∀u,o (.ext u)):∀{v:V}{d:D}{l:List Addr},Own Z G H n v d l->aN G G'->(∀b∈l,∀x,o x->H b=some x->G' b=some x)->Dv Z G' v d:=by
 induction n with
 |zero=>exact λh s _=>h.1.mono s
 |succ n w=>
  intro v d l h s k
  rcases h with ⟨a,j,z,B,i,c,g,e,m⟩ | ⟨_,a,j,z,i,c,g,m⟩ | ⟨a,u,i,g,e,A⟩
  .subst e i c
   exact .lst (k a (cP ..) _ (y _) g) (m.Qk λv d f e r=>w r s λb p=>k b (dh _ (e b p)))
  .subst i c
   exact .tup (s _ _ g) (m.Qk λv d f e r=>r.elim (λr=>w r.2 s λb p=>k b (e b p)) λr=>r.2.1.mono s)
  .subst i e
   rcases A with ⟨_,b,C,c,q⟩ | ⟨_,E,c,q⟩
   .subst c q
    exact .set (k a (cP ..) _ (t _) g)
   .subst c
    exact .x (k a (cP ..) _ (t _) g) (q.mono s)
theorem Own.dv{v:V}{d:D}{a:List Addr}(h:Own Z G H n v d a)(s:aN G G')(k:∀b∈a,∀o,H b=some o->G' b=some o):Dv Z G' v d:=h.Qj (λ_=>True) (λ_=>trivial) (λ_=>trivial) s λb c x _ e=>k b c x e
theorem cZ.flat{d:List Addr}(o:cZ (Own Z G H 0) b c d):DvAll Z G b c/\d= []:=by
 induction o with
 |nil=>exact#[.nil,rfl]
 |cons a _ e=>exact#[.cons a.1 e.1,by rw[a.2,e.2];rfl]
theorem DvAll.own{d:List D}(h:DvAll Z G c d):cZ (Own Z G H 0) c d []:=h.ind (p:=λc d=>cZ (Own Z G H 0) c d []) .nil λa _ b=> .cons (f:= []) (fs:= []) #[a,rfl] b
theorem Dv.flat{v:V}{d:D}(h:Dv Z G v d)(f:eH d=true):Dv Z G' v d:=by
 cases h with
 |bu=>exact .bu
 |bl b=>exact .bl b
 |int i=>exact .int i
 |str x k=>exact .str x k
 |_=>cases f
end
mutual
def n4:D->Bool
 | .bu=>true
 | .bl _=>true
 | .int _=>true
 | .str _=>true
 | .tup l=>Hn l
 |_=>false
def Hn:List D->Bool
 | []=>true
 |d::ds=>n4 d&&Hn ds
end
theorem Dv.n4(k:∀b g,G b=some (.tup g)->e b=some (.tup g))(h:Dv Z G v d):L2.n4 d=true->Dv Z e v d:=by
 have c:∀{p:Prop}{d:D},L2.n4 d=false->L2.n4 d=true->p:=λa b=>by rw[a] at b;cases b
 refine Dv.rec (motive_1:=λv d _=>L2.n4 d=true->Dv Z e v d) (motive_2:=λl j _=>Hn j=true->DvAll Z e l j) (λ_=> .bu) (λb _=> .bl b) (λi _=> .int i) (λx h _=> .str x h) (λ_ _ _=>c (by rw[L2.n4]<;>simp)) (λh _ m f=> .tup (k _ _ h) (m (by rw[L2.n4] at f;exact f))) (λ_=>c (by rw[L2.n4]<;>simp)) (λ_=>c (by rw[L2.n4]<;>simp)) (λ_ _=>c (by rw[L2.n4]<;>simp)) (λ_ _ _ _ _ _=>c (by rw[L2.n4]<;>simp)) (λ_=>c (by rw[L2.n4]<;>simp)) (λ_ _=>c (by rw[L2.n4]<;>simp)) (λ_ _ _ _=>c (by rw[L2.n4]<;>simp)) (λ_=> .nil) (λ_ _ n o f=>?_) h
 rw[Hn,u5] at f;exact .cons (n f.1) (o f.2)
def Mr:HO->Bool
 | .lst _=>true
 | .ext _=>true
 |_=>false
theorem Own.Yw(h:Own Z G H n v d c)(s:aN G a)(k:∀b∈c,∀o,Mr o=true->H b=some o->a b=some o):Dv Z a v d:=h.Qj (λo=>Mr o=true) (λ_=>rfl) (λ_=>rfl) s k
structure Bs where
 G₀:Hp
 H₀:Hp
 Gf:Hp
structure SIx (Z:DC) (B:Bs) (md:List Nat) (ρ:DN) (σ:St) (H G:Hp) (fp:Nat->List Addr):Prop where
 ex:Ext B.G₀ B.H₀ G H
 fl:aN B.Gf G
 len:ρ.length=σ.length
 at_:∀(i:Nat)(d:D),ρ[i]? =some (some d)->∃v,σ[i]? =some (some v)/\Own Z G H (md.getD i 0) v d (fp i)
 nd:∀i,(fp i).Nodup
 ap:∀i j b,i≠j->b∈fp i->b∉fp j
 nw:∀i b,b∈fp i->B.H₀ b=none/\H b≠none/\G b=none
def SI(Z:DC)(B:Bs)(a:List Nat)(b:DN)(c:St)(H:Hp):Prop:=∃G d,SIx Z B a b c H G d
def cH:List Nat->DN->DN
 |_,[]=> []
 | [],o::a=>o::a
 |0::b,o::a=>o::cH b a
 | (_+1)::b,_::a=>none::cH b a
theorem qE:∀(a:List Nat)(b:DN),(cH a b).length=b.length
 |a,[]=>by cases a<;>rfl
 | [],o::b=>rfl
 |0::a,o::b=>by rw[cH,dG,qE a b,dG]
 | (_+1)::a,_::b=>by rw[cH,dG,qE a b,dG]
theorem uh:∀(c:List Nat)(e:DN)(i:Nat),(cH c e)[i]? =some (some d)->c.getD i 0=0/\e[i]? =some (some d)
 |c,[],i,h=>by cases c<;>simp[cH] at h
 | [],o::e,i,h=>#[by simp,h]
 |0::c,o::e,0,h=>#[rfl,by simpa [cH] using h]
 |0::c,o::e,i+1,h=>by
  rw[cH,uY] at h;obtain⟨a,b⟩:=uh c e i h;exact#[by rw[List.getD_cons_succ];exact a,by rw[uY];exact b]
 | (_+1)::c,_::e,0,h=>by simp[cH] at h
 | (_+1)::c,_::e,i+1,h=>by
  rw[cH,uY] at h;obtain⟨a,b⟩:=uh c e i h;exact#[by rw[List.getD_cons_succ];exact a,by rw[uY];exact b]
def Gs(b:List Nat):Bool->DN->DN
 |true,a=>a
 |false,a=>cH b a
def rD:Bool->D->Prop
 |true,d=>n4 d=true
 |false,_=>True
section
variable {Z:DC} {B:Bs} {md:List Nat} {ρ:DN} {σ:St} {H G:Hp} {fp:Nat->List Addr}
theorem F4(h:(cH md ρ)[i]? =some (some d)):md.getD i 0=0/\ρ[i]? =some (some d):=uh md ρ i h
theorem SIx.wy(S:SIx Z B md ρ σ H G fp):cJ Z G σ (cH md ρ):=by
 refine#[by rw[qE];exact S.len,λi d h=>?_]
 obtain⟨z,h⟩:=F4 h;obtain⟨v,a,o⟩:=S.at_ i d h;rw[z] at o;exact#[v,a,o.1]
theorem SIx.Hd(S:SIx Z B md ρ σ H G fp):cJ Z H σ ρ:=by
 refine#[S.len,λi d h=>?_];obtain⟨v,a,o⟩:=S.at_ i d h;exact#[v,a,o.dv S.ex.sub λb _ u e=>e]
theorem SIx.grow{c f:Hp}(S:SIx Z B md ρ σ H G fp)(x:Ext G H c f):SIx Z B md ρ σ f c fp where
 ex:=S.ex.trans x
 fl:=S.fl.trans x.gg
 len:=S.len
 at_:=λi d h=>by
  obtain⟨v,j,o⟩:=S.at_ i d h;refine#[v,j,o.keep x.gg λb a=>?_];cases e:H b with
  |none=>exact absurd e (S.nw i b a).2.1
  |some u=>exact x.hh _ _ e
 nd:=S.nd
 ap:=S.ap
 nw:=λi b a=>let #[k,g,l]:=S.nw i b a;#[k,fh x.hh g,x.off b g l]
theorem Ext.all(s:aN G H)(x:Ext H H b a):Ext G H G a:=#[.refl _,s.trans x.hh,x.hh,λ_ _ h=>h]
open Classical in
noncomputable def jb(G H:Hp)(fp:Nat->List Addr):Hp:=λb=>if ∃i,b∈fp i then(match H b with|some (.lst xs)=>some (.lst xs) |some (.ext φ)=>some (.ext φ) |_=>none) else G b
open Classical in
noncomputable def t5(G:Hp)(fp:Nat->List Addr):Hp:=λb=>if ∃i,b∈fp i then none else G b
theorem JE(i:Nat)(h:b∈fp i)(a:Mr o=true)(e:H b=some o):jb G H fp b=some o:=by
 unfold jb;rw[tz #[i,h],e];cases o<;>first|rfl|cases a
theorem qM(h:¬∃i,b∈fp i):jb G H fp b=G b:=mo h
theorem SIx.Ql(S:SIx Z B md ρ σ H G fp):aN G (jb G H fp)/\aN (jb G H fp) H/\cJ Z (jb G H fp) σ ρ:=by
 have c:aN G (jb G H fp):=λb o e=>by
  by_cases h:∃i,b∈fp i
  .obtain⟨i,f⟩:=h
   rw[(S.nw i b f).2.2] at e;cases e
  .rw[qM h];exact e
 refine#[c,λb o e=>?_,S.len,λi d h=>?_]
 .by_cases h:∃i,b∈fp i
  .unfold jb at e
   rw[tz h] at e
   split at e
   .next l a=>rw[a];exact e
   .next m a=>rw[a];exact e
   .cases e
  .rw[qM h] at e;exact S.ex.sub _ _ e
 .obtain⟨v,g,o⟩:=S.at_ i d h
  exact#[v,g,o.Yw c λb j u k a=>JE i j k a]
theorem SIx.Wz(S:SIx Z B md ρ σ H G fp)(x:Ext (jb G H fp) H a g):Ext G H (t5 a fp) g/\∀b d,a b=some (.tup d)->t5 a fp b=some (.tup d):=by
 obtain⟨j,l,_⟩:=S.Ql;refine#[#[λb o e=>?_,λb o e=>?_,x.hh,λb f k=>?_],λb d e=>?_]
 .have h:¬∃i,b∈fp i:=by
   rintro⟨i,c⟩;rw[(S.nw i b c).2.2] at e;cases e
  unfold t5;rw[mo h];exact x.gg _ _ (j _ _ e)
 .unfold t5 at e
  split at e
  .cases e
  .exact x.sub _ _ e
 .unfold t5
  split
  .rfl
  .next h=>exact x.off b f (by rw[qM h];exact k)
 .have h:¬∃i,b∈fp i:=by
   rintro⟨i,c⟩;have f:=(S.nw i b c).2.1;cases hw:jb G H fp b with
   |none=>rw[x.off b f hw] at e;cases e
   |some o=>
    have:=x.gg _ _ hw
    rw[e] at this;cases Fk this;unfold jb at hw;rw[tz #[i,c]] at hw
    split at hw<;>cases hw
  unfold t5;rw[mo h];exact e
theorem SIx.ev(S:SIx Z B md ρ σ H G fp)(m:Bool)(h:t (Gs md m ρ) P)
  (f:∀d,P d->rD m d/\∀v b a,SIx Z B md ρ σ a b fp->Ext G H b a->Dv Z b v d->Q v a):dQ Z t σ H Q:=by
 cases m with
 |false=>exact#[G,_,P,S.ex.sub,S.wy,h,λd c v b a x dv=>(f d c).2 v b a (S.grow x) x dv]
 |true=>
  obtain⟨j,i,e⟩:=S.Ql;refine#[jb G H fp,_,P,i,e,h,λd c v b a x dv=>?_];obtain⟨g,k⟩:=S.Wz x;exact(f d c).2 v _ a (S.grow g) g (dv.n4 k (f d c).1)
theorem SIx.U6(S:SIx Z B md ρ σ H G fp)(h:t ρ P)(c:∀b,P b->∀a,SIx Z B md ρ σ a G fp->Q b a):liftT Z t σ H Q:=
 #[H,ρ,P, .refl _,S.Hd,h,λb d e a x=>c b d a (S.grow (Ext.all S.ex.sub x))]
theorem SIx.mN(S:SIx Z B md ρ σ H G fp)(l:md.getD i 0=0)(dv:Dv Z G v d):SIx Z B md (ρ.set i (some d)) (σ.set i (some v)) H G (λj=>if j=i then[] else fp j) where
 ex:=S.ex
 fl:=S.fl
 len:=by rw[dm,dm];exact S.len
 at_:=λj c h=>by
  by_cases z:i=j
  .subst z
   by_cases a:i<ρ.length
   .rw[ji a] at h
    cases Fk h;exact#[v,ji (by rw[<-S.len];exact a),by rw[l,tz rfl];exact#[dv,rfl]]
   .rw[xX (iY a),j0 (iY a)] at h;cases h
  .rw[jj z] at h ⊢
   rw[mo (Ne.symm z)];exact S.at_ j c h
 nd:=λj=>by split;exact f7;exact S.nd j
 ap:=λj k b ne e f=>by
  split at e
  .cases e
  .split at f
   .cases f
   .exact S.ap j k b ne e f
 nw:=λj b g=>by
  split at g
  .cases g
  .exact S.nw j b g
theorem SIx.MX{f:List Addr}(S:SIx Z B md ρ σ H G fp)(m:md.getD i 0=n)(o:Own Z G H n v d f)(nd:f.Nodup)(nw:∀b∈f,B.H₀ b=none/\H b≠none/\G b=none)(ap:∀b∈f,∀j,j≠i->b∉fp j):
  SIx Z B md (ρ.set i (some d)) (σ.set i (some v)) H G (λj=>if j=i then f else fp j) where
 ex:=S.ex
 fl:=S.fl
 len:=by rw[dm,dm];exact S.len
 at_:=λj c h=>by
  by_cases z:i=j
  .subst z
   by_cases e:i<ρ.length
   .rw[ji e] at h
    cases Fk h;exact#[v,ji (by rw[<-S.len];exact e),by rw[m,tz rfl];exact o]
   .rw[xX (iY e),j0 (iY e)] at h;cases h
  .rw[jj z] at h ⊢
   rw[mo (Ne.symm z)];exact S.at_ j c h
 nd:=λj=>by split;exact nd;exact S.nd j
 ap:=λj k b ne g a=>by
  split at g
  .next z=>
   rw[mo (λw=>ne (z.trans w.symm))] at a;exact ap b g k (λw=>ne (z.trans w.symm)) a
  .next z=>
   split at a
   .exact ap b a j z g
   .exact S.ap j k b ne g a
 nw:=λj b l=>by
  split at l
  .exact nw b l
  .exact S.nw j b l
noncomputable def plus(G H:Hp)(F:Addr->Prop):Hp:=λb=>open Classical in if F b then H b else G b
theorem lu(h:F b):plus G H F b=H b:=by unfold plus;rw[tz h]
theorem iE(h:¬F b):plus G H F b=G b:=by unfold plus;rw[mo h]
theorem jy(s:aN G H):aN (plus G H F) H:=λb o e=>by
 by_cases h:F b
 .rw[lu h] at e;exact e
 .rw[iE h] at e;exact s _ _ e
theorem fq(s:aN G H):aN G (plus G H F):=λb o e=>by
 by_cases h:F b
 .rw[lu h];exact s _ _ e
 .rw[iE h];exact e
theorem SIx.YC(S:SIx Z B md ρ σ H G fp)(h:t ρ P)(g:∀d,P d->∀v a c,Ext B.G₀ B.H₀ a c->Dv Z a v d->Q v c):dQ Z t σ H Q:=by
 let F:Addr->Prop:=λb=>∃i,b∈fp i
 have s:=S.ex.sub
 have j:Ext B.G₀ B.H₀ (plus G H F) H:=#[S.ex.gg.trans (fq s),jy s,S.ex.hh,λb f k=>by
  rw[iE (λ#[i,l]=>f (S.nw i b l).1)];exact S.ex.off b f k]
 refine#[plus G H F,ρ,P,jy s,#[S.len,λi d h=>?_],h,λd m v a c x dv=>g d m v a c (j.trans x) dv];obtain⟨v,n,o⟩:=S.at_ i d h;exact#[v,n,o.dv (fq s) λb f u e=>by rw[lu #[i,f]];exact e]
end
structure dq where
 nx:DN->Prop
 rt:D->Prop
 bk:DN->Prop:=λ_=>False
 ct:DN->Prop:=λ_=>False
 xc:DN->D->Prop:=λ_ _=>False
abbrev cx:=dq->DN->Prop
structure Meets (Z:DC) (X:Cx) (B:Bs) (md:List Nat) (rn:Nat) (E:dq) (Dn:Ends):Prop where
 nx:∀ρ,E.nx ρ->∀σ H,SI Z B md ρ σ H->Dn.nx σ H
 rt:∀d,E.rt d->∀v f G' H',Ext B.G₀ B.H₀ G' H'->Own Z G' H' rn v d f->f.Nodup->(∀b∈f,B.H₀ b=none/\H' b≠none/\G' b=none)->Dn.rt v H'
 bk:∀ρ,E.bk ρ->∀σ H,SI Z B md ρ σ H->Dn.bk σ H
 ct:∀ρ,E.ct ρ->∀σ H,SI Z B md ρ σ H->Dn.ct σ H
 xc:∀ρ d,E.xc ρ d->∀σ H G fp a,SIx Z B md ρ σ H G fp->Dv Z G (.ref a) d->Cj X σ H a
def lP(Z:DC)(X:Cx)(a:List Nat)(c:Nat)(t:cx):TS:=λd e H=>∃(B:Bs)(b:DN)(E:dq),SI Z B a b e H/\t E b/\Meets Z X B a c E d
def DSt(Z:DC)(X:Cx)(a:List Nat)(b:Nat)(st:Stmt)(t:cx):Prop:=PS X st (lP Z X a b t)
def m6(Z:DC)(X:Cx)(a:List Nat)(b:Nat)(c:List Stmt)(t:cx):Prop:=j6 X c (lP Z X a b t)
theorem PS.imp{X:Cx}{st:Stmt}{t c:TS}(h:PS X st t)(f:∀D b H,c D b H->t D b H):PS X st c:=λa s b H D I q=>h a s b H D I (f _ _ _ q)
theorem j6.imp{X:Cx}{st:List Stmt}{t c:TS}(h:j6 X st t)(f:∀D b H,c D b H->t D b H):j6 X st c:=λa s b H D I q=>h a s b H D I (f _ _ _ q)
section
variable {Z:DC} {X:Cx} {md:List Nat} {rn:Nat} {st:Stmt} {Ek:List Stmt} {t u:cx} {e:Expr} {te:aW} {pos:Pos}
def E5:cx:=λE a=>E.nx a
def GO(t u:cx):cx:=λE a=>t {E with nx:=u E} a
theorem aS:m6 Z X md rn [] E5:=by
 refine sD.imp λD b H a=>?_;obtain⟨B,c,E,S,h,M⟩:=a;exact M.nx _ h _ _ S
theorem ao(a:DSt Z X md rn st t)(b:m6 Z X md rn Ek u):m6 Z X md rn (st::Ek) (GO t u):=by
 refine(bS a b).imp λD k H c=>?_;rfl';obtain⟨B,f,E,S,h,M⟩:=c;ac_rfl;exact#[B,f,_,S,h,#[λg i m n j=>#[B,g,E,j,i,M],M.rt,M.bk,M.ct,M.xc]]
theorem au(a:DSt Z X md rn st t):m6 Z X md rn [st] t:=jS a
theorem kY:DSt Z X md rn st (λ_ _=>False):=by
 refine Jn.imp λD b H a=>?_;obtain⟨B,c,E,S,h,M⟩:=a;exact h
def UR(a:aW):cx:=λE b=>a b E.rt
theorem ba(a:DE Z X e te):DSt Z X md 0 (.Return (some e) pos) (UR te):=by
 refine(sC a).imp λD l H c=>?_;rfl';obtain⟨B,n,E,⟨G,o,S⟩,h,M⟩:=c;ac_rfl;exact S.YC h λd g v i j x dv=>M.rt d g v [] i j x #[dv,rfl] f7 (λb k=>by cases k)
def Rh(i:Nat):cx:=λE a=>∃d,a[i]? =some (some d)/\E.rt d
theorem KC(i:Nat)(f:md.getD i 0=rn:=by rfl)(g:X.N[i]? =some x:=by rfl)(a:mW X.env.scope x:=by subst_eqs)(b:(x==("__debug__":Str))=false:=by decide)(j:(x==("__classdict__":Str))=false:=by decide):
  DSt Z X md rn (.Return (some (.Name x c)) pos) (Rh i):=by
 refine(sC (Bz g a b j)).imp λD n H k=>?_;rfl';obtain⟨B,q,E,⟨G,m,S⟩,⟨d,b,h⟩,M⟩:=k;obtain⟨v,a,o⟩:=S.at_ i d b;rw[f] at o;ac_rfl;exact#[v,a,M.rt d h v (m i) G H S.ex o (S.nd i) (S.nw i)]
def Kd(c:dM)(t u:cx):cx:=λE a=>c a λb=>if b=true then t E a else u E a
theorem bM(k:DT Z X c f)(l:m6 Z X md rn a t)(d:m6 Z X md rn b u):DSt Z X md rn (.If c a b pos) (Kd f t u):=by
 refine(BB k l d).imp ?_;intro D o H m;rfl';obtain⟨B,g,E,⟨G,i,S⟩,h,M⟩:=m;ac_rfl;refine S.U6 h λb d q j=>?_;cases b with
 |true=>exact bF #[B,g,E,#[G,i,j],(d),M]
 |false=>exact bY #[B,g,E,#[G,i,j],(d),M]
def Km(b:List Nat)(m:Bool)(i:Nat)(c:aW):cx:=λE a=>c (Gs b m a) λd=>rD m d/\E.nx (a.set i (some d))
theorem aL(m:Bool)(i:Nat)(g:X.N.Nodup)(j:DE Z X e k)(l:c.getD i 0=0:=by rfl)(n:X.N[i]? =some x:=by rfl)(o:Loc X.env.scope x:=by subst_eqs)(p:swapsWith e (some (.Name x a)) b.line X.env=pure false:=by rfl)
  (q:X.fn x=true\/X.env.scope.names.lookup x=some .local:=by subst_eqs):DSt Z X c z (.Assign [.Name x a] e b) (Km c m i k):=by
 refine(gw g n o j p q).imp ?_;intro D A H r;rfl';obtain⟨B,F,E,⟨G,I,S⟩,h,M⟩:=r;ac_rfl;exact S.ev m h λd f=>#[f.1,λv w J y x dv=>M.nx _ f.2 _ _ #[w,_,y.mN l dv]]
theorem Ii(i:Nat){NC:List Str}{src:List (Option Nat)}(q:X.calm=true)(r:X.N.Nodup)(c:ck X a)(w:dz a X.N src NC)(y:DI Z X k iter n)
  (z:∀j s H,DG Z (cW X a NC j s H) k g) (A:∀j s H,Ca Z (cW X a NC j s H) f o) (C:∀j s H,DE Z (cW X a NC j s H) b te)
  (F:swapsWith (.ListComp b [#[k,iter,f,0]] a pos) (some (.Name x l)) m.line X.env=pure true:=by rfl) (I:md.getD i 0=0:=by rfl) (J:X.N[i]? =some x:=by rfl) (L:Loc X.env.scope x:=by subst_eqs)
  (O:X.fn x=true\/X.env.scope.names.lookup x=some .local:=by subst_eqs)
  (P:∀x,foldedSetIterable iter X.env x=pure x:=by intro _;rfl):DSt Z X md rn (.Assign [.Name x l] (.ListComp b [#[k,iter,f,0]] a pos) m) (Km md false i (Q9 n g o te src)):=by
 refine(ug q r J L c w y z A C F O P).imp ?_;intro D Q H R;rfl';obtain⟨B,t,E,⟨G,u,S⟩,h,M⟩:=R;ac_rfl;refine Hl Q H _ (S.ev false h λd p=>#[p.1,λv U H' Y x dv=>M.nx _ p.2 _ _ #[U,_,Y.mN I dv]])
end
end L2
namespace L2
open PySem PySem.Spec PyProof.Rows
section
variable {Z:DC} {X:Cx} {B:Bs} {md:List Nat} {rn:Nat} {ρ:DN} {σ:St} {H G:Hp} {fp:Nat->List Addr}
def Hj(Z:DC)(a:List Nat)(g:eS):TG:=λv f H Q=>∃(B:Bs)(b:DN)(d:D)(P:DN->Prop)(G:Hp)(h:Nat->List Addr),SIx Z B a b f H G h/\Dv Z G v d/\g d b P/\∀c,P c->∀e i,SIx Z B a c e H G i->Q e H
def LY(Z:DC)(a:List Nat)(g:mB):ym:=λf h H Q=>∃(B:Bs)(b:DN)(c:List D)(P:DN->Prop)(G:Hp)(i:Nat->List Addr),SIx Z B a b h H G i/\DvAll Z G f c/\g c b P/\∀d,P d->∀e j,SIx Z B a d e H G j->Q e H
def HL(Z:DC)(X:Cx)(a:List Nat)(e:Expr)(g:eS):Prop:=PG X e (Hj Z a g)
def GH(Z:DC)(X:Cx)(a:List Nat)(b:List Expr)(g:mB):Prop:=z3 X b (LY Z a g)
theorem aQ(i:Nat)(b:X.N.Nodup)(c:e.getD i 0=0:=by rfl)(f:X.N[i]? =some x:=by rfl)(g:Loc X.env.scope x:=by subst_eqs)(j:X.fn x=true\/X.env.scope.names.lookup x=some .local:=by subst_eqs):HL Z X e (.Name x a) (rA i):=by
 refine(sq b f g j).imp λv m H Q k=>?_;rfl';obtain⟨B,o,d,P,G,p,S,dv,h,q⟩:=k;ac_rfl;exact q _ h _ _ (S.mN c dv)
theorem cX:GH Z X md [] Kv:=by
 refine su.imp λv c H Q a=>?_;rfl';obtain⟨B,e,f,P,G,g,S,dv,⟨h,p⟩,q⟩:=a;subst h;cases dv;ac_rfl;exact#[rfl,q _ p _ _ S]
theorem aX(d:HL Z X md e g)(f:GH Z X md b c)(i:(assignEach (e::b) X.env).map (·.2)=assign e X.env::(assignEach b X.env).map (·.2):=by rfl):GH Z X md (e::b) (GX g c):=by
 refine(jx d f i).imp ?_;intro v t H Q j;rfl';obtain⟨B,l,w,P,G,m,S,dv,h,q⟩:=j;ac_rfl;cases dv with
 |nil=>exact h.elim
 |cons a n=>exact#[_,_,rfl,B,l,_,_,G,m,S,a,h,λo p x r s=>#[B,o,_,P,G,r,s,n,p,q]]
theorem fP(n:Nat)(f:X.calm=true)(h:GH Z X md b e)(g:(assignEach b X.env).length=n:=by rfl)(i:(assignEach b X.env).findIdx? (·.1)=none:=by rfl):HL Z X md (.Tuple b k c) (Kw n e):=by
 refine(vH f h g i).imp ?_;rintro v p H Q ⟨B,j,d,P,G,l,S,dv,h,q⟩;cases dv<;>first|exact h.elim|skip
 rename_i a m r o b
 exact#[a,m,rfl,gd.of (S.ex.sub _ _ o),by rw[b.length];exact h.1,B,j,_,P,G,l,S,b,h.2,q]
def UE(b:List Nat)(c:aW)(g:eS):cx:=λE a=>c (cH b a) λd=>g d a E.nx
theorem GZ(i:DE Z X e c)(j:HL Z X md a g)(k:swapsWithSole [a] e b.line X.env=pure false:=by rfl)(hw:swappedStores [a] e X.env=pure none:=by rfl)
  (l:(assignEach [a] X.env).map (·.2)= [assign a X.env]:=by rfl):DSt Z X md rn (.Assign [a] e b) (UE md c g):=by
 refine(jq i j k hw l).imp ?_;intro D w H m;rfl';obtain⟨B,o,E,⟨G,p,S⟩,h,M⟩:=m;ac_rfl;exact S.ev false h λd q=>#[trivial,λv f z r x dv=>#[B,o,d,E.nx,f,p,r,dv,q,λA s C t u=>M.nx _ s _ _ #[f,t,u]]]
def pW(g:eS)(a:cx)(E:dq):List D->DN->Prop
 | [],b=>E.nx b
 |x::c,b=>g x b λd=>a {nx:=pW g a E c,ct:=pW g a E c,bk:=E.nx,rt:=E.rt,xc:=E.xc} d
def Qe(b:List Nat)(m:Bool)(c:jm)(g:eS)(d:cx):cx:=λE a=>c (Gs b m a) λe=>pW g d E e a
theorem zh(S:SIx Z B md h c H G fp)(L:vP Z G J k)(O:pW g r E k h)(M:Meets Z X B md rn E q):
  ∃W:Nat->Nat->St->Hp->Prop,(∃m,W 0 m c H)/\∀i m c H,W i m c H->
   (J.stop i H/\q.nx c H)\/(J.go i H/\∃N:St->Hp->Prop,(∀j a,N j a->∃C,C<m/\W (i+1) C j a)/\∀x a,J.yld i H x a->Hj Z md g x c a λF v=>lP Z X md rn r {q with nx:=N,ct:=N,bk:=q.nx} F v):=by
 let p:Bs:={B with Gf:=G}
 have back:∀h c H,SI Z p md h c H->SI Z B md h c H:=λh c H #[s,t,f]=>#[s,t,#[f.ex,S.fl.trans f.fl,f.len,f.at_,f.nd,f.ap,f.nw]];have P:SIx Z p md h c H G fp:=#[S.ex, .refl _,S.len,S.at_,S.nd,S.ap,S.nw];refine#[λi m c H=>m=k.length-i/\i<=k.length/\∃h,SI Z p md h c H/\pW g r E (k.drop i) h,#[_,rfl,fm _,h,#[G,fp,P],O],?_];intro i m F v Q;rfl';obtain⟨rfl,hi,T,⟨s,t,f⟩,u⟩:=Q;obtain⟨U,stop,yld⟩:=L s v f.fl f.ex.sub i;ac_rfl
 by_cases z:i<k.length
 .refine .inr #[U z,λj a=>∃l,SI Z p md l j a/\pW g r E (k.drop (i+1)) l,λj a n=>#[k.length-(i+1),by lia,rfl,z,n],λx a y=>?_]
  rfl';obtain⟨I,d,Y,AH,dv⟩:=yld x a z y;rw[nk AH] at u;ac_rfl;refine#[p,T,d,_,I,t,f.grow Y,dv,u,λA h4 fK YI S4=>?_];exact#[p,A,_,#[I,YI,S4],h4,#[λl o j a b=>#[l,b,o],M.rt,λl o j a b=>M.nx _ o _ _ (back _ _ _ b),λl o j a b=>#[l,b,o],λl d o j a G' qq a' b qm=>M.xc l d o j a G' qq a' #[b.ex,S.fl.trans b.fl,b.len,b.at_,b.nd,b.ap,b.nw] qm]]
 .have e:k.drop i= []:=xZ (by lia)
  rw[e] at u;exact .inl #[stop (by lia),M.nx _ u _ _ (back _ _ _ #[s,t,f])]
variable {tg iter:Expr} {body:List Stmt} {wi:jm} {g:eS} {tb:cx} {pos:Pos}
theorem cD(a:X.calm=true)(b:PassesOwn (model X.prog X.w) X.A X.env X.xe)(c:DI Z X tg iter wi)(d:HL Z X md tg g)(e:m6 Z X md rn body tb)
  (f:∀x,foldedSetIterable iter X.env x=pure x:=by intro _;rfl):DSt Z X md rn (.For tg iter body [] pos) (Qe md false wi g tb):=by
 refine(Hv b a c d e f).imp ?_;intro D n H i;rfl';obtain⟨B,p,E,⟨G,q,S⟩,h,M⟩:=i;ac_rfl;exact#[G,_,_,S.ex.sub,S.wy,h,λr k J s t l m=>zh (S.grow l) m k M]
def OK(Z:DC)(d:jm):TI:=λe H R=>∃(G:Hp)(a:DN)(P:List D->Prop),aN G H/\cJ Z G e a/\d a P/\∀b,P b->∀J f c,Ext G H f c->(∀h,vP Z h J b)->R J c
def Ud(Z:DC)(X:Cx)(a e:Expr)(b:jm):Prop:=PI X a e (OK Z b)
theorem CJ(a:X.calm=true)(b:PassesOwn (model X.prog X.w) X.A X.env X.xe)(c:Ud Z X tg iter wi)(d:HL Z X md tg g)(e:m6 Z X md rn body tb)
  (f:∀x,foldedSetIterable iter X.env x=pure x:=by intro _;rfl):DSt Z X md rn (.For tg iter body [] pos) (Qe md true wi g tb):=by
 refine(Hv b a c d e f).imp ?_;intro D o H i;rfl';obtain⟨B,k,E,⟨G,q,S⟩,h,M⟩:=i;ac_rfl;exact#[H,k,_, .refl _,S.Hd,h,λr l J s t m n=>zh (S.grow (Ext.all S.ex.sub m)) (n _) l M]
variable {a b e:Expr} {ta te:aW} {t:iM}
theorem wx(d:Gl X "range")(f:X.mg "range"=none)(i:DA Z X [a] t)(j:starEach [a] X.env= [(false,eval a X.env)]:=by rfl):Ud Z X tg (.Call (.Name "range" p) [a] [] pos) (UZ t):=by
 refine(F0 d f i j).imp ?_;intro v H Q k;rfl';obtain⟨G,m,P,s,n,h,q⟩:=k;ac_rfl;refine#[G,m,_,s,n,h,λx c y o r u dv=>?_]
 split at c
 .obtain⟨_,rfl,a⟩:=dv.ofOne
  exact#[_,by rw[a.ofInt],c.1.1,c.1.2,q _ c.2 _ o r u λ_=>IL 0 _]
 .exact c.elim
def GP(c:dM)(i:cx):cx:=λE d=>∃W:Nat->DN->Prop,(∃m,W m d)/\∀m d,W m d->c d λb=>if b=true then i {nx:=λh=>∃f,f<m/\W f h,ct:=λh=>∃f,f<m/\W f h,bk:=E.nx,rt:=E.rt,xc:=E.xc} d else E.nx d
theorem pz(C:PassesOwn (model X.prog X.w) X.A X.env X.xe)(F:DT Z X c s)(l:m6 Z X md rn body tb):DSt Z X md rn (.While c body [] pos) (GP s tb):=by
 refine(Jp C F l).imp ?_;intro D u H p;rfl';obtain⟨B,n,E,S,⟨W,⟨J,L⟩,h⟩,M⟩:=p;ac_rfl;refine#[λm u H=>∃n,SI Z B md n u H/\W m n,#[J,n,S,L],?_];intro m Q R p;rfl';obtain⟨v,⟨x,y,N⟩,O⟩:=p;ac_rfl;refine N.U6 (h m v O) λb l i z=>?_;cases b with
 |false=>exact bY (M.nx _ (l) _ _ #[x,y,z])
 |true=>
  refine bF #[λo i=>∃d f,f<m/\SI Z B md d o i/\W f d,λo i #[d,f,j,k,P]=>#[f,j,d,k,P],B,v,_,#[x,y,z],(l),?_];exact#[λd #[f,j,k] o i r=>#[d,f,j,r,k],M.rt,M.nx,λd #[f,j,k] o i r=>#[d,f,j,r,k],M.xc]
abbrev j4:=DN->(List D->Prop)->Prop
def t8(Z:DC)(n:Nat)(t:j4):TE:=λj H Q=>∃(G:Hp)(h:DN)(P:List D->Prop),aN G H/\cJ Z G j h/\t h P/\∀i,P i->∀v f d c,Ext G H d c->Own Z d c n v (.lst i) f->f.Nodup->(∀b∈f,H b=none/\c b≠none/\d b=none)->Q v c
def DF(Z:DC)(X:Cx)(n:Nat)(e:Expr)(t:j4):Prop:=PE X e (t8 Z n t)
theorem Ext.side(x:Ext G H d c)(f:c p=none):Ext G H d (upd c p o):=
 #[x.gg,λb u e=>by rw[ay (aV e (x.sub.free f))];exact x.sub _ _ e,x.hh.trans (aM f _),x.off]
theorem DV(x:Ext G H d f)(i:f p=none)(dv:DvAll Z d c h):
  Own Z d (upd f p (.lst c)) 1 (.ref p) (.lst h) [p]/\([p]:List Addr).Nodup/\∀b∈([p]:List Addr),H b=none/\(upd f p (.lst c)) b≠none/\d b=none:=by
 refine#[.inl #[p,c,h,[],rfl,rfl,aw,rfl,dv.own],by simp,λb j=>?_]
 have:b=p:=by simpa using j
 subst this;exact#[x.hh.free i,(aw▸λz=>nomatch z),x.sub.free i]
def Qn(t:iM):j4:=λd P=>t d λc=>c.length<=sizeLine/\P c
theorem gU(h:DA Z X c t):DF Z X 1 (.List c pos) (Qn t):=by
 refine(Hr h).imp ?_;intro v H Q j;rfl';obtain⟨G,l,P,s,e,h,q⟩:=j;ac_rfl;exists G,l,_,s,e,h;rintro x ⟨m,n⟩ y z A d f;refine#[by rw[f.length];exact m,λp i=>?_]
 obtain⟨o,r,u⟩:=DV d i f;exact q _ n _ _ _ _ (d.side i) o r u
def RD(d:jm)(g:eS)(f:dM)(h:aW)(src:List (Option Nat)):j4:=λc P=>d c λi=>lcW g f h i (xy src c) [] λ_ out=>P out
theorem Dz:∀v H Q,t8 Z 1 (RD wi g u te src) v H Q->M9 (t9 Z wi) (qA Z g) (liftT Z u) (dQ Z te) src v H Q:=by
 intro v H Q R;rfl';obtain⟨G,T,P,s,x,h,q⟩:=R;ac_rfl;refine#[G,T,_,s,x,h,λj U J E Y f F k y=>?_];refine#[λi m A l=>m=j.length-i/\i<=j.length/\∃p d,CS Z E Y k p d A l/\lcW g u te (j.drop i) p d λ_ out=>P out,#[_,rfl,fm _,_,[], .begin f.sub y ((x.mono f.gg).src src),U],?_];rintro i m A l ⟨rfl,hi,p,d,c,C⟩
 by_cases I:i<j.length
 .obtain⟨a,o⟩:=zu y E F i p d A l c (λ_ s=>s) I C
  exact .inr #[a,_,λaz H' n=>#[j.length-(i+1),by lia,rfl,I,n],o]
 .have e:j.drop i= []:=xZ (by lia)
  rfl';rw[e] at C;obtain⟨L,t,M,N,B,off,X,O,bq,x⟩:=c;ac_rfl;refine .inl #[(F L l M N i).2.1 (by lia),q _ C (.ref k) [k] L l #[f.gg.trans M,N,f.hh.trans B,λb r hg=>off b (fh f.hh r) (f.off b r hg)] (.inl #[k,t,d,[],rfl,rfl,O,rfl,bq.own]) (by simp) λb r=>?_]
  have:b=k:=by simpa using r
  subst this;exact#[f.hh.free y,(by rw[O];exact λz=>nomatch z),X]
variable {elt:Expr} {ifs:List Expr} {scope:Scope} {NC:List Str} {src:List (Option Nat)} {tt:dM}
def Ki(d:List Nat)(i:Nat)(t:j4):cx:=λE c=>t (cH d c) λf=>E.nx (c.set i (some (.lst f)))
theorem ub{t:j4}(p:md.getD i 0=n)(S:SIx Z B md ρ σ H G fp)(h:t (cH md ρ) λl=>E.nx (ρ.set i (some (.lst l))))(M:Meets Z X B md rn E k):t8 Z n t σ H λv m=>k.nx (σ.set i (some v)) m:=by
 refine#[G,_,_,S.ex.sub,S.wy,h,λl q v f r m x o s d=>?_];refine M.nx _ q _ _ #[r,_,(S.grow x).MX p o s (λb c=>#[S.ex.hh.free (d b c).1,(d b c).2]) λb c j _ u=>(S.nw j b u).2.1 (d b c).1]
theorem gu(i:Nat){t:j4}(j:X.N.Nodup)(k:DF Z X n e t)(l:f.getD i 0=n:=by rfl)(m:X.N[i]? =some x:=by rfl)(o:Loc X.env.scope x:=by subst_eqs)(p:swapsWith e (some (.Name x c)) d.line X.env=pure false:=by rfl)
  (q:X.fn x=true\/X.env.scope.names.lookup x=some .local:=by subst_eqs):DSt Z X f u (.Assign [.Name x c] e d) (Ki f i t):=by
 refine(gw j m o k p q).imp ?_;intro D v H r;rfl';obtain⟨B,y,E,⟨G,z,S⟩,h,M⟩:=r;ac_rfl;exact ub l S h M
theorem y8(i:Nat)(k:X.calm=true)(l:X.N.Nodup)(c:ck X scope)(m:dz scope X.N src NC)(n:DI Z X tg iter wi)
  (o:∀d s H,DG Z (cW X scope NC d s H) tg g) (p:∀d s H,Ca Z (cW X scope NC d s H) ifs tt) (q:∀d s H,DE Z (cW X scope NC d s H) elt te)
  (r:swapsWith (.ListComp elt [#[tg,iter,ifs,0]] scope pos) (some (.Name x f)) j.line X.env=pure true:=by rfl) (u:md.getD i 0=1:=by rfl) (v:X.N[i]? =some x:=by rfl) (w:Loc X.env.scope x:=by subst_eqs)
  (y:X.fn x=true\/X.env.scope.names.lookup x=some .local:=by subst_eqs)
  (z:∀x,foldedSetIterable iter X.env x=pure x:=by intro _;rfl):DSt Z X md rn (.Assign [.Name x f] (.ListComp elt [#[tg,iter,ifs,0]] scope pos) j) (Ki md i (RD wi g tt te src)):=by
 refine(ug k l v w c m n o p q r y z).imp ?_;intro D A H C;rfl';obtain⟨B,J,E,⟨G,L,S⟩,h,M⟩:=C;ac_rfl;exact Dz A H _ (ub u S h M)
end
section
variable {Z:DC} {X:Cx} {B:Bs} {md:List Nat} {rn:Nat} {ρ:DN} {σ:St} {H G:Hp} {fp:Nat->List Addr} {a e k o:Expr} {ta te tk tp:aW} {pos apos aG p2:Pos}
theorem SIx.mut{b:Addr}(S:SIx Z B md ρ σ H G fp)(r:σ[i]? =some (some v))(n:b∈fp i)(o:Own Z G (upd H b c) (md.getD i 0) v m (fp i)):SIx Z B md (ρ.set i (some m)) σ (upd H b c) G fp where
 ex:=by
  obtain⟨d,p,f⟩:=S.nw i b n;exact#[S.ex.gg,λx u e=>by rw[ay (aV e f)];exact S.ex.sub _ _ e,λx u e=>by rw[ay (aV e d)];exact S.ex.hh _ _ e,S.ex.off]
 fl:=S.fl
 len:=by rw[dm];exact S.len
 at_:=λj w h=>by
  by_cases z:i=j
  .subst z
   by_cases g:i<ρ.length
   .rw[ji g] at h
    cases Fk h;exact#[v,r,o]
   .rw[xX (iY g),j0 (iY g)] at h;cases h
  .rw[jj z] at h
   obtain⟨u,s,t⟩:=S.at_ j w h;exact#[u,s,t.keep (.refl _) λx l=>ay λq=>S.ap i j b z n (q▸l)]
 nd:=S.nd
 ap:=S.ap
 nw:=λj x l=>by
  obtain⟨d,p,f⟩:=S.nw j x l;refine#[d,?_,f]
  by_cases z:x=b
  .rw[z,aw];exact λq=>nomatch q
  .rw[ay z];exact p
theorem SIx.one{i:Nat}{d:D}(S:SIx Z B md ρ σ H G fp)(j:md.getD i 0=1)(h:ρ[i]? =some (some d)):∃l b c,d= .lst c/\σ[i]? =some (some (.ref l))/\H l=some (.lst b)/\DvAll Z G b c/\
  ∀f g,DvAll Z G f g->SIx Z B md (ρ.set i (some (.lst g))) σ (upd H l (.lst f)) G fp:=by
 rfl';obtain⟨v,m,o⟩:=S.at_ i d h;rw[j] at o;obtain⟨l,b,c,u,rfl,rfl,q,n,r⟩:=o.one;obtain⟨dv,rfl⟩:=r.flat;ac_rfl;refine#[l,b,c,rfl,m,q,dv,λf g s=>S.mut m (by rw[n];simp) ?_]
 rw[j,n];exact .inl #[l,f,g,[],rfl,rfl,aw,rfl,s.own]
theorem ty_list{K:ac}{l:Addr}{b:List V}(h:H l=some (.lst b)):PV K "list" (.ref l) H:= .inl #[rfl,_,cz.of h]
def UD(f:List Nat)(m:Bool)(i:Nat)(g:aW):cx:=λE b=>∃c,b[i]? =some (some (.lst c))/\g (Gs f m b) λd=>rD m d/\c.length<sizeLine/\E.nx (b.set i (some (.lst (c++ [d]))))
theorem pq(m:Bool)(i:Nat)(t:DE Z X e te)(g:md.getD i 0=1:=by rfl)(u:X.N[i]? =some x:=by rfl)(w:mW X.env.scope x:=by subst_eqs)(f:(x==("__debug__":Str))=false:=by decide)(y:(x==("__classdict__":Str))=false:=by decide)
  (z:attributeBase (.Name x b) "append" X.env (eval (.Name x b) X.env)=eval (.Name x b) X.env:=by rfl)
  (A:((backTo aG (starEach [e] X.env)).all (λx=>!x.1)&&(backToKw aG (keywordEach [] X.env)).all (λx=>x.1.isSome)&&decide (([e]:List Expr).length+([]:List Keyword).length+(if ([]:List Keyword).isEmpty then 0 else 1)<30))=true:=by rfl)
  (C:(apos.endLine==aG.line)=true:=by rfl) (j:starEach [e] X.env=(false,eval e X.env)::starEach [] X.env:=by rfl) (F:(backTo aG (starEach [] X.env)).any (·.1)=false:=by rfl)
  (I:swapsWith (.Call (.Attribute (.Name x b) "append" apos) [e] [] aG) none pos.line X.env=pure false:=by rfl):
  DSt Z X md rn (.Expr (.Call (.Attribute (.Name x b) "append" apos) [e] [] aG) pos) (UD md m i te):=by
 refine(hU (xp aaq aa4 aa5 jO (pv i u w f y) (bH t eF j) z A C j F) I).imp ?_;intro D k H J;rfl';obtain⟨B,o,E,⟨G,L,S⟩,⟨ds,p,h⟩,M⟩:=J;ac_rfl;rfl';obtain⟨l,xs,_,_,q,O,_⟩:=S.one g p;ac_rfl;refine#[_,q,ty_list O,S.ev m h λd f=>#[f.1,λv P H' Q x dv=>?_]];rfl';obtain⟨_,R,T⟩:=f;obtain⟨l',U,nu,Y,r,a,s,put⟩:=Q.one g p;cases Y;ac_rfl;rw[q] at r;cases r;exact#[l,U,v,rfl,rfl,a,by rw[s.length];exact R,M.nx _ T _ _ #[P,L,put _ _ (s.snoc dv)]]
theorem DvAll.ins{b:List V}{c:List D}{v:V}{d:D}(n:Nat)(h:DvAll Z G b c)(dv:Dv Z G v d):DvAll Z G (Wb.ins b n v) (Wb.ins c n d):=(h.take n).append (.cons dv (h.drop n))
def UI(f:List Nat)(m:Bool)(i:Nat)(g h:aW):cx:=λE b=>∃c,b[i]? =some (some (.lst c))/\g b λj=>∃k,j= .int k/\h (Gs f m b) λd=>rD m d/\(0<=k/\k<=c.length/\c.length<sizeLine)/\E.nx (b.set i (some (.lst (Wb.ins c k.toNat d))))
theorem NX(m:Bool)(i:Nat)(t:DE Z X k tk)(u:DE Z X e te)(j:md.getD i 0=1:=by rfl)(w:X.N[i]? =some x:=by rfl)(y:mW X.env.scope x:=by subst_eqs)(f:(x==("__debug__":Str))=false:=by decide)(z:(x==("__classdict__":Str))=false:=by decide)
  (A:attributeBase (.Name x b) "insert" X.env (eval (.Name x b) X.env)=eval (.Name x b) X.env:=by rfl)
  (C:((backTo aG (starEach [k,e] X.env)).all (λx=>!x.1)&&(backToKw aG (keywordEach [] X.env)).all (λx=>x.1.isSome)&&decide (([k,e]:List Expr).length+([]:List Keyword).length+(if ([]:List Keyword).isEmpty then 0 else 1)<30))=true:=by rfl)
  (I:(apos.endLine==aG.line)=true:=by rfl) (n:starEach [k,e] X.env=(false,eval k X.env)::starEach [e] X.env:=by rfl) (J:starEach [e] X.env=(false,eval e X.env)::starEach [] X.env:=by rfl) (L:(backTo aG (starEach [e] X.env)).any (·.1)=false:=by rfl)
  (O:swapsWith (.Call (.Attribute (.Name x b) "insert" apos) [k,e] [] aG) none pos.line X.env=pure false:=by rfl):
  DSt Z X md rn (.Expr (.Call (.Attribute (.Name x b) "insert" apos) [k,e] [] aG) pos) (UI md m i tk te):=by
 refine(hU (xp aaq PySem.F.slot_list_insert PySem.F.type_list_insert FN (pv i w y f z) (bH t (bH u eF J) n) A C I n L) O).imp ?_;intro D σ H P;rfl';obtain⟨B,ρ,E,⟨G,Q,S⟩,⟨ds,q,h⟩,M⟩:=P;ac_rfl;rfl';obtain⟨l,xs,_,_,r,R,_⟩:=S.one j q;ac_rfl;refine#[_,r,ty_list R,S.ev true h ?_];rintro _ ⟨k,rfl,h⟩;refine#[rfl,λv1 G1 H1 T x1 U=>T.ev m h λd f=>#[f.1,λv Y H' a x dv=>?_]];rfl';cases U.ofInt;obtain⟨_,⟨o,YR,Vg⟩,h3⟩:=f;obtain⟨l',iU,nu,e1,s,Fc,g,put⟩:=a.one j q;cases e1;ac_rfl;rw[r] at s;cases s;exact#[l,iU,k,v,rfl,rfl,Fc,o,by rw[g.length];exact YR,by rw[g.length];exact Vg,M.nx _ h3 _ _ #[Y,Q,put _ _ (g.ins _ dv)]]
theorem GJ{j n:Nat}(d:b.length=n)(h:lL n i=some j)(e:b[j]? =some v):dZ b i=some v:=by unfold dZ;rw[d,h];exact e
def NO(f:List Nat)(m:Bool)(i:Nat)(g h:aW):cx:=λE b=>h (Gs f m b) λd=>rD m d/\∃c,b[i]? =some (some (.lst c))/\g b λl=>∃k j,l= .int k/\lL c.length k=some j/\E.nx (b.set i (some (.lst (c.set j d))))
theorem y9(m:Bool)(i:Nat)(z:DE Z X k tk)(A:DE Z X e te)(r:md.getD i 0=1:=by rfl)(C:X.N[i]? =some x:=by rfl)(F:mW X.env.scope x:=by subst_eqs)(g:(x==("__debug__":Str))=false:=by decide)(I:(x==("__classdict__":Str))=false:=by decide)
  (J:∀v,assign (.Subscript (.Name x b) k c) X.env v=(do
   let n <-holding [v] (eval (.Name x b) X.env)
   let q <-holding [v,n] (eval k X.env)
   standAt c
   holding [v,n,q] (setItem n q v)
   release [v,n,q] []):=by intro _;rfl)
  (L:swapsWithSole [.Subscript (.Name x b) k c] e pos.line X.env=pure false:=by rfl) (hw:swappedStores [.Subscript (.Name x b) k c] e X.env=pure none:=by rfl)
  (p:(assignEach [.Subscript (.Name x b) k c] X.env).map (·.2)= [assign (.Subscript (.Name x b) k c) X.env]:=by rfl):DSt Z X md rn (.Assign [.Subscript (.Name x b) k c] e pos) (NO md m i tk te):=by
 refine(jq A (ku (pv i C F g I) z set_list J) L hw p).imp ?_;intro D σ H O;rfl';obtain⟨B,ρ,E,⟨G,P,S⟩,h,M⟩:=O;ac_rfl;refine S.ev m h λd g=>#[g.1,λv G' H' t x dv=>?_];rfl';obtain⟨_,ds,p,h⟩:=g;obtain⟨l,xs,_,_,u,e3,_⟩:=t.one r p;ac_rfl;refine#[_,u,t.ev true h ?_];rintro _ ⟨k,j,rfl,Q,R⟩;refine#[rfl,λv1 T H1 U Y a=>?_];rfl';cases a.ofInt;obtain⟨l',o,nu,e1,w,Fc,y,put⟩:=U.one r p;cases e1;ac_rfl;rw[u] at w;cases w;exact#[l,o,k,j,rfl,rfl,Fc,by rw[y.length];exact Q,M.nx _ R _ _ #[T,P,put _ _ (y.set (dv.mono Y.gg) j)]]
def UQ(f:List Nat)(i j:Nat):cx:=λE b=>∃c d,b[j]? =some (some (.lst (c++ [d])))/\E.nx ((b.set j (some (.lst c))).set i (some d))
theorem NY(i j:Nat)(u:X.N.Nodup)(w:f.getD i 0=0:=by rfl)(z:f.getD j 0=1:=by rfl)(A:X.N[i]? =some x:=by rfl)(C:Loc X.env.scope x:=by subst_eqs)
  (I:X.N[j]? =some y:=by rfl) (J:mW X.env.scope y:=by subst_eqs) (L:(y==("__debug__":Str))=false:=by decide) (O:(y==("__classdict__":Str))=false:=by decide)
  (P:attributeBase (.Name y py) "pop" X.env (eval (.Name y py) X.env)=eval (.Name y py) X.env:=by rfl) (Q:(b.endLine==r.line)=true:=by rfl)
  (R:swapsWith (.Call (.Attribute (.Name y py) "pop" b) [] [] r) (some (.Name x q)) g.line X.env=pure false:=by rfl)
  (T:X.fn x=true\/X.env.scope.names.lookup x=some .local:=by subst_eqs):DSt Z X f rn (.Assign [.Name x q] (.Call (.Attribute (.Name y py) "pop" b) [] [] r) g) (UQ f i j):=by
 refine(gw u A C (O4 aaq PySem.F.slot_list_pop PySem.F.type_list_pop OO (pv j I J L O) P Q) R T).imp ?_;intro D σ H U;rfl';obtain⟨B,ρ,E,⟨G,fp,S⟩,⟨n,d,a,h⟩,M⟩:=U;ac_rfl;rfl';obtain⟨l,c,nu,e,k,s,p,put⟩:=S.one z a;cases e;have t:c.length=n.length+1:=by rw[p.length];simp
 obtain⟨v,o,dv⟩:=p.get (i:=c.length-1) (d:=d) (by rw[t];simp)
 ac_rfl;refine#[_,k,ty_list s,l,c,v,rfl,rfl,s,o,M.nx _ h _ _ #[G,_,(put c.dropLast n ?_).mN w dv]]
 have:=p.take n.length
 rw[List.take_left'] at this
 .rw[List.dropLast_eq_take,t];exact this
 .rfl
theorem SIx.Hx(S:SIx Z B md ρ σ H G fp)(h:ρ[j]? =some (some d)):∃v,σ[j]? =some (some v)/\Dv Z (plus G H λb=>b∈fp j) v d/\SIx Z B md (ρ.set j none) σ H (plus G H λb=>b∈fp j) (λk=>if k=j then[] else fp k):=by
 have s:=S.ex.sub;obtain⟨v,m,o⟩:=S.at_ j d h;refine#[v,m,o.dv (fq s) λb g u e=>by rw[lu g];exact e,?_]
 refine#[#[S.ex.gg.trans (fq s),jy s,S.ex.hh,λb g n=>?_],S.fl.trans (fq s),by rw[dm];exact S.len,λk c f=>?_,λk=>by split;exact f7;exact S.nd k,λk p b ne f i=>?_,λk b g=>?_]
 .rw[iE (λz=>g (S.nw j b z).1)];exact S.ex.off b g n
 .by_cases z:j=k
  .subst z
   by_cases l:j<ρ.length
   .rw[ji l] at f;cases f
   .rw[xX (iY l),j0 (iY l)] at f;cases f
  .rw[jj z] at f
   obtain⟨u,q,r⟩:=S.at_ k c f;exact#[u,q,by rw[mo (Ne.symm z)];exact r.keep (fq s) λ_ _=>rfl]
 .split at f
  .cases f
  .split at i
   .cases i
   .exact S.ap k p b ne f i
 .split at g
  .cases g
  .next z=>
   obtain⟨t,x,y⟩:=S.nw k b g;exact#[t,x,by rw[iE (λw=>S.ap k j b z g w)];exact y]
def Q4(f:List Nat)(i j:Nat):cx:=λE b=>∃c d,b[i]? =some (some (.lst c))/\b[j]? =some (some d)/\c.length<sizeLine/\E.nx ((b.set j none).set i (some (.lst (c++ [d]))))
theorem Ky(i j:Nat)(n:i≠j:=by decide)(p:md.getD i 0=1:=by rfl)(q:X.N[j]? =some y:=by rfl)(r:mW X.env.scope y:=by subst_eqs)(s:(y==("__debug__":Str))=false:=by decide)(t:(y==("__classdict__":Str))=false:=by decide)(u:X.N[i]? =some x:=by rfl)(w:mW X.env.scope x:=by subst_eqs)(z:(x==("__debug__":Str))=false:=by decide)(A:(x==("__classdict__":Str))=false:=by decide)
  (C:attributeBase (.Name x b) "append" X.env (eval (.Name x b) X.env)=eval (.Name x b) X.env:=by rfl)
  (F:((backTo aG (starEach [.Name y py] X.env)).all (λx=>!x.1)&&(backToKw aG (keywordEach [] X.env)).all (λx=>x.1.isSome)&&decide (([.Name y py]:List Expr).length+([]:List Keyword).length+(if ([]:List Keyword).isEmpty then 0 else 1)<30))=true:=by rfl)
  (I:(apos.endLine==aG.line)=true:=by rfl) (f:starEach [.Name y py] X.env=(false,eval (.Name y py) X.env)::starEach [] X.env:=by rfl) (J:(backTo aG (starEach [] X.env)).any (·.1)=false:=by rfl)
  (L:swapsWith (.Call (.Attribute (.Name x b) "append" apos) [.Name y py] [] aG) none pos.line X.env=pure false:=by rfl):
  DSt Z X md rn (.Expr (.Call (.Attribute (.Name x b) "append" apos) [.Name y py] [] aG) pos) (Q4 md i j):=by
 refine(hU (xp aaq aa4 aa5 jO (pv i u w z A) (bH (pv j q r s t) eF f) C F I f J) L).imp ?_;intro D σ H O;rfl';obtain⟨B,Q,E,⟨G,fp,S⟩,⟨R,d,T,U,Y,h⟩,M⟩:=O;ac_rfl;rfl';obtain⟨v,a,dv,e⟩:=S.Hx U;have k:(Q.set j none)[i]? =some (some (.lst R)):=by rw[jj (Ne.symm n)];exact T
 obtain⟨l,o,nu,e1,e2,g,m,put⟩:=e.one p k;cases e1;ac_rfl;exact#[_,e2,ty_list g,_,a,l,o,v,rfl,rfl,g,by rw[m.length];exact Y,M.nx _ h _ _ #[_,_,put _ _ (m.snoc dv)]]
end
structure Ub (mg:Str->Option Value):Prop where
 len:mg "len"=none
 range:mg "range"=none
 max:mg "max"=none
 min:mg "min"=none
 enumerate:mg "enumerate"=none
 zip:mg "zip"=none
 sorted:mg "sorted"=none
 all:mg "all"=none
 isinstance:mg "isinstance"=none
 int:mg "int"=none
 bool:mg "bool"=none
 list:mg "list"=none
 tuple:mg "tuple"=none
 sum:mg "sum"=none
 reversed:mg "reversed"=none
theorem GL:bootBuiltins "max"=some (.builtin "max"):=by decide+kernel
theorem ND:bootBuiltins "min"=some (.builtin "min"):=by decide+kernel
theorem J3:bootBuiltins "bool"=some (.type "bool"):=by decide+kernel
theorem NB:bootBuiltins "int"=some (.type "int"):=by decide+kernel
theorem qT:bootBuiltins "list"=some (.type "list"):=by decide+kernel
theorem jF:bootBuiltins "sorted"=some (.builtin "sorted"):=by decide+kernel
theorem aY:bootBuiltins "len"=some (.builtin "len"):=by decide+kernel
section
variable {P:Program} {w:World} {K:ac} {mg:Str->Option Value} {base:Heap} {Z:DC}
def mh(N:List Str)(a:List D):DN:=a.map some++am (N.length-a.length) none
def fb(Z:DC)(n:Nat)(g:cI):Sp:=λh H Q _=>∃(G:Hp)(e:List D)(P:D->Prop),aN G H/\DvAll Z G h e/\g e P/\∀d,P d->∀v f c a,Ext G H c a->Own Z c a n v d f->f.Nodup->(∀b∈f,H b=none/\a b≠none/\c b=none)->Q v a
theorem Own.pure(x:Ext G H c a)(o:Own Z c a n v d f)(i:∀b∈f,H b=none/\a b≠none/\c b=none):∃h,Ext G H h a/\Dv Z h v d:=by
 refine#[plus c a λb=>b∈f,#[x.gg.trans (fq x.sub),jy x.sub,x.hh,λb g j=>?_],o.dv (fq x.sub) λb g u e=>by rw[lu g];exact e]
 rw[iE (λz=>g (i b z).1)];exact x.off b g j
theorem F9:∀a H Q E,bh Z b a H Q E->fb Z n b a H Q E:=by
 intro a H Q E c;rfl';obtain⟨G,g,P,s,dv,h,q⟩:=c;ac_rfl;exact#[G,g,P,s,dv,h,λd i v f t j x o u k=>let #[l,m,p]:=o.pure x k;q d i v l j m p]
theorem jt(l:Nat){x a:Str}{st:Stmt}{f:Addr}{n:FuncData}{N g:List Str}{k:Nat}{m:cI}(F:tI K x a st f n)(S:aK N g (av st))(o:List Nat)(u:∀i,i<g.length->o.getD i 0=0)(len:∀c P,m c P->c.length=g.length)
  (y:∀(j:Value)(A:Around)(outer:List Env)(s:Shared)(H:Hp)(E:XK)(c:List D)(R:D->Prop),bW k (A.deeper (envOfC a (av st) s.heap.objs.size f j))->m c R->
   ∃t,m6 Z (kh cw P w K mg base N a (av st) f j A outer s H E).kJ o l (dA st) t/\t {nx:=λ_=>l=0/\R .bu,rt:=R} (mh N c)):FnOk P w K mg base cw (k+1) f n g (fb Z l m):=by
 refine F.ok S (λB H Q E h=>?_) (λj A outer s H B Q E C h=>?_)
 .obtain⟨G,c,R,s,dv,h,q⟩:=h
  rw[dv.length];exact len _ _ h
 rfl';obtain⟨G,c,R,J,dv,h,q⟩:=h;have L:=q;obtain⟨t,M,O⟩:=y j A outer s H E c R C h;have hl:=len _ _ h;ac_rfl;refine#[_,M,#[G,H,G],_,_,#[G,λ_=> [],?_],O,#[λρ p az T #[U,fp,X]=>q _ p.2 _ [] U T X.ex (by rw[p.1];exact#[.bu,rfl]) f7 (λb Y=>by cases Y),L,λ_ z=>z.elim,λ_ z=>z.elim,λ_ _ z=>z.elim]]
 refine#[.refl J, .refl _,by unfold mh start;simp[dv.length],λi d e=>?_,λ_=>f7,(λ_ _ _ _ z=>by cases z),(λ_ _ z=>by cases z)]
 unfold mh at e
 have r:i<c.length:=by
  apply GE;intro z;rw[mP (by simpa using iY z),uX] at e
  split at e<;>cases e
 rw[kD (by simpa using r),cc] at e
 have j9:c[i]? =some d:=by
  cases z:c[i]? with
  |none=>rw[z] at e;cases e
  |some d'=>rw[z] at e;cases e;rfl
 obtain⟨v,hv,qm⟩:=dv.get j9;refine#[v,?_,by rw[u i (by lia)];exact#[qm,rfl]]
 unfold start;rw[kD (by simpa [dv.length] using r),cc,hv];rfl
theorem bC{x c:Str}{st:Stmt}{f:Addr}{m:FuncData}{N e:List Str}{k:Nat}{j:cI}(F:tI K x c st f m)(S:aK N e (av st))(l:List Nat)(n:∀i,i<e.length->l.getD i 0=0)(len:∀d P,j d P->d.length=e.length)
  (o:∀(g:Value)(A:Around)(outer:List Env)(s:Shared)(H:Hp)(E:XK)(d:List D)(R:D->Prop),bW k (A.deeper (envOfC c (av st) s.heap.objs.size f g))->j d R->
   ∃t,m6 Z (kh cw P w K mg base N c (av st) f g A outer s H E).kJ l 0 (dA st) t/\t {nx:=λ_=>0=0/\R .bu,rt:=R} (mh N d)):FnOk P w K mg base cw (k+1) f m e (bh Z j):=
 (jt 0 F S l n len λg A outer s H E d R p h=>let #[t,a,b]:=o g A outer s H E d R p h;#[t,a,b]).imp F9
end
section
variable {Z:DC} {X:Cx} {a b c e o:Expr} {ta tb te:aW} {t:iM} {es:List Expr} {pos apos:Pos}
def QY:cI:=λd P=>∃i j,d= [.int i, .int j]/\P (.int (if j<i then j else i))
def QX:cI:=λd P=>∃i j,d= [.int i, .int j]/\P (.int (if j>i then j else i))
theorem Et(h:DvAll Z G d [.int i, .int j]):d= [.int i, .int j]:=by
 cases h with
 |cons a f=>
  cases f with
  |cons b bs=>cases bs;cases a;cases b;rfl
theorem CA(d:X.calm=true):CallR X (.builtin "max") (g7 Z QX):=by
 refine(EW d).imp ?_;intro k H Q f;rfl';obtain⟨G,m,P,s,dv,⟨i,j,rfl,h⟩,q⟩:=f;ac_rfl;exact#[i,j,Et dv,q _ h _ G H (.refl s) (.int _)]
theorem J8(d:X.calm=true):CallR X (.builtin "min") (g7 Z QY):=by
 refine(EX d).imp ?_;intro k H Q f;rfl';obtain⟨G,m,P,s,dv,⟨i,j,rfl,h⟩,q⟩:=f;ac_rfl;exact#[i,j,Et dv,q _ h _ G H (.refl s) (.int _)]
theorem gW:∀{d:List V}{f:List Int},DvAll Z G d (f.map D.int)->d=f.map V.int
 |d,[],h=>by cases h;rfl
 |d,b::bs,h=>by
  cases h with
  |cons a g=>cases a;rw[gW g];rfl
def GK:cI:=λg P=>∃d:List Int,g= [.lst (d.map D.int)]/\d.length<64/\∀f:List Int,f.Perm d->f.Pairwise (·<=·)->P (.lst (f.map D.int))
theorem HX:CallR X (.builtin "sorted") (g7 Z GK):=by
 refine yr.imp ?_;rintro n H Q ⟨G,r,P,s,dv,⟨f,rfl,g,i⟩,q⟩;cases dv with
 |cons a j=>
  cases j;cases a with
  |lst h e=>
   refine#[_,f,rfl,cz.of (gW e▸s _ _ h),g,λp d k l m=>?_];exact q _ (i d l m) _ _ _ (.new s k) (.lst aw (.ints d))
def pairD(k:Nat×Nat):D:= .tup [.int (k.1:Nat), .int (k.2:Nat)]
def NA:cI:=λg P=>∃d:List (Nat×Nat),g= [.lst (d.map pairD)]/\d.length<=1000/\∀f:List (Nat×Nat),f.Perm d->f.Pairwise Wb.lexLe->P (.lst (f.map pairD))
theorem zb:∀{d:List V}{f:List (Nat×Nat)},DvAll Z G d (f.map pairD)->∃L:List (Addr×(Nat×Nat)),d=L.map (λe=>V.ref e.1)/\L.map (·.2)=f/\vS G L
 |d,[],h=>by cases h;exact#[[],rfl,rfl,λp g=>by cases g]
 |d,n::f,h=>by
  cases h with
  |cons a j=>
   obtain⟨L,k,l,m⟩:=zb j;unfold pairD at a;cases a with
   | @tup p r x g e=>
    refine#[(p,n)::L,by rw[k];rfl,by rw[<-l];rfl,λq i=>?_]
    rcases cV.mp i with rfl|i
    .have:r=uf n:=by
      cases e with
      |cons s u=>
       cases u with
       |cons v w=>cases s;cases v;cases w;rfl
     rw[<-this];exact g
    .exact m q i
theorem vS.dv:∀{L:List (Addr×(Nat×Nat))},vS G L->DvAll Z G (L.map λe=>V.ref e.1) ((L.map (·.2)).map pairD)
 | [],_=> .nil
 |x::L,h=> .cons (.tup (h x (cP ..)) (.cons (.int _) (.cons (.int _) .nil))) (vS.dv λp d=>h p (dh _ d))
theorem yX:CallR X (.builtin "sorted") (g7 Z NA):=by
 refine yt.imp ?_;rintro w H Q ⟨G,l,P,s,dv,⟨f,rfl,y,d⟩,q⟩;cases dv with
 |cons a m=>
  cases m;cases a with
  | @lst p z l h e=>
   obtain⟨L,rfl,g,i⟩:=zb e;have A:L.length=f.length:=by rw[<-g];simp
   refine#[_,L,rfl,cz.of (s _ _ h),λp d=>s _ _ (i p d),by lia,λp M j k n=>?_]
   have r:(M.map (·.2)).Perm f:=by rw[<-g];exact k.map _
   have u:vS (upd G p (.lst (M.map λe=>V.ref e.1))) M:=λx v=>aM (s.free j) _ _ _ (i x (k.mem_iff.mp v));exact q _ (d _ r n) _ _ _ (.new s j) (.lst aw u.dv)
def NL(g h:aW):aW:=λf P=>g f λd=>∃l,d= .lst l/\h f λy=>eH y=true/\l.all eH=true/\∃(j:Nat)(z:D),l[j]? =some z/\km z y=true/\(∀(m:Nat) z,m<j->l[m]? =some z->km z y=false)/\P (.int (j:Nat))
theorem pk(E:DE Z X o ta)(I:DE Z X e tb)
  (J:attributeBase o "index" X.env (eval o X.env)=eval o X.env:=by rfl)
  (L:((backTo d (starEach [e] X.env)).all (λx=>!x.1)&&(backToKw d (keywordEach [] X.env)).all (λx=>x.1.isSome)&&decide (([e]:List Expr).length+([]:List Keyword).length+(if ([]:List Keyword).isEmpty then 0 else 1)<30))=true:=by rfl)
  (M:(apos.endLine==d.line)=true:=by rfl) (r:starEach [e] X.env=(false,eval e X.env)::starEach [] X.env:=by rfl) (N:(backTo d (starEach [] X.env)).any (·.1)=false:=by rfl):
  DE Z X (.Call (.Attribute o "index" apos) [e] [] d) (NL ta tb):=by
 refine(xp aaq PySem.F.slot_list_index PySem.F.type_list_index IZ E (bH I eF r) J L M r N).imp ?_;intro σ H Q O;rfl';obtain⟨G,A,P,s,B,h,q⟩:=O;ac_rfl;exists G,A,_,s,B,h;rintro _ ⟨l,rfl,S⟩ v T H1 f dv;cases dv with
 | @lst p U ds C e=>
  refine#[ty_list (f.sub _ _ C),T,A,_,f.sub,B.mono f.gg,S,λy Y u a b i k=>?_];rfl';obtain⟨c,t,j,z,h3,h4,h5,h6⟩:=Y;have n:=e.mono i.gg;obtain⟨w,hw,dw⟩:=n.get h3;ac_rfl;refine#[p,U,u,j,w,rfl,rfl,i.hh _ _ (f.sub _ _ C),by rw[rE k];exact c,by rw[nG n];exact t,hw,by rw[Au dw k];exact h4,λm z' hm hz=>?_,q _ h6 _ a b (f.trans i) (.int _)]
  obtain⟨d',j9,qm⟩:=n.K7 hz;rw[Au qm k];exact h5 m d' hm j9
end
structure yW (Z:DC):Prop where
 cl:vL Z.K Z.C
 nR:lH Z.K Z.C "rows"
section
variable {Z:DC} {X:Cx} {a b c e o:Expr} {ta tb te:aW} {t:iM} {es:List Expr} {pos apos:Pos}
def Ri(f:aW):aW:=λg P=>f g λd=>∃w,d= .fj w/\P (aP w)
theorem kX(T:yW Z)(i:DE Z X o ta)(d:X.K=Z.K:=by rfl)(j:attributeBase o "rows" X.env (eval o X.env)=eval o X.env:=by rfl):DE Z X (.Attribute o "rows" apos) (Ri ta):=by
 refine(O7 i j).imp ?_;intro B H Q k;rfl';obtain⟨G,m,P,s,n,h,q⟩:=k;ac_rfl;exists G,m,_,s,n,h;rintro _ ⟨w,rfl,r⟩ v u x f dv;cases dv with
 | @fj p y R w z A g F I=>exact#[p,Z.C,y,_, .ref R,rfl,f.sub _ _ z,by rw[d];exact T.cl,by rw[d];exact T.nR,rfl,q _ r _ u x f A]
def E4(g:cI)(h:aW)(t:iM):aW:=λf P=>h f λd=>∃w,d= .fj w/\t f λi=>g (.fj w::i) P
theorem zx(u:([("rows",V.ref 0)]:List (Str×V)).lookup m=none):∀j H Q,dQ Z (E4 i ta t) j H Q->Gi Z.C m (bh Z i) [] E0 (dQ Z ta) (Bg Z t) j H Q:=by
 intro j H Q x;rfl';obtain⟨G,n,P,s,r,h,q⟩:=x;ac_rfl;exists G,n,_,s,r,h;rintro _ ⟨w,rfl,k⟩ v A b f dv;have B:=dv;cases dv with
 | @fj p E R w F c g e o=>
  refine#[p,E,_,rfl,f.sub _ _ F,?_,A,n,_,f.sub,r.mono f.gg,k,λX I J L M l N=>?_]
  .have O:(m==("rows":Str))=false:=by
    cases z:(m==("rows":Str)) with
    |false=>rfl
    |true=>simp[bv,z] at u
   simp[bv,O]
  .show bh Z i (V.ref p::(J++ [])) M Q E0
   rw[f6];exact#[L,_,P,l.sub, .cons (B.mono l.gg) N,I,λd k v S T U Y=>q d k v S T ((f.trans l).trans U) Y]
variable {sd:cI} {k:Nat} {f:Addr} {fd:FuncData} {ps:List Str} {m:Str}
theorem kW(T:yW Z)(h:DE Z X o ta)(i:Meth Z.K Z.C m f)(F:FnOk X.prog X.w X.K X.mg X.base cw k f fd ps (bh Z sd))(j:bW k X.A)(l:Binds X.K fd ps [])(n:DA Z X (e::es) t)(d:X.K=Z.K:=by rfl)
  (p:([("rows",V.ref 0)]:List (Str×V)).lookup m=none:=by decide) (q:starEach (e::es) X.env=(false,eval e X.env)::starEach es X.env:=by rfl) (r:(backTo pos (starEach es X.env)).any (·.1)=false:=by rfl)
  (s:eval (.Call (.Attribute o m apos) (e::es) [] pos) X.env=(do
   let g <-eval o X.env
   standAt apos.atName
   let (f,first) <-holding [g] (getMethod g m pl)
   callWith pos f first (backTo pos (starEach (e::es) X.env)) (backToKw pos (keywordEach [] X.env))):=by rfl):DE Z X (.Call (.Attribute o m apos) (e::es) [] pos) (E4 sd ta t):=
 (My (pl:=pl) h (by rw[d];exact T.cl) (by rw[d];exact i) F j l .nil og n q r s).imp (zx p)
theorem gI(T:yW Z)(l:DE Z X o ta)(n:Meth Z.K Z.C m f)(F:FnOk X.prog X.w X.K X.mg X.base cw k f fd ps (bh Z sd))(r:bW k X.A)(u:Binds X.K fd ps [])(i:X.K=Z.K:=by rfl)
  (x:([("rows",V.ref 0)]:List (Str×V)).lookup m=none:=by decide)
  (y:eval (.Call (.Attribute o m apos) [] [] pos) X.env=(do
   let j <-eval o X.env
   standAt apos.atName
   let (f,first) <-holding [j] (getMethod j m pl)
   callWith pos f first (backTo pos (starEach [] X.env)) (backToKw pos (keywordEach [] X.env))):=by rfl):DE Z X (.Call (.Attribute o m apos) [] [] pos) (E4 sd ta pV):=
 (zH (pl:=pl) l (by rw[i];exact T.cl) (by rw[i];exact n) F r u .nil og y).imp λz H Q h=>by
  rfl';obtain⟨G,E,P,s,I,h,q⟩:=zx x z H Q h;ac_rfl;refine#[G,E,P,s,I,h,λd J v L M N dv=>?_];rfl';obtain⟨p,O,fs,R,S,U,Y,t,P',a,b,c,e⟩:=q d J v L M N dv;ac_rfl;exact#[p,O,fs,R,S,U,e _ c _ Y _ (.refl a) .nil]
def Eh(Z:DC):Sp:=λi H Q _=>∃(p h:Addr)(v:V)(G:Hp)(w:List (List Nat)),i= [.ref p,v]/\H p=some (.ins Z.C h [])/\aN G H/\G p=none/\Dv Z G v (aP w)/\Wb.Good w/\1<=w.length/\w.length<=14/\
 ∀(R:Addr)(d g:Hp),aN G d->aN d g->(∀b o,H b=some o->b≠p->g b=some o)->(∀b,H b≠none->G b=none->d b=none)->g p=some (.ins Z.C h [("rows", .ref R)])->Dv Z d (.ref R) (aP w)->Q .bu g
def Ra(t:iM):aW:=λd P=>t d λg=>∃w,g= [aP w]/\Wb.Good w/\1<=w.length/\w.length<=14/\P (.fj w)
theorem wq(M:Mk Z.K Z.C f)(F:FnOk X.prog X.w X.K X.mg X.base cw k f fd ps (Eh Z))(N:bW (k+1) X.A)(n:Gl X x)(O:X.mg x=some (.ref Z.C))(j:Binds X.K fd ps [])
  (S:DA Z X (e::es) t) (T:X.K=Z.K:=by rfl) (U:(x==("__debug__":Str))=false:=by decide) (Y:starEach (e::es) X.env=(false,eval e X.env)::starEach es X.env:=by rfl) (a:(backTo pos (starEach es X.env)).any (·.1)=false:=by rfl):
  DE Z X (.Call (.Name x p) (e::es) [] pos) (Ra t):=by
 refine(Mx (by rw[T];exact M) F N n O j .nil og S U Y a).imp ?_
 intro σ H Q c;rfl';obtain⟨G,ρ,P,s,en,h,q⟩:=c;ac_rfl;exists G,ρ,_,s,en,h;rintro _ ⟨w,rfl,g,y,B,hp⟩ vs G1 H1 d r p l i Zf ne;cases r with
 | @cons v _ _ _ dv r=>
  cases r;have AX:upd H1 l (.own p) p=none:=by rw[ay (Ne.symm ne)];exact i
  have u:=(aM Zf (.own p)).trans (aM AX (.ins Z.C l []));refine#[p,l,v,G1,w,rfl,aw,d.sub.trans u,d.sub.free i,dv,g,y,B,λR E H2 g1 g2 kp off ZF qo=>#[rfl,?_]];have I:E p=none:=off p (by rw[aw];exact λz=>nomatch z) (d.sub.free i)
  refine q _ hp _ (upd E p (.ins Z.C l [("rows", .ref R)])) H2 #[(d.gg.trans g1).trans (aM I _),λb o e=>?_,λb o e=>?_,λb j n=>?_] (.fj aw (qo.mono (aM I _)) g y B)
  .by_cases z:b=p
   .subst z;rw[aw] at e;cases e;exact ZF
   .rw[ay z] at e;exact g2 _ _ e
  .have J:=d.hh _ _ e
   exact kp b o (u _ _ J) (aV J i)
  .have L:=fh d.hh j
   have nb:b≠p:=λz=>L (by rw[z];exact i)
   rw[ay nb];exact off b (fh u L) (d.off b j n)
end
section
variable {Z:DC} {X:Cx} {pos:Pos}
def LV(g:eS)(b:j4):List D->DN->List D->(List D->Prop)->Prop
 | [],_,a,N=>N a
 |x::d,e,a,N=>g x e λc=>b c λf=>a.length<sizeLine/\LV g b d c (a++ [.lst f]) N
def Qm(b:jm)(g:eS)(c:j4)(src:List (Option Nat)):j4:=λa P=>b a λd=>LV g c d (xy src a) [] P
def Uc(Z:DC)(n:Nat)(e a:Hp)(c:Addr)(g:DN)(d:List D)(h:St)(H:Hp):Prop:=
 ∃(G:Hp)(f:List V)(fs:List Addr),aN e G/\aN G H/\aN a H/\(∀b,a b≠none->e b=none->G b=none)/\H c=some (.lst f)/\cZ (Own Z G H n) f d fs/\(c::fs).Nodup/\(∀b∈c::fs,a b=none/\H b≠none/\G b=none)/\cJ Z G h g
theorem cZ.snoc:∀{b:List V}{c:List D}{fs:List Addr}{v:V}{d:D}{f:List Addr},cZ R b c fs->R v d f->cZ R (b++ [v]) (c++ [d]) (fs++f)
 |_,_,_,v,d,f, .nil,r=>by simpa using cZ.cons r .nil
 |_,_,_,v,d,f, .cons a e,r=>by rw[j1];exact .cons a (e.snoc r)
theorem IU:∀S H Q,t8 Z (n+1) (Qm wi g F src) S H Q->M9 (t9 Z wi) (qA Z g) Nd (t8 Z n F) src S H Q:=by
 intro S H Q aI;rfl';obtain⟨G,ρ,P,s,en,h,q⟩:=aI;ac_rfl;refine#[G,ρ,_,s,en,h,λw hd J U H1 p it l A=>?_];refine#[λi m fA u=>m=w.length-i/\i<=w.length/\∃I t,Uc Z n U H1 l I t fA u/\LV g F (w.drop i) I t P,#[_,rfl,fm _,_,[],#[U,[],[], .refl _,λb o e=>?_,aM A _,λ_ _ h=>h,aw, .nil,by simp,λb j=>?_,(en.mono p.gg).src src],hd],?_]
 .rw[ay (aV e (p.sub.free A))];exact p.sub _ _ e
 .have:b=l:=by simpa using j
  subst this;exact#[A,(by rw[aw];exact λz=>nomatch z),p.sub.free A]
 intro i m fA u iG;rfl';obtain⟨rfl,hi,I,t,⟨Y,L,fs,M,X,N,off,qt,ol,nd,B,RB⟩,O⟩:=iG;ac_rfl
 by_cases bI:i<w.length
 .obtain⟨go,_,yld⟩:=it Y u M X i
  refine .inr #[go bI,λaz H'=>∃aE gH,Uc Z n U H1 l aE gH az H'/\LV g F (w.drop (i+1)) aE gH P,λaz H' k=>#[w.length-(i+1),by lia,rfl,bI,k],λx H3 y=>?_]
  obtain⟨G3,d,E,AH,dv⟩:=yld x H3 bI y;rw[nk AH] at O;refine#[G3,I,d,_,E.sub,RB.mono E.gg,dv,O,λbD h1 fK vg=>?_];unfold Nd;dsimp only;rw[tz rfl];refine#[G3,bD,_,E.sub,vg,h1,λnu j9 v f G6 H6 x6 ow YH Va=>?_];have x:=E.trans x6;have R:l∈l::fs:=cP ..
  have C:∀b∈l::fs,H6 b=u b/\G6 b=none:=λb j=>by
   obtain⟨_,q2,q3⟩:=B b j;refine#[?_,x.off b q2 q3];cases e:u b with
   |none=>exact absurd e q2
   |some o=>exact x.hh _ _ e
  have YS:H6 l=some (.lst L):=by rw[(C l R).1];exact qt
  have U8:∀b∈f,u b=none:=λb j=>E.hh.free (Va b j).1;have U9:∀b∈f,∀c∈l::fs,b≠c:=λb j c hc z=>(B c hc).2.1 (by rw[<-z];exact U8 b j)
  refine#[L,YS,by rw[ol.length];exact j9.1,bD,_,#[G6,L++ [v],fs++f,M.trans x.gg,λb o e=>?_,λb o e=>?_,λb j hg=>x.off b (fh N j) (off b j hg),aw,?_,?_,λb j=>?_,vg.mono x6.gg],j9.2]
  .rw[ay (aV e (C l R).2)];exact x.sub _ _ e
  .rw[ay (aV e A)];exact(N.trans x.hh) _ _ e
  .refine cZ.snoc (ol.imp λv d f' hf r=>r.keep x.gg λb j=>?_) (ow.keep (.refl _) λb j=>?_)
   .have AE:b∈fs:=hf b j
    rw[ay (λz=>(j2.mp nd).1 (by rw[<-z];exact AE))]
    exact(C b (dh _ AE)).1
   .exact ay (U9 b j l R)
  .rw[<-List.cons_append]
   exact ic.mpr #[nd,YH,λa ha b j=>Ne.symm (U9 b j a ha)]
  .rw[<-List.cons_append] at j
   by_cases z:b=l
   .subst z
    exact#[A,(by rw[aw];exact λz=>nomatch z),(C b R).2]
   .rcases cU.mp j with j|j
    .rw[ay z,(C b j).1]
     exact#[(B b j).1,(B b j).2.1,(C b j).2]
    .rw[ay z]
     exact#[N.free (U8 b j),(Va b j).2]
 .have e:w.drop i= []:=xZ (by lia)
  rw[e] at O;refine .inl #[(it Y u M X i).2.1 (by lia),q _ O (.ref l) (l::fs) Y u #[p.gg.trans M,X,p.hh.trans N,λb j hg=>off b (fh p.hh j) (p.off b j hg)] (.inl #[l,L,t,fs,rfl,rfl,qt,rfl,ol]) nd λb j=>#[p.hh.free (B b j).1,(B b j).2]]
variable {tg iter elt:Expr} {scope:Scope} {NC:List Str} {src:List (Option Nat)} {wi:jm} {g:eS} {tf:j4} {md:List Nat} {rn:Nat}
theorem E8(i:Nat)(e:X.calm=true)(f:X.N.Nodup)(c:ck X scope)(j:dz scope X.N src NC)(k:DI Z X tg iter wi)
  (l:∀a s H,DG Z (cW X scope NC a s H) tg g) (m:∀a s H,DF Z (cW X scope NC a s H) n elt tf)
  (o:swapsWith (.ListComp elt [#[tg,iter,[],0]] scope pos) (some (.Name x b)) d.line X.env=pure true:=by rfl) (p:md.getD i 0=n+1:=by rfl) (q:X.N[i]? =some x:=by rfl) (r:Loc X.env.scope x:=by subst_eqs)
  (t:X.fn x=true\/X.env.scope.names.lookup x=some .local:=by subst_eqs)
  (u:∀x,foldedSetIterable iter X.env x=pure x:=by intro _;rfl):DSt Z X md rn (.Assign [.Name x b] (.ListComp elt [#[tg,iter,[],0]] scope pos) d) (Ki md i (Qm wi g tf src)):=by
 refine(ug e f q r c j k l (λ_ _ _=>D3) m o t u).imp ?_;intro D v H w;rfl';obtain⟨B,A,E,⟨G,C,S⟩,h,M⟩:=w;ac_rfl;exact IU v H _ (ub p S h M)
end
abbrev jv:=inClass
structure z0 (Z:DC) (m qual:Str) (st:Stmt) (ps:List Str) where
 f:Addr
 fd:FuncData
 F:tI Z.K m qual st f fd
 b:Binds Z.K fd ps []
 m:Meth Z.K Z.C m f
def sR(K:ac):Sp:=λc H Q _=>∃(a:Addr)(b:List Int),c= [.ref a]/\cz K H a (b.map V.int)/\b.length<=63/\∀d,Q (.bl true) d
def HA:cI:=λb P=>∃a:List Int,b= [.jY a]/\a.length<=63/\P (.bl true)
theorem OG{Z:DC}:∀b H Q E,sR Z.K b H Q E->bh Z HA b H Q E:=by
 rintro b H Q E ⟨a,c,rfl,f,e,q⟩;exact#[H,[.jY c],λd=>d= .bl true, .refl _, .cons (.jY f e) .nil,#[c,rfl,e,rfl],λd g v i h x dv=>by subst g;cases dv;exact q h]
theorem TY(k:Nat){l:cM}{q:Program}{e:List Str}{o:(Str->Option Value)->Heap->Prop}{m:World->Heap->Prop}{d:DefRec}{K:Params->ac}(H:3*k<150)(p:l.most=some 63)(r:d.params.defaults= [])
  (t:∀(w:World)(h:Heap),m w h->(K w.params).In h)
  (F:∀(w:World)(g:Str->Option Value)(i:Addr)(h:Heap),(K w.params).In h->h.Ns mainGlobals g->g d.name=some (.ref i)->
   ∃j:FuncData,(∀(s:Shared)(u:Value),BindsTo s j #[[u],[]] [("_law_script",u)])/\∀base:Heap,(K w.params).In base->base.Ns mainGlobals g->FnOk l.prog w (K w.params) g base cw k i j ["_law_script"] (sR (K w.params))):
  ec q e o m l.row.toRowW d [] (λf v=>dL f v):=
 L2.Nj (n:=63) (k:=50) (x:="_law_script") (CX:=λ_=>cw) (sp:=λw=>sR (K w.params)) p (by decide) r #[rfl,by decide,by decide] t (λw g i h a b c=>by
  obtain⟨j,A,B⟩:=F w g i h a b c;exact#[j,A,λbase x y=>(B base x y).mono (by lia)]) (λ_ _ a C E _ G=>#[a,C,rfl,G,E,λ_=>rfl]) λ_ _ _ _ _ z=>z
theorem br{c:Bool}{A B:Prop}(a:c=true->A)(b:c=false->B):if c=true then A else B:=by
 cases c with
 |true=>exact bF (a rfl)
 |false=>exact bY (b rfl)
theorem wN{ρ:DN}(c:j->D)(p:j->Bool)(f:j->D):∀(e:List j)(d:DN)(a:List D)(N:DN->List D->Prop),(∀y∈e,∀(Y:D->Prop)(r:Prop),(p y=true->Y (f y))->(p y=false->r)->k (ρ.set i (some (c y))) λb=>if b=true then q (ρ.set i (some (c y))) Y else r)->
  (∃o,d=ρ.set i o)->a.length+e.length<=sizeLine->(∀d,N d (a++(e.filter p).map f))->lcW (rA i) k q (e.map c) d a N
 | [],d,a,N,_,_,_,h=>by
  show N d a;simpa using h d
 |y::e,d,a,N,l,#[o,s],g,h=>by
  show k (d.set i (some (c y))) _;rw[s,List.set_set];rw[dG] at g;refine l y (cP ..) _ _ (λm=>#[by lia,?_]) (λm=>?_)
  .refine wN c p f e _ (a++ [f y]) N (λz g=>l z (dh _ g)) #[_,rfl] (by simp;lia) λn=>?_
   have:=h n
   rw[abo,m] at this;simpa using this
  .refine wN c p f e _ a N (λz g=>l z (dh _ g)) #[_,rfl] (by lia) λn=>?_
   have:=h n
   rw[abo,m] at this;simpa using this
theorem ko{ρ:DN}(a:c->D)(f:c->D)(b:List c)(N:DN->List D->Prop)(j:∀y∈b,∀(Y:D->Prop),Y (f y)->g (ρ.set i (some (a y))) Y)(k:ρ[i]? =some none)(l:b.length<=sizeLine)(h:∀d,N d (b.map f)):lcW (rA i) wk g (b.map a) ρ [] N:=by
 refine wN (ρ:=ρ) a (λ_=>true) f b ρ [] N (λy m Y o n _=>?_) #[none,?_] (by simpa using l) λd=>by rw[List.filter_eq_self.mpr (λ_ _=>rfl),yf];exact h d
 .unfold wk
  dsimp only;rw[tz rfl];exact j y m Y (n rfl)
 .obtain⟨p,e⟩:=c9.mp k
  rw[<-e,List.set_getElem_self]
theorem zg(I:Nat->DN->Prop):∀(b:List D)(k:Nat)(a:DN),I k a->(∀(j:Nat)(d:D)(a:DN),b[j]? =some d->I (k+j) a->∀A:DN->Prop,(∀a,I (k+j+1) a->A a)->g d a λn=>m {nx:=A,ct:=A,bk:=E.nx,rt:=E.rt,xc:=E.xc} n)->
  (∀a,I (k+b.length) a->E.nx a)->pW g m E b a
 | [],k,a,c,e,f=>f a c
 |d::b,k,a,c,e,f=>by
  refine e 0 d a rfl c _ λo p=>?_
  exact zg I b (k+1) o p (λj q h r i A s=>by
   refine e (j+1) q h (by simpa using r) (by rw[show k+(j+1)=k+1+j by lia];exact i) A λl t=>s l ?_
   rw[show k+1+j+1=k+(j+1)+1 by lia];exact t) (λh i=>f h (by rw[dG,show k+(b.length+1)=k+1+b.length by lia];exact i))
theorem bN(I:Nat->DN->Prop)(e:I 0 a)(f:∀(j:Nat)(d:D)(a:DN),b[j]? =some d->I j a->∀A:DN->Prop,(∀a,I (j+1) a->A a)->g d a λi=>c {nx:=A,ct:=A,bk:=E.nx,rt:=E.rt,xc:=E.xc} i)
  (k:∀a,I b.length a->E.nx a):pW g c E b a:=zg I b 0 a e (λj d a l h A m=>f j d a l (by simpa using h) A λn o=>m n (by simpa using o)) (λa h=>k a (by simpa using h))
theorem K1{g:eS}{c:cx}{E:dq}{lo:Int}{n:Nat}{a:DN}(I:Nat->DN->Prop)(f:I 0 a)(i:∀(j:Nat)(a:DN),j<n->I j a->∀A:DN->Prop,(∀a,I (j+1) a->A a)->g (.int (lo+j)) a λk=>c {nx:=A,ct:=A,bk:=E.nx,rt:=E.rt,xc:=E.xc} k)
  (m:∀a,I n a->E.nx a):pW g c E (iL lo n) a:=by
 have l:(iL lo n).length=n:=by unfold iL;simp
 refine bN I f (λj d a b h A o=>?_) (λa h=>m a (by rw[l] at h;exact h))
 have e:j<n:=by
  have:=(c9.mp b).1
  rw[l] at this;exact this
 rw[uO e] at b;cases Fk b;exact i j a e h A o
theorem mv(I:Nat->DN->Prop)(g:Nat)(h:I g a)(i:∀m a,I m a->c a λb=>if b=true then f {nx:=λe=>∃d,d<m/\I d e,ct:=λe=>∃d,d<m/\I d e,bk:=E.nx,rt:=E.rt,xc:=E.xc} a else E.nx a):GP c f E a:=#[I,#[g,h],i]
section
variable {Z:DC} {X:Cx} {a b c e:Expr} {ta tb te:aW} {t:iM} {pos:Pos}
variable {md:List Nat} {rn:Nat} {k:Expr} {tk:aW}
variable {apos aG:Pos}
variable {es:List Expr}
def KR(g:cI)(t:iM):j4:=λh P=>t h λi=>g i λd=>∃f,d= .lst f/\P f
theorem Kt{k:Nat}(F:FnOk X.prog X.w X.K X.mg X.base cw k f m r (fb Z n g))(y:bW k X.A)(z:Gl X x)(B:X.mg x=some (.ref f))(C:aA X.K (.ref f)=true)(d:Binds X.K m r [])
  (E:DA Z X (e::es) t) (I:(x==("__debug__":Str))=false:=by decide) (J:starEach (e::es) X.env=(false,eval e X.env)::starEach es X.env:=by rfl) (L:(backTo pos (starEach es X.env)).any (·.1)=false:=by rfl):
  DF Z X n (.Call (.Name x p) (e::es) [] pos) (KR g t):=by
 refine(sj F y z B C d .nil og E I J L).imp ?_;intro σ H Q M;rfl';obtain⟨G,O,P,s,R,h,q⟩:=M;ac_rfl;refine#[G,O,_,s,R,h,λS T U Y a j c=>?_];show fb Z n g (U++ []) a Q E0;rw[f6];exists Y,S,_,j.sub,c,T;intro _ l v f G2 H2 x2 o nd u;rfl';obtain⟨nu,rfl,hp⟩:=l;ac_rfl;exact q _ hp v f G2 H2 (j.trans x2) o nd λb d=>#[j.hh.free (u b d).1,(u b d).2]
end
section
variable {X:Cx} {elt t0 i0 t1 i1:Expr} {f0 f1:List Expr} {scope:Scope} {pos:Pos} {wi gG:TI} {g g1:TG} {tt fi:TT} {te:TE} {src:List (Option Nat)} {NC:List Str}
end
section
variable {Z:DC} {X:Cx} {md:List Nat} {rn:Nat} {elt t0 i0 t1 i1:Expr} {f0 f1:List Expr} {scope:Scope} {pos:Pos} {wi gG:jm} {g g1:eS} {tt fi:dM} {te:aW} {src:List (Option Nat)} {NC:List Str}
end
section
variable {Z:DC} {X:Cx} {md:List Nat} {rn:Nat} {e:Expr} {pos:Pos}
theorem DvAll.flat{G d:Hp}:∀{c:List V}{b:List D},DvAll Z G c b->b.all eH=true->DvAll Z d c b
 |_,_, .nil,_=> .nil
 |_,_, .cons a f,h=>by
  rw[abh,u5] at h;exact .cons (a.flat h.1) (f.flat h.2)
end
theorem lK{l:List D}{j:Nat}{d:D}(h:(gX l)[j]? =some d):∃x,l[j]? =some x/\d= .tup [.int (j:Int),x]:=by
 unfold gX at h;rw[List.getElem?_mapIdx] at h;cases e:l[j]? with
 |none=>rw[e] at h;cases h
 |some x=>rw[e] at h;cases h;exact#[x,rfl,rfl]
theorem gB(l:List D):(gX l).length=l.length:=by unfold gX;simp
theorem cK{a b:Type}{f:a->b}{l:List a}{j:Nat}{y:b}(h:(l.map f)[j]? =some y):∃x,l[j]? =some x/\y=f x:=by
 rw[cc] at h;cases e:l[j]? with
 |none=>rw[e] at h;cases h
 |some x=>rw[e] at h;cases h;exact#[x,rfl,rfl]
theorem cY(r:List Nat):(r.map af).all eH=true:=by simp[af,eH]
theorem k4{r:List Nat}{p:Nat}:inD (af p) (r.map af)=decide (p∈r):=by
 unfold inD;rw[List.any_map]
 have:((λy=>km y (af p))∘af)=λq:Nat=>decide (q=p):=by
  funext q
  simp[af,km,Function.comp]
  by_cases z:q=p
  .simp[z]
  .have:¬(q:Int)=(p:Int):=by lia
   simp[z,this]
 rw[this]
 by_cases h:p∈r
 .rw[FM h,List.any_eq_true];exact#[p,h,by simp]
 .rw[GM h]
  apply qd.mpr;intro z;rw[List.any_eq_true] at z;obtain⟨q,a,e⟩:=z
  exact h (by have:q=p:=by simpa using e
              rw[<-this];exact a)
theorem cC{l:List D}{p:Nat}{d:D}(h:l[p]? =some d):dZ l (p:Int)=some d:=Cq h
theorem sU(h:p<w.length):(w.map aq)[p]? =some (aq (Wb.row w p)):=by
 rw[cc,Wb.D8 h];rfl
section
variable {Z:DC} {X:Cx} {md:List Nat} {rn:Nat} {e:Expr} {te:aW} {pos:Pos}
end
theorem QM(h:A):wk a (λb=>if b=true then A else B):=by
 unfold wk;dsimp only;rw[tz rfl];exact h
theorem Qs{c:Bool}{A B:Prop}(e:c=false)(h:B):if c=true then A else B:=by rw[mo (by rw[e];exact cO)];exact h
theorem rU(I:DN->Prop)(e:n->D)(p:n->Bool)(f:n->D):∀(j:List n)(i:DN)(a:List D)(N:DN->List D->Prop),(∀y∈j,∀i,I i->∀(Y:DN->D->Prop)(v:DN->Prop),(∀c,I c->p y=true->Y c (f y))->(∀c,I c->p y=false->v c)->g (e y) i λc=>l c λb=>if b=true then m c (Y c) else v c)->
  I i->a.length+j.length<=sizeLine->(∀i,I i->N i (a++(j.filter p).map f))->lcW g l m (j.map e) i a N
 | [],i,a,N,_,o,_,h=>by
  show N i a;simpa using h i o
 |y::j,i,a,N,q,o,k,h=>by
  rw[dG] at k;refine q y (cP ..) i o (λc d=>a.length<sizeLine/\lcW g l m (j.map e) c (a++ [d]) N) (λc=>lcW g l m (j.map e) c a N) (λc r s=>#[by lia,?_]) (λc r s=>?_)
  .refine rU I e p f j _ (a++ [f y]) N (λz k=>q z (dh _ k)) r (by simp;lia) λt u=>?_
   have:=h t u
   rw[abo,s] at this;simpa using this
  .refine rU I e p f j _ a N (λz k=>q z (dh _ k)) r (by lia) λt u=>?_
   have:=h t u
   rw[abo,s] at this;simpa using this
theorem Qu(h:b.length=1):∃d,b= [d]:=by
 cases b with
 |nil=>cases h
 |cons a l=>
  cases l with
  |nil=>exact#[a,rfl]
  |cons _ _=>cases h
theorem Qv(h:b.length=2):∃e c,b= [e,c]:=by
 cases b with
 |nil=>cases h
 |cons a l=>
  obtain⟨c,rfl⟩:=Qu (acD h);exact#[a,c,rfl]
theorem Qw(h:b.length=3):∃f c d,b= [f,c,d]:=by
 cases b with
 |nil=>cases h
 |cons a l=>
  obtain⟨c,d,rfl⟩:=Qv (acD h);exact#[a,c,d,rfl]
theorem Wh(h:b.length=4):∃g c d e,b= [g,c,d,e]:=by
 cases b with
 |nil=>cases h
 |cons a l=>
  obtain⟨c,d,e,rfl⟩:=Qw (acD h);exact#[a,c,d,e,rfl]
section
variable {Z:DC} {X:Cx} {e:Expr} {es:List Expr} {t:iM} {pos:Pos}
theorem aD{a:cI}{k j:Nat}{x:Str}{st:Stmt}{c:List Str}{p:Pos}(d:fG X.K X.mg x st c)(F:FnOk X.prog X.w X.K X.mg X.base cw k d.f d.fd c (bh Z a))(g:bW j X.A)(h:DA Z X (e::es) t)(i:Gl X x:=by rfl)(l:k<=j:=by first|decide|lia)
  (n:(x==("__debug__":Str))=false:=by decide) (o:starEach (e::es) X.env=(false,eval e X.env)::starEach es X.env:=by rfl) (q:(backTo pos (starEach es X.env)).any (·.1)=false:=by rfl):
  DE Z X (.Call (.Name x p) (e::es) [] pos) (tL a t):=Ks F (g.mono l) i d.m d.F.kp d.b h n o q
theorem gJ{n:Nat}{a:cI}{k j:Nat}{x:Str}{st:Stmt}{c:List Str}{p:Pos}(d:fG X.K X.mg x st c)(F:FnOk X.prog X.w X.K X.mg X.base cw k d.f d.fd c (fb Z n a))(g:bW j X.A)(h:DA Z X (e::es) t)(i:Gl X x:=by rfl)(l:k<=j:=by first|decide|lia)
  (o:(x==("__debug__":Str))=false:=by decide) (q:starEach (e::es) X.env=(false,eval e X.env)::starEach es X.env:=by rfl) (r:(backTo pos (starEach es X.env)).any (·.1)=false:=by rfl):
  DF Z X n (.Call (.Name x p) (e::es) [] pos) (KR a t):=Kt F (g.mono l) i d.m d.F.kp d.b h o q r
theorem wd(f:Scope)(e:X.env.scope=f:=by rfl)(k:d.kind= .function:=by rfl)(a:∀x∈d.names,x.2= .local->d.names.lookup x.1=some .local:=by decide+kernel)(b:∀x∈d.names,x.2≠ .cell:=by decide+kernel)
  (c:∀x∈d.names,x.2= .free->f.names.lookup x.1=some .cell\/f.names.lookup x.1=some .free:=by decide+kernel):ck X d:=ck.of f e k a b c
end
section
variable {K:ac} {h:Heap} {mg:Str->Option Value}
abbrev Nw(K:ac)(x:Str)(d:Addr):Prop:=bc K mainGlobals x=some (some (.ref d))
abbrev Cb(K:ac)(x a:Str)(st:Stmt)(d:Addr)(b c:Option Addr)(e:Array (Option Value))(f kV g i j k:Value):Prop:=K.lookup d=some #[f,b, .func (bp x a (gT st) (dA st) (av st) .none kV g i c j k),e]
def fG.of{x:Str}{st:Stmt}{e:List Str}{d:Addr}{o f:Option Addr}{p:Array (Option Value)}{q kV r g n i:Value}(X:K.In h)(G:h.Ns mainGlobals mg)(a:Nw K x d)(l:Cb K x x st d o f p q kV r g n i)(c:bj K n x=true)(k:aA K (.ref d)=true)
  (b:∀(kV j g:Value)(f:Option Addr)(s i:Value)(m:List Value),m.length=e.length->bindArgs (bp x x (gT st) (dA st) (av st) .none kV j g f s i) #[m,[]]=pure (e.zip m)):fG K mg x st e:=
 #[d,_,rH l c k,(rH l c k).binds b,PP X G a]
def z0.of{Z:DC}{m e:Str}{st:Stmt}{g:List Str}{d:Addr}{r i:Option Addr}{s:Array (Option Value)}{t kV u j q n:Value}(a:ad Z.K (.ref Z.C) m=some (some (.ref d)))(f:ce Z.K (.ref d)=true)(l:Cb Z.K m e st d r i s t kV u j q n)(c:bj Z.K q e=true)(k:aA Z.K (.ref d)=true)
  (b:∀(kV o j:Value)(i:Option Addr)(v n:Value)(p:List Value),p.length=g.length->bindArgs (bp m e (gT st) (dA st) (av st) .none kV o j i v n) #[p,[]]=pure (g.zip p)):z0 Z m e st g:=
 #[d,_,rH l c k,(rH l c k).binds b,#[a,f,k]]
end
end L2
namespace Wb
def NS(w:W):Nat:=(w.map cb).sum
theorem Ie(w:W):NS w=((aJ w.length).map λp=>(row w p).length).sum:=by
 unfold NS
 congr 1
 refine List.ext_getElem (by simp) λi b c=>?_
 rw[List.getElem_map,List.getElem_map,List.getElem_range];have a:i<w.length:=by simpa using b
 have:=D8 a
 rw[eu a] at this;rw[Fk this]
theorem wo(w:W):(bz w).length=NS w:=by
 rw[Ie];unfold bz;rw[List.length_flatMap]
 congr 1
 apply List.map_congr_left;intro p _;rw[aH]
theorem gS(g:Good w):(bz w).Nodup:=by
 unfold bz dV;refine n9 (λp _=>?_) ?_
 .rw[iV]
  exact(g.nod p).imp λne e=>ne (IR Prod.snd e)
 .refine List.Pairwise.imp ?_ abg
  intro a b lt x c y d e;obtain⟨_,_,rfl⟩:=bL.mp c;obtain⟨_,_,rfl⟩:=bL.mp d
  have:=IR Prod.fst e
  simp at this;lia
theorem oR(w:W):fW (row w) w.length=(bz w).filter λd=>decide (d.1<d.2):=by
 unfold fW bz;rw[List.filter_flatMap]
 congr 1
 funext p
 rw[List.filter_map];rfl
theorem Gm(g:Good w):2*(fW (row w) w.length).length<=NS w:=by
 rw[oR,<-wo];have f:=List.length_eq_countP_add_countP (λd:Nat×Nat=>decide (d.1<d.2)) (l:=bz w)
 have p:((bz w).filter λd=>decide (d.1<d.2)).length<=((bz w).filter λd=>decide (d.2<d.1)).length:=by
  have:=aR (l:=((bz w).filter λd=>decide (d.1<d.2)).map λd=>(d.2,d.1)) (m:=(bz w).filter λd=>decide (d.2<d.1)) ?_ ?_
  .rwa [aH] at this
  .unfold dV
   rw[iV];refine List.Pairwise.imp ?_ ((gS g).filter _);intro a b ne e;have i:=IR Prod.fst e;have j:=IR Prod.snd e;exact ne (aar j i)
  .intro x k
   obtain⟨d,n,rfl⟩:=bL.mp k;obtain⟨o,c⟩:=yg.mp n;refine yg.mpr #[bG.mpr (g.sym _ _ (bG.mp o)),?_];simpa using c
 have q:((bz w).filter λd=>decide (d.2<d.1)).length<=(bz w).countP λd=>!decide (d.1<d.2):=by
  rw[<-abK];apply List.countP_mono_left;intro d _ h;simp at h ⊢;lia
 rw[abK] at f
 have r:(bz w).countP (λd=>!decide (d.1<d.2))=List.countP (λa=>decide ¬(decide (a.1<a.2)=true)) (bz w):=by
  congr 1
  funext d
  by_cases h:d.1<d.2<;>simp[h]
 lia
structure RI (w:W) (bs:List Bool) (ws ex:List Nat) (c:Nat):Prop where
 len:bs.length=w.length
 z:bs[0]? =some true
 wt:∀x∈ws,bs[x]? =some true
 cl:∀x,bs[x]? =some true->x∈ws\/x∈ex\/∀q∈row w x,bs[q]? =some true
 cnt:bs.count false+ws.length<=c
theorem RI.pop(h:RI w bs (b++ [p]) [] (c+1)):RI w bs b [p] c:=
 #[h.len,h.z,λx a=>h.wt x (ig _ a),λx a=>by
  rcases h.cl x a with q|q|q
  .rcases cU.mp q with q|q
   .exact .inl q
   .exact .inr (.inl q)
  .cases q
  .exact .inr (.inr q),by have:=h.cnt;rw[dJ] at this;simp at this;lia]
theorem RI.push(h:RI w bs f g c)(j:bs[q]? =some false):RI w (bs.set q true) (f++ [q]) g c:=by
 obtain⟨b,i⟩:=c9.mp j
 have d:∀x,bs[x]? =some true->(bs.set q true)[x]? =some true:=λx a=>by
  rw[mR]
  by_cases e:q=x
  .rw[tz e,tz b]
  .rw[mo e];exact a
 refine#[by rw[dm];exact h.len,d _ h.z,λx a=>?_,λx a=>?_,?_]
 .rcases cU.mp a with z|z
  .exact d _ (h.wt x z)
  .have:x=q:=by simpa using z
   rw[this,mR,tz rfl,tz b]
 .by_cases e:q=x
  .exact .inl (by rw[e];simp)
  .rw[mR,mo e] at a
   rcases h.cl x a with z|z|z
   .exact .inl (ig _ z)
   .exact .inr (.inl z)
   .exact .inr (.inr λy k=>d _ (z y k))
 .have l:=h.cnt
  have:0<bs.count false:=List.count_pos_iff.mpr (by rw[<-i];exact zW b)
  rw[abL b,i,dJ];simp;lia
theorem RI.close(h:RI w bs a [p] c)(b:∀q∈row w p,bs[q]? =some true):RI w bs a [] c:=
 #[h.len,h.z,h.wt,λx d=>by
  rcases h.cl x d with q|q|q
  .exact .inl q
  .have:x=p:=by simpa using q
   rw[this];exact .inr (.inr b)
  .exact .inr (.inr q),h.cnt]
theorem RI.all(g:Good w)(h:RI w bs [] [] c):bs=am w.length true:=by
 have:=uB g (S:=λx=>bs[x]? =some true) h.z λp q b d=>by
  rcases h.cl p b with z|z|z
  .cases z
  .cases z
  .exact z q d
 refine zV λi=>?_
 by_cases a:i<w.length
 .rw[this i a,uX,tz a]
 .rw[j0 (by rw[h.len];lia),j0 (by simp;lia)]
structure yV (w:W):Prop where
 rng:∀p q,q∈row w p->q<w.length
 irr:∀p,p∉row w p
 nod:∀p,(row w p).Nodup
 sym:∀p q,q∈row w p->p∈row w q
theorem Good.near(g:Good w):yV w:=#[g.rng,g.irr,g.nod,g.sym]
theorem yV.good(n:yV w)(h:∀p,p<w.length->Reach w 0 p):Good w:=#[n.rng,n.irr,n.nod,n.sym,h]
end Wb
namespace L2
open PySem PySem.Spec PyProof.Rows
section
variable {Z:DC} {X:Cx} {md:List Nat} {rn:Nat} {a b e k:Expr} {pos:Pos} {ta tb te tk:aW} {t:j4}
def U7(g h:aW):j4:=λf P=>g f λi=>∃c,i= .lst c/\h f λj=>∃d,j= .lst d/\c.length+d.length<=sizeLine/\P (c++d)
theorem GW(l:DE Z X a ta)(m:DE Z X b tb):DF Z X 1 (.BinOp a .Add b pos) (U7 ta tb):=by
 refine(Mz Hq l m).imp ?_;intro I H Q n;rfl';obtain⟨G,f,P,s,e,h,q⟩:=n;ac_rfl;exists G,f,_,s,e,h;rintro _ ⟨L,rfl,h⟩ M r N c u;exists r,f,_,c.sub,e.mono c.gg,h;rintro _ ⟨O,rfl,v,w⟩ R S T d y;obtain⟨U,Y,rfl,z,g⟩:=u.fz;obtain⟨k,t,rfl,A,i⟩:=y.fz;have B:=g.mono d.gg;have x:=c.trans d;refine#[_,_,_,_,rfl,rfl,d.hh _ _ (c.sub _ _ z),d.sub _ _ A,by rw[g.length,i.length];exact v,λp j=>?_]
 obtain⟨C,E,F⟩:=DV x j (B.append i);exact q _ w _ _ _ _ (x.side j) C E F
variable {tg iter elt:Expr} {ifs:List Expr} {scope:Scope} {NC:List Str} {src:List (Option Nat)} {wi:jm} {g:eS} {tt:dM}
theorem Ku(f:X.calm=true)(c:ck X scope)(h:dz scope X.N src NC)(i:DI Z X tg iter wi)
  (j:∀d s H,DG Z (cW X scope NC d s H) tg g) (l:∀d s H,Ca Z (cW X scope NC d s H) ifs tt) (m:∀d s H,DE Z (cW X scope NC d s H) elt te)
  (n:∀x,foldedSetIterable iter X.env x=pure x:=by intro _;rfl):DF Z X 1 (.ListComp elt [#[tg,iter,ifs,0]] scope pos) (RD wi g tt te src):=(Mw f c h i j l m n).imp Dz
variable {B:Bs} {ρ:DN} {σ:St} {H G:Hp} {fp:Nat->List Addr}
theorem SIx.YB(S:SIx Z B md ρ σ H G fp)(h:t ρ P)
  (m:∀c,P c->c.all eH=true/\∀v i d,SIx Z B md ρ σ d i fp->Ext G H i d->Dv Z i v (.lst c)->Q v d):t8 Z 1 t σ H Q:=by
 exists H,ρ,P, .refl _,S.Hd,h;intro c n v f i d x o F p;obtain⟨q,k⟩:=m c n;obtain⟨a,r,I,J,rfl,s,u,w,y⟩:=o.lst;cases s;obtain⟨dv,rfl⟩:=y.flat;have j:H a=none:=(p a (by rw[w];simp)).1
 have A:G a=none:=S.ex.sub.free j
 have l:Ext G H (upd G a (.lst r)) d:=by
  refine#[aM A _,λb o e=>?_,x.hh,λb C E=>?_]
  .by_cases z:b=a
   .subst z
    rw[aw] at e;rw[<-e];exact u
   .rw[ay z] at e
    exact x.hh _ _ (S.ex.sub _ _ e)
  .rw[ay (λz=>C (by rw[z];exact j))];exact E
 exact k _ _ _ (S.grow l) l (.lst aw (dv.flat q))
def Kn(i:Nat)(h:aW)(t:j4):cx:=λE c=>t c λd=>d.all eH=true/\∃f,c[i]? =some (some (.lst f))/\h c λl=>∃k j,l= .int k/\lL f.length k=some j/\E.nx (c.set i (some (.lst (f.set j (.lst d)))))
theorem iA(i:Nat)(A:DE Z X k tk)(C:DF Z X 1 e t)(r:md.getD i 0=1:=by rfl)(F:X.N[i]? =some x:=by rfl)(I:mW X.env.scope x:=by subst_eqs)(n:(x==("__debug__":Str))=false:=by decide)(J:(x==("__classdict__":Str))=false:=by decide)
  (L:∀v,assign (.Subscript (.Name x c) k f) X.env v=(do
   let o <-holding [v] (eval (.Name x c) X.env)
   let q <-holding [v,o] (eval k X.env)
   standAt f
   holding [v,o,q] (setItem o q v)
   release [v,o,q] []):=by intro _;rfl)
  (O:swapsWithSole [.Subscript (.Name x c) k f] e pos.line X.env=pure false:=by rfl) (hw:swappedStores [.Subscript (.Name x c) k f] e X.env=pure none:=by rfl)
  (p:(assignEach [.Subscript (.Name x c) k f] X.env).map (·.2)= [assign (.Subscript (.Name x c) k f) X.env]:=by rfl):DSt Z X md rn (.Assign [.Subscript (.Name x c) k f] e pos) (Kn i tk t):=by
 refine(jq C (ku (pv i F I n J) A set_list L) O hw p).imp ?_;intro D σ H P;rfl';obtain⟨B,ρ,E,⟨G,Q,S⟩,h,M⟩:=P;ac_rfl;refine S.YB h λd n=>#[n.1,λv G' H' u x dv=>?_];rfl';obtain⟨_,ds,p,h⟩:=n;obtain⟨l,xs,_,_,w,e3,_⟩:=u.one r p;ac_rfl;refine#[_,w,u.ev true h ?_];rintro _ ⟨k,j,rfl,R,T⟩;refine#[rfl,λv1 U H1 Y a b=>?_];rfl';cases b.ofInt;obtain⟨l',g,nu,e1,y,Fc,z,put⟩:=Y.one r p;cases e1;ac_rfl;rw[w] at y;cases y;exact#[l,g,k,j,rfl,rfl,Fc,by rw[z.length];exact R,M.nx _ T _ _ #[U,Q,put _ _ (z.set (dv.mono a.gg) j)]]
end
structure Uh (Z:DC):Prop where
 ha:ad Z.K (.ref Z.C) "__class__"=some (some (.builtin "object.__class__"))
 hn:bP Z.K (.builtin "object.__class__") "__get__"=some (some (.builtin "getset_descriptor.__get__"))
 htk:cq Z.K (.builtin "object.__class__")=some true
 hm:b6 Z.K Z.C (.type "object")=some true
 hk:ak Z.K (.ref Z.C) (.ref Z.C)=some true
section
variable {Z:DC} {X:Cx} {a:Expr} {ta:aW} {pos:Pos}
theorem yn:CallR X (.builtin "isinstance") (λc H Q=>∃(x:V)(C:Addr)(t:Value)(b:Bool),c= [x, .ref C]/\jE X.K H x t/\ak X.K t (.ref C)=some b/\Q (.bl b) H):=by
 intro d s k H c l Q I f h;obtain⟨x,n,t,b,rfl,g,e,q⟩:=h;obtain⟨m,o,rfl,i,j⟩:=f.two;cases j;exact wK I i g e λp=>#[.bl b,H,I.tok _,rfl,q]
def NN(t:aW):aW:=λb P=>t b λd=>∃w,d= .fj w/\P (.bl true)
theorem Ic(T:yW Z)(W:Uh Z)(j:DE Z X a ta)(k:Gl X "isinstance")(l:X.mg "isinstance"=none)(m:Gl X "Web")(n:X.mg "Web"=some (.ref Z.C))(c:X.K=Z.K:=by rfl)(f:starEach [a, .Name "Web" b] X.env=(false,eval a X.env)::starEach [.Name "Web" b] X.env:=by rfl)
  (o:(backTo pos (starEach [.Name "Web" b] X.env)).any (·.1)=false:=by rfl) (r:starEach [.Name "Web" b] X.env=(false,eval (.Name "Web" b) X.env)::starEach [] X.env:=by rfl):
  DE Z X (.Call (.Name "isinstance" p) [a, .Name "Web" b] [] pos) (NN ta):=by
 have t:PE X (.Name "Web" b) (tC (.ref Z.C)):=xq m n (v:= .ref Z.C) rfl (by decide)
 refine(lq yn k l (by decide+kernel) (bH j (bH t eF r) f) (by decide) (by decide) f o).imp ?_
 rintro A H Q ⟨G,u,P,s,e,h,q⟩;exists G,u,_,s,e,h;rintro d ⟨w,rfl,x⟩ v y z i dv;cases dv with
 | @fj p B R w hw E g F I=>
  exact#[_,Z.C,_,true,rfl, .ins (i.sub _ _ hw) (by rw[c];exact T.cl) (by rw[c];exact W.ha) (by rw[c];exact W.hn) (by rw[c];exact W.htk) (by rw[c];exact W.hm),by rw[c];exact W.hk,q _ x _ y z i (.bl _)]
end
open PySem.Calls PySem.W
section
variable {X:Cx} {C:Addr} {x:Str} {p pos:Pos} {e:Expr} {es:List Expr} {te:TE} {t:TA}
def Nc(C:Addr)(t:TA):TE:=λb H Q=>t b H λc a=>c.length<=1000/\∀e,a e=none->Q (.ref e) (upd a e (HS C e none))
theorem Eb(M:Ny X.K C (.builtin "ValueError.__init__"))(I:Inv X a f H s)(F:c.length<=1000)(h:∀e,H e=none->Q (.ref e) (upd H e (HS C e none))):
  wpAny (model X.prog X.w) X.A (call (.ref C) c) (EP X a f Q) X.xe s:=by
 obtain⟨G,q,N,bs,J,L,O,sub,P,l,R,S,T,U,Y,Z,i,j,m,n⟩:=M.obj;have r:=h (s.heap.objs.size+1) (I.hok.fresh (o9 _));have k:c.length<=sizeLine:=by rw[aaU];lia
 have v:((s.heap.push {cls:= .type "tuple",data:= .seq c.toArray}).push (fB C s.heap.objs.size none)).get? (s.heap.objs.size+1)=some (fB C s.heap.objs.size none):=by
  have:=FS (s.heap.push {cls:= .type "tuple",data:= .seq c.toArray}) (o:=fB C s.heap.objs.size none) rfl
  rwa [aa7] at this
 obtain⟨y,g,d,z,os⟩:=s
 refine aaG (Ez (init:= .builtin "ValueError.__init__") abW j m n (I.fw _ _ i) (PySem.W.looks_specialIn I.fw M.call) (PySem.W.looks_instIn I.fw M.typ) (PySem.W.looks_findIn I.fw M.ini)
  (λself=>PySem.W.Looks.of_pure (abW.init.bind self)) k ?_)
 refine CV abW j (AC _ (AC _ (I.fw _ _ i))) v (λp t' B E=>?_) k;refine#[rfl,#[V.ref (y.objs.size+1),_,I.laid (t':=z) (λb u q=>E b u ?_ (AC _ (AC _ q))) (o9 _) (T3 B),rfl,r]];exact bB (oZ (Do q))
theorem FZ(M:Ny X.K C (.builtin "ValueError.__init__"))(c:Gl X x)(d:X.mg x=some (.ref C))(f:PA X (e::es) t)(g:(x==("__debug__":Str))=false:=by decide)
  (i:starEach (e::es) X.env=(false,eval e X.env)::starEach es X.env:=by rfl) (j:(backTo pos (starEach es X.env)).any (·.1)=false:=by rfl):
  PE X (.Call (.Name x p) (e::es) [] pos) (Nc C t):=by
 intro a s k H Q I h;refine aaw (k8 I c d ?_ g);refine aaL (h₀:=X.base) I.ok.mod.kin M.kp (thn (f pos a s k H _ I h) λm n #[o,u,b,r,l,q]=>#[b.fw,?_]) i j;exact Eb M b (by rw[yf,<-r.length];exact l) q
def PQ(X:Cx)(f:TE):TS:=λ_ b H=>f b H λv c=>∃a C d,v= .ref a/\c a=some (HS C a d)/\qS X.K C/\mroIn X.K C (.type "BaseException")=some true/\Cj X b (upd c a (mU C a d)) a
theorem Jo(y:X.calm=true)(z:PE X e te):PS X (.Raise (some e) none pos) (PQ X te):=by
 intro c s l H D I h;rw[arm_exec_Raise];refine wpAny_bind (wpAny_standAt ?_);simp only[evalOpt,Option.map];unfold raiseStmt;refine wpAny_bind (wpAny_bind (thn (z c s l H _ I h) λu f #[v,B,k,E,a,C,d,ev,m,F,i,q]=>wpAny_bind (wpAny_standAt (wpAny_pure ?_))));subst ev;obtain rfl:u=Value.ref a:=E;obtain⟨t,j⟩:=PZ k.hok m;obtain⟨U,Y,N,bs,G,Z,p,sub,ab,J,dd,n,k1,k2,k3,k5,r,cB,cA,cN⟩:=F.obj;have w:=k.fw _ _ r
 have L:(Value.ref C::G).contains (.type "BaseException")=true:=by
  unfold mroIn clsIn at i;rw[r] at i;simpa using i
 have M:Inv X c l (upd B a (mU C a d)) f:=by
  refine ah λG0 n=>?_;have O:=k.write (x:=a) (e:=a) (o:=mU C a d) (h':=f.heap) (t':=f.toks) (by rw[m];exact True.intro) (.inl rfl) (λb u i q=>q) #[_,j] (KY (tb:= .none) j)
  obtain⟨P,g,Q,R,os⟩:=f;refine n ?_;exact O
 have S:X.xe (.ref a) f:=q f M.J2 #[C,t, .none,d,aw,j, .inl rfl];have T:X.A.handled=none:=I.ok.hd y;obtain⟨P,g,Q,R,os⟩:=f
 repeat (first|with_reducible refine wpAny_loadPart_at j ?_|with_reducible refine wpAny_loadPart_at w ?_| (with_reducible refine wpAny_isSubtype_exc w ?_;rw[L]) |wp_step)
 exact wpAny_raiseNew_none T S
end
section
variable {X:Cx} {k:Nat} {f C:Addr} {fd:FuncData} {ps:List Str} {sp:Sp} {x m:Str} {p pos apos:Pos} {e o:Expr} {es:List Expr} {ta:TE} {t:TA}
def QW(X:Cx)(b:St):XK:=λe _ c=>∃a,e= .ref a/\Cj X b c a
theorem MU{pins:List (Addr×Obj)}{σ:St}{H:Hp}{s:Shared}{Q:VK}{us:List Value}{vs:List V}(F:FnOk X.prog X.w X.K X.mg X.base (yk X.prog X.w) k f fd ps sp)(hr:bW k X.A)(hb:Binds X.K fd ps [])
  (I:Inv X pins σ H s) (r:Vals vs us) (h:sp vs H Q (QW X σ)):wpAny (model X.prog X.w) X.A (call (.ref f) us) (EP X pins σ Q) X.xe s:=by
 have hl:(us++ []).length=ps.length:=by rw[f6,<-r.length];exact F.len _ _ _ _ h
 have Od:=hb s us I.fw hl;rw[f6] at Od;refine wpAny_call (codeAny_mono (F.run X.A X.stack s H #[us,[]] us vs Q (QW X σ) hr I.eU Od r h) λr s' hq=>?_);cases r with
 |error e=>
  rfl';obtain⟨a,H',rfl,fl,a',ea,q⟩:=hq;cases ea;obtain⟨I2,f2⟩:=N7 I fl;ac_rfl;exact q s' I2 f2
 |ok fl=>
  cases fl with
  |ret u=>exact I.after hq
  |next=>exact False.elim hq
  |brk=>exact False.elim hq
  |cont=>exact False.elim hq
def HD(X:Cx)(b:Sp)(t:TA):TE:=λa H Q=>t a H λc d=>b c d Q (QW X a)
theorem Jf(F:FnOk X.prog X.w X.K X.mg X.base (yk X.prog X.w) k f fd ps sp)(c:bW k X.A)(d:Gl X x)(g:X.mg x=some (.ref f))(i:aA X.K (.ref f)=true)(j:Binds X.K fd ps [])
  (l:PA X (e::es) t) (n:(x==("__debug__":Str))=false:=by decide) (u:starEach (e::es) X.env=(false,eval e X.env)::starEach es X.env:=by rfl) (v:(backTo pos (starEach es X.env)).any (·.1)=false:=by rfl):
  PE X (.Call (.Name x p) (e::es) [] pos) (HD X sp t):=by
 intro a s y H Q I h;refine aaw (k8 I d g ?_ n);refine aaL (h₀:=X.base) I.ok.mod.kin i (thn (l pos a s y H _ I h) λz B #[E,G,b,r,q]=>#[b.fw,?_]) u v;exact MU F c j b r q
end
section
variable {X:Cx} {pins:List (Addr×Obj)} {σ:St} {H:Hp} {s:Shared}
theorem rL(I:Inv X pins σ H s)(O:X.N.Nodup)(F:X.N[i]? =some x)(P:X.env.scope.names.lookup x=some .local)
  (h:∀G,Inv X pins (σ.set i none) H G->Q () G):wpAny M A (do bindName X.env x .none;unbindBehindTheSuite X.env x u) Q E s:=by
 obtain⟨m,J,R⟩:=id I.loc;have S:(X.env.scope.kind== .class|| (X.env.scope.kind== .module&&X.env.locals !=X.env.globals))=false:=by rw[I.ok.kind];rfl
 have T:i<σ.length:=by rw[I.len];exact(c9.mp F).1
 have wb:=I.wb;refine wpAny_nameGoes_keeps P J S λU v Y f=>?_;rfl';obtain⟨oL,_,_,wH,_⟩:=id J;ac_rfl
 have a:gy X.prog X.w H U:=λb ob e=>by
  refine(I.hok b ob e).p8 (λc L r q=>(f.2 c ?_).trans q) (λ_ q=>q) λ_ _ q=>q;rintro rfl
  rcases r with rfl|r
  .rw[I.free] at e;cases e
  .rw[I.free] at r;cases r
 refine h _ #[I.ok,I.os,I.bare,#[λb o e n B l=>?_,λb o e n B l=>?_,I.base.free,λb o e l=>?_,I.base.tups,I.base.frzs,I.base.tbls],#[_,Y,λj y v' g t e3=>?_],λy c e=>?_,I.free,I.freeC,λp hp=>?_,a,by simpa using I.len]
 .exact(f.2 b (bB (fk (Do e) I.ok.above))).trans (I.base.keep b o e n B l)
 .obtain⟨sl,g⟩:=I.base.slot b o e n B l
  exact#[sl,(f.2 b (bB (fk (Do e) I.ok.above))).trans g]
 .obtain⟨o',g⟩:=I.base.there b o e l
  exact#[o',(f.2 b (bB (fk (Do e) I.ok.above))).trans g]
 .by_cases C:j=i
  .subst C
   rw[ji T] at t;cases Fk t
  .rw[jj (Ne.symm C)] at t
   obtain⟨u',r',q⟩:=R j y v' g t e3;exists u',r'
   rcases q with ⟨k,e⟩ | ⟨k,c,e,z⟩
   .refine .inl #[k,?_]
    have:y≠x:=λe=>C (uc O g (e▸F))
    simp[this,e]
   .exact .inr #[k,c,e,z.sameBut f (wb y c e)]
 .obtain⟨L,z⟩:=I.cell y c e
  exact#[L,z.sameBut f (wb y c e)]
 .obtain⟨e,n,ne,nf,d⟩:=I.pin p hp
  exact#[(f.2 p.1 ne).trans e,n,ne,nf,d]
theorem C4{K:ac}{C:Addr}{b:Value}{r:Bool}{f q:Str}{N:Addr}{bs e:List Value}{g:Bool}{h:List Str}{sub:List Value}{i:Bool}{c:Option Bool}{j:Option Addr}{k l m n o:Option Value}{a:String}
  (p:K.lookup C=some (excClassObj f q C N bs e g h sub i c j k l m n o a)) (d:mroIn K C b=some r):(Value.ref C::e).contains b=r:=by
 unfold mroIn clsIn at d;rw[p] at d;simpa using d
theorem KQ{M:Model}{A:Around}{E:Value->Shared->Prop}{Q:Bool->Shared->Prop}{K:ac}{a C e t:Addr}{j:Value}{d:Option Addr}{b:Bool}(X:K.In s.heap)(k:s.heap.get? a=some (iQ C t j d))(l:qS K C)(m:qS K e)(n:mroIn K e (.type "BaseException")=some true)(o:mroIn K C (.ref e)=some b)
  (h:Q b s):wpAny M A (excMatches (.ref a) (.ref e)) Q E s:=by
 obtain⟨R,S,N,bs,T,U,Y,sub,Z,p,H,k0,k1,k2,k3,k5,i,_⟩:=l.obj;obtain⟨q,r,N',u,v,Zc,w,x,y,z,B,F,G,I,J,L,c,_⟩:=m.obj;have O:=C4 i o;have P:=C4 c n
 replace i:=X _ _ i
 replace c:=X _ _ c
 have f:=tc_notTuple;obtain⟨hp,g,dr,tk,os⟩:=s;unfold excMatches
 repeat (first|with_reducible refine wpAny_loadPart_at k ?_|with_reducible refine wpAny_loadPart_at c ?_| (with_reducible refine wpAny_isSubtype_exc c ?_;rw[P]) | (with_reducible refine wpAny_isSubtype_exc i ?_;rw[O]) |wp_step)
 cases b<;>(wp_walk;exact h)
end
abbrev Cx.AN(X:Cx)(a:Addr):Cx:={X with A:=X.A.mark (some (.ref a)),calm:=false,xe:=λ_ _=>False}
abbrev Cx.tr(X:Cx)(pn:List (Addr×Obj))(E:Value->Shared->Prop):Cx:={X with pn:=pn,xe:=E}
section
variable {X:Cx} {pins pn:List (Addr×Obj)} {σ:St} {H:Hp} {s:Shared} {E:Value->Shared->Prop} {a:Addr}
theorem Inv.AN(I:Inv X pins σ H s)(a:Addr):Inv (X.AN a) pins σ H s:=
 #[#[I.ok.mod,I.ok.kind,I.ok.glob,I.ok.blt,I.ok.above,I.ok.inj,I.ok.has,I.ok.cab,(λz=>nomatch z),I.ok.frames,I.ok.stk,I.ok.exf,I.ok.bs,I.ok.bsz,I.ok.noex,I.ok.exfs,I.ok.funs,I.ok.frf],I.os,I.bare,I.base,I.loc,I.cell,I.free,I.freeC,I.pin,I.hok,I.len]
theorem Inv.BU(ok:X.Ok)(I:Inv (X.AN a) pins σ H s):Inv X pins σ H s:=#[ok,I.os,I.bare,I.base,I.loc,I.cell,I.free,I.freeC,I.pin,I.hok,I.len]
theorem Inv.tr(I:Inv X pins σ H s)(E:Value->Shared->Prop):Inv (X.tr (X.pn++pins) E) [] σ H s:=
 #[#[I.ok.mod,I.ok.kind,I.ok.glob,I.ok.blt,I.ok.above,I.ok.inj,I.ok.has,I.ok.cab,I.ok.hd,I.ok.frames,I.ok.stk,I.ok.exf,I.ok.bs,I.ok.bsz,I.ok.noex,I.ok.exfs,I.ok.funs,I.ok.frf],I.os,I.bare,I.base,I.loc,I.cell,I.free,I.freeC,λp b=>I.pin p (by rw[f6] at b;exact b),I.hok,I.len]
theorem Inv.Eu(ok:X.Ok)(I:Inv (X.tr (X.pn++pins) E) [] σ H s):Inv X pins σ H s:=#[ok,I.os,I.bare,I.base,I.loc,I.cell,I.free,I.freeC,λp b=>I.pin p (by rw[f6];exact b),I.hok,I.len]
theorem Aw{X:Cx}(f:vN X H s a)(h:Q () s):wpAny M A (setFlight (.ref a) none) Q E s:=by
 rfl';obtain⟨C,t,l,d,_,c,b⟩:=f;ac_rfl
 rcases b with rfl| ⟨T,rfl,_,_,_,_,_,o,j,e,g,b⟩
 .unfold setFlight
  refine ir (aaV (x:= .none) c rfl rfl ?_);rw[mo (by decide)]
  exact ls h
 .refine wpAny_setFlight_none c rfl rfl e g (uW.mp b).1 ?_
  rw[Heap.update_setField_same _ _ o j 3 .none e g b];exact h
end
def U5:Option Nat->Ends->Ends
 |none,D=>D
 |some i,D=>{nx:=λa H=>D.nx (a.set i none) H,rt:=D.rt,bk:=λa H=>D.bk (a.set i none) H,ct:=λa H=>D.ct (a.set i none) H}
def WS:Option Nat->Addr->St->St
 |none,_,b=>b
 |some i,a,b=>b.set i (some (.ref a))
abbrev JM:=List (Addr×Option Nat×(Addr->TS))
def BQ(K:ac):JM->Ends->St->Hp->Addr->Addr->Prop
 | [],_,_,_,_,_=>False
 | (d,n,e)::r,D,c,H,a,C=>∃b,mroIn K C (.ref d)=some b/\if b=true then e a (U5 n D) (WS n a c) H else BQ K r D c H a C
def PH(X:Cx)(e:List ExceptHandler)(l:JM):Prop:=
 ∀(b:List (Addr×Obj))(c:St)(H:Hp)(s:Shared)(a C:Addr)(d:Option Addr)(D:Ends),Inv X b c H s->vN X H s a->H a=some (mU C a d)->qS X.K C->BQ X.K l D c H a C->wpAny (model X.prog X.w) X.A (handleBy (.ref a) X.env e) (SP X b D) X.xe s
section
variable {X:Cx} {pos p:Pos} {c n:Str} {Cm:Addr} {Cy:Stmt} {xG:List Stmt} {rest:List ExceptHandler} {l:JM} {th:Addr->TS}
theorem Pe:PH X [] []:=λ_ _ _ _ _ _ _ _ _ _ _ _ h=>h.elim
theorem KW{h:Heap}(e:mU C a d=mU f a i)(g:h.get? a=some (iQ C t b d)):C=f:=by
 have:=IR (λo=>match o with|HO.ext k=>k h|_=>True) e
 have m:∃t b,h.get? a=some (iQ f t b i):=by
  have:(∃t b,h.get? a=some (iQ C t b d))=(∃t b,h.get? a=some (iQ f t b i)):=this
  rw[<-this];exact#[t,b,g]
 obtain⟨r,q,j⟩:=m;rw[g] at j;cases j;rfl
theorem Tf(i:Nat)(hN:X.N.Nodup)(hi:X.N[i]? =some n)(hk:X.env.scope.names.lookup n=some .local)(hg:Gl X c)(hm:X.mg c=some (.ref Cm))(xm:qS X.K Cm)(qu:mroIn X.K Cm (.type "BaseException")=some true)(hs:∀a,j6 (X.AN a) (Cy::xG) (th a))(hr:PH X rest l)(ft:(c==("__debug__":Str))=false:=by decide):
  PH X (.ExceptHandler (some (.Name c p)) (some n) (Cy::xG) pos::rest) ((Cm,some i,th)::l):=by
 intro pins σ H s a C d D I fl ha xc h;rfl';obtain⟨C',t,tb,d',h1,h2,h3⟩:=id fl;have eC:C'=C:=KW (Option.some.inj (h1.symm.trans ha)) h2;subst eC;obtain⟨b,hb,h⟩:=h;ac_rfl;refine wpAny_handleBy_cons (codeAny_handlers_test (wpAny_mono (k8 (I.AN a) hg hm ?_ ft) (λ_ _ x=>x) λ_ _ z=>z)) (by intro q;cases q)
 refine KQ I.fw h2 xc xm qu hb ?_;cases b with
 |false=>exact hr pins σ H s a C' d D I fl ha xc h
 |true=>
  refine codeAny_handlers_suite_as (Aw fl ?_);refine jA (X:=X.AN a) (v:= .ref a) (I.AN a) hN hi (.inl hk) rfl (λs1 I1=>?_) (.inr hk);refine wpAny_mono (hs a pins s1 _ H _ I1 h) (λf s2 q=>?_) λ_ _ z=>z.elim;cases f with
  |next=>obtain⟨az,H',I',q⟩:=q;exact rL (I'.BU I.ok) hN hi hk λs3 I3=>#[_,H',I3,q]
  |brk=>obtain⟨az,H',I',q⟩:=q;exact rL (I'.BU I.ok) hN hi hk λs3 I3=>#[_,H',I3,q]
  |cont=>obtain⟨az,H',I',q⟩:=q;exact rL (I'.BU I.ok) hN hi hk λs3 I3=>#[_,H',I3,q]
  |ret u=>obtain⟨v,az,H',I',r,q⟩:=q;exact rL (I'.BU I.ok) hN hi hk λs3 I3=>#[v,_,H',I3,r,q]
def Xe(X:Cx)(g:List (Addr×Obj)->(Value->Shared->Prop)->TS)(h:TS)(l:JM):TS:=λD i H=>∀e E,(∀f b a C d,b a=some (mU C a d)->qS X.K C->BQ X.K l D f b a C->Cj (X.tr e E) f b a)->g e E {D with nx:=h D} i H
theorem Pj{body orelse:List Stmt}{h₀:ExceptHandler}{hs:List ExceptHandler}{tb:List (Addr×Obj)->(Value->Shared->Prop)->TS}{to:TS}(mY:X.stack=X.env::X.outer)(Lq:X.env.frame=some X.env.locals)
  (hb:∀pn E,j6 (X.tr pn E) body (tb pn E)) (ho:j6 X orelse to) (hh:PH X (h₀::hs) l):PS X (.Try body (h₀::hs) orelse [] pos) (Xe X tb to l):=by
 intro pins s σ H D I h;refine wpAny_Try_except ?_
 let E':Value->Shared->Prop:=λe s₁=>wpAny (model X.prog X.w) X.A (noteFrame e X.env) (λ_ sS=>wpAny (model X.prog X.w) X.A (setFlight e none) (λ_ El=>wpAny (model X.prog X.w) X.A (handleBy e X.env (h₀::hs)) (SP X pins D) X.xe El) X.xe sS) X.xe s₁
 have hw:=h (X.pn++pins) E' λaz H' a C d h1 h2 h3=>by
  intro s1 I1 f1;refine zv (X:=X.tr (X.pn++pins) E') mY Lq I1 f1 λs2 I2 f2=>?_;rfl';have XA:=I2.Eu I.ok;obtain⟨C',t,tb,d',g1,g2,g3⟩:=f2;ac_rfl;refine hh pins az H' s2 a C d D XA #[C',t,tb,d',g1,g2,g3.imp id λ#[T,e1,e2,e3,e4,e5,e6]=>#[T,e1,e2,e3,e4,λp hp=>e5 p (ig _ hp),e6]] h1 h2 h3
 refine wpAny_mono (hb _ E' [] s σ H _ (I.tr E') hw) (λf s1 q=>?_) λ_ _ z=>z;cases f with
 |next=>obtain⟨az,H',I',q⟩:=q;exact ho pins s1 az H' D (I'.Eu I.ok) q
 |brk=>obtain⟨az,H',I',q⟩:=q;exact#[az,H',I'.Eu I.ok,q]
 |cont=>obtain⟨az,H',I',q⟩:=q;exact#[az,H',I'.Eu I.ok,q]
 |ret u=>obtain⟨v,az,H',I',r,q⟩:=q;exact#[v,az,H',I'.Eu I.ok,r,q]
end
abbrev JK:=List D->(D->Prop)->(D->Prop)->Prop
def rY(Z:DC)(f:JK):Sp:=λg H Q E=>∃(G:Hp)(e:List D)(P R:D->Prop),aN G H/\DvAll Z G g e/\f e P R/\(∀d,P d->∀v b c,Ext G H b c->Dv Z b v d->Q v c)/\∀d,R d->∀a b c,Ext G H b c->Dv Z b (.ref a) d->E (.ref a) none c
section
variable {P:Program} {w:World} {K:ac} {mg:Str->Option Value} {base:Heap} {Z:DC}
theorem tI.okX{x a:Str}{st:Stmt}{f:Addr}{g:FuncData}{N d:List Str}{k:Nat}{e:Sp}{h:pN}(F:tI K x a st f g)(S:aK N d (av st))(len:∀b H Q E,e b H Q E->b.length=d.length)
  (i:∀(c:Value)(A:Around)(outer:List Env)(s:Shared)(H:Hp)(b:List V)(Q:VK)(E:XK),bW k (A.deeper (envOfC a (av st) s.heap.objs.size f c))->e b H Q E->
   ∃t,j6 (kh h P w K mg base N a (av st) f c A outer s H E) (dA st) t/\t {nx:=λ_ j=>Q .bu j,rt:=Q} (start N b) H):FnOk P w K mg base h (k+1) f g d e:=by
 rfl';obtain⟨u,v,kV,m,y,z,c,B,C,rfl,n,o⟩:=F.ex;ac_rfl;exact K0 n o S len λA outer s H b Q E p q=>i c A outer s H b Q E p q
theorem Im{x b:Str}{st:Stmt}{f:Addr}{B:FuncData}{N m:List Str}{k:Nat}{p:JK}(F:tI K x b st f B)(S:aK N m (av st))(C:List Nat)(J:∀i,i<m.length->C.getD i 0=0)(len:∀c P R,p c P R->c.length=m.length)
  (L:∀(n:Value)(A:Around)(outer:List Env)(s:Shared)(H:Hp)(E:XK)(c:List D)(R g:D->Prop),bW k (A.deeper (envOfC b (av st) s.heap.objs.size f n))->p c R g->
   ∃t,m6 Z (kh (yk P w) P w K mg base N b (av st) f n A outer s H E) C 0 (dA st) t/\t {nx:=λ_=>R .bu,rt:=R,xc:=λ_ d=>g d} (mh N c)):FnOk P w K mg base (yk P w) (k+1) f B m (rY Z p):=by
 refine F.okX S (λM H Q E h=>?_) (λn A outer s H M Q E O h=>?_)
 .obtain⟨G,c,R,g,s,dv,h,q⟩:=h
  rw[dv.length];exact len _ _ _ h
 rfl';obtain⟨G,c,R,g,U,dv,h,q,X⟩:=h;obtain⟨t,Y,hq⟩:=L n A outer s H E c R g O h;have hl:=len _ _ _ h;ac_rfl;refine#[_,Y,#[G,H,G],_,_,#[G,λ_=> [],?_],hq,#[λρ IH az j #[l,fp,r]=>q _ IH _ l j r.ex .bu,λd u v f l j x o nd nw=>q d u v l j x o.1,λ_ z=>z.elim,λ_ z=>z.elim,λρ d u az j l fp a r y s2 I2 f2=>KZ I2 f2 (X d u a l j r.ex y)]];refine#[.refl U, .refl _,by unfold mh start;simp[dv.length],λi d e=>?_,λ_=>f7,(λ_ _ _ _ z=>by cases z),(λ_ _ z=>by cases z)]
 unfold mh at e
 have I:i<c.length:=by
  apply GE;intro z;rw[mP (by simpa using iY z),uX] at e
  split at e<;>cases e
 rw[kD (by simpa using I),cc] at e
 have j9:c[i]? =some d:=by
  cases z:c[i]? with
  |none=>rw[z] at e;cases e
  |some d'=>rw[z] at e;cases e;rfl
 obtain⟨v,hv,y⟩:=dv.get j9;refine#[v,?_,by rw[J i (by lia)];exact#[y,rfl]]
 unfold start;rw[kD (by simpa [dv.length] using I),cc,hv];rfl
end
section
variable {Z:DC} {X:Cx} {md:List Nat} {rn:Nat} {st:Stmt} {Ek:List Stmt} {t:iM} {e x1 y1:Expr} {es:List Expr} {tx ty:aW} {sd:JK} {k j:Nat} {x:Str} {ps:List Str} {p pos aG:Pos}
def NJ(b:List Nat)(c:JK)(t:iM)(K:dq->DN->D->Prop):cx:=λE a=>t (cH b a) λd=>c d (K E a) (E.xc a)
theorem Cz{B:Bs}{b:DN}{g:St}{H G:Hp}{i:Nat->List Addr}{E:dq}{r:Ends}{K:D->Prop}{Q:VK}(S:SIx Z B md b g H G i)(h:t (cH md b) λl=>sd l K (E.xc b))(M:Meets Z X B md rn E r)
  (q:∀d,K d->∀v c f,SIx Z B md b g f c i->Dv Z c v d->Q v f):HD X (rY Z sd) (Bg Z t) g H Q:=by
 refine#[G,_,_,S.ex.sub,S.wy,h,λl s y u z n w=>?_];have o:=S.grow n;exact#[u,l,K,E.xc b,n.sub,w,s,λd m v c f x dv=>q d m v c f (o.grow x) dv,λd m a c f x dv=>#[a,rfl,M.xc b d m g f c i a (o.grow x) dv]]
theorem Ig(d:fG X.K X.mg x st ps)(F:FnOk X.prog X.w X.K X.mg X.base (yk X.prog X.w) k d.f d.fd ps (rY Z sd))(c:bW j X.A)(g:DA Z X (e::es) t)(i:Gl X x:=by rfl)(l:k<=j:=by first|decide|lia)
  (n:(x==("__debug__":Str))=false:=by decide) (o:starEach (e::es) X.env=(false,eval e X.env)::starEach es X.env:=by rfl) (q:(backTo aG (starEach es X.env)).any (·.1)=false:=by rfl) (r:swapsWith (.Call (.Name x p) (e::es) [] aG) none pos.line X.env=pure false:=by rfl):
  DSt Z X md rn (.Expr (.Call (.Name x p) (e::es) [] aG) pos) (NJ md sd t λE a _=>E.nx a):=by
 refine(hU (Jf F (c.mono l) i d.m d.F.kp d.b g n o q) r).imp ?_;intro D J H s;rfl';obtain⟨B,a,E,⟨G,y,S⟩,h,M⟩:=s;ac_rfl;exact Cz S h M λd z v C N I dv=>M.nx _ z _ _ #[C,y,I]
structure XE (K:ac) (C:Addr):Prop where
 cls:uz K C
 obj:qS K C
theorem Gr(H:Hp)(a:Addr)(o u:HO):upd (upd H a o) a u=upd H a u:=by
 funext b
 by_cases h:b=a
 .rw[h,aw,aw]
 .rw[ay h,ay h,ay h]
theorem D6(S:SIx Z B md b c H G d)(h:E.xc b (.err C [] []))(M:Meets Z X B md rn E f)(g:H a=none):Cj X c (upd (upd H a (HS C a none)) a (mU C a none)) a:=by
 rw[Gr];have x:Ext G H (upd G a (mU C a none)) (upd H a (mU C a none)):= .new S.ex.sub g;exact M.xc b _ h c _ _ d a (S.grow x) (.err aw (.inl #[rfl,rfl,rfl]) .nil)
def KO:Option Nat->dq->dq
 |none,E=>{E with xc:=λ_ _=>False}
 |some i,E=>{nx:=λa=>E.nx (a.set i none),rt:=E.rt,bk:=λa=>E.bk (a.set i none),ct:=λa=>E.ct (a.set i none)}
def MW:Option Nat->D->DN->DN
 |none,_,a=>a
 |some i,d,a=>a.set i (some d)
abbrev zZ:=List (Addr×Option Nat×cx)
def Q7(K:ac)(C:Addr):zZ->dq->DN->D->Prop
 | [],_,_,_=>False
 | (c,n,f)::r,E,a,d=>∃b,b6 K C (.ref c)=some b/\if b=true then f (KO n E) (MW n d a) else Q7 K C r E a d
def Q6(K:ac)(l:zZ)(E:dq)(a:DN):D->Prop
 | .err C b c=>qS K C/\Q7 K C l E a (.err C b c)
 |_=>False
def UU(K:ac)(tb a:cx)(l:zZ):cx:=λE b=>tb {E with nx:=a E,xc:=Q6 K l E} b
theorem SIx.drop{ρ:DN}{i:Nat}(S:SIx Z B md ρ b H G d):SIx Z B md (ρ.set i none) (b.set i none) H G d where
 ex:=S.ex
 fl:=S.fl
 len:=by rw[dm,dm];exact S.len
 at_:=λj c h=>by
  by_cases z:i=j
  .subst z
   by_cases a:i<ρ.length
   .rw[ji a] at h;cases h
   .rw[xX (iY a),j0 (iY a)] at h;cases h
  .rw[jj z] at h ⊢
   exact S.at_ j c h
 nd:=S.nd
 ap:=S.ap
 nw:=S.nw
def Qx(Z:DC)(X:Cx)(b:List Nat)(d:Nat)(l:zZ):JM:=l.map λc=>(c.1,c.2.1,λa=>lP Z (X.AN a) b d c.2.2)
def WA(a:List Nat)(l:zZ):Prop:=∀c∈l,∀i,c.2.1=some i->a.getD i 0=0
def DHs(Z:DC)(X:Cx)(a:List Nat)(b:Nat)(c:List ExceptHandler)(l:zZ):Prop:=PH X c (Qx Z X a b l)/\WA a l
theorem zk{B:Bs}{E:dq}{s:Ends}(M:Meets Z X B md rn E s){q:DN}{u:St}{H G:Hp}{v:Nat->List Addr}(S:SIx Z B md q u H G v){a C:Addr}{d:D}(dv:Dv Z G (.ref a) d){K:ac}:∀(l:zZ),WA md l->Q7 K C l E q d->BQ K (Qx Z X md rn l) s u H a C
 | [],_,h=>h
 | (L,n,F)::r,ok,#[b,I,h]=>by
  exists b,I;cases b with
  |false=>exact bY (zk M S dv r (λc J=>ok c (dh _ J)) (h))
  |true=>
   have h:F (KO n E) (MW n d q):=h;refine bF ?_;cases n with
   |none=>exact#[B,q,_,#[G,v,S],h,#[M.nx,M.rt,M.bk,M.ct,λ_ _ z=>z.elim]]
   |some i=>
    refine#[B,_,_,#[G,_,S.mN (ok _ (cP ..) i rfl) dv],h,#[λw f y A #[g,m,o]=>M.nx _ f _ _ #[g,m,o.drop],M.rt,λw f y A #[g,m,o]=>M.bk _ f _ _ #[g,m,o.drop],λw f y A #[g,m,o]=>M.ct _ f _ _ #[g,m,o.drop],λ_ _ z=>z.elim]]
theorem NZ(v:∀g E,m6 Z (X.tr g E) md rn c tb)(w:m6 Z X md rn b o)(q:DHs Z X md rn (f::n) l)(y:X.stack=X.env::X.outer:=by rfl)(z:X.env.frame=some X.env.locals:=by rfl):
  DSt Z X md rn (.Try c (f::n) b [] pos) (UU X.K tb o l):=by
 refine(Pj (tb:=λg E=>lP Z (X.tr g E) md rn tb) y z v w q.1).imp ?_;intro P Q H A g R F;rfl';obtain⟨B,J,E,S,h,M⟩:=A;ac_rfl;refine#[B,J,_,S,h,#[λr L s u i=>#[B,r,E,i,L,M],M.rt,M.bk,M.ct,λr d m s u G U a i dv=>?_]];cases d<;>first|exact False.elim m|skip
 rename_i C Y e
 have N:=dv;cases dv with
 |err O j k=>exact F s u a C _ (i.ex.sub _ _ O) m.1 (zk M i N l q.2 m.2)
theorem NT:DHs Z X md rn [] []:=#[Pe,λc a=>by cases a]
variable {c n:Str} {Cm:Addr} {Cy:Stmt} {xG:List Stmt} {rest:List ExceptHandler} {l:zZ} {th:cx}
theorem Rl(i:Nat)(g:X.N.Nodup)(h:X.mg c=some (.ref Cm))(d:XE X.K Cm)(m:∀a,m6 Z (X.AN a) md rn (o::xG) th)(f:DHs Z X md rn rest l)(q:Gl X c:=by rfl)(r:(c==("__debug__":Str))=false:=by decide)(s:X.N[i]? =some n:=by rfl)(u:X.env.scope.names.lookup n=some .local:=by rfl)(v:md.getD i 0=0:=by rfl):
  DHs Z X md rn (.ExceptHandler (some (.Name c p)) (some n) (o::xG) pos::rest) ((Cm,some i,th)::l):=
 #[Tf i g s u q h d.obj d.cls.be m f.1 r,λc b=>by
  rcases cV.mp b with rfl|b
  .intro i z;cases z;exact v
  .exact f.2 c b]
end
section
variable {X:Cx}
theorem CT(hok:gy P w H h)(e:H a=some (mU C a b))(k:EK H b c d):∃f b,PySem.W.InstAt h a f C b:=by
 obtain⟨t,j,e⟩:=N6 hok e
 rcases k with ⟨rfl,_,_⟩ | ⟨l,rfl,g,_⟩
 .exact#[_,none,e,rfl,rfl,trivial]
 .obtain⟨_,m,⟨o,_,_,i,_⟩,_⟩:=P0 hok g
  exact#[_,some o,e,rfl,rfl,i]
structure JP (K:ac):Prop where
 hn:bP K (.builtin "object.__class__") "__get__"=some (some (.builtin "getset_descriptor.__get__"))
 htk:cq K (.builtin "object.__class__")=some true
theorem yo(i:JP X.K):
  CallR X (.builtin "isinstance") (λg H Q=>∃(a C:Addr)(f:Option Addr)(j:List Str)(k:List V)(c:V)(d:Value)(b:Bool),g= [.ref a,c]/\H a=some (mU C a f)/\EK H f j k/\uz X.K C/\B8 c d/\ak X.K (.ref C) d=some b/\Q (.bl b) H):=by
 intro l s B H g E Q I o h;rfl';obtain⟨a,C,f,j,k,c,d,b,rfl,r,t,u,v,e,q⟩:=h;obtain⟨G,w,rfl,x,m⟩:=o.two;subst x;obtain⟨L,y,J⟩:=CT I.hok r t;ac_rfl
 have A:w=d:=by
  cases v with
  |own D=>exact m
  |blt n=>exact m
 subst A;exact SZ (zp u i.hn i.htk) I.fw J e (λz=>nomatch z) λM=>#[.bl b,H,I.tok _,rfl,q]
inductive qf:List V->List Value->Prop where
 |nil:qf [] []
 |cons {c:V} {cu:Value} {cs:List V} {qj:List Value}:B8 c cu->qf cs qj->qf (c::cs) (cu::qj)
theorem qf.vals:∀{c:List V}{d e:List Value},qf c d->Vals c e->e=d
 |_,_,_, .nil, .nil=>rfl
 |_,_,_, .cons a b, .cons r t=>by
  rw[b.vals t];cases a with
  |own D=>rw[show _=Value.ref D from r]
  |blt n=>rw[show _=Value.type n from r]
theorem v3(i:JP X.K):
  CallR X (.builtin "isinstance") (λk H Q=>∃(a C c:Addr)(d:Option Addr)(l:List Str)(m f:List V)(g:List Value)(b:Bool),k= [.ref a, .ref c]/\H a=some (mU C a d)/\EK H d l m/\uz X.K C/\H c=some (.tup f)/\qf f g/\cr X.K (.ref C) g=some b/\Q (.bl b) H):=by
 intro p s O H k P Q I j h;rfl';obtain⟨a,C,c,d,l,m,f,g,b,rfl,v,x,y,A,B,e,q⟩:=h;obtain⟨S,T,rfl,E,F⟩:=j.two;subst E;subst F;obtain⟨U,G,J⟩:=CT I.hok v x;obtain⟨_,L,j,o,M,r,n,t⟩:=(show cF X.prog X.w H s.heap c (.tup f) from I.hok c _ A);have N:=B.vals j;subst N;obtain⟨Y,d,Z,sl⟩:=o;ac_rfl;dsimp only at r t;subst r t;exact PySem.W.kia_tup (zp y i.hn i.htk) I.fw J M e (λz=>nomatch z) λtk=>#[.bl b,H,I.tok _,rfl,q]
end
section
variable {Z:DC} {X:Cx} {a c:Expr} {cs:List Expr} {ta:aW} {p pos:Pos}
def NM(K:ac)(e:Value)(t:aW):aW:=λf P=>t f λd=>match d with
 | .err C _ _=>uz K C/\∃b,ak K (.ref C) e=some b/\P (.bl b)
 |_=>False
theorem y4{K:ac}{f:V}{g:Value}(i:JP K)(n:B8 f g)(o:PE X c (tC f))(r:DE Z X a ta)(t:Gl X "isinstance")(u:X.mg "isinstance"=none)(l:starEach [a,c] X.env=(false,eval a X.env)::starEach [c] X.env:=by rfl)
  (w:(backTo pos (starEach [c] X.env)).any (·.1)=false:=by rfl) (x:starEach [c] X.env=(false,eval c X.env)::starEach [] X.env:=by rfl) (y:X.K=K:=by rfl):
  DE Z X (.Call (.Name "isinstance" p) [a,c] [] pos) (NM K g ta):=by
 subst y;refine(lq (yo i) t u (by decide+kernel) (bH r (bH o eF x) l) (by decide) (by decide) l w).imp ?_
 intro T H Q z;rfl';obtain⟨G,B,P,s,e,h,q⟩:=z;ac_rfl;refine#[G,B,_,s,e,h,λd m v E F k dv=>?_];cases dv<;>first|exact m.elim|skip
 rename_i a C I J L U M N Y
 rfl';obtain⟨O,b,R,S⟩:=m;ac_rfl;exact#[a,C,I,J,L,f,g,b,rfl,k.sub _ _ M,N.mono k.sub,O,n,R,q _ S _ E F k (.bl _)]
theorem iK(b:X.mg x=some (.ref C))(d:Gl X x:=by rfl)(e:(x==("__debug__":Str))=false:=by decide):PE X (.Name x pos) (tC (.ref C)):=xq d b (v:= .ref C) rfl e
theorem Td(b:X.mg "ValueError"=none)(d:Gl X "ValueError":=by rfl):PE X (.Name "ValueError" pos) (tC (.ty "ValueError")):=DZ d b (by decide+kernel) rfl (by decide) (by decide)
def QU(X:Cx):List Expr->List V->Prop
 | [],[]=>True
 |e::b,v::d=>PE X e (tC v)/\starEach (e::b) X.env=(false,eval e X.env)::starEach b X.env/\QU X b d
 |_,_=>False
theorem Ms:∀{b:List Expr}{d:List V},QU X b d->PA X b (λj H Q=>Q d H)
 | [],[],_=>eF
 |e::b,v::d,#[f,g,i]=>bH f (Ms i) g
 | [],_::_,h=>h.elim
 |_::_,[],h=>h.elim
def Kf(K:ac)(e:List Value)(t:aW):aW:=λf P=>t f λd=>match d with
 | .err C _ _=>uz K C/\∃b,cr K (.ref C) e=some b/\P (.bl b)
 |_=>False
theorem E7{K:ac}{f:Nat}{g:Pos}{j:List V}{k:List Value}(i:JP K)(r:qf j k)(t:QU X cs j)(U:j.length<=1000)(u:DE Z X a ta)(w:Gl X "isinstance")(x:X.mg "isinstance"=none)(n:starEach [a, .Tuple cs f g] X.env=(false,eval a X.env)::starEach [.Tuple cs f g] X.env:=by rfl)
  (y:(backTo pos (starEach [.Tuple cs f g] X.env)).any (·.1)=false:=by rfl) (z:starEach [.Tuple cs f g] X.env=(false,eval (.Tuple cs f g) X.env)::starEach [] X.env:=by rfl) (A:X.K=K:=by rfl):
  DE Z X (.Call (.Name "isinstance" p) [a, .Tuple cs f g] [] pos) (Kf K k ta):=by
 subst A;refine(lq (v3 i) w x (by decide+kernel) (bH u (bH (Ht (Ms t)) eF z) n) (by decide) (by decide) n y).imp ?_
 intro Y H Q B;rfl';obtain⟨G,F,P,s,e,h,q⟩:=B;ac_rfl;refine#[G,F,_,s,e,h,λd o v c H1 f dv=>?_];cases dv<;>first|exact o.elim|skip
 rename_i a C I J L ds M N h3
 rfl';obtain⟨O,b,R,S⟩:=o;ac_rfl;refine#[by rw[aaU];lia,λT m=>?_]
 exact#[a,C,T,I,J,L,j,k,b,rfl,(aM m _) _ _ (f.sub _ _ M),(N.mono f.sub).mono (aM m _),O,aw,r,R,q _ S _ _ _ (f.trans (.new f.sub m)) (.bl _)]
end
section
variable {P:Program} {w:World} {K:ac} {mg:Str->Option Value} {base:Heap} {Z:DC}
end
section
variable {Z:DC} {X:Cx} {e:Expr} {es:List Expr} {t:iM} {pos:Pos}
end
def Nh:List Value->Bool
 | []=>false
 |v::r=>if isRef v then Hi r else Hi (v::r)
theorem JD(h:Nh a=true):a= [.type "ValueError", .type "Exception", .type "BaseException", .type "object"]\/∃M,a= [.ref M, .type "ValueError", .type "Exception", .type "BaseException", .type "object"]:=by
 cases a with
 |nil=>cases h
 |cons v r=>
  rw[Nh] at h;cases b:isRef v with
  |true=>
   rw[tz b] at h;cases v with
   |ref M=>rw[Dr h];exact .inr #[M,rfl]
   |_=>cases b
  |false=>
   rw[mo (by rw[b];exact cO)] at h
   exact .inl (Dr h)
theorem GB{K:ac}{C N:Addr}{d:ClassData}{e:List Value}{f q:Str}{bs s:List Value}{g:Bool}{h:List Str}{sub:List Value}{i:Bool}{c:Option Bool}{j:Option Addr}{k l m n o:Option Value}
  (t:b5 K C=true) (u:ad K (.ref C) "__getattribute__"=some (some (.builtin "BaseException.__getattribute__"))) (v:ad K (.ref C) "__getattr__"=some none)
  (w:ad K (.ref C) "__setattr__"=some (some (.builtin "object.__setattr__"))) (x:ad K (.ref C) "__class__"=some (some (.builtin "object.__class__")))
  (p:d7 K C=some d) (r:d.mro= .ref C::e) (lo:K.lookup C=some (excClassObj f q C N bs s g h sub i c j k l m n o "ValueError.__new__")) (y:s=e) (z:Nh e=true):XE K C:=by
 have a:∀b,b6 K C b=some ((Value.ref C::e).contains b):=λb=>by
  unfold b6;rw[p,abk,r];rfl
 subst y
 rcases JD z with rfl| ⟨M,rfl⟩
 .refine#[#[t,u,v,w,?_,x,?_,?_],#[f,q,N,bs,_,g,h,sub,i,c,j,k,l,m,n,o,lo,rfl,rfl,rfl]]
  .unfold By
   rw[p];show vG d.mro=true;rw[r];rfl
  .rw[a];rfl
  .rw[a];rfl
 .refine#[#[t,u,v,w,?_,x,?_,?_],#[f,q,N,bs,_,g,h,sub,i,c,j,k,l,m,n,o,lo,rfl,rfl,rfl]]
  .unfold By
   rw[p];show vG d.mro=true;rw[r];rfl
  .rw[a];rfl
  .rw[a];rfl
end L2
namespace EM
open PySem L2 Wb
def top(i:Nat):Stmt:=PySem.Challenge.pw_mapdye_k21_put_in.main.body.getD i (.Pass #[0,0,0,0])
abbrev kR:Stmt:=top 18
abbrev oE:Stmt:=top 19
abbrev oz:Stmt:=top 22
abbrev jU:Stmt:=top 23
abbrev kS:Stmt:=top 24
abbrev jX:Stmt:=top 25
abbrev kP:Stmt:=top 26
abbrev dj:Stmt:=top 27
abbrev jV:Stmt:=top 28
abbrev jW:Stmt:=top 29
abbrev kQ:Stmt:=top 32
abbrev uq:Stmt:=top 33
abbrev i8:Stmt:=top 35
abbrev ot:Stmt:=top 36
abbrev kN:Stmt:=top 37
abbrev jT:Stmt:=top 38
abbrev hZ:Stmt:=top 39
abbrev l7:Stmt:=top 40
abbrev gr:Stmt:=top 41
abbrev kO:Stmt:=top 42
abbrev l6:Stmt:=top 43
abbrev kA:Stmt:=top 44
abbrev i9:Stmt:=top 45
abbrev qG:Stmt:=top 46
abbrev kM:Stmt:=top 47
abbrev BE:Stmt:=top 48
abbrev fg:Stmt:=L2.jv (top 30) 0
abbrev om:Stmt:=L2.jv (top 30) 1
abbrev jr:Stmt:=L2.jv (top 30) 2
abbrev kv:Stmt:=L2.jv (top 30) 3
abbrev oq:Stmt:=L2.jv (top 30) 4
abbrev kL:Stmt:=L2.jv (top 30) 5
theorem oN:aK ["web","side","sides","p","q"] ["web","side"] (av kR):=by bv_omega
theorem zN:aK ["web","walked","told","side","sides","step"] ["web"] (av oE):=by bv_omega
theorem sO:aK ["thing","many"] ["thing","many"] (av oz):=by bv_omega
theorem mJ:aK ["rows","p","row","q"] ["rows"] (av jU):=by bv_omega
theorem oO:aK ["rows","p","row"] ["rows"] (av kS):=by bv_omega
theorem mM:aK ["rows","p","row","place","q"] ["rows"] (av jX):=by bv_omega
theorem oK:aK ["rows","p","row","q"] ["rows"] (av kP):=by bv_omega
theorem h7:aK ["rows","reached","waiting","p","q"] ["rows"] (av dj):=by bv_omega
theorem mK:aK ["rows","q","reached"] ["rows"] (av jV):=by bv_omega
theorem mL:aK ["rows","fault"] ["rows"] (av jW):=by bv_omega
theorem oM:aK ["row","ahead","p","place"] ["row","ahead","p"] (av kQ):=by bv_omega
theorem l8:aK ["web","land","i","j","told","points","a","b","turns"] ["web","land","i","j"] (av uq):=by bv_omega
theorem lC:aK ["_law_script","_law_k"] ["_law_script","_law_k"] (av i8):=by bv_omega
theorem sN:aK ["_law_script","_law_k","_law_many","_law_base","_law_cell","_law_digits","_law_number","_law_found","_law_turn"] ["_law_script","_law_k","_law_many","_law_base"] (av ot):=by bv_omega
theorem oH:aK ["_law_turns_here","_law_left","_law_found","_law_p","_law_row_here","_law_q","_law_walk","_law_here","_law_around"] ["_law_turns_here"] (av kN):=by bv_omega
theorem mH:aK ["_law_row_here","_law_ahead","_law_point","_law_at"] ["_law_row_here","_law_ahead","_law_point"] (av jT):=by bv_omega
theorem mI:aK ["_law_walks","_law_number","_law_k"] ["_law_walks","_law_number"] (av hZ):=by bv_omega
theorem p4:aK ["_law_turns_here","_law_number","_law_walk","_law_i","_law_p","_law_j","_law_q"] ["_law_turns_here","_law_number"] (av l7):=by bv_omega
theorem oI:aK ["_law_turns_here","_law_row_here","_law_order","_law_k","_law_found","_law_p","_law_old","_law_start"] ["_law_turns_here","_law_row_here"] (av gr):=by bv_omega
theorem oJ:aK ["_law_script","_law_turns_here","_law_number"] ["_law_script"] (av kO):=by bv_omega
theorem p0:aK ["_law_turns_here","_law_cell","_law_p","_law_row_here","_law_i","_law_j"] ["_law_turns_here","_law_cell"] (av l6):=by bv_omega
theorem sM:aK ["_law_turns_here","_law_land","_law_i","_law_j","_law_walks","_law_walk","_law_made"] ["_law_turns_here","_law_land","_law_i","_law_j"] (av kA):=by bv_omega
theorem lD:aK ["_law_web","_law_land","_law_i","_law_j","e","_law_some"] ["_law_web","_law_land","_law_i","_law_j"] (av i9):=by bv_omega
theorem uQ:aK ["_law_web","_law_turns_here","_law_ties","_law_p","_law_row_here","_law_k","_law_q"] ["_law_web","_law_turns_here"] (av qG):=by bv_omega
theorem oG:aK ["_law_turns_here","_law_number","_law_walks","_law_way","_law_land","_law_walk","_law_i","_law_j"] ["_law_turns_here","_law_number"] (av kM):=by bv_omega
theorem Hz:aK ["_law_script","_law_turns_here","_law_web","_law_number","_law_land","_law_i","_law_j","_law_due_here","_law_told"] ["_law_script"] (av BE):=by bv_omega
theorem lB:aK ["self","turns","rows","fault"] ["self","turns"] (av fg):=by bv_omega
theorem sH:aK ["self"] ["self"] (av om):=by bv_omega
theorem pZ:aK ["self"] ["self"] (av jr):=by bv_omega
theorem sL:aK ["self"] ["self"] (av kv):=by bv_omega
theorem sI:aK ["self","a","b","many"] ["self","a","b"] (av oq):=by bv_omega
theorem oF:aK ["self","p","q","row"] ["self","p","q"] (av kL):=by bv_omega
set_option genInjectivity false in
structure Txt (Z:DC) (mg:Str->Option Value) where
 B:Ub mg
 x_set:mg "set"=none
 d_round_from:fG Z.K mg "round_from" kR ["web","side"]
 d_lands:fG Z.K mg "lands" oE ["web"]
 d_is_among:fG Z.K mg "is_among" oz ["thing","many"]
 d_alien_fault:fG Z.K mg "alien_fault" jU ["rows"]
 d_self_fault:fG Z.K mg "self_fault" kS ["rows"]
 d_twice_fault:fG Z.K mg "twice_fault" jX ["rows"]
 d_lone_fault:fG Z.K mg "lone_fault" kP ["rows"]
 d_reached_from_first:fG Z.K mg "reached_from_first" dj ["rows"]
 d_apart_fault:fG Z.K mg "apart_fault" jV ["rows"]
 d_first_fault:fG Z.K mg "first_fault" jW ["rows"]
 d_put_behind:fG Z.K mg "put_behind" kQ ["row","ahead","p"]
 d_put_in:fG Z.K mg "put_in" uq ["web","land","i","j"]
 d__law_cell_at:fG Z.K mg "_law_cell_at" i8 ["_law_script","_law_k"]
 d__law_row:fG Z.K mg "_law_row" ot ["_law_script","_law_k","_law_many","_law_base"]
 d__law_lands:fG Z.K mg "_law_lands" kN ["_law_turns_here"]
 d__law_behind:fG Z.K mg "_law_behind" jT ["_law_row_here","_law_ahead","_law_point"]
 d__law_corner:fG Z.K mg "_law_corner" hZ ["_law_walks","_law_number"]
 d__law_deed:fG Z.K mg "_law_deed" l7 ["_law_turns_here","_law_number"]
 d__law_named:fG Z.K mg "_law_named" gr ["_law_turns_here","_law_row_here"]
 d__law_turns:fG Z.K mg "_law_turns" kO ["_law_script"]
 d__law_bent:fG Z.K mg "_law_bent" l6 ["_law_turns_here","_law_cell"]
 d__law_due:fG Z.K mg "_law_due" kA ["_law_turns_here","_law_land","_law_i","_law_j"]
 d__law_refused:fG Z.K mg "_law_refused" i9 ["_law_web","_law_land","_law_i","_law_j"]
 d__law_is:fG Z.K mg "_law_is" qG ["_law_web","_law_turns_here"]
 d__law_asked:fG Z.K mg "_law_asked" kM ["_law_turns_here","_law_number"]
 d_law:fG Z.K mg "law" BE ["_law_script"]
 W:yW Z
 mC:mg "Web"=some (.ref Z.C)
 i_f:Addr
 i_fd:FuncData
 i_F:tI Z.K "__init__" "Web.__init__" fg i_f i_fd
 mkW:Mk Z.K Z.C i_f
 m___init__b:Binds Z.K i_fd ["self","turns"] []
 m_many:z0 Z "many" "Web.many" om ["self"]
 m_turns:z0 Z "turns" "Web.turns" jr ["self"]
 m_ties:z0 Z "ties" "Web.ties" kv ["self"]
 m_tied:z0 Z "tied" "Web.tied" oq ["self","a","b"]
 m_behind:z0 Z "behind" "Web.behind" kL ["self","p","q"]
 iW:Uh Z
 iX:JP Z.K
 x_ValueError:mg "ValueError"=none
 e_MapError:Addr
 g_MapError:mg "MapError"=some (.ref e_MapError)
 e_TooMany:Addr
 g_TooMany:mg "TooMany"=some (.ref e_TooMany)
 e_NotPlane:Addr
 g_NotPlane:mg "NotPlane"=some (.ref e_NotPlane)
 e_NoCorner:Addr
 g_NoCorner:mg "NoCorner"=some (.ref e_NoCorner)
 e_NoRing:Addr
 g_NoRing:mg "NoRing"=some (.ref e_NoRing)
 e_Alike:Addr
 g_Alike:mg "Alike"=some (.ref e_Alike)
 e_TooFew:Addr
 g_TooFew:mg "TooFew"=some (.ref e_TooFew)
 e_NotFilled:Addr
 g_NotFilled:mg "NotFilled"=some (.ref e_NotFilled)
 e_Odd:Addr
 g_Odd:mg "Odd"=some (.ref e_Odd)
 e_Bridge:Addr
 g_Bridge:mg "Bridge"=some (.ref e_Bridge)
 e_Shared:Addr
 g_Shared:mg "Shared"=some (.ref e_Shared)
 q_MapError:XE Z.K e_MapError
 q_NoCorner:XE Z.K e_NoCorner
 k_NoCorner:Ny Z.K e_NoCorner (.builtin "ValueError.__init__")
 z_NoCorner_TooMany:ak Z.K (.ref e_NoCorner) (.ref e_TooMany)=some false
 z_NoCorner_NotPlane:ak Z.K (.ref e_NoCorner) (.ref e_NotPlane)=some false
 z_NoCorner_NoCorner:ak Z.K (.ref e_NoCorner) (.ref e_NoCorner)=some true
 z_NoCorner_NoRing:ak Z.K (.ref e_NoCorner) (.ref e_NoRing)=some false
 z_NoCorner_Alike:ak Z.K (.ref e_NoCorner) (.ref e_Alike)=some false
 z_NoCorner_TooFew:ak Z.K (.ref e_NoCorner) (.ref e_TooFew)=some false
 z_NoCorner_NotFilled:ak Z.K (.ref e_NoCorner) (.ref e_NotFilled)=some false
 z_NoCorner_Odd:ak Z.K (.ref e_NoCorner) (.ref e_Odd)=some false
 z_NoCorner_Bridge:ak Z.K (.ref e_NoCorner) (.ref e_Bridge)=some false
 z_NoCorner_Shared:ak Z.K (.ref e_NoCorner) (.ref e_Shared)=some false
 z_NoCorner_ValueError:ak Z.K (.ref e_NoCorner) (.type "ValueError")=some true
 m_NoCorner_MapError:b6 Z.K e_NoCorner (.ref e_MapError)=some true
 t___name__:∃tk,mg "__name__"=some (.str "law_mapdye_k21_put_in" tk)
 c_MOST_POINTS:∃tk,mg "MOST_POINTS"=some (.int 14 tk)
variable {P:Program} {w:World} {mg:Str->Option Value} {base:Heap} {Z:DC} (T:Txt Z mg)
def M0:cI:=λa P=>∃(i n:Int),a= [.int i, .int n]/\P (.bl (decide (0<=i/\i<n)))
theorem cS:FnOk P w Z.K mg base cw 1 T.d_is_among.f T.d_is_among.fd ["thing","many"] (bh Z M0):=by
 have d:=sO.nd;refine bC T.d_is_among.F sO [0,0] (by decide) (λb R h=>by obtain⟨_,_,rfl,_⟩:=h;rfl) (λe A outer s H E b R c h=>?_)
 have g:=c.units;exists _,(au (ba (kj (GU "int" (aa 0) rfl T.B.isinstance rfl T.B.int NB) (kj (GV (GU "bool" (aa 0) rfl T.B.isinstance rfl T.B.bool J3)) (rk (Ia ud n5 ax (aa 0) (aa 1)))))));obtain⟨i,n,rfl,q⟩:=h;refine#[_,rfl,rfl,true,rfl,bF #[_,rfl,rfl,false,rfl,true,rfl,bF #[_,rfl,?_]]];refine#[_,rfl,br (λa=>#[_,rfl,?_]) (λa=>?_)]
 .have a:0<=i:=KB a
  show R (.bl (decide (i<n)));rw[show decide (i<n)=decide (0<=i/\i<n) by simp[a]]
  exact q
 .have a:¬0<=i:=On a
  rw[show decide (0<=i/\i<n)=false by simp[a]] at q
  exact q
def vK:cI:=λa P=>∃(w:W),a= [aP w]/\yV w/\1<=w.length/\w.length<=14/\P .bu
theorem sT{w:W}(h:(gX (w.map aq))[j]? =some d):j<w.length/\d= .tup [.int (j:Int),aq (row w j)]:=by
 obtain⟨x,b,rfl⟩:=lK h;obtain⟨r,a,rfl⟩:=cK b;have c:j<w.length:=(c9.mp a).1;exists c;rw[Pq a]
theorem vq:FnOk P w Z.K mg base cw 2 T.d_alien_fault.f T.d_alien_fault.fd ["rows"] (bh Z vK):=by
 have c:=mJ.nd;refine bC T.d_alien_fault.F mJ [0,0,0,0] (by decide) (λn R h=>by obtain⟨_,rfl,_⟩:=h;rfl) (λy A outer s H E n R m h=>?_)
 have z:=m.units
 refine#[_,(ao (cD rfl GT (eY rfl T.B.enumerate (ae (aa 0) ag)) (fP 2 rfl (aX (aQ 1 c) (aX (aQ 2 c) cX))) (au (cD rfl GT (bX (aa 2)) (aQ 3 c) (au (bM (dB (eD (aD T.d_is_among (cS T) m (ae (aa 3) (ae (aB aZ rfl T.B.len aY (ae (aa 0) ag)) ag))))) (au (ba (eB (ae rm (ae (aa 1) (ae (aa 3) ag)))))) aS)))))
   (au (ba fO))),?_]
 obtain⟨a,rfl,g,C,G,q⟩:=h;refine#[_,rfl,bN (λ_ e=>∃i l b,e= [some (aP a),i,l,b]) #[_,_,_,rfl] ?_ ?_]
 .rintro j d _ o ⟨i,l,b,rfl⟩ A p
  obtain⟨I,rfl⟩:=sT o;exists rfl,rfl;refine#[_,rfl,bN (λ_ e=>∃b,e= [some (aP a),some (.int (j:Int)),some (aq (row a j)),b]) #[_,rfl] ?_ ?_]
  .rintro k J _ r ⟨t,rfl⟩ L u
   obtain⟨x,v,rfl⟩:=cK r;refine#[_,rfl,_,rfl,_,_,rfl,#[rfl,?_]];have M:x<a.length:=g.rng _ _ (gb v);rw[show decide ((0:Int)<=(x:Int)/\(x:Int)<((a.map aq).length:Int))=true by simp;lia]
   exact bY (u _ #[_,rfl])
  .rintro _ ⟨t,rfl⟩
   exact p _ #[_,_,_,rfl]
 .rintro _ ⟨i,l,b,rfl⟩
  exact q
theorem xh:FnOk P w Z.K mg base cw 1 T.d_self_fault.f T.d_self_fault.fd ["rows"] (bh Z vK):=by
 have i:=oO.nd;refine bC T.d_self_fault.F oO [0,0,0] (by decide) (λk R h=>by obtain⟨_,rfl,_⟩:=h;rfl) (λt A outer s H E k R l h=>?_)
 have u:=l.units
 refine#[_,(ao (cD rfl GT (eY rfl T.B.enumerate (ae (aa 0) ag)) (fP 2 rfl (aX (aQ 1 i) (aX (aQ 2 i) cX))) (au (bM (bb Bt (aa 1) (aa 2) (by with_unfolding_all rfl)) (au (ba (eB (ae rm (ae (aa 1) (ae (aa 1) ag)))))) aS)))
   (au (ba fO))),?_]
 obtain⟨a,rfl,g,v,x,q⟩:=h;refine#[_,rfl,bN (λ_ m=>∃b c,m= [some (aP a),b,c]) #[_,_,rfl] ?_ ?_]
 .rintro j d _ n ⟨b,c,rfl⟩ A o
  obtain⟨y,rfl⟩:=sT n;exists rfl,rfl;exists _,rfl,_,rfl,rfl,cY _,_,rfl
  have e:inD (.int (j:Int)) ((row a j).map af)=false:=by
   have:=k4 (r:=row a j) (p:=j)
   rw[GM (g.irr j)] at this;exact this
  rw[mo cO,e];exact bY (o _ #[_,_,rfl])
 .rintro _ ⟨b,c,rfl⟩
  exact q
theorem lJ(l:List a)(k:Nat)(h:k<=l.length):cutD l none (some (k:Int))=l.take k:=by
 unfold cutD;have b:HT.b7 l.length 0 none=0:=rfl
 have c:HT.b7 l.length l.length (some (k:Int))=k:=by
  simp only[HT.b7]
  split<;>lia
 rw[b,c];simp
theorem vv:FnOk P w Z.K mg base cw 1 T.d_twice_fault.f T.d_twice_fault.fd ["rows"] (bh Z vK):=by
 have i:=mM.nd;refine bC T.d_twice_fault.F mM [0,0,0,0,0] (by decide) (λt R h=>by obtain⟨_,rfl,_⟩:=h;rfl) (λQ A outer s H E t R u h=>?_)
 have S:=u.units
 refine#[_,(ao (cD rfl GT (eY rfl T.B.enumerate (ae (aa 0) ag)) (fP 2 rfl (aX (aQ 1 i) (aX (aQ 2 i) cX))) (au (cD rfl GT (eY rfl T.B.enumerate (ae (aa 2) ag)) (fP 2 rfl (aX (aQ 3 i) (aX (aQ 4 i) cX))) (au (bM (bb Bt (aa 4) (iz (aa 2) jK (jL (aa 3))) (by with_unfolding_all rfl)) (au (ba (eB (ae rm (ae (aa 1) (ae (aa 4) ag)))))) aS)))))
   (au (ba fO))),?_]
 obtain⟨a,rfl,g,U,X,q⟩:=h;refine#[_,rfl,bN (λ_ l=>∃n o b c,l= [some (aP a),n,o,b,c]) #[_,_,_,_,rfl] ?_ ?_]
 .rintro j d _ v ⟨n,o,b,c,rfl⟩ A C
  obtain⟨Y,rfl⟩:=sT v;exists rfl,rfl;refine#[_,rfl,bN (λ_ l=>∃b c,l= [some (aP a),some (.int (j:Int)),some (aq (row a j)),b,c]) #[_,_,rfl] ?_ ?_]
  .rintro k d' _ G ⟨I,J,rfl⟩ A' L
   obtain⟨y,M,rfl⟩:=lK G;obtain⟨x,r,rfl⟩:=cK M;have gD:k<(row a j).length:=(c9.mp r).1;exists rfl,rfl;exists _,rfl,_,rfl,_,rfl;have N:cutD ((row a j).map af) none (some (k:Int))=((row a j).take k).map af:=by rw[lJ _ _ (by simp;lia),qO]
   refine(?_:NK false (af x) (.lst (cutD ((row a j).map af) none (some (k:Int)))) _);rw[N];exists rfl,cY _,_,rfl
   have e:inD (af x) (((row a j).take k).map af)=false:=by
    rw[k4,GM];intro z;obtain⟨m,p⟩:=tm z
    have O:m<k:=by
     have:=(c9.mp p).1
     rw[ik] at this;lia
    rw[HJ O] at p;exact absurd ((List.getElem?_inj (by lia) (g.nod j)).mp (p.trans r.symm)) (by lia)
   rw[mo cO,e];exact bY (L _ #[_,_,rfl])
  .rintro _ ⟨I,J,rfl⟩
   exact C _ #[_,_,_,_,rfl]
 .rintro _ ⟨n,o,b,c,rfl⟩
  exact q
theorem xf:FnOk P w Z.K mg base cw 1 T.d_lone_fault.f T.d_lone_fault.fd ["rows"] (bh Z vK):=by
 have c:=oK.nd;refine bC T.d_lone_fault.F oK [0,0,0,0] (by decide) (λo R h=>by obtain⟨_,rfl,_⟩:=h;rfl) (λJ A outer s H E o R t h=>?_)
 have L:=t.units
 refine#[_,(ao (cD rfl GT (eY rfl T.B.enumerate (ae (aa 0) ag)) (fP 2 rfl (aX (aQ 1 c) (aX (aQ 2 c) cX))) (au (cD rfl GT (bX (aa 2)) (aQ 3 c) (au (bM (bb zB (aa 1) (aF (aa 0) (aa 3)) (by with_unfolding_all rfl)) (au (ba (eB (ae rm (ae (aa 1) (ae (aa 3) ag)))))) aS)))))
   (au (ba fO))),?_]
 obtain⟨a,rfl,g,M,N,q⟩:=h;refine#[_,rfl,bN (λ_ i=>∃l m b,i= [some (aP a),l,m,b]) #[_,_,_,rfl] ?_ ?_]
 .rintro j d _ u ⟨l,m,b,rfl⟩ A v
  obtain⟨O,rfl⟩:=sT u;exists rfl,rfl;refine#[_,rfl,bN (λ_ i=>∃b,i= [some (aP a),some (.int (j:Int)),some (aq (row a j)),b]) #[_,rfl] ?_ ?_]
  .rintro k Q _ y ⟨z,rfl⟩ S C
   obtain⟨x,G,rfl⟩:=cK y;have n:=gb G;have I:x<a.length:=g.rng _ _ n;exists _,rfl,_,rfl,_,rfl,_,cC (sU I),rfl,cY _,_,rfl
   have e:inD (.int (j:Int)) ((row a x).map af)=true:=by
    have:=k4 (r:=row a x) (p:=j)
    rw[FM (g.sym _ _ n)] at this;exact this
   rw[tz rfl,e];exact bY (C _ #[_,rfl])
  .rintro _ ⟨z,rfl⟩
   exact v _ #[_,_,_,rfl]
 .rintro _ ⟨l,m,b,rfl⟩
  exact q
def ve(bs:List Bool):List D:=bs.map D.bl
theorem J6{bs:List Bool}{i:Nat}{b:Bool}(h:bs[i]? =some b):(ve bs)[i]? =some (.bl b):=by unfold ve;rw[cc,h];rfl
theorem Cw(bs:List Bool)(i:Nat)(b:Bool):(ve bs).set i (.bl b)=ve (bs.set i b):=by unfold ve;rw[mT]
theorem Cv(bs:List Bool):(ve bs).length=bs.length:=aH _
theorem fo{n k:Nat}(h:k<n):lL n (k:Int)=some k:=by unfold lL;rw[tz (by lia),tz (by lia)];simp
def Ga:cI:=λa P=>∃(w:W),a= [aP w]/\yV w/\1<=w.length/\w.length<=14/\∀bs m,RI w bs [] [] m->(∀x,bs[x]? =some true->Reach w 0 x)->P (.lst (ve bs))
def Met(w:W)(bs:List Bool):Prop:=∀x,bs[x]? =some true->Reach w 0 x
theorem lY:FnOk P w Z.K mg base cw 1 T.d_reached_from_first.f T.d_reached_from_first.fd ["rows"] (bh Z Ga):=by
 have v:=h7.nd;refine bC T.d_reached_from_first.F h7 [0,1,1,0,0] (by decide) (λds R h=>by obtain⟨_,rfl,_⟩:=h;rfl) (λbo A outer s H E ds R hr h=>?_)
 have hu:=hr.units
 refine#[_,(ao (y8 1 (NC:= ["row"]) (src:= [none]) rfl v (wd (av dj)) trivial (bX (aa 0)) (λ_ _ _=>(c7 0 (show(["row"]:List Str).Nodup from by decide+kernel))) (λ_ _ _=>gk) (λ_ _ _=>jI))
   (ao (y9 false 1 ax jI)
   (ao (gu 2 v (gU (ae ax ag)))
   (ao (pz GT (eD (aa 2)) (ao (NY 3 2 v)
   (au (cD rfl GT (bX (aF (aa 0) (aa 3))) (aQ 4 v) (au (bM (dB (eD (aF (aa 1) (aa 4)))) (ao (y9 false 1 (aa 4) jI)
   (au (pq false 2 (aa 4)))) aS))))))
   (au (ba (aa 1))))))),?_]
 obtain⟨c,rfl,g,h1,b9,q⟩:=h;refine#[_,rfl,ko (ρ:= [none]) aq (λ_=> .bl false) c _ (λy b Y h=>h) rfl (small (by lia)) λaE=>?_]
 have e0:c.map (λ_=>D.bl false)=ve (am c.length false):=by unfold ve;rw[List.map_replicate,List.map_const']
 rw[e0];refine#[trivial,_,rfl,0,0,rfl,by rw[Cv,ya];exact fo (k:=0) (by lia),?_]
 rw[Cw];refine#[by show 1<=sizeLine;decide,?_]
 refine mv (λm ρ=>∃(bs:List Bool)(l:List Nat)(S B:Option D),ρ= [some (aP c),some (.lst (ve bs)),some (.lst (l.map af)),S,B]/\RI c bs l [] m/\Met c bs/\m<=14/\bs.count false+l.length=m) c.length ?_ ?_
 .refine#[_,[0],none,none,rfl,#[by simp,?_,?_,λx d=>?_,?_],λx d=>?_,b9,?_]
  .rw[mR,tz rfl,tz (by rw[ya];lia)]
  .intro x d
   have:x=0:=by simpa using d
   rw[this,mR,tz rfl,tz (by rw[ya];lia)]
  .by_cases e:0=x
   .exact .inl (by rw[<-e];simp)
   .rw[mR,mo e,uX] at d
    split at d<;>cases d
  .rw[abL (by rw[ya];lia),ab1,acr]
   simp;lia
  .by_cases e:0=x
   .rw[<-e];exact .refl _
   .rw[mR,mo e,uX] at d
    split at d<;>cases d
  .rw[abL (by rw[ya];lia),ab1,acr]
   simp;lia
 .rintro m _ ⟨bs,l,S,B,rfl,C,mt,hc,U⟩
  exists _,rfl,rfl
  rcases List.eq_nil_or_concat l with rfl| ⟨M,p,e⟩
  .exact bY #[_,rfl,q bs m C mt]
  .rw[List.concat_eq_append] at e
   subst e;rw[show HF (.lst ((M++ [p]).map af))=true by simp[HF]]
   refine bF ?_;rw[dJ] at U;simp only[abq] at U;obtain⟨o,rfl⟩:∃o,m=o+1:=#[m-1,by lia]
   have N:=C.pop;have X:bs[p]? =some true:=C.wt p (by simp)
   have Fv:p<c.length:=by rw[<-C.len];exact(c9.mp X).1
   refine#[M.map af,af p,by rw[df];rfl,?_]
   refine#[_,rfl,_,rfl,_,cC (sU Fv),bN (λj ρ=>∃(a:List Bool)(i:List Nat)(B:Option D),ρ= [some (aP c),some (.lst (ve a)),some (.lst (i.map af)),some (af p),B]/\RI c a i [p] o/\Met c a/\(∀k y,k<j->(row c p)[k]? =some y->a[y]? =some true)/\a.count false+i.length=o) ?_ ?_ ?_]
   .exact#[bs,M,_,rfl,N,mt,(λk n r=>by lia),by lia]
   .rintro j x _ d ⟨a,i,o5,rfl,t,G,I,O⟩ A hA
    obtain⟨n,J,rfl⟩:=cK d;have Zy:=g.rng _ _ (gb J);have Q:n<a.length:=by rw[t.len];exact Zy
    have u:a[n]? =some (a[n]):=eu Q;exists _,rfl,_,rfl,_,cC (J6 u),rfl;generalize a[n]=bn at u;cases bn with
    |true=>
     refine bY (hA _ #[a,i,_,rfl,t,G,λk y r b=>?_,O])
     by_cases e:k=j
     .rw[e,J] at b;cases b;exact u
     .exact I k y (by lia) b
    |false=>
     refine bF ?_;refine#[trivial,_,rfl,_,rfl,_,n,rfl,by rw[Cv];exact fo Q,?_]
     rw[Cw];have L:=t.push u;have aab:=L.cnt;refine#[_,rfl,_,rfl,trivial,eW (by rw[aH];lia),?_]
     have er:i.map af++ [af n]=(i++ [n]).map af:=by rw[df];rfl
     rw[er];refine hA _ #[a.set n true,i++ [n],_,rfl,L,λy b=>?_,λk y r b=>?_,?_]
     .by_cases e:n=y
      .rw[<-e];exact .step (mt p X) (gb J)
      .rw[mR,mo e] at b;exact G y b
     .rw[mR]
      by_cases e:n=y
      .rw[tz e,tz Q]
      .rw[mo e]
       refine I k y ?_ b;apply GE;intro z
       have:k=j:=by lia
       rw[this,J] at b;cases b;exact e rfl
     .obtain⟨hl,he⟩:=c9.mp u
      have:0<a.count false:=List.count_pos_iff.mpr (by rw[<-he];exact zW hl)
      rw[abL hl,he,dJ];simp;lia
   .rintro _ ⟨a,i,o5,rfl,t,G,I,O⟩
    have L:=t.close λy b=>by
     obtain⟨k,r⟩:=tm b;exact I k y (by rw[aH];exact(c9.mp r).1) r
    exact#[o,by lia,a,i,_,_,rfl,L,G,by lia,O]
def Eg:cI:=λa P=>∃(w:W),a= [aP w]/\yV w/\1<=w.length/\w.length<=14/\(Good w->P .bu)/\(¬Good w->∀q,P (.tup [.str "apart", .int 0,af q]))
theorem vt:FnOk P w Z.K mg base cw 2 T.d_apart_fault.f T.d_apart_fault.fd ["rows"] (bh Z Eg):=by
 have n:=mK.nd;refine bC T.d_apart_fault.F mK [0,0,0] (by decide) (λu R h=>by obtain⟨_,rfl,_⟩:=h;rfl) (λO A outer s H E u R o h=>?_)
 have Q:=o.units
 refine#[_,(ao (cD rfl GT (eY rfl T.B.enumerate (ae (aD T.d_reached_from_first (lY T) o (ae (aa 0) ag)) ag)) (fP 2 rfl (aX (aQ 1 n) (aX (aQ 2 n) cX))) (au (bM (dB (eD (aa 2))) (au (ba (eB (ae rm (ae ax (ae (aa 1) ag)))))) aS)))
   (au (ba fO))),?_]
 obtain⟨q,rfl,g,v,z,C,G⟩:=h;refine#[_,rfl,q,rfl,g,v,z,λbs m r mt=>bN (λk I=>(∀x,x<k->bs[x]? =some true)/\∃c i,I= [some (aP q),c,i]) #[λx t=>absurd t (acg x),_,_,rfl] ?_ ?_]
 .rintro j d _ J ⟨l,c,i,rfl⟩ A L
  obtain⟨y,M,rfl⟩:=lK J;obtain⟨b,a,rfl⟩:=cK M;exists rfl,rfl;cases b with
  |true=>
   refine#[_,rfl,rfl,bY (L _ #[λx t=>?_,_,_,rfl])]
   by_cases e:x=j
   .rw[e];exact a
   .exact l x (by lia)
  |false=>
   refine#[_,rfl,rfl,bF #[_,rfl,by show 3<=sizeLine;decide,G (λN=>?_) j]]
   have:=r.all N
   rw[this,uX] at a
   split at a<;>cases a
 .rintro _ ⟨l,c,i,rfl⟩
  refine C (g.good λp S=>mt p (l p ?_))
  have:=r.len
  unfold ve gX;simp;lia
theorem mE:FnOk P w Z.K mg base cw 3 T.d_first_fault.f T.d_first_fault.fd ["rows"] (bh Z Eg):=by
 have b:=mL.nd;refine bC T.d_first_fault.F mL [0,0] (by decide) (λj R h=>by obtain⟨_,rfl,_⟩:=h;rfl) (λm A outer s H E j R a h=>?_)
 have n:=a.units
 refine#[_,(ao (aL false 1 b (aD T.d_alien_fault (vq T) a (ae (aa 0) ag)))
   (ao (bM (bb w6 (aa 1) fO (bg _)) (au (aL false 1 b (aD T.d_self_fault (xh T) a (ae (aa 0) ag)))) aS)
   (ao (bM (bb w6 (aa 1) fO (bg _)) (au (aL false 1 b (aD T.d_twice_fault (vv T) a (ae (aa 0) ag)))) aS)
   (ao (bM (bb w6 (aa 1) fO (bg _)) (au (aL false 1 b (aD T.d_lone_fault (xf T) a (ae (aa 0) ag)))) aS)
   (ao (bM (bb w6 (aa 1) fO (bg _)) (au (aL false 1 b (aD T.d_apart_fault (vt T) a (ae (aa 0) ag)))) aS)
   (au (ba (aa 1)))))))),?_]
 obtain⟨c,rfl,g,d,e,k,l⟩:=h;exists _,rfl,c,rfl,g,d,e,trivial;refine#[_,rfl,_,rfl,bF #[_,rfl,c,rfl,g,d,e,trivial,?_]];refine#[_,rfl,_,rfl,bF #[_,rfl,c,rfl,g,d,e,trivial,?_]];refine#[_,rfl,_,rfl,bF #[_,rfl,c,rfl,g,d,e,trivial,?_]];refine#[_,rfl,_,rfl,bF #[_,rfl,c,rfl,g,d,e,λi=>#[trivial,_,rfl,k i],λi q=>#[trivial,_,rfl,l i q]]]
theorem iC{P:Program}{w:World}{base:Heap}{Z:DC}(T:Txt Z k):FnOk P w Z.K k base cw 4 T.i_f T.i_fd ["self","turns"] (Eh Z):=by
 have K5:=mE (P:=P) (w:=w) (base:=base) T;have l:=lB.nd;refine T.i_F.ok lB (λI H Q E h=>?_) (λbo A outer s H I Q E m h=>?_)
 .obtain⟨p,n,v,G,a,rfl,_⟩:=h;rfl
 obtain⟨p,n,v,G,a,rfl,r,J,L,dv,g,M,N,q⟩:=h;have hu:=m.units
 refine#[_,bS (t:=lP Z _ [0,0,0,0] 0 _)
   (bM (dB (pA ud ud ax (aB aZ rfl T.B.len aY (ae (aa 1) ag)) (Ib rfl T.c_MOST_POINTS))) (au kY) aS)
  (bS (t:=lP Z _ [0,0,0,0] 0 _)
   (Ii 2 (NC:= ["row"]) (src:= [none]) rfl l (wd (av fg)) trivial (bX (aa 1)) (λ_ _ _=>(c7 0 (show(["row"]:List Str).Nodup from by decide+kernel))) (λ_ _ _=>gk) (λ_ _ _=>(jJ qZ rfl T.B.list qT (ae (aa 0) ag))))
  (bS (t:=lP Z _ [0,0,0,0] 0 _)
   (aL false 3 l (aD T.d_first_fault (mE T) m (ae (aa 2) ag)))
  (bS (t:=lP Z _ [0,0,0,0] 0 _)
   (bM (bb Jd (aa 3) fO (bg _)) (au kY) aS)
  (jS (Pg (pv 0) (pv 2) rfl))))),?_]
 have u:(a.map aq).length=a.length:=aH _;refine#[#[G,H,G],[some (.obj p),some (aP a),none,none],{nx:=λρ=>ρ= [some (.obj p),some (aP a),none,none],rt:=λ_=>False},#[G,λ_=> [],?_],?_,#[?_,λ_ z=>z.elim,λ_ z=>z.elim,λ_ z=>z.elim,λ_ _ z=>z.elim]]
 .refine#[.refl J, .refl _,rfl,λi d c=>?_,λ_=>f7,(λ_ _ _ _ z=>by cases z),(λ_ _ z=>by cases z)]
  match i,c with
  |0,c=>cases c;exact#[_,rfl, .obj p,rfl]
  |1,c=>cases c;exact#[_,rfl,dv,rfl]
  |2,c=>cases c
  |3,c=>cases c
  |i+4,c=>cases c
 .have O:D.bl (decide ((1:Int)<=((a.map aq).length:Int)))= .bl true:=IR D.bl (FM (by rw[u];lia))
  have S:D.bl (decide (((a.map aq).length:Int)<=14))= .bl true:=IR D.bl (FM (by rw[u];lia))
  exact#[_,rfl,true,O,bF #[true,S,bY rfl]]
 rintro _ rfl GF H1 U;refine#[#[G,H,G],_,{nx:=λρ=>ρ= [some (.obj p),some (aP a),some (aP a),none],rt:=λ_=>False},U,?_,#[?_,λ_ z=>z.elim,λ_ z=>z.elim,λ_ z=>z.elim,λ_ _ z=>z.elim]]
 .exact#[_,rfl,ko (ρ:= [none]) aq aq a _ (λy hy Y h=>#[_,rfl,h]) rfl (small (by lia)) λaE=>#[trivial,rfl]]
 rintro _ rfl fA H2 X;refine#[#[G,H,G],_,{nx:=λρ=>ρ= [some (.obj p),some (aP a),some (aP a),some .bu],rt:=λ_=>False},X,?_,#[?_,λ_ z=>z.elim,λ_ z=>z.elim,λ_ z=>z.elim,λ_ _ z=>z.elim]]
 .exact#[_,rfl,a,rfl,g.near,M,N,λ_=>#[trivial,rfl],λz=>absurd g z]
 rintro _ rfl vz H3 S3;refine#[#[G,H,G],_,{nx:=λρ=>ρ= [some (.obj p),some (aP a),some (aP a),some .bu],rt:=λ_=>False},S3,?_,#[?_,λ_ z=>z.elim,λ_ z=>z.elim,λ_ z=>z.elim,λ_ _ z=>z.elim]]
 .exact#[_,rfl,_,rfl,bY rfl]
 rintro _ rfl fK H4 ⟨x,fp,f⟩;obtain⟨v0,nQ,o0⟩:=f.at_ 0 _ rfl;obtain⟨v2,Oq,o2⟩:=f.at_ 2 _ rfl;obtain⟨d0,_⟩:=o0;obtain⟨F,_⟩:=o2;cases d0;have Yj:=F;cases F with
 | @lst R xs ds hR e=>
  have ZG:=f.ex.hh _ _ r;refine#[_,Oq,_,nQ,p,Z.C,n,[],rfl,ZG,T.W.cl,T.W.nR,by decide,?_]
  have g4:x p=none:=f.ex.off p (by show H p≠none;rw[r];exact λz=>nomatch z) L
  refine q R x _ f.ex.gg (λb o j=>?_) (λb o j nb=>?_) f.ex.off aw Yj
  .rw[ay (aV j g4)];exact f.ex.sub _ _ j
  .rw[ay nb];exact f.ex.hh _ _ j
def PB:cI:=λa P=>∃(w:W),a= [.fj w]/\P (.int (w.length:Int))
theorem sh:FnOk P w Z.K mg base cw 1 T.m_many.f T.m_many.fd ["self"] (bh Z PB):=by
 have d:=sH.nd;refine bC T.m_many.F sH [0] (by decide) (λb R h=>by obtain⟨_,rfl,_⟩:=h;rfl) (λe A outer s H E b R c h=>?_)
 have g:=c.units;exists _,(au (ba (aB aZ rfl T.B.len aY (ae (kX T.W (aa 0)) ag))));obtain⟨a,rfl,q⟩:=h;exists _,rfl,a,rfl;refine(?_:R (.int ((a.map aq).length:Int)));rw[aH];exact q
def M5:cI:=λa P=>∃(w:W),a= [.fj w]/\w.length<=14/\P (aP w)
end EM
namespace L2
open PySem PySem.Spec PyProof.Rows
section
variable {Z:DC} {X:Cx} {md:List Nat} {rn:Nat} {e:Expr} {pos p2:Pos} {te:aW} {t:j4} {lo hi:Option Expr} {tl th:EI}
def Rg(t:j4):cx:=λE a=>t a λb=>E.rt (.lst b)
theorem nv(g:DF Z X rn e t):DSt Z X md rn (.Return (some e) pos) (Rg t):=by
 refine(sC g).imp λD C H j=>?_;rfl';obtain⟨B,l,E,⟨G,m,S⟩,h,M⟩:=j;ac_rfl
 let F:Addr->Prop:=λb=>∃i,b∈m i
 have s:=S.ex.sub
 have n:Ext B.G₀ B.H₀ (plus G H F) H:=#[S.ex.gg.trans (fq s),jy s,S.ex.hh,λb a p=>by
  rw[iE (λ#[i,q]=>a (S.nw i b q).1)];exact S.ex.off b a p]
 refine#[plus G H F,l,_,jy s,#[S.len,λi d h=>?_],h,λJ r v f w y x o z c=>M.rt _ r v f w y (n.trans x) o z λb a=>#[S.ex.hh.free (c b a).1,(c b a).2]];obtain⟨v,A,o⟩:=S.at_ i d h;exact#[v,A,o.dv (fq s) λb a u e=>by rw[lu #[i,a]];exact e]
end
theorem cZ.set{R:V->D->List Addr->Prop}:∀{j:List V}{t:List D}{i:List Addr}(p:Nat){v:V}{d:D}{f:List Addr},cZ R j t i->p<j.length->R v d f->i.Nodup->f.Nodup->(∀b∈f,b∉i)->
  ∃k,cZ R (j.set p v) (t.set p d) k/\k.Nodup/\∀b∈k,b∈i\/b∈f
 |_,_,_,_,_,_,_, .nil,h,_,_,_,_=>by simp at h
 |_,_,_,0,v,d,f, .cons (f:=u) (fs:=fs) a l,_,r,m,n,off=>by
  obtain⟨w,q,x⟩:=ic.mp m;refine#[f++fs, .cons r l,ic.mpr #[n,q,λb g c s e=>off b g (dE _ (e▸s))],λb g=>?_]
  rcases cU.mp g with g|g
  .exact .inr g
  .exact .inl (dE _ g)
 |_,_,_,p+1,v,d,f, .cons (f:=u) (fs:=fs) a l,h,r,m,n,off=>by
  obtain⟨w,q,x⟩:=ic.mp m;obtain⟨A,o,B,y⟩:=cZ.set p l (by simpa using h) r q n λb g z=>off b g (dE _ z)
  refine#[u++A, .cons a o,ic.mpr #[w,B,λb g c s e=>?_],λb g=>?_]
  .rcases y c s with z|z
   .exact x b g c z e
   .exact off c z (ig _ (e▸g))
  .rcases cU.mp g with g|g
   .exact .inl (ig _ g)
   .rcases y b g with z|z
    .exact .inl (dE _ z)
    .exact .inr z
section
variable {Z:DC} {X:Cx} {md:List Nat} {rn:Nat} {e k:Expr} {pos:Pos} {tk:aW} {t:j4}
variable {B:Bs} {ρ:DN} {σ:St} {H G:Hp} {fp:Nat->List Addr}
theorem SIx.Tu{f:List Addr}(S:SIx Z B md ρ σ H G fp)(v:σ[i]? =some (some (.ref T)))(r:T∈fp i)(o:Own Z G (upd H T c) (md.getD i 0) (.ref T) q f)(nd:f.Nodup)
  (nw:∀b∈f,B.H₀ b=none/\H b≠none/\G b=none) (ap:∀b∈f,∀j,j≠i->b∉fp j):SIx Z B md (ρ.set i (some q)) σ (upd H T c) G (λj=>if j=i then f else fp j) where
 ex:=by
  obtain⟨d,m,g⟩:=S.nw i T r;exact#[S.ex.gg,λx u e=>by rw[ay (aV e g)];exact S.ex.sub _ _ e,λx u e=>by rw[ay (aV e d)];exact S.ex.hh _ _ e,S.ex.off]
 fl:=S.fl
 len:=by rw[dm];exact S.len
 at_:=λj w h=>by
  by_cases z:i=j
  .subst z
   by_cases p:i<ρ.length
   .rw[ji p] at h
    cases h;exact#[_,v,by rw[tz rfl];exact o]
   .rw[xX (iY p),j0 (iY p)] at h;cases h
  .rw[jj z] at h
   obtain⟨u,A,C⟩:=S.at_ j w h;exists u,A;rw[mo (Ne.symm z)];exact C.keep (.refl _) λb a=>ay λy=>S.ap i j T z r (y▸a)
 nd:=λj=>by split;exact nd;exact S.nd j
 ap:=λj k b ne n l=>by
  split at n
  .next z=>
   rw[mo (λw=>ne (z.trans w.symm))] at l;exact ap b n k (λw=>ne (z.trans w.symm)) l
  .next z=>
   split at l
   .exact ap b l j z n
   .exact S.ap j k b ne n l
 nw:=λj b a=>by
  have s:∀b,H b≠none->upd H T c b≠none:=λb a=>by
   by_cases z:b=T
   .subst z;rw[aw];exact λw=>nomatch w
   .rw[ay z];exact a
  split at a
  .obtain⟨d,m,g⟩:=nw b a;exact#[d,s b m,g]
  .obtain⟨d,m,g⟩:=S.nw j b a;exact#[d,s b m,g]
def H0(i:Nat)(c:aW)(t:j4):cx:=λE a=>t a λd=>d.all eH=true/\∃b,a[i]? =some (some (.lst b))/\c a λf=>∃k j,f= .int k/\lL b.length k=some j/\E.nx (a.set i (some (.lst (b.set j (.lst d)))))
theorem CK(i:Nat)(hk:DE Z X k tk)(he:DF Z X 1 e t)(y:md.getD i 0=2:=by rfl)(hi:X.N[i]? =some x:=by rfl)(hv:mW X.env.scope x:=by subst_eqs)(hd:(x==("__debug__":Str))=false:=by decide)(eI:(x==("__classdict__":Str))=false:=by decide)
  (ha:∀v,assign (.Subscript (.Name x n) k p) X.env v=(do
   let s <-holding [v] (eval (.Name x n) X.env)
   let A <-holding [v,s] (eval k X.env)
   standAt p
   holding [v,s,A] (setItem s A v)
   release [v,s,A] []):=by intro _;rfl)
  (hs:swapsWithSole [.Subscript (.Name x n) k p] e pos.line X.env=pure false:=by rfl) (hw:swappedStores [.Subscript (.Name x n) k p] e X.env=pure none:=by rfl)
  (u:(assignEach [.Subscript (.Name x n) k p] X.env).map (·.2)= [assign (.Subscript (.Name x n) k p) X.env]:=by rfl):DSt Z X md rn (.Assign [.Subscript (.Name x n) k p] e pos) (H0 i tk t):=by
 refine(jq he (ku (pv i hi hv hd eI) hk set_list ha) hs hw u).imp ?_;rintro D σ H ⟨B,ρ,E,⟨G,fp,S⟩,h,M⟩;exists H,ρ,_, .refl _,S.Hd,h;rintro d ⟨IC,ds,u,h⟩ v f G' H' x o nd nw;have x':=Ext.all S.ex.sub x;have Q:=S.grow x';obtain⟨a,U,nu,kG,rfl,ed,Y,Sb,ol⟩:=o.lst;cases ed;obtain⟨dv,rfl⟩:=ol.flat;have c:H a=none:=(nw a (by rw[Sb];simp)).1
 have ga:G a=none:=S.ex.sub.free c;have C:∀j,a∉fp j:=λj z=>(S.nw j a z).2.1 c;obtain⟨v0,F,o0⟩:=Q.at_ i _ u;rw[y] at o0;obtain⟨T,ys,_,fpT,rfl,eT,hT,hfT,oT⟩:=o0.lst;refine#[_,F,Q.ev true h ?_];rintro _ ⟨k,j,rfl,g,h3⟩;refine#[rfl,λv1 I H1 q x1 rB=>?_];cases rB;obtain⟨v2,Oq,Wv⟩:=q.at_ i _ u;rw[y] at Wv;obtain⟨T2,J,ds2,CW,rfl,e2,Lb,l,L⟩:=Wv.lst;cases e2;rw[F] at Oq;cases Oq;have Wo:=q.nd i;rw[l] at Wo;obtain⟨nT,qC⟩:=j2.mp Wo;have aT:a≠T:=λz=>C i (by rw[l,z];simp)
 have a1:H1 a=some (.lst U):=x1.hh _ _ Y;have YL:I a=none:=x1.off a (by rw[Y];exact λz=>nomatch z) ga
 have Z3:j<J.length:=by
  have:=L.length
  unfold lL at g
  split at g
  .split at g
   .cases g;lia
   .cases g
  .split at g
   .cases g;lia
   .cases g
 obtain⟨O,on,P,sub⟩:=cZ.set (R:=Own Z I H1 1) j (v:= .ref a) (d:= .lst d) (f:= [a]) L Z3 (.inl #[a,U,d,[],rfl,rfl,a1,rfl,((dv.flat IC).own)]) qC (by simp) (λb c z=>by
  have:b=a:=by simpa using c
  subst this;exact C i (by rw[l];exact dh _ z))
 have Tn:T∉O:=λz=>by
  rcases sub T z with z|z
  .exact nT z
  .exact aT ((by simpa using z:T=a).symm)
 refine#[T,J,k,j,rfl,rfl,Lb,by rw[L.length];exact g,M.nx _ h3 _ _ #[I,_,q.Tu (f:=T::O) F (by rw[l];simp) ?_ (j2.mpr #[Tn,P]) (λb c=>?_) (λb c m pT=>?_)]]
 .rw[y]
  exact .inl #[T,J.set j (.ref a),_,O,rfl,rfl,aw,rfl,on.imp λv d f hf r=>r.keep (.refl _) λb c=>ay λz=>Tn (by rw[<-z];exact hf b c)]
 .rcases cV.mp c with rfl|c
  .exact q.nw i _ (by rw[l];simp)
  .rcases sub b c with z|z
   .exact q.nw i b (by rw[l];exact dh _ z)
   .have:b=a:=by simpa using z
    subst this;exact#[S.ex.hh.free (by assumption),(by rw[a1];exact λz=>nomatch z),YL]
 .rcases cV.mp c with rfl|c
  .exact λz=>q.ap i m _ (Ne.symm pT) (by rw[l];simp) z
  .rcases sub b c with z|z
   .exact λw=>q.ap i m b (Ne.symm pT) (by rw[l];exact dh _ z) w
   .have:b=a:=by simpa using z
    subst this;exact C m
end
section
variable {Z:DC} {X:Cx} {md:List Nat} {rn:Nat} {elt t0 i0 t1 i1:Expr} {f0 f1:List Expr} {scope:Scope} {pos:Pos} {wi gG:jm} {g g1:eS} {tt fi:dM} {te:aW} {src:List (Option Nat)} {NC:List Str}
end
section
variable {Z:DC} {X:Cx}
theorem sA(a:List Int):∀n,n<=a.length->preSum (λi=>a.getD i 0) n=(a.take n).sum
 |0,_=>by simp[preSum]
 |n+1,h=>by
  have:=sA a n (by lia)
  rw[preSum,this,abm (by lia),List.sum_append,fX,eu (by lia)]
  simp
theorem EZ(m:X.calm=true):CallR X (.builtin "sum") (λf H Q=>∃(p:Addr)(c:List Int),f= [.ref p]/\H p=some (.lst (c.map V.int))/\Q (.int c.sum) H):=by
 intro g s L H f M Q I n h;rfl';obtain⟨p,c,rfl,y,q⟩:=h;obtain⟨u,rfl,z⟩:=n.one;subst z;obtain⟨a,r,pl,O⟩:=I.list (cz.of y);have j:=r.length;rw[aH] at j;ac_rfl;refine call_sum_walkG (abY pl.isList ?_)
 have k:p<s.heap.objs.size:=by
  obtain⟨o,B,_⟩:=pl.isList;exact Do B
 have C:p≠s.heap.objs.size:=bB k;refine#[_,_,_,a.toArray.size,_,_,λi=>c.getD i 0,rfl,Walks.list (show X.A.in1.handled=none from I.ok.hd m) s.heap.objs.size p C a.toArray,#[#[_,FS _ rfl,rfl,rfl],pl.isList.push _],?_,?_,λE P R F=>?_]
 .intro b l
  show b<(s.heap.push _).objs.size;rw[aa9];simp only[cV,List.not_mem_nil,or_false] at l
  rcases l with rfl|rfl
  .exact xU _
  .exact oZ k
 .intro i v G
  have d:a[i]? =some v:=by simpa using G
  have S:i<a.length:=(c9.mp d).1;obtain⟨w,hw,J⟩:=r.get (i:=i) (x:= .int (c.getD i 0)) (by rw[cc,fX,eu (by lia)];rfl)
  rw[hw] at d;cases Fk d;exact J
 .have kept:∀b o,s.heap.get? b=some o->E.get? b=some o:=λb o e=>F b o (by simp;exact bB (Do e)) (AC _ e)
  have e:preSum (λi=>c.getD i 0) a.toArray.size=c.sum:=by
   rw[cT,<-j,sA c _ (bJ _),uZ (bJ _)]
  rw[e];exact#[.int _,H,I.kept kept,#[_,rfl],q]
def Ux:cI:=λb P=>∃a:List Int,b= [.lst (a.map D.int)]/\P (.int a.sum)
theorem NH(b:X.calm=true):CallR X (.builtin "sum") (g7 Z Ux):=by
 refine(EZ b).imp ?_;rintro g H Q ⟨G,i,P,s,dv,⟨c,rfl,d⟩,q⟩;cases dv with
 |cons a f=>
  cases f;cases a with
  |lst h e=>exact#[_,c,rfl,gW e▸s _ _ h,q _ d _ G H (.refl s) (.int _)]
theorem NG:bootBuiltins "sum"=some (.builtin "sum"):=by decide+kernel
end
theorem c4.ok{P:Program}{w:World}{H:Hp}{a:Addr}(x:c4 b a d h):cF P w H h a (.ext (c4 b a d)):=by
 refine#[x,let #[o,_,_,_,c,_]:=x;#[o,c],λg i p k=>?_];obtain⟨o,e,f,t,c,r⟩:=p;exact#[o,e,f,t,k o c,r]
theorem fL.mem:∀{b:List (Int×Addr)}{c:List (Int×Int)},fL H b c->∀e∈b,∃p∈c,e.1=bR p/\H e.2=some (.tup [.int p.1, .int p.2])
 |_,_, .nil,e,a=>nomatch a
 |_,_, .cons (p:=p) h t,e,a=>by
  rcases cV.mp a with rfl|a
  .exact#[p,cP ..,rfl,h]
  .obtain⟨q,d,f⟩:=t.mem e a
   exact#[q,dh _ d,f]
theorem fL.Qz:∀{c:List (Int×Addr)}{d:List (Int×Int)},fL H c d->∀p∈d,∃a,(bR p,a)∈c/\H a=some (.tup [.int p.1, .int p.2])
 |_,_, .nil,p,b=>nomatch b
 |_,_, .cons (a:=a) h t,p,b=>by
  rcases cV.mp b with rfl|b
  .exact#[a,cP ..,h]
  .obtain⟨e,f,g⟩:=t.Qz p b
   exact#[e,dh _ f,g]
theorem fL.len:∀{a:List (Int×Addr)}{b:List (Int×Int)},fL H a b->a.length=b.length
 |_,_, .nil=>rfl
 |_,_, .cons _ t=>IR (·+1) t.len
theorem fL.snoc(h:H a=some (.tup [.int p.1, .int p.2])):∀{b:List (Int×Addr)}{c:List (Int×Int)},fL H b c->fL H (b++ [(bR p,a)]) (c++ [p])
 |_,_, .nil=> .cons h .nil
 |_,_, .cons h' t=> .cons h' (fL.snoc h t)
section
variable {X:Cx} {pins:List (Addr×Obj)} {σ:St} {H:Hp} {s:Shared}
theorem Inv.pY{p:Int×Int}(I:Inv X pins σ H s)(h:H a=some (.tup [.int p.1, .int p.2])):IsTupleKey (intKind X.prog X.w) s.heap [p.1,p.2] a:=by
 rfl';obtain⟨c,r,⟨o,d,e,n,f⟩,_⟩:=I.tuple (gd.of h);obtain⟨i,j,rfl,⟨t,rfl⟩,⟨u,rfl⟩⟩:=Vals.two r;ac_rfl;exact#[o,_,n,d,e,f, .cons (by simp[intKind,Value.isInt]) (.cons (by simp[intKind,Value.isInt]) .nil)]
theorem Inv.mN(I:Inv X pins σ H s)(h:H a=some (.ext (c4 b a c))):c4 b a c s.heap:=(I.hok a _ h).1
theorem lZ(P:Program)(w:World)(p:Int×Int):tupleKeyHash (intKind P w) [p.1,p.2]=bR p:=rfl
theorem Inv.WB(I:Inv X pins σ H s)(g:fL H b f)(h:a.toList.Perm (b.map λe=>(e.1,Value.ref e.2))):HQ X.prog X.w s.heap a:=λi e c=>by
 rfl';have k:e∈a.toList:=by rw[<-dX] at c;exact gb c
 obtain⟨d,l,rfl⟩:=bL.mp (h.mem_iff.mp k);obtain⟨p,_,m,n⟩:=g.mem d l;ac_rfl;exact#[[p.1,p.2],d.2,by rw[lZ,m],I.pY n]
theorem Inv.nI{h:List (Int×Addr)}{j:List (Int×Int)}{b:Array (Int×Value)}(I:Inv X pins σ H s)(k:fL H h j)(l:b.toList.Perm (h.map λe=>(e.1,Value.ref e.2)))(p:Int×Int):
  (∃(i:Nat)(c:Addr),b[i]? =some (tupleKeyHash (intKind X.prog X.w) [p.1,p.2], .ref c)/\IsTupleKey (intKind X.prog X.w) s.heap [p.1,p.2] c)↔p∈j:=by
 constructor
 .rintro⟨i,c,d,f⟩
  have g:(tupleKeyHash (intKind X.prog X.w) [p.1,p.2],Value.ref c)∈b.toList:=by rw[<-dX] at d;exact gb d
  obtain⟨m,r,t⟩:=bL.mp (l.mem_iff.mp g);obtain⟨q,u,x,n⟩:=k.mem m r
  have:m.2=c:=by have:=(aaH t).2;injection this
  rw[this] at n
  have:=(I.pY n).inj f
  simp at this
  have:q=p:=aar this.1 this.2
  rw[<-this];exact u
 .intro v
  obtain⟨a,d,f⟩:=k.Qz p v;have g:(bR p,Value.ref a)∈b.toList:=l.mem_iff.mpr (bL.mpr #[_,d,rfl]);obtain⟨i,o⟩:=List.mem_iff_getElem?.mp g;rw[dX] at o;exact#[i,a,by rw[lZ];exact o,I.pY f]
theorem Ji(d:Gl X "set")(f:X.mg "set"=none):PE X (.Call (.Name "set" p) [] [] a) (λg H Q=>∀q,H q=none->Q (.ref q) (upd H q (.ext (c4 (cG X.w) q [])))):=by
 intro c s g H Q I h;refine aaw (pF I d f (u:= .type "set") (by decide+kernel) ?_ (by decide) (by decide))
 refine PyProof.Rows.callWith_type rfl (PyProof.Rows.evalArgs_nil3 (Ab ?_));have i:=I.hok.fresh (bJ _);exact#[.ref s.heap.objs.size,_,I.laid (t':=s.toks) (λb o e=>AC _ e) (bJ _) (o:= .ext (c4 (cG X.w) s.heap.objs.size [])) (c4.ok #[_,_,_,_,FS _ rfl,gR.new X.w, .refl _]),rfl,h _ i]
theorem V7(i:X.A.units+64<cLine)(I:Inv X pins σ H s)(j:H c=some (.tup [.int p.1, .int p.2]))(k:H a=some (.ext (c4 (cG X.w) a e)))(f:fL H e b)
  (h:∀d,Q (decide (p∈b)) {s with toks:=d}):wpAny (model X.prog X.w) X.A (contains (.ref a) (.ref c)) Q E s:=by
 rfl';obtain⟨o,m,r,t,n,S,g⟩:=I.mN k;ac_rfl;refine sW i n S (I.WB f g) (I.pY j) λd=>?_
 have:PySem.nI X.prog X.w s.heap m [p.1,p.2]=decide (p∈b):=by
  classical
  unfold PySem.nI;exact abp.mpr (I.nI f g p)
 rw[this];exact h d
theorem FW(f:X.A.units+64<cLine):OpR X (compareOp .NotIn) (λx y H Q=>∃c a b d p,x= .ref c/\y= .ref a/\H c=some (.tup [.int p.1, .int p.2])/\H a=some (.ext (c4 (cG X.w) a b))/\fL H b d/\Q (.bl (!decide (p∈d))) H):=by
 intro e s n H x y v u Q I g i h;rfl';obtain⟨c,a,b,d,p,rfl,rfl,k,l,m,q⟩:=h;ac_rfl;cases g;cases i;exact ir (V7 f I k l m λr=>ls #[.bl _,H,I.tok _,rfl,q])
theorem L9(hu:X.A.units+64<cLine):HP X "set.add" (λx j H Q=>∃l c d a p,x= .ref l/\j= [.ref c]/\H c=some (.tup [.int p.1, .int p.2])/\H l=some (.ext (c4 (cG X.w) l d))/\fL H d a/\a.length<=300/\
  (p∈a->Q .bu H)/\(p∉a->Q .bu (upd H l (.ext (c4 (cG X.w) l (d++ [(bR p,c)])))))):=by
 intro k s σ H x j v us Q I B C h;rfl';obtain⟨l,c,d,a,p,rfl,rfl,G,m,g,hz,J,L⟩:=h;subst B;obtain⟨u,rfl,M⟩:=C.one;subst M;obtain⟨o,N,ep,t,n,S,f⟩:=I.mN m;have O:s.TypeIs (.ref l) "set":=#[o,n,S.ex.1];ac_rfl;refine SC F.slot_set_add O F.entry_set_add ?_ (F.args_set_add_2 _ _);unfold Builtin.«set.add» Builtin.Frozenset.oneOther;simp only[ab7,bind_assoc];unfold Builtin.Frozenset.addrOf setAdd;refine ir (ls ?_)
 try dsimp only
 refine ir (ls ?_)
 try dsimp only
 refine ir ?_;refine M2 ?_;have q:=I.pY G;refine ir (abR ?_ q ?_)
 .show X.A.units+1<cLine;lia
 have sz:N.size=a.length:=by
  have:=f.length_eq
  rw[eX,aH,g.len] at this;exact this
 refine sV (s:={s with toks:=s.toks+([p.1,p.2].length+1)}) (by show X.A.units+1<cLine;lia) n S (I.WB g f) q (by lia) (λP=>?_) λR h' r T U t' Y y Z Tg=>?_
 .show wpAny _ _ (ret Value.none) _ _ _
  exact ls #[_,rfl, .bu,H,I.tok _,rfl,J ((I.nI g f p).mp P)]
 .show wpAny _ _ (ret Value.none) _ _ _
  have VL:p∉a:=λz=>by
   obtain⟨i,c',h1,h2⟩:=(I.nI g f p).mpr z;exact R i _ h1 c' rfl h2
  have I':=I.write (h':=h') (t':=s.toks+([p.1,p.2].length+1)) (x:=l) (e:=l) (o:= .ext (c4 (cG X.w) l (d++ [(bR p,c)]))) (by rw[m];trivial) (.inl rfl) (λb u hb e=>Y.extBut b u hb e) #[r,y] (c4.ok #[r,T,U,t',y,Z,by
   rw[df];exact Tg.trans (f.append_right _)])
  exact ls #[_,rfl, .bu,_,I',rfl,L VL]
def W4(b:Bool)(r:V->List V->Hp->VK->Prop)(d:TE)(t:TA):TE:=λa H Q=>d a H λx c=>(∃p e,x= .ref p/\c p=some (.ext (c4 b p e)))/\t a c λf g=>r x f g Q
variable {o e:Expr} {es:List Expr} {to:TE} {t:TA} {name:Str} {apos aG:Pos} {id:String} {r:V->List V->Hp->VK->Prop}
theorem O6{b:Bool}(n:PlainAttrs "set")(slot:Slot "set" name id)(q:typeOf (.builtin id)=pure (.type "method_descriptor"))(u:HP X id r)(w:PE X o to)(y:PA X (e::d) t)
  (z:attributeBase o name X.env (eval o X.env)=eval o X.env:=by rfl)
  (A:((backTo f (starEach (e::d) X.env)).all (λx=>!x.1)&&(backToKw f (keywordEach [] X.env)).all (λx=>x.1.isSome)
   &&decide ((e::d).length+([]:List Keyword).length+(if ([]:List Keyword).isEmpty then 0 else 1)<30))=true:=by rfl)
  (B:(apos.endLine==f.line)=true:=by rfl) (C:starEach (e::d) X.env=(false,eval e X.env)::starEach d X.env:=by rfl) (E:(backTo f (starEach d X.env)).any (·.1)=false:=by rfl):
  PE X (.Call (.Attribute o name apos) (e::d) [] f) (W4 b r to t):=by
 intro c s g H Q I h;refine abf z A B rfl (thn (w c s g H _ I h) λv F G=>?_);rfl';obtain⟨x,L,j,M,N,O⟩:=G;ac_rfl;rfl';obtain⟨p,ie,rfl,P⟩:=N;subst M;obtain⟨k,_,_,_,l,S,_⟩:=j.mN P;ac_rfl;refine#["set",id,n,slot,q,#[k,l,S.ex.1],λa R=>?_,?_]
 .cases R;exact#[k,l,S.ex.2.1]
 have m:=y f c F g L _ j O;rw[C] at m ⊢;refine aaN (by show(false|| (backTo f (starEach d X.env)).any (·.1))=false;rw[E]<;>rfl) (abw ?_)
 exact thn m λT U #[Y,Z,I2,r2,q2]=>u c U g Z (.ref p) Y (.ref p) T Q I2 rfl r2 q2
end
def k6(a:List (Int×Int))(p:Int×Int):List (Int×Int):=if p∈a then a else a++ [p]
section
variable {Z:DC} {X:Cx} {B:Bs} {md:List Nat} {rn:Nat} {ρ:DN} {σ:St} {H G:Hp} {fp:Nat->List Addr} {a e k o:Expr} {ta te tk tp:aW} {pos apos aG p2:Pos}
def D2(p:Int×Int):D:= .tup [.int p.1, .int p.2]
theorem Dv.zC(h:Dv Z G v (D2 p)):∃c,v= .ref c/\G c=some (.tup [.int p.1, .int p.2]):=by
 rfl';obtain⟨c,l,rfl,b,f⟩:=Dv.n6 h;obtain⟨m,n,rfl,g,i⟩:=f.Bv;rw[g.ofInt,i.ofInt] at b;ac_rfl;exact#[c,rfl,b]
def UH(w:World)(c:Bool):gx:=λa b P=>∃p d,a=D2 p/\b= .x (.mF (cG w) d)/\P (.bl (if c=true then !decide (p∈d) else decide (p∈d)))
theorem FQ(d:X.A.units+64<cLine):OpR X (compareOp .NotIn) (bT Z (UH X.w true)):=by
 refine(FW d).imp ?_;rintro x y H Q ⟨G,a,b,P,s,f,g,⟨p,i,rfl,rfl,h⟩,q⟩;obtain⟨c,rfl,j⟩:=f.zC;cases g with
 |x l ok=>
  rfl';obtain⟨_,n,rfl,r⟩:=ok;ac_rfl;exact#[c,_,n,i,p,rfl,rfl,s _ _ j,s _ _ l,r.mono s,q _ h _ G H (.refl s) (.bl _)]
def NP(w:World)(i:Nat):cx:=λE b=>E.nx (b.set i (some (.x (.mF (cG w) []))))
theorem Ih(i:Nat)(n:X.N.Nodup)(q:Gl X "set")(r:X.mg "set"=none)(s:t.getD i 0=98:=by rfl)(u:X.N[i]? =some x:=by rfl)(v:Loc X.env.scope x:=by subst_eqs)(y:swapsWith (.Call (.Name "set" p) [] [] A) (some (.Name x d)) m.line X.env=pure false:=by rfl)
  (C:X.fn x=true\/X.env.scope.names.lookup x=some .local:=by subst_eqs):DSt Z X t O (.Assign [.Name x d] (.Call (.Name "set" p) [] [] A) m) (NP X.w i):=by
 refine(gw n u v (Ji q r) y C).imp ?_;intro D P H F;rfl';obtain⟨B,R,E,⟨G,T,S⟩,h,M⟩:=F;ac_rfl;intro c g;have J:G c=none:=S.ex.sub.free g;have x:Ext G H G (upd H c (.ext (c4 (cG X.w) c []))):=#[.refl _,S.ex.sub.trans (aM g _),aM g _,λ_ _ z=>z];refine M.nx _ h _ _ #[G,_,(S.grow x).MX s (f:= [c]) (.inr (.inr #[c,_,rfl,aw,rfl, .inr #[rfl,_,rfl,f7,[],rfl, .nil]])) (by simp) (λb l=>?_) λb l j _ L=>?_]
 .rw[dF] at l;subst l
  exact#[S.ex.hh.free g,(by rw[aw];exact λz=>nomatch z),J]
 .rw[dF] at l;subst l
  exact(S.nw j _ L).2.1 g
def Q2(w:World)(f:List Nat)(m:Bool)(i:Nat)(g:aW):cx:=λE b=>∃c,b[i]? =some (some (.x (.mF (cG w) c)))/\g (Gs f m b) λd=>∃p,d=D2 p/\c.length<=300/\E.nx (b.set i (some (.x (.mF (cG w) (k6 c p)))))
theorem Kx(m:Bool)(i:Nat)(hu:X.A.units+64<cLine)(he:DE Z X e te)(s:md.getD i 0=98:=by rfl)(hi:X.N[i]? =some x:=by rfl)(hv:mW X.env.scope x:=by subst_eqs)(t:(x==("__debug__":Str))=false:=by decide)(eI:(x==("__classdict__":Str))=false:=by decide)
  (dO:attributeBase (.Name x g) "add" X.env (eval (.Name x g) X.env)=eval (.Name x g) X.env:=by rfl)
  (iS:((backTo aG (starEach [e] X.env)).all (λx=>!x.1)&&(backToKw aG (keywordEach [] X.env)).all (λx=>x.1.isSome)&&decide (([e]:List Expr).length+([]:List Keyword).length+(if ([]:List Keyword).isEmpty then 0 else 1)<30))=true:=by rfl)
  (cf:(apos.endLine==aG.line)=true:=by rfl) (I:starEach [e] X.env=(false,eval e X.env)::starEach [] X.env:=by rfl) (dD:(backTo aG (starEach [] X.env)).any (·.1)=false:=by rfl)
  (kH:swapsWith (.Call (.Attribute (.Name x g) "add" apos) [e] [] aG) none pos.line X.env=pure false:=by rfl):
  DSt Z X md rn (.Expr (.Call (.Attribute (.Name x g) "add" apos) [e] [] aG) pos) (Q2 X.w md m i te):=by
 refine(hU (O6 (b:=cG X.w) PySem.F.plainAttrs_set PySem.F.slot_set_add PySem.F.type_set_add (L9 hu) (pv i hi hv t eI) (bH he eF I) dO iS cf I dD) kH).imp ?_;intro D σ H aI;rfl';obtain⟨B,J,E,⟨G,L,S⟩,⟨O,n,h⟩,M⟩:=aI;ac_rfl;rfl';obtain⟨v0,y,P⟩:=S.at_ i _ n;rw[s] at P;obtain⟨l,φ,rfl,hl,_,nd,es,rfl,pe⟩:=P.xA;ac_rfl;refine#[_,y,#[l,_,rfl,hl],S.ev m h λd t=>?_];obtain⟨p,rfl,hz,q⟩:=t;refine#[by cases m<;>trivial,λv Q H' C x dv=>?_]
 rfl';obtain⟨c,rfl,R⟩:=dv.zC;obtain⟨v1,T,U⟩:=C.at_ i _ n;rw[y] at T;ac_rfl;cases Fk T;rfl';rw[s] at U;obtain⟨l',Xu,e',Lw,Y,wW,ie,rfl,k⟩:=U.xA;cases e';ac_rfl;refine#[l,c,ie,O,p,rfl,rfl,x.sub _ _ R,Lw,k.mono x.sub,hz,λr=>?_,λr=>?_]
 .rw[k6,tz r] at q
  refine M.nx _ q _ _ #[Q,L,?_]
  have e:J.set i (some (.x (.mF (cG X.w) O)))=J:=by
   refine zV λj=>?_
   by_cases z:i=j
   .subst z
    have bI:=(c9.mp n).1;rw[ji bI,n]
   .rw[jj z]
  rw[e];exact C
 .rw[k6,mo r] at q
  refine M.nx _ q _ _ #[Q,L,C.mut y (b:=l) (by rw[Y];simp) ?_]
  rw[s,Y];refine .inr (.inr #[l,_,rfl,aw,rfl, .inr #[rfl,_,rfl,?_,_,rfl,k.snoc R]]);rw[ic];refine#[wW,by simp,λa ha b o z=>r ?_]
  rw[dF] at o;rw[<-o,<-z];exact ha
end
section
variable {Z:DC} {X:Cx}
def JZ:cI:=λa P=>∃L:List (List Nat),a= [.lst (L.map aq)]/\L.length<=1000/\∀M:List (List Nat),M.Perm L->M.Pairwise nY->P (.lst (M.map aq))
theorem N0(h:Dv Z G v (aq r)):∃a,v= .ref a/\G a=some (.lst ((ja r).map V.int)):=by
 obtain⟨a,d,rfl,b,c⟩:=Dv.fz h
 have:d=(ja r).map V.int:=by
  have e:r.map af=(ja r).map D.int:=by unfold ja;rw[dH];rfl
  rw[e] at c;exact gW c
 rw[this] at b;exact#[a,rfl,b]
theorem Pp(h:G a=some (.lst ((ja r).map V.int))):Dv Z G (.ref a) (aq r):=by
 have e:aq r= .lst ((ja r).map D.int):=by unfold aq ja;rw[dH];rfl
 rw[e];exact .lst h (.ints _)
theorem za:∀{b:List V}{L:List (List Nat)},DvAll Z G b (L.map aq)->∃A:List (Addr×List Nat),b=A.map (λe=>V.ref e.1)/\A.map (·.2)=L/\EN G A
 |b,[],h=>by cases h;exact#[[],rfl,rfl,λp c=>by cases c]
 |b,r::L,h=>by
  cases h with
  |cons a f=>
   obtain⟨A,g,i,j⟩:=za f;obtain⟨p,rfl,c⟩:=N0 a;refine#[(p,r)::A,by rw[g];rfl,by rw[<-i];rfl,λq d=>?_]
   rcases cV.mp d with rfl|d
   .exact c
   .exact j q d
theorem EN.dv:∀{L:List (Addr×List Nat)},EN G L->DvAll Z G (L.map λe=>V.ref e.1) ((L.map (·.2)).map aq)
 | [],_=> .nil
 |x::L,h=> .cons (Pp (h x (cP ..))) (EN.dv λp a=>h p (dh _ a))
theorem E1(j:X.A.units+64<cLine):CallR X (.builtin "sorted") (g7 Z JZ):=by
 refine(wa j).imp ?_;rintro t H Q ⟨G,k,P,s,dv,⟨c,rfl,u,b⟩,q⟩;cases dv with
 |cons a l=>
  cases l;cases a with
  | @lst p v k h e=>
   obtain⟨L,rfl,d,f⟩:=za e;have w:L.length=c.length:=by rw[<-d];simp
   refine#[_,L,rfl,cz.of (s _ _ h),λp b=>s _ _ (f p b),by lia,λp M g i m=>?_]
   have n:(M.map (·.2)).Perm c:=by rw[<-d];exact i.map _
   have o:EN (upd G p (.lst (M.map λe=>V.ref e.1))) M:=λx r=>aM (s.free g) _ _ _ (f x (i.mem_iff.mp r));exact q _ (b _ n m) _ _ _ (.new s g) (.lst aw o.dv)
end
section
variable {Z:DC} {X:Cx} {md:List Nat} {rn:Nat} {a b:Expr} {pos:Pos} {ta:iM}
def UP(d:List Nat)(i j:Nat)(e:iM):cx:=λE c=>e (cH d c) λf=>∃a b,f= [a,b]/\E.nx ((c.set i (some a)).set j (some b))
theorem vA(i j:Nat){kt k2 F3}(d:X.calm=true)(e:X.N.Nodup)(f:DA Z X [a,b] ta)(g:X.N[i]? =some x:=by rfl)(k:X.N[j]? =some y:=by rfl)(l:i≠j:=by decide)(m:md.getD i 0=0:=by rfl)(n:md.getD j 0=0:=by rfl)
  (o:X.env.scope.names.lookup x=some .local:=by rfl) (p:X.env.scope.names.lookup y=some .local:=by rfl)
  (hw:swappedStores [.Tuple [.Name x c, .Name y py] kt pt] (.Tuple [a,b] k2 F3) X.env=pure (some [x,y]):=by rfl)
  (q:swapsWithSole [.Tuple [.Name x c, .Name y py] kt pt] (.Tuple [a,b] k2 F3) pos.line X.env=pure false:=by rfl):
  DSt Z X md rn (.Assign [.Tuple [.Name x c, .Name y py] kt pt] (.Tuple [a,b] k2 F3) pos) (UP md i j ta):=by
 refine(Ph d e g k l o p f hw q).imp ?_;intro D I H r;rfl';obtain⟨B,t,E,⟨G,L,S⟩,h,M⟩:=r;ac_rfl;exists G,cH md t,_,S.ex.sub,S.wy,h;rintro _ ⟨a,b,rfl,w⟩ O z P x A;obtain⟨v,u,rfl,C,F⟩:=A.Bv;exact#[v,u,rfl,M.nx _ w _ _ #[z,_,((S.grow x).mN m C).mN n F]]
end
section
variable {Z:DC} {X:Cx} {e:Expr} {te:aW} {pos p:Pos}
variable {o:Expr} {ta:aW} {m:Str} {f:Addr} {fd:FuncData} {ps:List Str} {sd:cI} {k n:Nat} {apos:Pos}
def RE(b:cI)(c:aW):j4:=λg P=>c g λd=>∃w,d= .fj w/\b [.fj w] λd=>∃a,d= .lst a/\P a
theorem y6(T:yW Z)(l:DE Z X o ta)(r:Meth Z.K Z.C m f)(F:FnOk X.prog X.w X.K X.mg X.base cw k f fd ps (fb Z n sd))(t:bW k X.A)(a:Binds X.K fd ps [])(d:X.K=Z.K:=by rfl)
  (u:([("rows",V.ref 0)]:List (Str×V)).lookup m=none:=by decide)
  (x:eval (.Call (.Attribute o m apos) [] [] pos) X.env=(do
   let i <-eval o X.env
   standAt apos.atName
   let (f,first) <-holding [i] (getMethod i m pl)
   callWith pos f first (backTo pos (starEach [] X.env)) (backToKw pos (keywordEach [] X.env))):=by rfl):DF Z X n (.Call (.Attribute o m apos) [] [] pos) (RE sd ta):=by
 refine(zH (pl:=pl) l (by rw[d];exact T.cl) (by rw[d];exact r) F t a .nil og x).imp ?_
 rintro σ H Q ⟨G,y,P,s,B,h,q⟩;exists G,y,_,s,B,h;rintro _ ⟨w,rfl,E⟩ v I J c dv;have L:=dv;cases dv with
 | @fj p M R w N nP g h1 h2=>
  refine#[p,M,_,rfl,c.sub _ _ N,?_,?_]
  .have O:(m==("rows":Str))=false:=by
    cases z:(m==("rows":Str)) with
    |false=>rfl
    |true=>simp[bv,z] at u
   simp[bv,O]
  .show fb Z n sd (V.ref p::([]++ [])) J Q E0
   exists I,_,_,c.sub, .cons L .nil,E;rintro _ ⟨ds,rfl,S⟩ v f U Y e o nd j;exact q _ S v f U Y (c.trans e) o nd λb a=>#[c.hh.free (j b a).1,(j b a).2]
end
section
variable {Z:DC} {X:Cx} {pins:List (Addr×Obj)} {σ:St} {H:Hp} {s:Shared} {o e:Expr} {ta tb:aW} {apos:Pos}
end
theorem eG.ok{P:Program}{w:World}{H:Hp}{a:Addr}{vs:List FV}(x:eG a c vs h):cF P w H h a (.ext (eG a c vs)):=by
 refine#[x,let #[_,o,_,_,b,_]:=x;#[o,b],λf g p k=>?_];obtain⟨z,o,d,e,b,r⟩:=p;exact#[z,o,d,e,k o b,r]
inductive j5 (H:Hp):List (Int×Addr)->List (Int×Int)->List FV->List (List Int×Addr×Value)->Prop
 |nil:j5 H [] [] [] []
 |cons {a:Addr} {p:Int×Int} {v:FV} {u:Value} {es:List (Int×Addr)} {ks:List (Int×Int)} {vs:List FV} {xs:List (List Int×Addr×Value)}:H a=some (.tup [.int p.1, .int p.2])->HN v u->j5 H es ks vs xs->j5 H ((bR p,a)::es) (p::ks) (v::vs) (([p.1,p.2],a,u)::xs)
theorem j5.keys:∀{c:List (Int×Addr)}{a:List (Int×Int)}{d:List FV}{b:List (List Int×Addr×Value)},j5 H c a d b->b.map (·.1)=a.map λp=> [p.1,p.2]
 |_,_,_,_, .nil=>rfl
 |_,_,_,_, .cons _ _ t=>by rw[bV,bV,t.keys]
theorem j5.len:∀{c:List (Int×Addr)}{a:List (Int×Int)}{d:List FV}{b:List (List Int×Addr×Value)},j5 H c a d b->b.length=a.length
 |_,_,_,_, .nil=>rfl
 |_,_,_,_, .cons _ _ t=>IR (·+1) t.len
theorem j5.snoc(b:H a=some (.tup [.int p.1, .int p.2]))(h:HN v u):∀{c:List (Int×Addr)}{d:List (Int×Int)}{e:List FV}{f:List (List Int×Addr×Value)},j5 H c d e f->j5 H (c++ [(bR p,a)]) (d++ [p]) (e++ [v]) (f++ [([p.1,p.2],a,u)])
 |_,_,_,_, .nil=> .cons b h .nil
 |_,_,_,_, .cons k' g t=> .cons k' g (j5.snoc b h t)
theorem uF(P:Program)(w:World)(p:Int×Int)(a:Addr)(u:Value):entryOfKey (tupleKind (intKind P w)) ([p.1,p.2],a,u)=#[bR p, .ref a,u]:=by
 unfold entryOfKey;rw[show(tupleKind (intKind P w)).hash [p.1,p.2]=bR p from lZ P w p]
theorem Ry(d:HK l b g):∀{c:List (Int×Int)},fL H b c->∃f,j5 H b c g f/\∀(P:Program)(w:World),l=f.map (entryOfKey (tupleKind (intKind P w))):=by
 induction d with
 |nil=>intro c i;cases i;exact#[[], .nil,λ_ _=>rfl]
 | @cons e l h a v b g j k m d n=>
  intro c i;cases i with
  | @cons _ p _ r h t=>
   obtain⟨f,o,q⟩:=n t;refine#[([p.1,p.2],a,e.val)::f, .cons h m o,λP w=>?_];rw[bV,<-q P w,uF];obtain⟨s,u,ev⟩:=e;simp only at j k ⊢;rw[j,k]
theorem KP{e:List (Int×Int)}(d:j5 H a e b c):HK (c.map (entryOfKey (tupleKind (intKind P w)))) a b:=by
 induction d with
 |nil=>exact .nil
 |cons _ h t f=>
  rw[bV,uF];exact .cons rfl rfl h f
theorem j5.isKey(I:Inv X a e H s)(d:j5 H f g i c):∀x∈c,IsTupleKey (intKind X.prog X.w) s.heap x.1 x.2.1:=by
 induction d with
 |nil=>intro x b;cases b
 |cons h _ _ j=>
  intro x b
  rcases cV.mp b with rfl|b
  .exact I.pY h
  .exact j x b
theorem nh{K:Type} [DecidableEq K] {b:List (K×Addr×Value)} {k:K}:(atKey b k).isSome=true↔k∈b.map (·.1):=by
 unfold atKey;rw[Option.isSome_map,List.find?_isSome,bL]
 constructor
 .rintro⟨x,a,e⟩;exact#[x,a,KB e]
 .rintro⟨x,a,e⟩;exact#[x,a,FM e]
theorem pJ{p:Int×Int}{a:List (Int×Int)}: [p.1,p.2]∈a.map (λp=> [p.1,p.2])↔p∈a:=by
 rw[bL]
 constructor
 .rintro⟨q,b,e⟩
  simp at e;rw[<-show q=p from aar e.1 e.2];exact b
 .intro h;exact#[p,h,rfl]
theorem DX{c:List (Int×Int)}(h:c.Nodup):(c.map λp=> [p.1,p.2]).Nodup:=by
 rw[tj,iV];rw[tj] at h;exact h.imp λ {a b} n e=>n (by simp at e;exact aar e.1 e.2)
section
variable {X:Cx} {pins:List (Addr×Obj)} {σ:St} {H:Hp} {s:Shared}
theorem Inv.Rn(I:Inv X pins σ H s)(h:H a=some (.ext (eG a b e)))(f:fL H b c)(g:c.Nodup):
  (a==sysModules)=false/\∃xs,j5 H b c e xs/\s.heap.DictOfH (tupleKind (intKind X.prog X.w)) a xs:=by
 rfl';obtain⟨z,o,j,k,l,m,n,p⟩:=(I.hok a _ h).1;obtain⟨xs,d,q⟩:=Ry p f;ac_rfl;exact#[z,xs,d,o,j,k,l,m,n,q _ _,d.isKey I,by rw[d.keys];exact DX g]
theorem Ow(t:X.A.units+64<cLine)(I:Inv X pins σ H s)(i:H c=some (.tup [.int p.1, .int p.2]))(j:H a=some (.ext (eG a d g)))(l:fL H d b)(m:b.Nodup)
  (h:∀n,Q (.bool (decide (p∈b))) {s with toks:=n}):wpAny (model X.prog X.w) X.A (compareOp .In (.ref c) (.ref a)) Q E s:=by
 rfl';obtain⟨z,q,f,r⟩:=I.Rn j l m;ac_rfl;refine wpAny_in_heap (knd:=tupleKind (intKind X.prog X.w)) (k:= [p.1,p.2]) (by show X.A.units+1<cLine;lia) (I.pY i) z r ?_
 have:(atKey q [p.1,p.2]).isSome=decide (p∈b):=by
  by_cases e:p∈b
  .rw[FM e];exact nh.mpr (by rw[f.keys];exact pJ.mpr e)
  .rw[GM e]
   apply qd.mpr;exact λz=>e (pJ.mp (by rw[<-f.keys];exact nh.mp z))
 rw[this];exact h _
theorem Mo(g:X.A.units+64<cLine):OpR X (compareOp .In) (λx y H Q=>∃c a d b e p,x= .ref c/\y= .ref a/\H c=some (.tup [.int p.1, .int p.2])/\H a=some (.ext (eG a d e))/\fL H d b/\b.Nodup/\Q (.bl (decide (p∈b))) H):=by
 intro f s r H x y v u Q I i j h;rfl';obtain⟨c,a,d,b,e,p,rfl,rfl,l,m,n,o,q⟩:=h;ac_rfl;cases i;cases j;exact Ow g I l m n o λw=>#[.bl _,H,I.tok _,rfl,q]
theorem Mu:PE X (.Dict [] [] b) (λd H Q=>∀q,H q=none->Q (.ref q) (upd H q (.ext (eG q [] [])))):=by
 intro c s d H Q I h;have e:=I.hok.fresh (bJ s.heap.objs.size);refine wpAny_Dict_empty #[.ref s.heap.objs.size,_,I.laid (a:=s.heap.objs.size) (t':=s.toks) (λ_ _ q=>AC _ q) (bJ _) (o:= .ext (eG s.heap.objs.size [] [])) (eG.ok #[?_,_, #[],0,FS _ rfl,#[rfl,rfl,rfl],rfl, .nil]),rfl,h _ e];have f:mainGlobals<s.heap.objs.size:=(I.mod.glob.keeps I.bk).lt;have g:sysModules<s.heap.objs.size:=Nat.lt_trans (by decide) f
 exact aaz.mpr (Ne.symm (bB g))
def vF:FV->V
 | .int i=> .int i
 | .bl b=> .bl b
theorem N8(h:RelV (vF f) u):HN f u:=by
 cases f with
 |int i=>exact h
 |bl b=>exact h
variable {o i value:Expr} {td ti tv:TE} {pos pos':Pos}
def TR(j k l:TE):TS:=λD b H=>l b H λv m=>j b m λx n=>k b n λy d=>∃a c f e g p h,x= .ref a/\y= .ref c/\v=vF h/\d a=some (.ext (eG a f g))/\d c=some (.tup [.int p.1, .int p.2])/\fL d f e/\e.Nodup/\p∉e/\e.length<=300/\D.nx b (upd d a (.ext (eG a (f++ [(bR p,c)]) (g++ [h]))))
theorem MH(hu:X.A.units+64<cLine)(J:PE X o td)(L:PE X i ti)(M:PE X value tv)(N:swapsWith value (some (.Subscript o i pos')) pos.line X.env=pure false:=by rfl):PS X (.Assign [.Subscript o i pos'] value pos) (TR td ti tv):=by
 intro d s f H D I h;refine wpAny_Assign_Subscript (thn (M d s f H _ I h) λr O #[v,P,Q,R,S]=>thn (J d O f P _ Q S) λu T #[x,U,Y,Z,q2]=>thn (L d T f U _ Y q2) λiv s3 #[y,H3,g,ry,a,c,m,ks,n,p,t,e1,e2,e3,B,C,pe,nd,np,hz,q3]=>?_) N;subst e1 e2 e3;cases Z;cases ry;obtain⟨z,j,l,hm⟩:=g.Rn B pe nd;refine wpAny_setItem_heap (knd:=tupleKind (intKind X.prog X.w)) (k:= [p.1,p.2]) (by show X.A.units+1<cLine;lia) (g.pY C) hm (λh' E sb=>?_) (small (by rw[l.len];lia))
 have na:atKey j [p.1,p.2]=none:=by
  cases e:atKey j [p.1,p.2] with
  |none=>rfl
  |some q=>exact absurd (pJ.mp (by rw[<-l.keys];exact nh.mp (by rw[e];rfl))) np
 rw[storedH_new na] at E;rfl';have x2:j5 H3 (m++ [(bR p,c)]) (ks++ [p]) (n++ [t]) (j++ [([p.1,p.2],c,r)]):=l.snoc C (N8 R);obtain⟨F,Rz,tR,G,AX,j9,tT,_,_⟩:=E;have I':=g.write (h':=h') (t':=s3.toks+(tupleKind (intKind X.prog X.w)).draws [p.1,p.2]) (x:=a) (e:=a) (o:= .ext (eG a (m++ [(bR p,c)]) (n++ [t]))) (by rw[B];trivial) (.inl rfl) (λb u hb e=>sb.extBut b u hb e) #[F,G] (eG.ok #[z,F,Rz,tR,G,AX,j9,by rw[tT];exact KP x2])
 ac_rfl;exact#[f,_,I',q3]
end
section
variable {Z:DC} {X:Cx} {B:Bs} {md:List Nat} {rn:Nat} {ρ:DN} {σ:St} {H G:Hp} {fp:Nat->List Addr} {a e k o:Expr} {ta te tk tp:aW} {pos apos aG p2:Pos}
def UG(c:Bool):gx:=λa b P=>∃p d f,a=D2 p/\b= .x (.lj d f)/\P (.bl (if c=true then !decide (p∈d) else decide (p∈d)))
theorem OS(d:X.A.units+64<cLine):OpR X (compareOp .In) (bT Z (UG false)):=by
 refine(Mo d).imp ?_;rintro x y H Q ⟨G,a,b,P,s,f,g,⟨p,i,j,rfl,rfl,h⟩,q⟩;obtain⟨c,rfl,l⟩:=f.zC;cases g with
 |x m ok=>
  rfl';obtain⟨r,t,rfl,u⟩:=ok;ac_rfl;exact#[c,_,t,i,j,p,rfl,rfl,s _ _ l,s _ _ m,u.mono s,r,q _ h _ G H (.refl s) (.bl _)]
def Q5(i:Nat):cx:=λE b=>E.nx (b.set i (some (.x (.lj [] []))))
theorem Kz(i:Nat)(n:X.N.Nodup)(p:q.getD i 0=98:=by rfl)(r:X.N[i]? =some x:=by rfl)(s:Loc X.env.scope x:=by subst_eqs)(t:swapsWith (.Dict [] [] u) (some (.Name x d)) m.line X.env=pure false:=by rfl)
  (v:X.fn x=true\/X.env.scope.names.lookup x=some .local:=by subst_eqs):DSt Z X q F (.Assign [.Name x d] (.Dict [] [] u) m) (Q5 i):=by
 refine(gw n r s Mu t v).imp ?_;intro D I H w;rfl';obtain⟨B,L,E,⟨G,O,S⟩,h,M⟩:=w;ac_rfl;intro c g;have A:G c=none:=S.ex.sub.free g;have x:Ext G H G (upd H c (.ext (eG c [] []))):=#[.refl _,S.ex.sub.trans (aM g _),aM g _,λ_ _ z=>z];refine M.nx _ h _ _ #[G,_,(S.grow x).MX p (f:= [c]) (.inr (.inr #[c,_,rfl,aw,rfl, .inr #[rfl,_,rfl,f7,[],rfl, .nil]])) (by simp) (λb l=>?_) λb l j _ C=>?_]
 .rw[dF] at l;subst l
  exact#[S.ex.hh.free g,(by rw[aw];exact λz=>nomatch z),A]
 .rw[dF] at l;subst l
  exact(S.nw j _ C).2.1 g
def Vc:FV->D
 | .int i=> .int i
 | .bl b=> .bl b
theorem Dv.Wy(h:Dv Z G v (Vc f)):v=vF f:=by
 cases f with
 |int i=>exact h.ofInt
 |bl b=>exact h.se
def Rj(f:List Nat)(i:Nat)(j l:aW):cx:=λE b=>l (cH f b) λd=>∃g c h,d=Vc g/\b[i]? =some (some (.x (.lj c h)))/\j (cH f b) λm=>∃p,m=D2 p/\p∉c/\c.length<=300/\E.nx (b.set i (some (.x (.lj (c++ [p]) (h++ [g])))))
theorem KD(i:Nat)(T:X.A.units+64<cLine)(U:DE Z X k tk)(Y:DE Z X e te)(m:md.getD i 0=98:=by rfl)(o:X.N[i]? =some x:=by rfl)(hv:mW X.env.scope x:=by subst_eqs)(n:(x==("__debug__":Str))=false:=by decide)(eI:(x==("__classdict__":Str))=false:=by decide)
  (hs:swapsWith e (some (.Subscript (.Name x r) k g)) pos.line X.env=pure false:=by rfl):DSt Z X md rn (.Assign [.Subscript (.Name x r) k g] e pos) (Rj md i tk te):=by
 refine(MH T (pv i o hv n eI) U Y hs).imp ?_;intro D σ H aI;rfl';obtain⟨B,ρ,E,⟨G,fp,S⟩,h,M⟩:=aI;ac_rfl;refine S.ev false h λd n=>#[trivial,λv G1 H1 s x1 dv=>?_];rfl';obtain⟨fv,ks,vs,rfl,t,h2⟩:=n;ac_rfl;obtain rfl:=dv.Wy;rfl';obtain⟨v0,q,w⟩:=s.at_ i _ t;rw[m] at w;obtain⟨l,φ,rfl,hl,_,nd,es,rfl,pe⟩:=w.xA;ac_rfl;refine#[_,q,s.ev false h2 λkd Zq=>#[trivial,λu G2 H2 y C du=>?_]];rfl';obtain⟨p,rfl,F,hz,hn⟩:=Zq;obtain⟨c,rfl,I⟩:=du.zC;obtain⟨v1,J,L⟩:=y.at_ i _ t;rw[q] at J;ac_rfl;cases Fk J;rfl';rw[m] at L;obtain⟨l',Xu,e',Lw,O,P,ie,rfl,Q⟩:=L.xA;cases e';ac_rfl;refine#[l,c,ie,ks,vs,p,fv,rfl,rfl,rfl,Lw,C.sub _ _ I,Q.mono C.sub,P,F,hz,M.nx _ hn _ _ #[G2,fp,y.mut q (b:=l) (by rw[O];simp) ?_]]
 rw[m,O];refine .inr (.inr #[l,_,rfl,aw,rfl, .inr #[rfl,_,rfl,?_,_,rfl,Q.snoc I]]);rw[ic];refine#[P,by simp,λa ha b R z=>F ?_]
 rw[dF] at R;rw[<-R,<-z];exact ha
end
end L2
namespace Wb
def iN(w:W)(d:Nat×Nat)(r:List (Nat×Nat)):Prop:=∃k,0<k/\bf w k d=d/\(∀j,0<j->j<k->bf w j d≠d)/\r=walk w d k
theorem bZ:e∈walk w d k↔∃i,i<k/\e=bf w i d:=by
 unfold walk;rw[bL]
 constructor
 .rintro⟨i,a,rfl⟩;exact#[i,fF.mp a,rfl]
 .rintro⟨i,a,rfl⟩;exact#[i,fF.mpr a,rfl]
theorem iN.first(h:iN w d r):d∈r:=by
 obtain⟨k,a,_,_,rfl⟩:=h;exact bZ.mpr #[0,a,rfl]
theorem iN.next(h:iN w d r)(a:e∈r):wZ w e∈r:=by
 obtain⟨k,b,f,_,rfl⟩:=h;obtain⟨i,g,rfl⟩:=bZ.mp a
 by_cases c:i+1<k
 .exact bZ.mpr #[i+1,c,rfl]
 .have:i+1=k:=by lia
  refine bZ.mpr #[0,b,?_];show bf w (i+1) d=d;rw[this];exact f
theorem iN.iter(h:iN w d r)(a:e∈r):∀n,bf w n e∈r
 |0=>a
 |n+1=>h.next (h.iter a n)
theorem iN.back(h:iN w d r)(a:e∈r):∃n,bf w n e=d:=by
 obtain⟨k,c,b,_,rfl⟩:=h;obtain⟨i,f,rfl⟩:=bZ.mp a;exists k-i;rw[<-rS i (k-i),show k-i+i=k by lia]
 exact b
theorem iN.nodup(g:Good w)(h:iN w d r)(a:bK w d):r.Nodup:=by
 obtain⟨k,c,e,b,rfl⟩:=h;exact oS g a b
theorem iN.bz(g:Good w)(h:iN w d r)(a:bK w d):∀e∈r,bK w e:=by
 obtain⟨k,b,c,f,rfl⟩:=h;exact mr g a
structure Wk (w:W) (ds:List (Nat×Nat)) (i:Nat) (rs:List (List (Nat×Nat))):Prop where
 rnd:∀r∈rs,∃d,iN w d r/\bK w d/\∀e∈r,lexLe d e
 nod:rs.flatten.Nodup
 met:∀j e,j<i->ds[j]? =some e->e∈rs.flatten
theorem Wk.zero(w:W)(a:List (Nat×Nat)):Wk w a 0 []:=#[(λr h=>by cases h),f7,(λj e h=>by lia)]
theorem Wk.skip(h:Wk w a i b)(g:a[i]? =some d)(k:d∈b.flatten):Wk w a (i+1) b:=
 #[h.rnd,h.nod,λj e l f=>by
  by_cases c:j=i
  .subst c;rw[g] at f;cases f;exact k
  .exact h.met j e (by lia) f]
theorem Wk.take(g:Good w){k:List (Nat×Nat)}(all:∀e,bK w e->e∈k)(dart:∀e∈k,bK w e)(u:k.Pairwise lexLe){i:Nat}{o:List (List (Nat×Nat))}(h:Wk w k i o)(p:k[i]? =some d)(v:d∉o.flatten)(l:iN w d r):Wk w k (i+1) (o++ [r]):=by
 have s:bK w d:=dart d (gb p)
 have off:∀e∈r,e∉o.flatten:=λe f x=>by
  obtain⟨q,t,y⟩:=zY.mp x;obtain⟨M,A,_,_⟩:=h.rnd q t;obtain⟨n,B⟩:=l.back f;exact v (zY.mpr #[q,t,by rw[<-B];exact A.iter y n])
 refine#[λq C=>?_,?_,λj e m f=>?_]
 .rcases cU.mp C with z|z
  .exact h.rnd q z
  .rw[dF.mp z]
   refine#[d,l,s,λe f=>?_];obtain⟨j,m⟩:=tm (all e (l.bz g s e f))
   by_cases c:j<i
   .exact absurd (h.met j e c m) (off e f)
   .by_cases E:j=i
    .subst E;rw[p] at m;cases m
     exact .inr #[rfl,bJ _]
    .obtain⟨F,G⟩:=c9.mp p
     obtain⟨H,I⟩:=c9.mp m;rw[<-G,<-I];exact EC.mp u i j F H (by lia)
 .rw[EH,ic]
  refine#[h.nod,by simpa using l.nodup g s,λa J b L e=>?_]
  subst e;exact off a (by simpa using L) J
 .rw[EH,cU]
  by_cases c:j=i
  .subst c;rw[p] at f;cases f
   exact .inr (by simpa using l.first)
  .exact .inl (h.met j e (by lia) f)
theorem Wk.fin(g:Good w)(all:∀e,bK w e->e∈a)(h:Wk w a a.length b):b.flatten.Perm (bz w):=by
 have sub:∀e,e∈b.flatten↔e∈bz w:=λe=>by
  rw[bG]
  constructor
  .intro c
   obtain⟨r,i,k⟩:=zY.mp c;obtain⟨d,R,l,_⟩:=h.rnd r i;exact R.bz g l e k
  .intro c
   obtain⟨j,f⟩:=tm (all e c);exact h.met j e (c9.mp f).1 f
 exact(zR h.nod (gS g)).mpr sub
structure cn (w:W) (rs:List (List (Nat×Nat))):Prop where
 rnd:∀r∈rs,∃d,iN w d r/\bK w d/\∀e∈r,lexLe d e
 perm:rs.flatten.Perm (bz w)
theorem cn.Mg(R:cn w a)(p:b.Perm a):cn w b:=
 #[λr c=>R.rnd r (p.mem_iff.mp c),(p.flatten).trans R.perm]
theorem CH(g:Good w)(h:bK w d):d.1≠d.2:=λe=>g.irr d.1 (by have:d.2∈row w d.1:=h;rw[<-e] at this;exact this)
theorem EU{w:W}(g:Good w){f:List (Nat×Nat)}(l:f.Perm (fW (row w) w.length)):(f++f.map λt=>(t.2,t.1)).Perm (bz w):=by
 have e:=oR w;have n:=gS g
 have m:∀t,t∈f↔bK w t/\t.1<t.2:=λt=>by
  rw[l.mem_iff,e,yg,bG,decide_eq_true_eq]
 have i:f.Nodup:=l.nodup_iff.mpr (by rw[e];exact n.filter _)
 refine(zR ?_ n).mpr λd=>?_
 .rw[ic]
  refine#[i,?_,λa o b p z=>?_]
  .rw[tj,iV]
   rw[tj] at i;exact i.imp λ {a b} h z=>h (aar (aaH z).2 (aaH z).1)
  .obtain⟨c,j,rfl⟩:=bL.mp p
   have k:=((m a).mp o).2;have q:=((m c).mp j).2;rw[z] at k;have k:c.2<c.1:=k;lia
 .rw[cU,bL,bG]
  constructor
  .rintro(h| ⟨c,j,rfl⟩)
   .exact((m d).mp h).1
   .exact g.sym _ _ ((m c).mp j).1
  .intro h
   rcases Nat.lt_or_gt_of_ne (CH g h) with c|c
   .exact .inl ((m d).mpr #[h,c])
   .exact .inr #[(d.2,d.1),(m _).mpr #[g.sym _ _ h,c],rfl]
theorem iN.uniq(h:iN w d r)(b:iN w d a):r=a:=by
 obtain⟨k,e,f,g,rfl⟩:=h;obtain⟨m,i,j,l,rfl⟩:=b
 rcases Nat.lt_trichotomy k m with c|c|c
 .exact absurd f (l k e c)
 .rw[c]
 .exact absurd j (g m i c)
theorem cn.sub{c a:List (List (Nat×Nat))}(R:cn w c)(f:cn w a):∀r∈c,r∈a:=λr j=>by
 obtain⟨d,b,k,l⟩:=R.rnd r j;have m:d∈a.flatten:=f.perm.mem_iff.mpr (bG.mpr k);obtain⟨o,g,h⟩:=zY.mp m;obtain⟨p,i,u,q⟩:=f.rnd o g;obtain⟨n,s⟩:=i.back h;have t:lexLe d p:=by rw[<-s];exact l _ (b.iter b.first n)
 have e:=pG t (q d h);subst e;rw[b.uniq i];exact g
theorem cn.ne{w:W}{a:List (List (Nat×Nat))}(R:cn w a):∀r∈a,r≠ []:=λr b z=>by
 obtain⟨d,c,_⟩:=R.rnd r b
 have:=c.first
 rw[z] at this;cases this
theorem uG:∀{l:List (List c)},l.flatten.Nodup->(∀r∈l,r≠ [])->l.Nodup
 | [],_,_=>f7
 |a::l,h,b=>by
  rw[tq,ic] at h;refine j2.mpr #[λd=>?_,uG h.2.1 λr e=>b r (dh _ e)];cases a with
  |nil=>exact b [] (cP ..) rfl
  |cons x a=>exact h.2.2 x (cP ..) x (zY.mpr #[_,d,cP ..]) rfl
theorem cn.nodup(g:Good w)(R:cn w a):a.Nodup:=uG (R.perm.nodup_iff.mpr (gS g)) R.ne
abbrev jd(a:List (List (Nat×Nat))):List (List Nat):=a.map λr=>r.map (·.1)
theorem FI(h:L2.nY a b)(c:L2.nY b a):a=b:=by
 have:=L2.rW (L2.ja a) (L2.ja b) c h
 exact L2.Eo (by rw[this])
theorem cn.uniq(g:Good w)(R:cn w a)(c:cn w b)(s:(jd a).Pairwise L2.nY)(d:(jd b).Pairwise L2.nY):jd a=jd b:=by
 have e:a.Perm b:=(zR (R.nodup g) (c.nodup g)).mpr λr=>#[R.sub c r,c.sub R r];exact aa6 (λ_ _ _ _=>FI) s d (e.map _)
open Classical in
noncomputable def nU(w:W):List (List Nat):=if h:∃rs,cn w rs/\(jd rs).Pairwise L2.nY then jd h.choose else[]
theorem zq(g:Good w)(R:cn w a)(s:(jd a).Pairwise L2.nY):nU w=jd a:=by
 have h:∃a,cn w a/\(jd a).Pairwise L2.nY:=#[a,R,s];unfold nU;rw[dif_pos h];exact h.choose_spec.1.uniq g R h.choose_spec.2 s
theorem Io(r:List (Nat×Nat))(i:Nat):(r.map (·.1)).getD i 0=(r.getD i (0,0)).1:=by
 rw[fX,fX,cc];cases r[i]? <;>rfl
theorem getD_inj{l:List Nat}(a:l.Nodup)(b:i<l.length)(c:j<l.length)(e:l.getD i 0=l.getD j 0):i=j:=by
 have f:l.getD i 0=l[i]:=by rw[fX,eu b];rfl
 have g:l.getD j 0=l[j]:=by rw[fX,eu c];rfl
 rw[f,g] at e;have d:=a.idxOf_getElem i b;have h:=a.idxOf_getElem j c;rw[e,h] at d;exact d.symm
theorem qr{l:List Nat}{i:Nat}(h:i<l.length):l.getD i 0∈l:=by
 rw[fX,eu h];exact zW h
section
variable {w:W} {R:List Nat} {A:Nat×Nat->Prop}
end
theorem lA(h:i<w.length):row (w.set i r) x=if i=x then r else row w x:=by
 unfold row;rw[fX,mR,fX]
 by_cases e:i=x
 .subst e;rw[tz rfl,tz h,tz rfl];rfl
 .rw[mo e,mo e]
theorem Br{c d:Type}{f:c->d}{l:List c}(g:l.Nodup)(inj:∀a∈l,∀b∈l,f a=f b->a=b):(l.map f).Nodup:=by
 rw[tj,iV];exact(tj.mp g).imp_of_mem λ {a b} h i j e=>j (inj a h b i e)
section
variable {w:W} {R:List Nat} {A:Nat×Nat->Prop}
theorem uM{h k:Type}{f:h->List k}:∀{l:List h},l.Nodup->(∀a∈l,(f a).Nodup)->(∀a∈l,∀b∈l,∀x,x∈f a->x∈f b->a=b)->(l.flatMap f).Nodup
 | [],_,_,_=>f7
 |a::l,m,i,j=>by
  obtain⟨n,o⟩:=j2.mp m;rw[yd,ic];refine#[i a (cP ..),uM o (λb d=>i b (dh _ d)) (λb d c p=>j b (dh _ d) c (dh _ p)),λx q y g e=>?_];obtain⟨b,d,g⟩:=zX.mp g;subst e
  have:=j a (cP ..) b (dh _ d) x q g
  exact n (by rw[this];exact d)
end
open Classical in
structure XF (w v:W) (φ:Nat->Nat):Prop where
 len:v.length=w.length
 lt:∀p,p<w.length->φ p<w.length
 inj:∀p q,p<w.length->q<w.length->φ p=φ q->p=q
 sur:∀y,y<w.length->∃p,p<w.length/\φ p=y
 row:∀p,p<w.length->∃b,Wb.row v (φ p)=((Wb.row w p).map φ).drop b++((Wb.row w p).map φ).take b
end Wb
namespace L2
open PySem PySem.Spec PyProof.Rows
theorem nE(f:b->c):∀(l:List b)(i:Nat),(l.map f).eraseIdx i=(l.eraseIdx i).map f
 | [],_=>rfl
 |_::_,0=>rfl
 |a::l,i+1=>by rw[bV,ED,ED,bV,nE f l i]
section
variable {prog:Program} {w:World} {KT:Type} [DecidableEq KT] {knd:HeapKind prog w KT} {A:Around} {E:Value->Shared->Prop} {s:Shared}
theorem yR(n:knd.room A)(q:knd.is s.heap k a)(u:s.heap.DictOfH knd d b)(v:k∈b.map (·.1))
  (y:∀j p i,b[j]? =some (k,p)->i.DictOfH knd d (b.eraseIdx j)->Heap.SameBut d s.heap i->Q (some (entryOfKey knd (k,p))) {s with heap:=i,toks:=s.toks+knd.draws k})
  (G:b.length<=sizeLine):wpAny (model prog w) A (Builtin.Dict.takeOut d (.ref a)) Q E s:=by
 obtain⟨o,z,B,g,C,c,f,r,t⟩:=u;unfold Builtin.Dict.takeOut
 try with_reducible refine M2 ?_
 refine ir (knd.pyHash n q (ir (wpAny_dictFind_heap (s:={s with toks:=s.toks+knd.draws k}) n q g c f r t (λF=>?_) λj p h=>?_)))
 .obtain⟨x,m,rfl⟩:=bL.mp v
  obtain⟨j,h,e⟩:=List.getElem_of_mem m;exact absurd (by rw[eu h,e]) (F j x.2)
 .refine ir (wpAny_dictEntries (s:={s with toks:=s.toks+knd.draws k}) g c ?_)
  rw[entry_at f j,h];have H:=size_of_entries f
  refine ir (wpAny_updateDictKeys (hz:=by lia) (s:={s with toks:=s.toks+knd.draws k}) g c (ls (y j p _ h #[_,_,B+1,Pi _ g (Obj.isFreed_of_dict (Obj.data_mapDictKeys c _)),
   C.mapDictKeys _,Obj.data_mapDictKeys c _,?_,λx m=>knd.keeps (r x (List.mem_of_mem_eraseIdx m)) g c (aau ..),?_] (aau ..))))
  .obtain⟨l⟩:=z
   have f:l=b.map (entryOfKey knd):=f;subst f;simp[nE]
  .rw[<-nE];exact t.eraseIdx _
theorem Jl{k:KT}(n:knd.room A.in1)(q:knd.is s.heap k a)(c:s.heap.DictOfH knd d b)(f:k∈b.map (·.1))
  (r:∀j p e,b[j]? =some (k,p)->e.DictOfH knd d (b.eraseIdx j)->Heap.SameBut d s.heap e->Q p.2 {s with heap:=e,toks:=s.toks+knd.draws k})
  (t:b.length<=sizeLine):wpAny (model prog w) A (call (.builtin "dict.pop") [.ref d, .ref a]) Q E s:=by
 refine SC PySem.F.slot_dict_pop c.typeIs PySem.F.entry_dict_pop ?_ (PySem.F.args_dict_pop_2 _ _);have u:=c.typeIs;obtain⟨o,g,v,h,x,i,m,y,B⟩:=c;have c:s.heap.DictOfH knd d b:=#[o,g,v,h,x,i,m,y,B];unfold Builtin.«dict.pop»;refine ir ?_;unfold Builtin.Dict.keyAndDefault;refine ir (wpAny_notOrdered_dict u ?_);show wpAny _ _ (pure (d,Value.ref a,none)) _ _ s;refine ls ?_;have C:(keyPart (Value.ref a)).isSome=false:=rfl
 have ne:g.isEmpty=false:=by
  have:=size_of_entries m
  have l:0<b.length:=by
   have:=xY f
   rwa [aH] at this
  rw[Array.isEmpty_eq_false_iff];exact λz=>by rw[z] at this;exact absurd this (by show 0≠_;lia)
 simp only[C,dY,Os];refine ir (wpAny_dictEntries h i (ir (ls ?_)));rw[ne];simp only[dY,Os];refine ir (yR n q c f (λj p e G H I=>?_) t);simp only[Option.isNone_some,dY,Os];exact ir (wpAny_letGo (ls #[p.2,rfl,r j p e G H I]))
end
theorem j5.erase{e:List (List Int×Addr×Value)}(d:j5 H a b c e):∀j:Nat,j5 H (a.eraseIdx j) (b.eraseIdx j) (c.eraseIdx j) (e.eraseIdx j):=by
 induction d with
 |nil=>exact λj=> .nil
 |cons f g t h=>
  intro j;cases j with
  |zero=>exact t
  |succ j=>exact .cons f g (h j)
theorem j5.at_{a:List (Int×Int)}{b:List (List Int×Addr×Value)}(d:j5 H c a e b):∀{j:Nat}{k:List Int}{p:Addr×Value},b[j]? =some (k,p)->∃q v,a[j]? =some q/\k= [q.1,q.2]/\HN v p.2:=by
 induction d with
 |nil=>intro j k p h;cases h
 |cons i f t g=>
  intro j k p h;cases j with
  |zero=>cases h;exact#[_,_,rfl,rfl,f]
  |succ j=>exact g h
theorem fL.erase:∀{a:List (Int×Addr)}{b:List (Int×Int)},fL H a b->∀j:Nat,fL H (a.eraseIdx j) (b.eraseIdx j)
 |_,_, .nil,_=> .nil
 |_,_, .cons _ t,0=>t
 |_,_, .cons h t,j+1=> .cons h (t.erase j)
theorem zd [BEq b] [LawfulBEq b]:∀{l:List b}{j:Nat},l.Nodup->l[j]? =some x->l.erase x=l.eraseIdx j
 | [],_,_,h=>by simp at h
 |a::l,0,_,h=>by
  cases Fk h;rw[List.erase_cons_head,List.eraseIdx_cons_zero]
 |a::l,j+1,c,h=>by
  have h:l[j]? =some x:=by simpa using h
  have c:=j2.mp c;rw[List.erase_cons_tail (by simpa using λz=>c.1 (by rw[z];exact gb h)),ED,zd c.2 h]
theorem RG(h:HN f u):RelV (vF f) u:=by
 cases f with
 |int i=>exact h
 |bl b=>exact h
section
variable {X:Cx} {pins:List (Addr×Obj)} {σ:St} {H:Hp} {s:Shared}
theorem Ma(hu:X.A.units+64<cLine):HP X "dict.pop" (λx r H Q=>∃l c d a g p,x= .ref l/\r= [.ref c]/\H c=some (.tup [.int p.1, .int p.2])/\H l=some (.ext (eG l d g))/\fL H d a/\a.Nodup/\p∈a/\a.length<=300/\
  ∀j v,a[j]? =some p->Q v (upd H l (.ext (eG l (d.eraseIdx j) (g.eraseIdx j))))):=by
 intro t s σ H x r v ws Q I F G h;rfl';obtain⟨l,c,d,a,g,p,rfl,rfl,L,B,M,N,O,hz,q⟩:=h;subst F;obtain⟨u,rfl,P⟩:=G.one;subst P;obtain⟨z,xs,i,R⟩:=I.Rn B M N;ac_rfl;refine Jl (knd:=tupleKind (intKind X.prog X.w)) (k:= [p.1,p.2]) (by show X.A.units+1<cLine;lia) (I.pY L) R (by rw[i.keys];exact pJ.mpr O) (λj y h' S T U=>?_) (small (by rw[i.len];lia))
 rfl';obtain⟨n,Y,Z,f,e3⟩:=i.at_ S
 have ep:n=p:=by
  have f:=f;simp only[List.cons.injEq,and_true] at f;exact aar f.1.symm f.2.symm
 subst ep;obtain⟨C,Rz,tR,E,AX,j9,tT,_,_⟩:=T;have I':=I.write (h':=h') (t':=s.toks+(tupleKind (intKind X.prog X.w)).draws [n.1,n.2]) (x:=l) (e:=l) (o:= .ext (eG l (d.eraseIdx j) (g.eraseIdx j))) (by rw[B];trivial) (.inl rfl) (λb u hb e=>U.extBut b u hb e) #[C,E] (eG.ok #[z,C,Rz,tR,E,AX,j9,by rw[tT];exact KP (i.erase j)])
 ac_rfl;exact#[vF Y,_,I',RG e3,q j _ Z]
def W3(r:V->List V->Hp->VK->Prop)(c:TE)(t:TA):TE:=λa H Q=>c a H λx b=>(∃p d e,x= .ref p/\b p=some (.ext (eG p d e)))/\t a b λf g=>r x f g Q
variable {o e:Expr} {es:List Expr} {to:TE} {t:TA} {name:Str} {apos aG:Pos} {id:String} {r:V->List V->Hp->VK->Prop}
theorem O5(m:PlainAttrs "dict")(slot:Slot "dict" name id)(n:typeOf (.builtin id)=pure (.type "method_descriptor"))(q:HP X id r)(u:PE X o to)(w:PA X (e::c) t)
  (y:attributeBase o name X.env (eval o X.env)=eval o X.env:=by rfl)
  (z:((backTo d (starEach (e::c) X.env)).all (λx=>!x.1)&&(backToKw d (keywordEach [] X.env)).all (λx=>x.1.isSome)
   &&decide ((e::c).length+([]:List Keyword).length+(if ([]:List Keyword).isEmpty then 0 else 1)<30))=true:=by rfl)
  (A:(apos.endLine==d.line)=true:=by rfl) (B:starEach (e::c) X.env=(false,eval e X.env)::starEach c X.env:=by rfl) (C:(backTo d (starEach c X.env)).any (·.1)=false:=by rfl):
  PE X (.Call (.Attribute o name apos) (e::c) [] d) (W3 r to t):=by
 intro b s f H Q I h;refine abf y z A rfl (thn (u b s f H _ I h) λv E F=>?_);rfl';obtain⟨x,J,i,L,M,N⟩:=F;ac_rfl;rfl';obtain⟨p,ie,PX,rfl,O⟩:=M;subst L;obtain⟨_,j,_,_,k,S,_⟩:=(i.hok p _ O).1;ac_rfl;refine#["dict",id,m,slot,n,#[j,k,S.1],λa P=>?_,?_]
 .cases P;exact#[j,k,S.2.1]
 have l:=w d b E f J _ i N;rw[B] at l ⊢;refine aaN (by show(false|| (backTo d (starEach c X.env)).any (·.1))=false;rw[C]<;>rfl) (abw ?_)
 exact thn l λR T #[U,Y,Z,r2,q2]=>q b T f Y (.ref p) U (.ref p) R Q Z rfl r2 q2
end
section
variable {Z:DC} {X:Cx} {md:List Nat} {rn:Nat} {e:Expr} {te:aW} {pos apos aG:Pos}
def Rf(c:List Nat)(i:Nat)(f:aW):cx:=λE b=>∃a g,b[i]? =some (some (.x (.lj a g)))/\f (cH c b) λd=>∃p,d=D2 p/\p∈a/\a.length<=300/\∀h,E.nx (b.set i (some (.x (.lj (a.erase p) h))))
theorem KA(i:Nat)(I:X.A.units+64<cLine)(J:DE Z X e te)(f:md.getD i 0=98:=by rfl)(L:X.N[i]? =some x:=by rfl)(O:mW X.env.scope x:=by subst_eqs)(g:(x==("__debug__":Str))=false:=by decide)(P:(x==("__classdict__":Str))=false:=by decide)
  (Q:attributeBase (.Name x a) "pop" X.env (eval (.Name x a) X.env)=eval (.Name x a) X.env:=by rfl)
  (R:((backTo aG (starEach [e] X.env)).all (λx=>!x.1)&&(backToKw aG (keywordEach [] X.env)).all (λx=>x.1.isSome)&&decide (([e]:List Expr).length+([]:List Keyword).length+(if ([]:List Keyword).isEmpty then 0 else 1)<30))=true:=by rfl)
  (T:(apos.endLine==aG.line)=true:=by rfl) (q:starEach [e] X.env=(false,eval e X.env)::starEach [] X.env:=by rfl) (U:(backTo aG (starEach [] X.env)).any (·.1)=false:=by rfl)
  (Y:swapsWith (.Call (.Attribute (.Name x a) "pop" apos) [e] [] aG) none pos.line X.env=pure false:=by rfl):
  DSt Z X md rn (.Expr (.Call (.Attribute (.Name x a) "pop" apos) [e] [] aG) pos) (Rf md i te):=by
 refine(hU (O5 PySem.F.plainAttrs_dict PySem.F.slot_dict_pop PySem.F.type_dict_pop (Ma I) (pv i L O g P) (bH J eF q) Q R T q U) Y).imp ?_;intro D σ H aI;rfl';obtain⟨B,ρ,E,⟨G,fp,S⟩,⟨m,r,s,h⟩,M⟩:=aI;obtain⟨v0,n,t⟩:=S.at_ i _ s;rw[f] at t;obtain⟨l,φ,rfl,hl,_,nd,es,rfl,pe⟩:=t.xA;ac_rfl;refine#[_,n,#[l,_,_,rfl,hl],S.ev false h λd g=>#[trivial,λv G' H' u x dv=>?_]];rfl';obtain⟨p,rfl,hp,hz,hn⟩:=g;obtain⟨c,rfl,hc⟩:=dv.zC;obtain⟨v1,w,y⟩:=u.at_ i _ s;rw[n] at w;cases Fk w;rw[f] at y;obtain⟨l',Xu,e',Lw,z,o,ie,rfl,C⟩:=y.xA;cases e';ac_rfl;refine#[l,c,ie,m,r,p,rfl,rfl,x.sub _ _ hc,Lw,C.mono x.sub,o,hp,hz,λj v hj=>M.nx _ (hn (r.eraseIdx j)) _ _ #[G',fp,u.mut n (b:=l) (by rw[z];simp) ?_]]
 have ek:m.erase p=m.eraseIdx j:=by
  exact zd o hj
 rw[f,z,ek];exact .inr (.inr #[l,_,rfl,aw,rfl, .inr #[rfl,_,rfl,o.eraseIdx _,_,rfl,C.erase j]])
end
abbrev lI:=(Int×Int)×Addr
def tO(a:List lI)(x:lI):List lI:=if x.1∈a.map (·.1) then a else a++ [x]
def pQ(xs:List lI):List lI:=xs.foldl tO []
def CN(xs:List lI):List (Int×Addr):=xs.map λx=>(bR x.1,x.2)
theorem Kr(h:y∈tO a x):y∈a\/y=x:=by
 unfold tO at h
 split at h
 .exact .inl h
 .simpa using h
theorem GR:∀{xs a:List lI}{y:lI},y∈xs.foldl tO a->y∈a\/y∈xs
 | [],a,y,h=> .inl h
 |x::xs,a,y,h=>by
  rcases GR (xs:=xs) h with h|h
  .exact(Kr h).imp id λe=>by rw[e];exact cP ..
  .exact .inr (dh _ h)
theorem CI{xs:List lI}(h:y∈pQ xs):y∈xs:=(GR h).elim (λz=>nomatch z) id
theorem GQ:∀(b a:List lI),(b.foldl tO a).length<=a.length+b.length
 | [],a=>bJ _
 |x::b,a=>by
  have:=GQ b (tO a x)
  have c:(tO a x).length<=a.length+1:=by
   unfold tO
   split
   .lia
   .simp
  rw[tw,dG];lia
theorem Kq(xs:List lI):(pQ xs).map (·.1)=(xs.map (·.1)).foldl k6 []:=by
 have h:∀(xs a:List lI),(xs.foldl tO a).map (·.1)=(xs.map (·.1)).foldl k6 (a.map (·.1)):=λxs=>by
  induction xs with
  |nil=>intro a;rfl
  |cons x xs b=>
   intro a;rw[tw,bV,tw,b]
   congr 1
   unfold tO k6
   split
   .rfl
   .rw[df];rfl
 exact h xs []
theorem wJ:∀(d c:List (Int×Int)),c.Nodup->(d.foldl k6 c).Nodup
 | [],_,h=>h
 |p::d,c,h=>wJ d _ (by
  unfold k6
  split
  .exact h
  .next e=>exact ic.mpr #[h,by simp,λa f b g z=>e (by rw[<-dF.mp g,<-z];exact f)])
section
variable {prog:Program} {w:World} {A:Around} {E:Value->Shared->Prop} {s:Shared}
theorem Ng(x:IsTupleKey (intKind prog w) h c a)(k:∀o,h.get? a=some o->b.get? a=some o):IsTupleKey (intKind prog w) b c a:=
 let #[o,i,n,d,r]:=x;#[o,i,n,k o d,r]
theorem F8{xs:List lI}{h0:Heap}(hh:A.in1.handled=none)(hu:A.units+8<cLine)(L:S≠I)(Y0:S≠l)(Zr:l≠I)(hx:d.toList=xs.map λx=>Value.ref x.2)(hb:xs.length<=300)
  (M:∀x∈xs,x.2≠S/\x.2≠I/\IsTupleKey (intKind prog w) h0 [x.1.1,x.1.2] x.2):
  ∀(k i:Nat)(s:Shared),xs.length-i=k->i<=xs.length->(s.heap.IsListIter I l i/\s.heap.IsList l d)->(∀b o,b≠S->b≠I->h0.get? b=some o->s.heap.get? b=some o)->c4 (cG w) S (CN (pQ (xs.take i))) s.heap->
   (∀g C,(∀b o,b≠S->b≠I->h0.get? b=some o->g.get? b=some o)->c4 (cG w) S (CN (pQ xs)) g->R (.ok (.ret .none)) {s with heap:=g,toks:=C})->
   codeAny (model prog w) A (.builtin "set.update.loop" #[[.ref S, .ref I],[]]) R s:=by
 have sz:d.size=xs.length:=by rw[<-eX,hx,aH]
 have W:=Walks.list (prog:=prog) (w:=w) hh I l Zr d;intro k
 induction k with
 |zero=>
  intro i s vj hi st m G H;have e:i=xs.length:=by lia
  subst e;refine aao acd ?_;rw[Wp aaJ _];show wpAny _ A.in1 (pyNext (.ref I)>>=_) _ _ s;refine ir (W.done s _ _ (by rw[sz];exact st) λg C F=>?_)
  show wpAny _ A.in1 (ret Value.none) _ _ _;rw[xV] at G;obtain⟨o,h,N,t,q,r⟩:=G;exact ls (H g C (λb o u n e=>F b o (by simpa using n) (m b o u n e)) #[o,h,N,t,F S o (by simpa using L) q,r])
 |succ k ih=>
  intro i s vj hi st m G H;have J:i<xs.length:=by lia
  refine aao acd ?_;rw[Wp aaJ _];show wpAny _ A.in1 (pyNext (.ref I)>>=_) _ _ s;refine ir (W.item i s _ _ (by rw[sz];exact J) st λv g C hP O F=>?_)
  obtain⟨x,P⟩:∃x,xs[i]? =some x:=#[_,eu J]
  have ev:v= .ref x.2:=by
   have:d.toList[i]? =some v:=by rw[dX];exact hP
   rw[hx,cc,P] at this;exact(Fk this).symm
  subst ev;have Q:∀b o,b≠S->b≠I->h0.get? b=some o->g.get? b=some o:=λb o u n e=>F b o (by simpa using n) (m b o u n e)
  have key:∀y∈xs,IsTupleKey (intKind prog w) g [y.1.1,y.1.2] y.2:=λy f=>Ng (M y f).2.2 λo e=>Q _ o (M y f).1 (M y f).2.1 e;have xm:=gb P;have ur:xs.take (i+1)=xs.take i++ [x]:=by rw[xW,P];rfl
  have UY:pQ (xs.take (i+1))=tO (pQ (xs.take i)) x:=by unfold pQ;rw[ur,List.foldl_append];rfl
  have sub:∀y∈pQ (xs.take i),y∈xs:=λy f=>B5 (CI f)
  have ld:(pQ (xs.take i)).length<=300:=by
   have:=GQ (xs.take i) []
   have T:(xs.take i).length<=xs.length:=by rw[ik];lia
   unfold pQ;rw[mS] at this;lia
  obtain⟨o,h,N,t,q,SO,B⟩:=G;have q:=F S o (by simpa using L) q
  have pe:HQ prog w g h:=λj e p=>by
   have p:e∈h.toList:=gb (by rw[dX];exact p)
   obtain⟨z,U,rfl⟩:=bL.mp (B.mem_iff.mp p);obtain⟨y,f,rfl⟩:=bL.mp U;exact#[[y.1.1,y.1.2],y.2,rfl,key y (sub y f)]
  have esz:h.size=(pQ (xs.take i)).length:=by
   have:=B.length_eq
   rw[eX,aH] at this;unfold CN at this;rw[aH] at this;exact this
  show wpAny _ A.in1 (holding [Value.ref x.2] (setAdd S (.ref x.2))>>=_) _ _ _;refine ir (M2 ?_);unfold setAdd;refine M2 ?_;have Oj:=key x xm;refine ir (abR (by show A.units+1<cLine;lia) Oj ?_)
  refine sV (s:={s with heap:=g,toks:=C+([x.1.1,x.1.2].length+1)}) (by show A.units+1<cLine;lia) q SO pe Oj (by lia) (λf=>?_) λhn T o' ie tR t' X iT S' Tg=>?_
  .have Sh:x.1∈(pQ (xs.take i)).map (·.1):=by
    obtain⟨j,c,h1,T⟩:=f;have p:(tupleKeyHash (intKind prog w) [x.1.1,x.1.2],Value.ref c)∈h.toList:=gb (by rw[dX];exact h1)
    obtain⟨z,U,e1⟩:=bL.mp (B.mem_iff.mp p);obtain⟨y,f,rfl⟩:=bL.mp U;have Y:y.2=c:=by injection e1 with _ Y;injection Y
    have Z:=(key y (sub y f)).inj (Y▸T);simp only[List.cons.injEq,and_true] at Z;exact bL.mpr #[y,f,aar Z.1 Z.2]
   refine ls #[aaF aaJ _,ih (i+1) _ (by lia) J O Q #[o,h,N,t,q,SO,?_] λE TV a b=>H E TV a b]
   rw[UY,tO,tz Sh];exact B
  .have VQ:x.1∉(pQ (xs.take i)).map (·.1):=λz=>by
    obtain⟨y,f,e⟩:=bL.mp z;have p:(bR y.1,Value.ref y.2)∈h.toList:=B.mem_iff.mpr (bL.mpr #[(bR y.1,y.2),bL.mpr #[y,f,rfl],rfl]);obtain⟨j,hj,ej⟩:=List.getElem_of_mem p;refine hn j _ (by rw[<-dX,eu hj,ej]) y.2 rfl ?_
    have:=key y (sub y f)
    rw[e] at this;exact this
   refine ls #[aaF aaJ _,ih (i+1) _ (by lia) J #[O.1.at λo e=>?_,O.2.at λo e=>?_] (λb o u n e=>?_) #[o',ie,tR,t',iT,S',?_] λE TV a b=>H E TV a b]
   .rw[X.2 _ (Ne.symm L)];exact e
   .rw[X.2 _ (Ne.symm Y0)];exact e
   .rw[X.2 _ u];exact Q b o u n e
   .rw[UY,tO,mo VQ]
    unfold CN;rw[df,df];exact Tg.trans (B.append_right _)
theorem I0(a:Value){Q₁:Value->Shared->Prop}
  (h:Q₁ (.ref s.heap.objs.size) {s with heap:=s.heap.push {cls:= .type "set",dict:=none,data:= .set #[] 0 (.fresh 0 0 (!cG w))}}):
  codeAny (model prog w) A (.call (.builtin "set.__new__") #[[.type "set",a],[]]) (wants Q₁ E) s:=by
 refine aaM (ir (aaW (PySem.F.newCall_set_1 a) (ls #[aaF PySem.F.plain_set_new _,aao PySem.F.entry_set_new ?_])));rw[Wp PySem.F.plain_set_new _];unfold Builtin.«set.__new__» Builtin.Frozenset.newClass;have b:=acC;obtain⟨c,g,d,e,os⟩:=s;dsimp only
 wp_walk
 refine aaC (ls ?_);dsimp only;simp only[newObj];exact ir (wpAny_alloc (ls (ls h)))
theorem EY{xs:List lI}(L:A.handled=none)(hu:A.units+64<cLine)(M:s.heap.IsList l a)(j:a.toList=xs.map λx=>Value.ref x.2)(O:xs.length<=300)
  (p:∀x∈xs,IsTupleKey (intKind prog w) s.heap [x.1.1,x.1.2] x.2)
  (h:∀d i,c4 (cG w) s.heap.objs.size (CN (pQ xs)) d->(∀b o,s.heap.get? b=some o->d.get? b=some o)->Q (.ref s.heap.objs.size) {s with heap:=d,toks:=i}):
  wpAny (model prog w) A (call (.type "set") [.ref l]) Q E s:=by
 obtain⟨c,tl,VM⟩:=PySem.F.called_set.mro;have Sl:=PySem.F.called_set.made;have LJ:=PySem.F.called_set.sub;refine aaG (aaM ?_);show wpAny _ _ (callAny (.type "set") _) _ _ _;refine ls #[aa1 _ (by decide+kernel),aao PySem.F.entry_type_call ?_]
 rw[Around.under_plain (weight_type_call_type "set" [.ref l] []) rfl];have h1:=PySem.F.called_set.notType;have h2:=PySem.F.called_set.canCreate;have Y9:=PySem.F.typeCall_set_1 (.ref l)
 repeat (any_goals (first|assumption|wp_step))
 obtain⟨N,k⟩:∃N:Obj,N={cls:= .type "set",dict:=none,data:= .set #[] 0 (.fresh 0 0 (!cG w))}:=#[_,rfl];refine aay (I0 (.ref l) (E:=E) (Q₁:=λobj f=>obj= .ref s.heap.objs.size/\f={s with heap:=s.heap.push N}) #[rfl,by rw[k]]) λr f q=>?_
 cases r with
 |error e=>exact q
 |ok P=>
  cases P with
  |ret obj=>
   obtain⟨rfl,rfl⟩:=q;have S:N.isFreed=false:=by rw[k];rfl
   have y:(s.heap.push N).get? s.heap.objs.size=some N:=FS _ S;have T:Shared.TypeIs {s with heap:=s.heap.push N} (.ref s.heap.objs.size) "set":=#[_,y,by rw[k]]
   have Zs:=PySem.F.called_set.init.lookup;have Y8:=PySem.F.called_set.init.bind (.ref s.heap.objs.size)
   repeat (any_goals (first|assumption|wp_step))
   refine aay (aaS (R:=wants (λr z=>r= .none/\∃d i,z={s with heap:=d,toks:=i}/\c4 (cG w) s.heap.objs.size (CN (pQ xs)) d/\∀b o,s.heap.get? b=some o->d.get? b=some o) E) PySem.F.called_set.init.plain PySem.F.entry_set_init (check_set_init_1 T ?_)) λU z t=>?_
   .obtain⟨X,B,C,G,H⟩:=M
    obtain⟨Y,Z,aaa,O2⟩:=X;simp only at C H;subst C;subst H;have VV:(s.heap.push N).get? l=some {cls:= .type "list",dict:=Z,data:= .seq a G,slots:=O2}:=AC _ B;have aah:=PySem.F.sub_list_set;have aag:=PySem.F.sub_list_frozenset;have tW:(Value.type "list"==Value.type "dict")=false:=by decide
    have I:(s.heap.push N).IsList l a:=#[_,VV,rfl,G,rfl];have J:l<s.heap.objs.size:=Do B;have m:(s.heap.push N).objs.size=s.heap.objs.size+1:=aa7 ..;have n:∀b o,s.heap.get? b=some o->b<s.heap.objs.size:=λb o e=>Do e;subst k;unfold Builtin.«set.__init__» noKeywords Builtin.Frozenset.updateFrom;generalize YZ:pyIter=PI
    wp_walk
    subst YZ;refine abY I (ir (wpAny_runValue ?_));refine F8 (h0:=s.heap) (xs:=xs) (by simp[L]) (by show A.units+1+1+8<cLine;lia) (by rw[m];exact bB (xU _)) (qQ J) (by rw[m];exact bB (oZ J)) j O (λx j=>#[?_,?_,p x j]) (xs.length-0) 0 _ rfl (fm _) #[#[_,FS _ rfl,rfl,rfl],I.push _] (λb o _ _ e=>AC _ (AC _ e)) #[_,_,_,_,AC _ y,gR.new w, .refl _] λd i g u=>?_
    .obtain⟨o,_,_,v,_⟩:=p x j
     exact bB (n _ _ v)
    .obtain⟨o,_,_,v,_⟩:=p x j
     rw[m];exact bB (oZ (n _ _ v))
    .refine ls ?_
     show wpAny _ _ (ret Value.none) _ _ _;exact ls #[rfl,d,i,rfl,u,λb o e=>g b o (bB (n b o e)) (by rw[m];exact bB (oZ (n b o e))) e]
   .cases U with
    |error e=>exact t
    |ok Fh=>
     cases Fh with
     |ret r=>
      obtain⟨rfl,d,i,rfl,u,g⟩:=t
      repeat (any_goals (first|assumption|wp_step))
      exact h _ _ u g
     |_=>exact t.elim
  |_=>exact q.elim
end
theorem NF:bootBuiltins "set"=some (.type "set"):=by decide+kernel
section
variable {Z:DC} {X:Cx}
theorem Ha:∀{f:List (Int×Int)}{g:List V},DvAll Z G g (f.map D2)->∃d:List lI,d.map (·.1)=f/\g=d.map (λx=>V.ref x.2)/\∀x∈d,G x.2=some (.tup [.int x.1.1, .int x.1.2])
 | [],_,h=>#[[],rfl,h.jP,λx e=>nomatch e]
 |p::f,_,h=>by
  obtain⟨v,m,rfl,a,b⟩:=h.fT;obtain⟨c,rfl,i⟩:=a.zC;obtain⟨d,j,k,l⟩:=Ha b;refine#[(p,c)::d,by rw[bV,j],by rw[k,bV],λx e=>?_]
  rcases cV.mp e with rfl|e
  .exact i
  .exact l x e
theorem Hu:∀{xs:List lI},(∀x∈xs,G x.2=some (.tup [.int x.1.1, .int x.1.2]))->fL G (CN xs) (xs.map (·.1))
 | [],_=> .nil
 |x::xs,h=> .cons (h x (cP ..)) (Hu λy a=>h y (dh _ a))
def QZ(w:World):cI:=λb P=>∃a:List (Int×Int),b= [.lst (a.map D2)]/\a.length<=300/\P (.x (.mF (cG w) (a.foldl k6 [])))
theorem J9(n:X.calm=true)(p:X.A.units+64<cLine):CallR X (.type "set") (g7 Z (QZ X.w)):=by
 intro i s J H xs us Q I t h;rfl';obtain⟨G,M,P,c,dv,⟨N,rfl,j,z⟩,q⟩:=h;obtain⟨v,rfl,a⟩:=dv.ofOne;obtain⟨l,O,rfl,B,e⟩:=a.fz;obtain⟨xs,rfl,rfl,k⟩:=Ha e;obtain⟨u,rfl,C⟩:=t.one;subst C;obtain⟨b,r,pl,_⟩:=I.list (cz.of (c _ _ B))
 have E:b=xs.map λx=>Value.ref x.2:=by
  have:=mn (as:=xs.map (·.2)) (us:=b) (by rw[dH];exact r)
  rw[this,dH];rfl
 rw[aH] at j;ac_rfl;refine EY (xs:=xs) (I.ok.hd n) p pl.isList E j (λx d=>I.pY (c _ _ (k x d))) λR F f g=>?_;have m:=I.hok.fresh (bJ s.heap.objs.size);refine#[.ref s.heap.objs.size,_,I.laid (t':=F) g (bJ _) (o:= .ext (c4 (cG X.w) s.heap.objs.size (CN (pQ xs)))) (c4.ok f),rfl,q _ z _ _ _ (.new c m) (.x aw #[wJ _ _ f7,_,rfl,?_])];rw[<-Kq];exact Hu λx d=>aM (c.free m) _ _ _ (k x (CI d))
theorem Jm:fL G f (c.map λd=>((d.1:Int),(d.2:Int)))->∃L:List (Addr×(Nat×Nat)),L.map (·.2)=c/\f.map (λe=>Value.ref e.2)=L.map (λe=>Value.ref e.1)/\vS G L:=by
 induction c generalizing f with
 |nil=>intro h;cases h;exact#[[],rfl,rfl,λp b=>nomatch b]
 |cons n c g=>
  intro h;cases h with
  | @cons a _ m _ i t=>
   obtain⟨L,j,k,l⟩:=g t;refine#[(a,n)::L,by rw[bV,j],by rw[bV,bV,k],λp b=>?_]
   rcases cV.mp b with rfl|b
   .exact i
   .exact l p b
def J0(w:World):cI:=λc P=>∃a:List (Nat×Nat),c= [.x (.mF (cG w) (a.map λd=>((d.1:Int),(d.2:Int))))]/\a.length<=1000/\∀b:List (Nat×Nat),b.Perm a->b.Pairwise Wb.lexLe->P (.lst (b.map pairD))
theorem E2(F:X.calm=true):CallR X (.builtin "sorted") (g7 Z (J0 X.w)):=by
 intro m s σ H xs us Q I J h;rfl';obtain⟨G,ds,P,d,dv,⟨n,rfl,hz,O⟩,q⟩:=h;obtain⟨v,rfl,a⟩:=dv.ofOne;ac_rfl;cases a with
 | @x c _ _ b ok=>
  rfl';obtain⟨nd,es,rfl,R⟩:=ok;obtain⟨u,rfl,T⟩:=J.one;subst T;obtain⟨o,g,r,t,U,S,i⟩:=I.mN (d _ _ b);obtain⟨L,y,Y,hL⟩:=Jm R
  have z:((kr X.w c r g).toList.map (·.2)).Perm (L.map λe=>Value.ref e.1):=by
   refine((xk X.w c r g).map _).trans ?_
   have:=i.map (λe:Int×Value=>e.2)
   rw[dH] at this;rw[<-Y];exact this
  obtain⟨M,j,em⟩:=hJ (λe:Addr×(Nat×Nat)=>Value.ref e.1) _ L z;have ll:L.length=n.length:=by rw[<-y,aH]
  have sz:g.size<=1000:=by
   have:=z.length_eq
   rw[aH,eX,jR,aH] at this;lia
  have A:1000<sizeLine:=by decide
  have B:vS G M:=λx b=>hL x (j.mem_iff.mp b);ac_rfl;refine uU I (L:=M) (λx b=>d _ _ (B x b)) (by rw[j.length_eq];lia) (λQ' h=>qN (I.ok.hd F) U S (λh' tk lt k=>by rw[em];exact h h' tk (qP lt) k) (by lia)) λp l C E m2=>?_
  have i:(l.map (·.2)).Perm n:=by rw[<-y];exact(E.trans j).map _
  have YY:vS (upd G p (.lst (l.map λe=>V.ref e.1))) l:=λx b=>aM (d.free C) _ _ _ (B x (E.mem_iff.mp b));exact q _ (O _ i m2) _ _ _ (.new d C) (.lst aw YY.dv)
end
section
variable {Z:DC} {X:Cx} {md:List Nat}
def Kl(i:Nat)(t:cx):cx:=λE a=>(∃d,a[i]? =some (some d))/\t {nx:=λ_=>False,rt:=E.rt} a
theorem nz(i:Nat)(h:m6 Z X (md.set i 0) 0 f t):m6 Z X md 0 f (Kl i t):=by
 refine j6.imp h ?_;rintro p q H ⟨B,k,E,⟨G,r,S⟩,⟨⟨d,g⟩,l⟩,M⟩;obtain⟨v,m,dv,a⟩:=S.Hx g;refine#[B,k,_,#[_,_,#[a.ex,a.fl,S.len,λj c b=>?_,a.nd,a.ap,a.nw]],l,#[λ_ z=>z.elim,M.rt,λ_ z=>z.elim,λ_ z=>z.elim,λ_ _ z=>z.elim]]
 by_cases e:j=i
 .subst e
  rw[g] at b;cases b;exists v,m
  have:(md.set j 0).getD j 0=0:=by
   rw[fX,mR]
   split<;>first| (split<;>rfl) |exact absurd rfl ‹_›
  rw[this,tz rfl];exact#[dv,rfl]
 .obtain⟨u,n,o⟩:=a.at_ j c (by rw[jj (Ne.symm e)];exact b)
  exists u,n
  have:(md.set i 0).getD j 0=md.getD j 0:=by rw[fX,fX,jj (Ne.symm e)]
  rw[this];exact o
end
section
variable {Z:DC} {X:Cx} {a b:Expr} {rest:List Expr} {ta tb:aW} {te tf:TE} {pos:Pos}
theorem Pd(m:PE X a te)(n:PE X (.BoolOp .Or (b::rest) pos) tf):PE X (.BoolOp .Or (a::b::rest) pos) (λe H Q=>te e H λx f=>∃k,JU X.K x f k/\if k=true then Q x f else tf e f Q):=by
 intro d s e H Q I h;refine BoolOp_or (thn (m d s e H _ I h) λv o #[x,g,p,i,r]=>?_);obtain⟨k,t,q⟩:=r
 exact thn (HG d o e g x v (λc f=>c=k/\f=g) p i #[k,t,rfl,rfl]) λc u #[j,l,w,y]=>by
  subst w y;cases c with
  |false=>exact n d u e j Q l q
  |true=>exact#[x,j,l,i,q]
def UO(e f:aW):aW:=λc P=>e c λd=>∃l,d= .lst l/\(l≠ []->P (.lst l))/\(l= []->f c P)
theorem NR(k:DE Z X a ta)(d:DE Z X (.BoolOp .Or (b::rest) pos) tb):DE Z X (.BoolOp .Or (a::b::rest) pos) (UO ta tb):=by
 refine(Pd k d).imp ?_;rintro B H Q ⟨G,i,P,s,e,h,q⟩;exists G,i,_,s,e,h;rintro _ ⟨l,rfl,m,n⟩ v j o c dv;obtain⟨p,f,rfl,r,t⟩:=dv.fz;exists !f.isEmpty, .inl #[_,cz.of (c.sub _ _ r),rfl];have g:=t.length;cases f with
 |nil=>
  obtain rfl:l= []:=zT.mp g.symm;exact bY #[j,i,P,c.sub,e.mono c.gg,n rfl,λb d v u w x A=>q b d v u w (c.trans x) A]
 |cons y f=>exact bF (q _ (m λz=>by rw[z] at g;cases g) _ j o c dv)
end
section
variable {Z:DC} {X:Cx}
def Kg:gx:=λx y P=>match x,y with
 | .bl b, .bl c=>P (.bl (!(b==c)))
 |_,_=>False
theorem Mp:OpR X (compareOp .IsNot) (λx y H Q=>∃b c,x= .bl b/\y= .bl c/\Q (.bl (!(b==c))) H):=by
 intro a s f H x y v u Q I d e h;obtain⟨b,c,rfl,rfl,q⟩:=h;cases d;cases e;exact isnot_bool (Av I q rfl)
theorem Md:OpR X (compareOp .IsNot) (bT Z Kg):=by
 refine Mp.imp ?_;rintro x y H Q ⟨G,a,b,P,s,d,e,c,q⟩;unfold Kg at c
 split at c
 .exact#[_,_,d.se,e.se,q _ c _ _ _ (.refl s) (.bl _)]
 .exact c.elim
end
end L2
namespace Wb
theorem C1(g:Good w){ps:List Nat}(ne:0<ps.length)(lt:∀p∈ps,p<w.length)(len:v.length=w.length+1)(k:(row v w.length).Nodup)(last:∀x,x∈row v w.length↔x∈ps)(nod:∀p,p<w.length->(row v p).Nodup)(mem:∀p,p<w.length->∀q,q∈row v p↔q∈row w p\/(q=w.length/\p∈ps)):Good v:=by
 have l:w.length∉ps:=λh=>j3 _ (lt _ h)
 have d:∀{p q},q∈row v p->(p<w.length/\(q∈row w p\/(q=w.length/\p∈ps)))\/(p=w.length/\q∈ps):=λ {p q} h=>by
  have:=b8 h
  by_cases z:p=w.length
  .subst z;exact .inr #[rfl,(last q).mp h]
  .have:p<w.length:=by lia
   exact .inl #[this,(mem p this q).mp h]
 have i:∀{a b},Reach w a b->Reach v a b:=λ {a b} h=>by
  induction h with
  |refl=>exact .refl _
  |step _ j m=>exact .step m ((mem _ (b8 j) _).mpr (.inl j))
 refine#[λp q h=>?_,λp h=>?_,λp=>?_,λp q h=>?_,λp n=>?_]
 .rcases d h with ⟨_,h| ⟨h,_⟩⟩ | ⟨_,h⟩
  .have:=g.rng p q h;lia
  .lia
  .have:=lt q h;lia
 .rcases d h with ⟨_,h| ⟨_,h⟩⟩ | ⟨e,h⟩
  .exact g.irr p h
  .have:=lt p h;lia
  .subst e;exact l h
 .by_cases z:p<w.length
  .exact nod p z
  .by_cases e:p=w.length
   .subst e;exact k
   .have:row v p= []:=abA.mpr λq h=>by have:=b8 h;lia
    rw[this];exact f7
 .rcases d h with ⟨n,c| ⟨e,c⟩⟩ | ⟨e,c⟩
  .have s:=g.sym p q c
   exact(mem q (b8 s) p).mpr (.inl s)
  .subst e;exact(last p).mpr c
  .subst e;exact(mem q (lt q c) _).mpr (.inr #[rfl,c])
 .by_cases z:p<w.length
  .exact i (g.con p z)
  .obtain rfl:p=w.length:=by lia
   obtain⟨x,f⟩:=abB ne;exact .step (i (g.con x (lt x f))) ((mem x (lt x f) _).mpr (.inr #[rfl,f]))
def nV(w:W)(p x:Nat):W:=w.set p (ins (row w p) ((row w p).idxOf x+1) w.length)++ [[p]]
theorem l4(d:p<w.length)(q:Nat):row (nV w p x) q=if q=p then ins (row w p) ((row w p).idxOf x+1) w.length else if q=w.length then[p] else row w q:=by
 unfold nV;generalize ins (row w p) ((row w p).idxOf x+1) w.length=b;have a:(w.set p (b)).length=w.length:=dm ..
 by_cases c:q<w.length
 .have:row (w.set p (b)++ [[p]]) q=row (w.set p (b)) q:=by
   unfold row;rw[fX,fX,kD (by rw[a];exact c)]
  rw[this,lA d]
  by_cases z:p=q
  .subst z;rw[tz rfl,tz rfl]
  .rw[mo z,mo (Ne.symm z),mo (by lia)]
 .rw[mo (by lia)]
  by_cases z:q=w.length
  .subst z
   rw[tz rfl];unfold row;rw[fX,mP (by rw[a];exact bJ _),a,qe];rfl
  .rw[mo z]
   unfold row;rw[fX,j0 (by rw[dJ,a];show w.length+1<=q;lia),fX,j0 (by lia)]
theorem lO(w:W)(p x:Nat):(nV w p x).length=w.length+1:=by unfold nV;rw[dJ,dm];rfl
theorem Dx(g:Good w)(a:p<w.length):Good (nV w p x):=by
 have d:w.length∉row w p:=λz=>by have:=g.rng _ _ z;lia
 refine C1 (ps:= [p]) g (by simp) (λq b=>by rw[dF] at b;rw[b];exact a) (lO ..) ?_ (λq=>?_) (λq b=>?_) λq b z=>?_
 .rw[l4 a,mo (by lia),tz rfl];simp
 .rw[l4 a,mo (by lia),tz rfl]
 .rw[l4 a]
  split
  .exact lU (g.nod p) d
  .rw[mo (by lia)];exact g.nod q
 .rw[l4 a]
  by_cases c:q=p
  .subst c
   rw[tz rfl,fc,dF];exact#[λh=>h.elim (λh=> .inr #[h,rfl]) .inl,λh=>h.elim .inr λh=> .inl h.1]
  .rw[mo c,mo (by lia),dF]
   exact#[.inl,λh=>h.elim id λh=>absurd h.2 c]
end Wb
namespace L2
open PySem PySem.Spec PyProof.Rows
open Classical in
noncomputable def nW(H:Hp)(a:Addr):Hp:=λb=>if b=a then none else H b
theorem k9(h:b≠a):nW H a b=H b:=mo h
theorem zw:nW H a a=none:=tz rfl
theorem Dy:aN (nW H a) H:=λb o e=>by
 by_cases z:b=a
 .subst z;rw[zw] at e;cases e
 .rw[k9 z] at e;exact e
section
variable {P:Program} {w:World} {K:ac} {mg:Str->Option Value} {base:Heap} {Z:DC}
end
section
variable {Z:DC} {X:Cx} {md:List Nat} {rn:Nat} {e e1 e2 e3 k:Expr} {pos p2:Pos} {te t1 t2:aW} {t3:j4}
end
structure gQ (a:Addr) (G H G' H':Hp):Prop where
 gg:∀b o,b≠a->G b=some o->G' b=some o
 hh:∀b o,b≠a->H b=some o->H' b=some o
 off:∀b,b≠a->H b≠none->G b=none->G' b=none
theorem gQ.of{a:Addr}(x:Ext G H c d):gQ a G H c d:=#[λb o _ e=>x.gg b o e,λb o _ e=>x.hh b o e,λb _ f g=>x.off b f g]
theorem gQ.trans{G H c d f g:Hp}(x:gQ a G H c d)(y:gQ a c d f g):gQ a G H f g:=
 #[λb o n e=>y.gg b o n (x.gg b o n e),λb o n e=>y.hh b o n (x.hh b o n e),λb n h i=>y.off b n (by
  cases e:H b with
  |none=>exact absurd e h
  |some o=>rw[x.hh b o n e];exact λz=>nomatch z) (x.off b n h i)]
theorem gQ.put(o:HO):gQ a G H (upd G a o) (upd H a o):=#[λb o n e=>by rw[ay n];exact e,λb o n e=>by rw[ay n];exact e,λb n _ h=>by rw[ay n];exact h]
section
variable {Z:DC} {G H G' H':Hp} {a:Addr} {xs:List V} {w:List (List Nat)}
structure Rw (Z:DC) (a:Addr) (w:List (List Nat)) (G H:Hp) (xs:List V):Prop where
 sub:aN G H
 at_:G a=some (.lst xs)
 dv:DvAll Z G xs (w.map aq)
 ne:w≠ []
theorem Rw.ext(h:Rw Z a w G H xs)(x:Ext G H G' H'):Rw Z a w G' H' xs:=#[x.sub,x.gg _ _ h.at_,h.dv.mono x.gg,h.ne]
theorem D9(h:Rw Z a w G H xs)(d:Dv Z G v (aq r))(s:∀b o,b≠a->G b=some o->G' b=some o):Dv Z G' v (aq r):=by
 obtain⟨b,c,rfl,e,f⟩:=d.fz
 have ne:b≠a:=λz=>by
  subst z;rw[h.at_] at e;cases e;have dv:=h.dv
  match w,h.ne with
  |t::u,_=>
   obtain⟨y,g,rfl,i,_⟩:=dv.fT;obtain⟨A,_,rfl,_,_⟩:=i.fz
   match r with
   | []=>exact absurd f.jP (by simp)
   |x::B=>
    obtain⟨C,j,k,l,_⟩:=f.fT;cases k
    have:=l.ofInt
    cases this
 refine .lst (s _ _ ne e) ?_;clear e d
 have m:∀{r:List Nat}{c:List V},DvAll Z G c (r.map af)->DvAll Z G' c (r.map af):=λ {r}=>by
  induction r with
  |nil=>intro c h;rw[h.jP];exact .nil
  |cons x r n=>
   intro c h;obtain⟨v,g,rfl,p,q⟩:=h.fT;rw[p.ofInt];exact .cons (.int _) (n q)
 exact m f
theorem um(h:Rw Z a w G H xs)(s:∀b o,b≠a->G b=some o->G' b=some o):∀{c:List (List Nat)}{e:List V},DvAll Z G e (c.map aq)->DvAll Z G' e (c.map aq)
 | [],_,d=>by rw[d.jP];exact .nil
 |r::c,_,d=>by
  obtain⟨v,i,rfl,f,g⟩:=d.fT;exact .cons (D9 h f s) (um h s g)
theorem Rw.put(h:Rw Z a w G H xs){d:List (List Nat)}(dv:DvAll Z G c (d.map aq))(ne:d≠ []):Rw Z a d (upd G a (.lst c)) (upd H a (.lst c)) c:=by
 have k:∀b o,b≠a->G b=some o->upd G a (.lst c) b=some o:=λb o n e=>by rw[ay n];exact e
 refine#[λb o e=>?_,aw,um h k dv,ne]
 by_cases z:b=a
 .subst z;rw[aw] at e ⊢;exact e
 .rw[ay z] at e ⊢;exact h.sub b o e
end
def DB(Z:DC)(e:List (List Nat)->Int->(List (List Nat)->Prop)->Prop):Sp:=λf H Q _=>∃(G:Hp)(a:Addr)(n:Int)(w:List (List Nat))(g:List V)(P:List (List Nat)->Prop),f= [.ref a, .int n]/\Rw Z a w G H g/\e w n P/\∀c,P c->∀d b h,Rw Z a c d b h->gQ a G H d b->Q (.bl true) b
section
variable {Z:DC} {X:Cx} {md:List Nat} {rn:Nat} {e:Expr} {te:aW} {pos aG:Pos}
def Ke(b:List Nat)(i:Nat)(c:List (List Nat)->Int->(List (List Nat)->Prop)->Prop)(f:aW):cx:=λE a=>∃w,a[i]? =some (some (.lst (w.map aq)))/\w≠ []/\f (cH b a) λd=>∃n,d= .int n/\c w n λg=>E.nx (a.set i (some (.lst (g.map aq))))
theorem NV(i:Nat){sd:List (List Nat)->Int->(List (List Nat)->Prop)->Prop}{k j:Nat}{x y:Str}{st:Stmt}{ps:List Str}{py p:Pos}(d:fG X.K X.mg x st ps)(F:FnOk X.prog X.w X.K X.mg X.base cw k d.f d.fd ps (DB Z sd))(hr:bW j X.A)(he:DE Z X e te)(R:Gl X x:=by rfl)(hk:k<=j:=by first|decide|lia)
  (ft:(x==("__debug__":Str))=false:=by decide) (kc:starEach [e] X.env=(false,eval e X.env)::starEach [] X.env:=by rfl) (rQ:starEach [.Name y py,e] X.env=(false,eval (.Name y py) X.env)::starEach [e] X.env:=by rfl) (cg:(backTo aG (starEach [e] X.env)).any (·.1)=false:=by rfl) (kH:swapsWith (.Call (.Name x p) [.Name y py,e] [] aG) none pos.line X.env=pure false:=by rfl)
  (J:md.getD i 0=1:=by rfl) (hi:X.N[i]? =some y:=by rfl) (r:mW X.env.scope y:=by subst_eqs) (hd:(y==("__debug__":Str))=false:=by decide) (eI:(y==("__classdict__":Str))=false:=by decide):
  DSt Z X md rn (.Expr (.Call (.Name x p) [.Name y py,e] [] aG) pos) (Ke md i sd te):=by
 refine(hU (sj F (hr.mono hk) R d.m d.F.kp d.b .nil og (bH (pv i hi r hd eI) (bH he eF kc) rQ) ft rQ cg) kH).imp ?_;intro D σ H aI;rfl';obtain⟨B,ρ,E,⟨G,fp,S⟩,⟨w,L,hw,h⟩,M⟩:=aI;obtain⟨a,_,_,_,O,_⟩:=S.one J L;ac_rfl;exists _,O;exists G,_,_,S.ex.sub,S.wy,h;rintro _ ⟨n,rfl,q⟩ v P T x1 dv;cases dv.ofInt;have g:=S.grow x1;obtain⟨a',xs,ds,e1,i4,e3,bq,put⟩:=g.one J L;rw[O] at i4;cases i4;cases e1
 have U:a∈fp i:=by
  obtain⟨v,r,o⟩:=g.at_ i _ L;rw[J] at o;obtain⟨b,_,_,_,rfl,_,_,Y,_⟩:=o.one;rw[O] at r;cases r;rw[Y];exact cP ..
 have ga:P a=none:=(g.nw i a U).2.2;have gn:∀b,T b=none->P b=none:=λb e=>g.ex.sub.free e;refine#[upd P a (.lst xs),a,n,w,xs,_,rfl,#[λb o c=>?_,aw,bq.mono (aM ga _),hw],q,λw' hq C H2 iU s I=>?_]
 .by_cases z:b=a
  .subst z;rw[aw] at c;cases c;exact e3
  .rw[ay z] at c;exact x1.sub b o c
 have k2:∀b o,b≠a->C b=some o->nW C a b=some o:=λb o n e=>by rw[k9 n];exact e
 have qo:DvAll Z (nW C a) iU (w'.map aq):=um s k2 s.dv
 have RH:aN P (nW C a):=λb o c=>by
  have n:b≠a:=λz=>by rw[z,ga] at c;cases c
  rw[k9 n];exact I.gg b o n (by rw[ay n];exact c)
 have S2:=put iU (w'.map aq);have nA:∀b,B.H₀ b≠none->b≠a:=λb l z=>l (by rw[z];exact(g.nw i a U).1)
 have RC:Ext B.G₀ B.H₀ (nW C a) H2:=#[g.ex.gg.trans RH,λb o c=>s.sub b o (Dy b o c),λb o c=>I.hh b o (nA b (by rw[c];exact λz=>nomatch z)) (g.ex.hh b o c),λb l R=>by
  have n:=nA b l;rw[k9 n];exact I.off b n (fh g.ex.hh l) (by rw[ay n];exact g.ex.off b l R)]
 refine M.nx _ hq _ _ #[nW C a,fp,RC,g.fl.trans RH,by rw[dm];exact g.len,λt d' Q=>?_,g.nd,g.ap,λt b l=>?_]
 .by_cases z:t=i
  .subst z
   have bI:=(c9.mp L).1;rw[ji bI] at Q;cases Q;exists .ref a,O;obtain⟨v,r,o⟩:=g.at_ t _ L;rw[J] at o;obtain⟨b,_,_,kG,rfl,_,_,Y,ol⟩:=o.one;rw[O] at r;cases r;rw[J,Y,ol.flat.2];exact .inl #[a,iU,_,[],rfl,rfl,s.sub _ _ s.at_,rfl,qo.own]
  .rw[jj (Ne.symm z)] at Q
   obtain⟨u,hu,ou⟩:=g.at_ t d' Q;refine#[u,hu,ou.keep RH λb l=>?_];have n:b≠a:=λy=>g.ap t i b z l (y▸U);cases c:T b with
   |none=>exact absurd c (g.nw t b l).2.1
   |some o=>exact I.hh b o n c
 .obtain⟨q1,q2,q3⟩:=g.nw t b l
  by_cases z:b=a
  .subst z
   exact#[q1,(by rw[s.sub _ _ s.at_];exact λz=>nomatch z),zw]
  .refine#[q1,?_,?_]
   .cases c:T b with
    |none=>exact absurd c q2
    |some o=>rw[I.hh b o z c];exact λz=>nomatch z
   .rw[k9 z]
    exact I.off b z q2 (by rw[ay z];exact q3)
end
structure lG (L:List Addr) (G H G' H':Hp):Prop where
 gg:∀b o,b∉L->G b=some o->G' b=some o
 hh:∀b o,b∉L->H b=some o->H' b=some o
 off:∀b,b∉L->H b≠none->G b=none->G' b=none
theorem lG.of{L:List Addr}{G H a c:Hp}(x:Ext G H a c):lG L G H a c:=#[λb o _ e=>x.gg b o e,λb o _ e=>x.hh b o e,λb _ d f=>x.off b d f]
theorem lG.trans{G H a c d f:Hp}(x:lG L G H a c)(y:lG L a c d f):lG L G H d f:=
 #[λb o n e=>y.gg b o n (x.gg b o n e),λb o n e=>y.hh b o n (x.hh b o n e),λb n g h=>y.off b n (by
  cases e:H b with
  |none=>exact absurd e g
  |some o=>rw[x.hh b o n e];exact λz=>nomatch z) (x.off b n g h)]
theorem lG.put(c:a∈L)(o:HO):lG L G H (upd G a o) (upd H a o):=by
 have k:∀b,b∉L->b≠a:=λb n z=>n (z▸c);exact#[λb o n e=>by rw[ay (k b n)];exact e,λb o n e=>by rw[ay (k b n)];exact e,λb n _ h=>by rw[ay (k b n)];exact h]
def DD(Z:DC)(e:List (List Nat)->Int->(List (List Nat)->Prop)->Prop):Sp:=λf H Q _=>∃(G:Hp)(a:Addr)(n:Int)(w:List (List Nat))(fs:List Addr)(P:List (List Nat)->Prop),f= [.ref a, .int n]/\Rw Z a w G H (fs.map .ref)/\(a::fs).Nodup/\e w n P/\∀c,P c->∀d b,Rw Z a c d b (fs.map .ref)->lG (a::fs) G H d b->Q .bu b
section
variable {Z:DC} {X:Cx} {md:List Nat} {rn:Nat} {e:Expr} {te:aW} {pos aG:Pos}
theorem zG:∀{b:List V}{c:List D}{fs:List Addr},cZ (Own Z G H 1) b c fs->b=fs.map .ref
 |_,_,_, .nil=>rfl
 |_,_,_, .cons a d=>by
  obtain⟨l,b,c,h,rfl,rfl,i,f,g⟩:=a.one;obtain⟨dv,rfl⟩:=g.flat;subst f;rw[zG d];rfl
theorem zF(s:aN G H):∀{w:List (List Nat)}{fs:List Addr},DvAll Z G (fs.map .ref) (w.map aq)->cZ (Own Z i H 1) (fs.map .ref) (w.map aq) fs
 | [],[],_=> .nil
 | [],_::_,d=>absurd d.jP (by simp)
 |r::w,fs,d=>by
  obtain⟨v,j,e,c,g⟩:=d.fT;cases fs with
  |nil=>cases e
  |cons f fs=>
   cases e;obtain⟨b,a,k,l,m⟩:=c.fz;cases k;refine .cons (f:= [f]) (.inl #[f,a,_,[],rfl,rfl,s _ _ l,rfl,?_]) (zF s g)
   have n:∀{r:List Nat}{a:List V},DvAll Z G a (r.map af)->DvAll Z i a (r.map af):=λ {r}=>by
    induction r with
    |nil=>intro a h;rw[h.jP];exact .nil
    |cons x r o=>
     intro a h;obtain⟨v,j,rfl,c,g⟩:=h.fT;rw[c.ofInt];exact .cons (.int _) (o g)
   exact(n m).own
open Classical in
theorem NW(i:Nat){sd:List (List Nat)->Int->(List (List Nat)->Prop)->Prop}{k j:Nat}{x y:Str}{st:Stmt}{ps:List Str}{py p:Pos}(d:fG X.K X.mg x st ps)(F:FnOk X.prog X.w X.K X.mg X.base cw k d.f d.fd ps (DD Z sd))(hr:bW j X.A)(he:DE Z X e te)(hg:Gl X x:=by rfl)(hk:k<=j:=by first|decide|lia)
  (ft:(x==("__debug__":Str))=false:=by decide) (kc:starEach [e] X.env=(false,eval e X.env)::starEach [] X.env:=by rfl) (rQ:starEach [.Name y py,e] X.env=(false,eval (.Name y py) X.env)::starEach [e] X.env:=by rfl) (cg:(backTo aG (starEach [e] X.env)).any (·.1)=false:=by rfl) (kH:swapsWith (.Call (.Name x p) [.Name y py,e] [] aG) none pos.line X.env=pure false:=by rfl)
  (hm:md.getD i 0=2:=by rfl) (hi:X.N[i]? =some y:=by rfl) (hv:mW X.env.scope y:=by subst_eqs) (hd:(y==("__debug__":Str))=false:=by decide) (eI:(y==("__classdict__":Str))=false:=by decide):
  DSt Z X md rn (.Expr (.Call (.Name x p) [.Name y py,e] [] aG) pos) (Ke md i sd te):=by
 refine(hU (sj F (hr.mono hk) hg d.m d.F.kp d.b .nil og (bH (pv i hi hv hd eI) (bH he eF kc) rQ) ft rQ cg) kH).imp ?_;intro D σ H aI;rfl';obtain⟨B,ρ,E,⟨G,fp,S⟩,⟨w,h1,hw,h⟩,M⟩:=aI;obtain⟨v0,e2,o0⟩:=S.at_ i _ h1;rw[hm] at o0;obtain⟨a,_,_,_,rfl,_⟩:=o0.lst;ac_rfl;exists _,e2;exists G,_,_,S.ex.sub,S.wy,h;rintro _ ⟨n,rfl,q⟩ v G1 H1 x1 dv;cases dv.ofInt;have S1:=S.grow x1;obtain⟨v1,i4,o1⟩:=S1.at_ i _ h1;rw[e2] at i4;cases i4;rw[hm] at o1;have o1':=o1;obtain⟨a',xs,ds,fs,ea,ed,ha,hf,ol⟩:=o1.lst;cases ea;cases ed;have nd:=S1.nd i;rw[hf] at nd;have YE:=zG ol;have mf:∀b,b∈fp i↔b∈a::fs:=λb=>by rw[hf]
 have gf:∀b,b∈a::fs->G1 b=none:=λb hb=>(S1.nw i b ((mf b).mpr hb)).2.2
 let Gc:Hp:=λb=>if b∈a::fs then H1 b else G1 b
 have cin:∀b,b∈a::fs->Gc b=H1 b:=λb hb=>tz hb;have cout:∀b,b∉a::fs->Gc b=G1 b:=λb hb=>mo hb
 have s1:aN G1 Gc:=λb o eb=>by
  rw[cout b λz=>by rw[gf b z] at eb;cases eb];exact eb
 have s2:aN Gc H1:=λb o eb=>by
  by_cases z:b∈a::fs
  .rw[cin b z] at eb;exact eb
  .rw[cout b z] at eb;exact x1.sub b o eb
 have Yx:Dv Z Gc (.ref a) (.lst (w.map aq)):=o1'.dv s1 λb hb o eo=>by rw[cin b ((mf b).mp hb)];exact eo
 obtain⟨a2,T5,ea,Ot,bq⟩:=Yx.fz;cases ea;rw[cin a (cP ..),ha] at Ot;cases Ot;rw[YE] at bq ha;refine#[Gc,a,n,w,fs,_,rfl,#[s2,by rw[cin a (cP ..)];exact ha,bq,hw],nd,q,λw' hq G2 H2 oj ex=>?_]
 let G3:Hp:=λb=>if b∈a::fs then none else G2 b
 have Xh:∀b,b∈a::fs->G3 b=none:=λb hb=>tz hb;have HE:∀b,b∉a::fs->G3 b=G2 b:=λb hb=>mo hb
 have RJ:aN G1 G3:=λb o eb=>by
  have n:b∉a::fs:=λz=>by rw[gf b z] at eb;cases eb
  rw[HE b n];exact ex.gg b o n (s1 b o eb)
 have nA:∀b,B.H₀ b≠none->b∉a::fs:=λb hb z=>hb (S1.nw i b ((mf b).mpr z)).1
 have RC:Ext B.G₀ B.H₀ G3 H2:=#[S1.ex.gg.trans RJ,λb o eb=>by
  by_cases z:b∈a::fs
  .rw[Xh b z] at eb;cases eb
  .rw[HE b z] at eb;exact oj.sub b o eb,λb o eb=>ex.hh b o (nA b (by rw[eb];exact λz=>nomatch z)) (S1.ex.hh b o eb),λb hb hg=>by
  have n:=nA b hb;rw[HE b n];exact ex.off b n (fh S1.ex.hh hb) (by rw[cout b n];exact S1.ex.off b hb hg)]
 refine M.nx _ hq _ _ #[G3,fp,RC,S1.fl.trans RJ,by rw[dm];exact S1.len,λj' d' hj=>?_,S1.nd,S1.ap,λj' b hb=>?_]
 .by_cases z:j'=i
  .subst z
   have bI:=(c9.mp h1).1;rw[ji bI] at hj;cases hj;exists .ref a,e2;rw[hm,hf];exact .inl #[a,fs.map .ref,_,fs,rfl,rfl,oj.sub _ _ oj.at_,rfl,zF oj.sub oj.dv]
  .rw[jj (Ne.symm z)] at hj
   obtain⟨u,hu,ou⟩:=S1.at_ j' d' hj;refine#[u,hu,ou.keep RJ λb hb=>?_];have n:b∉a::fs:=λy=>S1.ap j' i b z hb ((mf b).mpr y);cases eb:H1 b with
   |none=>exact absurd eb (S1.nw j' b hb).2.1
   |some o=>exact ex.hh b o n eb
 .obtain⟨q1,q2,q3⟩:=S1.nw j' b hb
  by_cases z:b∈a::fs
  .refine#[q1,?_,Xh b z]
   rcases cV.mp z with rfl|y
   .rw[oj.sub _ _ oj.at_];exact λz=>nomatch z
   .have go:∀{w:List (List Nat)}{fs:List Addr},DvAll Z G2 (fs.map .ref) (w.map aq)->b∈fs->H2 b≠none:=λ {w}=>by
     induction w with
     |nil=>
      intro fs d hb
      have:=d.jP
      cases fs with
      |nil=>cases hb
      |cons _ _=>cases this
     |cons r w ih=>
      intro fs d hb;obtain⟨v,us,e,a1,a2⟩:=d.fT;cases fs with
      |nil=>cases e
      |cons f fs=>
       cases e
       rcases cV.mp hb with rfl|hb
       .obtain⟨b',ys,e2,AE,_⟩:=a1.fz
        cases e2;rw[oj.sub _ _ AE];exact λz=>nomatch z
       .exact ih a2 hb
    exact go oj.dv y
  .refine#[q1,?_,?_]
   .cases eb:H1 b with
    |none=>exact absurd eb q2
    |some o=>rw[ex.hh b o z eb];exact λz=>nomatch z
   .rw[HE b z]
    exact ex.off b z q2 (by rw[cout b z];exact q3)
end
open PySem.Calls PySem.W
section
variable {Z:DC} {X:Cx} {md:List Nat} {rn:Nat} {x:Str} {p pos aG:Pos}
def Kk(C:Addr):cx:=λE a=>E.xc a (.err C [] [])
theorem ql{k1}(e:X.calm=true)(M:Ny X.K C (.builtin "ValueError.__init__"))(c:XE X.K C)(f:X.mg x=some (.ref C))(g:Gl X x:=by rfl)(i:(x==("__debug__":Str))=false:=by decide)
  (d:starEach [.Constant (.str a) k1 b] X.env=(false,eval (.Constant (.str a) k1 b) X.env)::starEach [] X.env:=by rfl) (j:(backTo aG (starEach [] X.env)).any (·.1)=false:=by rfl):
  DSt Z X md rn (.Raise (some (.Call (.Name x p) [.Constant (.str a) k1 b] [] aG)) none pos) (Kk C):=by
 refine(Jo e (FZ M g f (bH Hs eF d) i d j)).imp ?_;rintro D l H ⟨B,m,E,⟨G,n,S⟩,h,M⟩;exact#[by show 1<=1000;decide,λa k=>#[a,C,none,rfl,aw,c.obj,c.cls.be,D6 S h M k]]
end
end L2
namespace EM
open PySem L2 Wb
variable {P:Program} {w:World} {mg:Str->Option Value} {base:Heap} {Z:DC} (T:Txt Z mg)
theorem lT(a b:Int)(h:0<b):0<=a%b/\a%b<b:=#[acf _ (by lia),abQ _ h]
theorem CP{P:D->Prop}(h:P (.bl (decide (i=j)))):dC (.int j) a (λb=>tN (.int i) b P):=jH h
theorem pL(w:W)(i:Nat)(r:List Nat):(w.map aq).set i (aq r)=(w.set i r).map aq:=by rw[mT]
theorem qk(l:List a)(k:Nat)(h:k<=l.length):cutD l (some (k:Int)) none=l.drop k:=by
 unfold cutD
 have b:HT.b7 l.length 0 (some (k:Int))=k:=by
  simp only[HT.b7]
  split<;>lia
 have c:HT.b7 l.length l.length none=l.length:=rfl;rw[b,c];exact uZ (by simp)
theorem fe{w:W}{p:Nat}(h:p<w.length):dZ (w.map aq) (p:Int)=some (aq (row w p)):=cC (sU h)
theorem eM{a:List Nat}(h:p<a.length):dZ (a.map af) (p:Int)=some (af (a.getD p 0)):=cC (by rw[cc,fX,eu h];rfl)
theorem zi(I:Nat->DN->Prop)(c:I 0 a)(d:∀(j:Nat)(a:DN),j<n->I j a->∀A:DN->Prop,(∀a,I (j+1) a->A a)->g (af j) a λe=>b {nx:=A,ct:=A,bk:=E.nx,rt:=E.rt,xc:=E.xc} e)
  (f:∀a,I n a->E.nx a):pW g b E (iL 0 n) a:=K1 I c (λj a i h A k=>by
 have:=d j a i h A k
 unfold af at this;rw[Int.zero_add];exact this) f
theorem IK(r:List Nat)(i x:Nat):ins (r.map af) i (af x)=(ins r i x).map af:=by
 unfold ins;simp[qO,ux]
def vQ(n:Nat)(a:List Nat):Prop:=a.length=n/\a.Nodup/\∀x∈a,x<n
theorem FO(N:vQ n a)(h:x<n):x∈a:=by
 apply GE;intro c
 have:(x::a).length<=(aJ n).length:=aR (j2.mpr #[c,N.2.1]) λy b=>by
  rcases cV.mp b with rfl|b
  .exact fF.mpr h
  .exact fF.mpr (N.2.2 y b)
 rw[xT,dG,N.1] at this;lia
theorem SM{f:DN->Prop}{a:DN}(b:DN)(e:a=b)(h:f b):f a:=by rw[e];exact h
theorem Bl:∀(b:List Nat)(m:Nat),m<b.idxOf x->b[m]? ≠some x
 | [],m,h=>by simp at h
 |a::b,m,h=>by
  rw[List.idxOf_cons] at h
  by_cases e:(a==x)=true
  .rw[e] at h;simp at h
  .rw[qd.mpr e] at h
   cases m with
   |zero=>intro z;simp at z;exact e (by simp[z])
   |succ m=>rw[uY];exact Bl b m (by simpa using h)
theorem Fz{a:List Nat}{x:Nat}{P:D->Prop}(h:x∈a)(q:P (af (a.idxOf x))):eH (af x)=true/\(a.map af).all eH=true/\∃(j:Nat)(z:D),(a.map af)[j]? =some z/\km z (af x)=true/\(∀(m:Nat) z,m<j->(a.map af)[m]? =some z->km z (af x)=false)/\P (.int (j:Nat)):=by
 have b:=zS.mpr h;have e:a[a.idxOf x]? =some x:=by rw[eu b];exact IR some (B6 b)
 refine#[rfl,cY _,a.idxOf x,af x,by rw[cc,e];rfl,by simp[km,af],λm z c d=>?_,q]
 obtain⟨y,f,rfl⟩:=cK d
 have:y≠x:=by
  rintro rfl;exact Bl _ _ c f
 have:¬((y:Int)=(x:Int)):=by lia
 simpa [km,af] using this
theorem cp{a:List Nat}{x:Nat}(h:x∈a):(a.map af)[a.idxOf x]? =some (af x)/\km (af x) (af x)=true/\∀(m:Nat) z,m<a.idxOf x->(a.map af)[m]? =some z->km z (af x)=false:=by
 have:=Fz (P:=λd=>d=af (a.idxOf x)) h rfl
 obtain⟨_,_,j,z,i,k,l,n⟩:=this;have b:=zS.mpr h;have e:a[a.idxOf x]? =some x:=by rw[eu b];exact IR some (B6 b)
 refine#[by rw[cc,e];rfl,by simp[km,af],λm z c f=>?_]
 obtain⟨y,g,rfl⟩:=cK f
 have:y≠x:=by
  rintro rfl;exact Bl _ _ c g
 have:¬((y:Int)=(x:Int)):=by lia
 simpa [km,af] using this
theorem l3{g:b->PyData}(h:∀a,(f a).py=some (g a)):∀l:List b,hV (l.map f)=some (l.map g)
 | []=>rfl
 |a::l=>by
  have:=l3 h l
  rw[bV,hV,h a,this];rfl
theorem sE(r:List Nat):(aq r).py=some (mG r):=by
 unfold aq mG;rw[D.py,l3 (g:=nD) (λn=>rfl)];rfl
theorem vI(w:W):(aP w).py=some (oU w):=by
 unfold aP oU;rw[D.py,l3 (g:=mG) sE];rfl
theorem wj{v w:W}{P:D->Prop}(h:P (.bl (decide (v=w)))):tN (aP v) (aP w) P:=by
 refine#[_,_,vI v,vI w,by have:=uE v;lia,?_]
 have:PyData.eqv (oU v) (oU w)=decide (v=w):=by
  by_cases e:v=w
  .rw[FM e];exact(pC v w).mpr e
  .rw[GM e]
   apply qd.mpr;exact λz=>e ((pC v w).mp z)
 rw[mo cO,this];exact h
theorem CQ(a b:List Nat):PyData.eqv (mG a) (mG b)=decide (a=b):=by
 by_cases e:a=b
 .rw[FM e];exact(tS a b).mpr e
 .rw[GM e]
  apply qd.mpr;exact λz=>e ((tS a b).mp z)
theorem Kc{v w:List Nat}{P:D->Prop}(h:P (.bl (decide (v=w)))):tN (aq v) (aq w) P:=by
 refine#[_,_,sE v,sE w,by have:=nj v;lia,?_]
 rw[mo cO,CQ];exact h
theorem Kh{v w:List Nat}{P:D->Prop}(h:P (.bl (!decide (v=w)))):Ak (aq v) (aq w) P:=by
 refine#[_,_,sE v,sE w,by have:=nj v;lia,?_]
 rw[tz rfl,CQ];exact h
variable {P:Program} {w:World} {mg:Str->Option Value} {base:Heap} {Z:DC} (T:Txt Z mg)
theorem IT{a b:List (Nat×Nat)}(c:a.Pairwise lexLe)(d:b.Pairwise lexLe)(e:a.Nodup)(f:b.Nodup)(h:∀p,p∈a↔p∈b):a=b:=
 aa6 (λ_ _ _ _=>pG) c d ((zR e f).mpr h)
theorem Jw{P:D->Prop}(g:L.length<64)(h:∀M:List Nat,M.Perm L->M.Pairwise (·<=·)->P (aq M)):GK [aq L] P:=by
 refine#[L.map λ(n:Nat)=>(n:Int),by unfold aq;rw[dH];rfl,by rw[aH];exact g,λc f i=>?_]
 have e:∀m∈c,((m.toNat:Nat):Int)=m:=λm d=>by
  obtain⟨n,_,rfl⟩:=bL.mp (f.mem_iff.mp d);simp
 have j:(c.map Int.toNat).Perm L:=by
  have:=f.map Int.toNat
  rw[dH] at this;rw[show(Int.toNat∘λ(n:Nat)=>(n:Int))=id from by funext n;simp] at this
  simpa using this
 have:=h (c.map Int.toNat) j (by
  rw[iV];exact i.imp λ {a b} k=>Int.toNat_le_toNat k)
 unfold aq at this;rw[dH] at this;rw[show c.map D.int=c.map (af∘Int.toNat) from List.map_congr_left λm d=>by show D.int m=af m.toNat;unfold af;rw[e m d]]
 exact this
def iD(k:Nat×Nat):PyData:= .tuple [nD k.1,nD k.2]
theorem F5(k:Nat×Nat):(pairD k).py=some (iD k):=by
 unfold pairD;rw[D.py,hV,hV,hV];rfl
theorem pB(a b:Nat×Nat):PyData.eqv (iD a) (iD b)=true↔a=b:=by
 unfold iD nD;simp[PyData.eqv,PyData.eqvAll]
 constructor
 .rintro⟨c,d⟩;exact aar (by lia) (by lia)
 .rintro rfl;exact#[rfl,rfl]
theorem Aq(l:List (Nat×Nat)):(PyData.list (l.map iD)).depth<=64:=by
 rw[PyData.depth]
 have:=iI (f:=iD) (k:=10) (λn=>by unfold iD nD;simp[PyData.depth,PyData.depthAll]) l
 lia
theorem zJ(l:List (Nat×Nat)):(D.lst (l.map pairD)).py=some (.list (l.map iD)):=by rw[D.py,l3 F5];rfl
theorem Fd(l m:List (Nat×Nat)):PyData.eqv (.list (l.map iD)) (.list (m.map iD))=decide (l=m):=by
 rw[PyData.eqv]
 by_cases e:l=m
 .rw[FM e];exact(iP pB l m).mpr e
 .rw[GM e]
  apply qd.mpr;exact λz=>e ((iP pB l m).mp z)
theorem E3{l m:List (Nat×Nat)}{P:D->Prop}(h:P (.bl (decide (l=m)))):tN (.lst (l.map pairD)) (.lst (m.map pairD)) P:=by
 exists _,_,zJ l,zJ m,Aq l;rw[mo cO,Fd];exact h
variable {P:Program} {w:World} {mg:Str->Option Value} {base:Heap} {Z:DC} (T:Txt Z mg)
def zz(d:Nat×Nat):Int×Int:=(d.1,d.2)
theorem B7(h:zz a=zz b):a=b:=aar (by have:=(aaH h).1;lia) (by have:=(aaH h).2;lia)
theorem mz{d:Nat×Nat}{l:List (Nat×Nat)}:zz d∈l.map zz↔d∈l:=by
 rw[bL];exact#[λ#[a,b,e]=>by rw[<-B7 e];exact b,λh=>#[d,h,rfl]]
def PJ:cI:=λb P=>∃(w:W),b= [.fj w]/\Good w/\w.length<=14/\∀a:List (Nat×Nat),a.Perm (fW (row w) w.length)->a.Pairwise lexLe->P (.lst (a.map pairD))
theorem Qt(I:DN->Prop)(J:o->DN->Prop)(m:o->D)(f:o->List u)(v:u->D)(p:o->u->Bool)(k:o->u->B)(i:B->D)(E:∀y F,J y F->I F):∀(l:List o)(j:DN)(a:List B)(P:List D->Prop),
  (∀y∈l,∀j,I j->∀(Y:DN->List D->Prop),(∀d,J y d->Y d ((f y).map v))->g (m y) j λd=>A d (Y d))->
  (∀y∈l,∀b∈f y,∀j,J y j->∀(Y:DN->D->Prop)(x:DN->Prop),(∀d,J y d->p y b=true->Y d (i (k y b)))->(∀d,J y d->p y b=false->x d)->r (v b) j λd=>s d λc=>if c=true then t d (Y d) else x d)->
  I j->a.length+(l.flatMap λy=>((f y).filter (p y)).map (k y)).length<=sizeLine->(∀y∈l,a.length+(l.flatMap λy=>((f y).filter (p y)).map (k y)).length+(f y).length<=sizeLine)->P ((a++l.flatMap λy=>((f y).filter (p y)).map (k y)).map i)->pX g wk A r s t (l.map m) j (a.map i) P
 | [],j,a,P,_,_,G,_,_,h=>by
  show P (a.map i);simpa using h
 |y::l,j,a,P,H,L,G,n,M,h=>by
  have N:=M y (cP ..);rw[yd,dJ] at n N;refine H y (cP ..) j G (λd O=>lcW r s t O d (a.map i) λq Q=>pX g wk A r s t (l.map m) q Q P) λd R=>?_;refine rU (J y) v (p y) (λb=>i (k y b)) (f y) d (a.map i) _ (λb S q C Y x U X=>?_) R (by rw[aH];lia) λq C=>?_
  .exact L y (cP ..) b S q C Y x U X
  .have e:a.map i++((f y).filter (p y)).map (λb=>i (k y b))=(a++((f y).filter (p y)).map (k y)).map i:=by rw[df,dH];rfl
   rw[e];refine Qt I J m f v p k i E l q (a++((f y).filter (p y)).map (k y)) P (λz n=>H z (dh _ n)) (λz n=>L z (dh _ n)) (E y q C) (by rw[dJ];lia) (λz n=>?_) ?_
   .have:=M z (dh _ n)
    rw[yd,dJ] at this;rw[dJ];lia
   .rw[yd] at h
    rw[j1];exact h
theorem lW:FnOk P w Z.K mg base cw 1 T.m_ties.f T.m_ties.fd ["self"] (bh Z PJ):=by
 have L:=sL.nd;refine bC T.m_ties.F sL [0] (by decide) (λu R h=>by obtain⟨_,rfl,_⟩:=h;rfl) (λM A outer s H E u R v h=>?_)
 have N:=v.units;refine#[_,(au (ba (aB yX rfl T.B.sorted jF (ae (NQ (NC:= ["p","row","q"]) (src:= [none,none,none]) rfl (wd (av kv)) trivial (eY rfl T.B.enumerate (ae (kX T.W (aa 0)) ag)) (λ_ _ _=>(As 2 rfl (js (c7 0 (show(["p","row","q"]:List Str).Nodup from by decide+kernel)) (js (c7 1 (show(["p","row","q"]:List Str).Nodup from by decide+kernel)) wu)))) (λ_ _ _=>gk) (λ_ _ _=>(bX (aa 1))) (λ_ _ _=>(c7 2 (show(["p","row","q"]:List Str).Nodup from by decide+kernel))) (λ_ _ _=>(KG (bb n5 (aa 0) (aa 2) (bg _)))) (λ_ _ _=>(eB (ae (aa 0) (ae (aa 2) ag))))) ag)))),?_]
 obtain⟨a,rfl,g,O,q⟩:=h
 have x:gX (a.map aq)=(aJ a.length).map λ(j:Nat)=>D.tup [.int (j:Int),aq (row a j)]:=by
  refine zV λj=>?_;rw[cc]
  by_cases lt:j<a.length
  .rw[EG lt]
   cases e:(gX (a.map aq))[j]? with
   |none=>
    have:=List.getElem?_eq_none_iff.mp e
    rw[gB,aH] at this;lia
   |some d=>rw[(sT e).2];rfl
  .rw[j0 (by rw[gB,aH];lia),j0 (by rw[xT];lia)];rfl
 have k:((aJ a.length).flatMap λp=>((row a p).filter λq=>decide (p<q)).map λq=>(p,q))=fW (row a) a.length:=rfl
 have z:∀n,n<=a.length->(fW (row a) n).length<=n*14:=λn=>by
  induction n with
  |zero=>intro _;exact bJ _
  |succ n C=>
   intro h
   have:=C (by lia)
   have Q:=cL g n;have S:=List.length_filter_le (λq=>decide (n<q)) (row a n);unfold fW at this ⊢;rw[abx,abG,dJ];simp only[yd,List.flatMap_nil,f6,aH];lia
 have G:=z a.length (bJ _);exists _,rfl,a,rfl;refine(?_:pX _ _ _ _ _ _ (gX (a.map aq)) _ _ _);rw[x];refine Qt (λi=>∃o r c,i= [o,r,c]) (λp i=>∃c,i= [some (af p),some (aq (row a p)),c]) _ (λp=>row a p) af (λp q=>decide (p<q)) (λp q=>(p,q)) pairD (λy i #[c,e]=>#[_,_,_,e]) (aJ a.length) _ [] _ (λp t I l Y m=>?_) (λp t b U I l Y X m J=>?_) #[none,none,none,rfl] ?_ (λp t=>?_) ?_
 .obtain⟨o,r,c,rfl⟩:=l
  exact#[rfl,rfl,_,rfl,m _ #[_,rfl]]
 .obtain⟨c,rfl⟩:=l
  exists _,rfl,_,rfl,_,rfl;refine(?_:if decide ((p:Int)<(b:Int))=true then _ else _);rw[show decide ((p:Int)<(b:Int))=decide (p<b) from abp.mpr (by lia)]
  exact br (λe=>#[_,rfl,_,rfl,by show 2<=sizeLine;decide,m _ #[_,rfl] e]) (λe=>J _ #[_,rfl] e)
 .rw[k,mS,tB];exact small (by lia)
 .have:=cL g p
  rw[k,mS,tB];exact small (by lia)
 .rw[k,yf]
  exact#[_,rfl,by lia,q]
def Jx:cI:=λa P=>∃(w:W)(p q:Nat),a= [.fj w,af p,af q]/\Good w/\q∈row w p/\P (af (h8 (row w p) q))
theorem jQ:FnOk P w Z.K mg base cw 1 T.m_behind.f T.m_behind.fd ["self","p","q"] (bh Z Jx):=by
 have k:=oF.nd;refine bC T.m_behind.F oF [0,0,0,0] (by decide) (λl R h=>by obtain⟨_,_,_,rfl,_⟩:=h;rfl) (λt A outer s H E l R m h=>?_)
 have u:=m.units
 refine#[_,(ao (aL false 3 k (aF (kX T.W (aa 0)) (aa 1)))
   (au (ba (aF (aa 3) (aC bQ (aC cR (pk (aa 3) (aa 2)) ax) (aB aZ rfl T.B.len aY (ae (aa 3) ag))))))),?_]
 obtain⟨a,p,b,rfl,g,c,q⟩:=h;have n:=b8 c;have v:=cL g p;have e:((row a p).map af).length=(row a p).length:=aH _;have d:0<(row a p).length:=xY c;have o:(0:Int)<(((row a p).map af).length:Int):=by rw[e];lia
 exists _,rfl,a,rfl,_,rfl,_,fe n,trivial;exists _,rfl,_,rfl,_,rfl,_,rfl,rfl,cY _,_,_,(cp c).1,(cp c).2.1,(cp c).2.2;exists _,rfl,o;have em:(((row a p).idxOf b:Nat):Int)+1=(((row a p).idxOf b+1:Nat):Int):=by lia
 have r:((((row a p).idxOf b:Nat):Int)+1)%(((row a p).map af).length:Int)=((((row a p).idxOf b+1)%(row a p).length:Nat):Int):=by rw[e,em,aca]
 refine#[af (h8 (row a p) b),?_,q];show dZ ((row a p).map af) ((λi j=>i%j) _ _)=_;dsimp only;rw[r];exact eM (mw _ d)
theorem HZ{P:D->Prop}(h:P (.bl (!decide (a=b)))):Ak (pairD a) (pairD b) P:=by
 refine#[_,_,F5 a,F5 b,by unfold iD nD;simp[PyData.depth,PyData.depthAll],?_]
 have:PyData.eqv (iD a) (iD b)=decide (a=b):=by
  by_cases e:a=b
  .rw[FM e];exact(pB a b).mpr e
  .rw[GM e]
   apply qd.mpr;exact λz=>e ((pB a b).mp z)
 rw[tz rfl,this];exact h
def M3:cI:=λa P=>∃(w:W)(d:Nat×Nat),a= [.fj w,pairD d]/\Good w/\w.length<=14/\bK w d/\∀r,iN w d r->P (.lst (r.map pairD))
theorem xg:FnOk P w Z.K mg base cw 2 T.d_round_from.f T.d_round_from.fd ["web","side"] (bh Z M3):=by
 have i:=oN.nd;refine bC T.d_round_from.F oN [0,0,1,0,0] (by decide) (λu R h=>by obtain⟨_,_,rfl,_⟩:=h;rfl) (λB A outer s H E u R n h=>?_)
 have v:=n.units
 refine#[_,(ao (gu 2 i (gU (ae (aa 1) ag)))
   (ao (GZ (aa 1) (fP 2 rfl (aX (aQ 3 i) (aX (aQ 4 i) cX))))
   (ao (vA 3 4 rfl i (ae (aa 4) (ae (kW T.W (aa 0) T.m_behind.m (jQ T) (n.mono (by decide)) T.m_behind.b (ae (aa 4) (ae (aa 3) ag))) ag)))
   (ao (pz GT (bb (w9 v) (eB (ae (aa 3) (ae (aa 4) ag))) (aa 1) (bg _)) (ao (pq false 2 (eB (ae (aa 3) (ae (aa 4) ag))))
   (au (vA 3 4 rfl i (ae (aa 4) (ae (kW T.W (aa 0) T.m_behind.m (jQ T) (n.mono (by decide)) T.m_behind.b (ae (aa 4) (ae (aa 3) ag))) ag))))))
   (au (ba (aa 2))))))),?_]
 obtain⟨a,d,rfl,g,r,o,q⟩:=h;have C:=iy g;have G:a.length*a.length<=14*14:=uw r r;refine#[_,rfl,by show 1<=sizeLine;decide,?_]
 exists _,rfl,rfl,rfl;exists _,rfl,_,rfl,a,rfl,_,rfl,_,rfl,a,d.2,d.1,rfl,g,g.sym _ _ o,_,_,rfl;refine mv (λm x=>∃k,0<k/\m+k=(bz a).length+1/\(∀j,0<j->j<k->bf a j d≠d)/\x= [some (.fj a),some (pairD d),some (.lst ((walk a d k).map pairD)),some (af (bf a k d).1),some (af (bf a k d).2)]) (bz a).length #[1,by lia,rfl,λj l t=>by lia,rfl] ?_
 rintro m _ ⟨k,y,I,p,rfl⟩;have z:=cE g o k;refine#[_,rfl,_,rfl,by show 2<=sizeLine;decide,_,rfl,?_]
 refine(?_:Ak (pairD (bf a k d)) (pairD d) _);refine HZ #[_,rfl,br (λe=>?_) (λe=>?_)]
 .have ne:bf a k d≠d:=by simpa using e
  have lt:k<(bz a).length:=by
   have:=xI g o (k:=k+1) λj l t=>by
    by_cases c:j=k
    .subst c;exact ne
    .exact p j l (by lia)
   lia
  refine#[_,rfl,_,rfl,_,rfl,by show 2<=sizeLine;decide,trivial,eW (by rw[aH,jC];lia),?_]
  exists _,rfl,_,rfl,a,rfl,_,rfl,_,rfl,a,(bf a k d).2,(bf a k d).1,rfl,g,g.sym _ _ z,_,_,rfl;refine#[m-1,by lia,k+1,by lia,by lia,λj l t=>?_,?_]
  .by_cases c:j=k
   .subst c;exact ne
   .exact p j l (by lia)
  .rw[qL,df];rfl
 .have e:bf a k d=d:=by simpa using e
  exact#[_,rfl,q _ #[k,y,e,p,rfl]]
def vD(a:List (List (Nat×Nat))):D:= .lst ((a.map λr=>r.map (·.1)).map aq)
def Ei:cI:=λb P=>∃(w:W),b= [.fj w]/\Good w/\1<=w.length/\w.length<=14/\(w.length=1->P (.lst [aq [0]]))/\(2<=w.length->∀a,cn w a->nU w=jd a->P (.lst ((nU w).map aq)))
theorem IJ(h:d∉l):k6 (l.map zz) (zz d)=(l++ [d]).map zz:=by
 unfold k6;rw[mo (λz=>h (mz.mp z)),df];rfl
theorem zE:FnOk P w Z.K mg base cw 3 T.d_lands.f T.d_lands.fd ["web"] (bh Z Ei):=by
 have I:=zN.nd;refine bC T.d_lands.F zN [0,98,1,0,0,0] (by decide) (λv R h=>by obtain⟨_,rfl,_⟩:=h;rfl) (λbo A outer s H E v R o h=>?_)
 have Q:=o.units
 refine#[_,(ao (bM (bb (fI Q) (gI T.W (aa 0) T.m_many.m (sh T) (o.mono (by decide)) T.m_many.b) ax (bg _)) (au (ba (iH (ae (iH (ae ax ag)) ag)))) aS)
   (ao (Ih 1 I rfl T.x_set)
   (ao (gu 2 I (gU ag))
   (ao (cD rfl GT (bX (aB yX rfl T.B.sorted jF (ae (aC cR (gI T.W (aa 0) T.m_ties.m (lW T) (o.mono (by decide)) T.m_ties.b) (Ap (NC:= ["a","b"]) (src:= [none,none]) rfl (wd (av oE)) trivial (bX (gI T.W (aa 0) T.m_ties.m (lW T) (o.mono (by decide)) T.m_ties.b)) (λ_ _ _=>(As 2 rfl (js (c7 0 (show(["a","b"]:List Str).Nodup from by decide+kernel)) (js (c7 1 (show(["a","b"]:List Str).Nodup from by decide+kernel)) wu)))) (λ_ _ _=>gk) (λ_ _ _=>(eB (ae (aa 1) (ae (aa 0) ag)))))) ag))) (aQ 3 I) (au (bM (bb (FQ Q) (aa 3) (aa 1) (by with_unfolding_all rfl)) (ao (aL false 4 I (aD T.d_round_from (xg T) o (ae (aa 0) (ae (aa 3) ag))))
   (ao (cD rfl GT (bX (aa 4)) (aQ 5 I) (au (Kx false 1 Q (aa 5))))
   (au (pq false 2 (Ap (NC:= ["p","q"]) (src:= [none,none]) rfl (wd (av oE)) trivial (bX (aa 4)) (λ_ _ _=>(As 2 rfl (js (c7 0 (show(["p","q"]:List Str).Nodup from by decide+kernel)) (js (c7 1 (show(["p","q"]:List Str).Nodup from by decide+kernel)) wu)))) (λ_ _ _=>gk) (λ_ _ _=>(aa 0))))))) aS)))
   (au (ba (aB (E1 Q) rfl T.B.sorted jF (ae (aa 2) ag)))))))),?_]
 obtain⟨n,rfl,g,h1,J,q1,q2⟩:=h;have c1:=iy g;have c2:n.length*n.length<=14*14:=uw J J;have lw:(n.map aq).length=n.length:=aH _;exists _,rfl,n,rfl,n,rfl;refine CP #[_,rfl,br (λe=>?_) (λe=>?_)]
 .have e:n.length=1:=by have:=KB e;lia
  exact#[by show 1<=sizeLine;decide,by show 1<=sizeLine;decide,q1 e]
 have n2:2<=n.length:=by have:=On e;lia
 refine#[by show 0<=sizeLine;decide,?_]
 refine#[_,rfl,n,rfl,n,rfl,g,J,λts G S=>?_];have tl:=Gm g;rw[<-wo] at tl;have tl2:=G.length_eq;refine#[_,rfl,n,rfl,n,rfl,g,J,λy ME HC=>?_];have e2:y=ts:=aa6 (λ_ _ _ _=>pG) HC S (ME.trans G.symm);subst e2;refine rU (λC=>∃L N,C= [L,N]) pairD (λ_=>true) (λt=>pairD (t.2,t.1)) y _ [] _ (λt ht aE O Y Nn hY hN=>?_) #[none,none,rfl] (by rw[mS,tB];exact small (by lia)) λaE O=>?_
 .obtain⟨L,N,rfl⟩:=O
  exact#[rfl,rfl,QM #[_,rfl,_,rfl,by show 2<=sizeLine;decide,hY _ #[_,_,rfl] rfl]]
 have pd:=EU g G;have pl:=pd.length_eq;rw[dJ,aH] at pl;have ef:y.filter (λ_=>true)=y:=by simp
 rw[yf,ef];refine#[by rw[aH,aH];exact small (by lia),?_]
 have ej:(.lst (y.map pairD++y.map λt=>pairD (t.2,t.1)):D)= .lst ((y++y.map λt=>(t.2,t.1)).map pairD):=by rw[df,dH];rfl
 dsimp only[pV];rw[ej];refine#[_,rfl,by rw[dJ,aH];lia,λv U WX=>?_]
 have U:=U.trans pd;have all:∀e,bK n e->e∈v:=λe h=>U.mem_iff.mpr (bG.mpr h);have dart:∀e∈v,bK n e:=λe h=>bG.mp (U.mem_iff.mp h);clear G ME S HC ej pd ef;refine bN (λi C=>∃(j:List (List (Nat×Nat)))(o3 o4 q:Option D),C= [some (.fj n),some (.x (.mF (cG w) (j.flatten.map zz))),some (vD j),o3,o4,q]/\Wk n v i j) #[[],none,none,none,rfl,Wk.zero n v] ?_ ?_
 .rintro i d _ hd ⟨j,o3,o4,q,rfl,hw⟩ A X
  obtain⟨e,he,rfl⟩:=cK hd;have de:=dart e (gb he);exists _,rfl,_,rfl,zz e,j.flatten.map zz,rfl,rfl,_,rfl;refine(?_:if (if true=true then !decide (zz e∈j.flatten.map zz) else _)=true then _ else _);rw[tz rfl,show decide (zz e∈j.flatten.map zz)=decide (e∈j.flatten) from abp.mpr mz]
  have sub:∀x∈j.flatten,x∈bz n:=λx u=>by
   obtain⟨r,o,ZV⟩:=zY.mp u;obtain⟨d,R,dd,_⟩:=hw.rnd r o;exact bG.mpr (R.bz g dd x ZV)
  have fl:=aR hw.nod sub;refine br (λc=>?_) (λc=>?_)
  .have c:e∉j.flatten:=by simpa using c
   refine#[_,rfl,_,rfl,n,e,rfl,g,J,de,λr R=>#[trivial,?_]];have V2:=hw.take g all dart WX he c R;have rd:∀x∈r,x∈bz n:=λx u=>bG.mpr (R.bz g de x u);have rl:=aR (R.nodup g de) rd;have SH:(j.flatten++r).Nodup:=by have:=V2.nod;rw[EH] at this;simpa using this
   have YG:(j.flatten++r).length<=(bz n).length:=aR SH λx u=>(cU.mp u).elim (sub x) (rd x);rw[dJ] at YG;exists _,rfl;refine bN (λk C=>∃q,C= [some (.fj n),some (.x (.mF (cG w) ((j.flatten++r.take k).map zz))),some (vD j),some (pairD e),some (.lst (r.map pairD)),q]) #[q,by rw[u9,f6];rfl] ?_ ?_
   .rintro k d _ hd ⟨q,rfl⟩ A X
    obtain⟨x,u,rfl⟩:=cK hd;have hk:=(c9.mp u).1;have tk:r.take (k+1)=r.take k++ [x]:=by rw[xW,u];rfl
    have nx:x∉j.flatten++r.take k:=λz=>by
     have sp:j.flatten++r=(j.flatten++r.take k)++(x::r.drop (k+1)):=by
      rw[j1,<-c9.mp u|>.2,List.getElem_cons_drop,mQ]
     rw[sp] at SH;exact(ic.mp SH).2.2 x z x (cP ..) rfl
    refine#[_,rfl,_,rfl,zz x,rfl,by rw[aH,dJ,ik];lia,?_]
    rw[IJ nx,j1,<-tk];exact X _ #[_,rfl]
   .rintro _ ⟨q,rfl⟩
    rw[aH,xV]
    have dl:j.length<=300:=by
     have h:∀p:List (List (Nat×Nat)),(∀r∈p,r≠ [])->p.length<=p.flatten.length:=λp=>by
      induction p with
      |nil=>intro _;exact bJ _
      |cons a l ih=>
       intro h;have h1:=List.length_pos_iff.mpr (h a (cP ..));have h2:=ih λr o=>h r (dh _ o);rw[tq,dJ,dG];lia
     have:=h j λr o z=>by
      obtain⟨d,R,_,_⟩:=hw.rnd r o
      have:=R.first
      rw[z] at this;cases this
     lia
    exists _,rfl,_,rfl;refine rU (λC=>∃L N,C= [L,N]) pairD (λ_=>true) (λt=>af t.1) r _ [] _ (λt ht aE O Y Nn hY hN=>?_) #[none,none,rfl] (by rw[mS,tB];exact small (by lia)) λaE O=>?_
    .obtain⟨L,N,rfl⟩:=O
     exact#[rfl,rfl,QM #[_,rfl,hY _ #[_,_,rfl] rfl]]
    rw[yf,show r.filter (λ_=>true)=r by simp]
    refine#[trivial,eW (by rw[aH,aH];lia),?_]
    refine X _ #[j++ [r],some (pairD e),some (.lst (r.map pairD)),q,?_,V2]
    have e1:vD (j++ [r])= .lst ((j.map λr=>r.map (·.1)).map aq++ [.lst (r.map λt=>af t.1)]):=by
     unfold vD aq;rw[df,df];simp only[bV,uy,dH];rfl
    rw[e1,EH,show[r].flatten=r by simp];rfl
  .have c:e∈j.flatten:=by simpa using c
   exact X _ #[j,_,_,_,rfl,hw.skip he c]
 .rintro _ ⟨j,o3,o4,q,rfl,hw⟩
  have hw:Wk n v v.length j:=by rw[aH] at hw;exact hw
  have fin:=hw.fin g all;have R:cn n j:=#[hw.rnd,fin]
  have dl:j.length<=300:=by
   have h:∀p:List (List (Nat×Nat)),(∀r∈p,r≠ [])->p.length<=p.flatten.length:=λp=>by
    induction p with
    |nil=>intro _;exact bJ _
    |cons a l ih=>
     intro h;have h1:=List.length_pos_iff.mpr (h a (cP ..));have h2:=ih λr o=>h r (dh _ o);rw[tq,dJ,dG];lia
   have:=h j λr o z=>by
    obtain⟨d,R,_,_⟩:=hw.rnd r o
    have:=R.first
    rw[z] at this;cases this
   have:=fin.length_eq
   lia
  refine#[_,rfl,j.map (λr=>r.map (·.1)),rfl,by rw[aH];lia,λM G S=>?_]
  obtain⟨p,p',rfl⟩:=L2.hJ (λr:List (Nat×Nat)=>r.map (·.1)) M j G;have R':=R.Mg p';have e:=zq g R' S
  have:=q2 n2 p R' e
  rw[e] at this;exact this
variable {P:Program} {w:World} {mg:Str->Option Value} {base:Heap} {Z:DC} (T:Txt Z mg)
theorem Pw(I:DN->Prop)(h:∀b:dq,(∀a,I a->b.nx a)->Kd c t E5 b a)(k:∀a,I a->u E a):GO (Kd c t E5) u E a:=h _ k
theorem Nz(b:DN)(e:a=b)(h:GO t u E b):GO t u E a:=by rw[e];exact h
theorem AZ(h:p<n):lL n (p:Int)=some p:=by
 unfold lL;rw[tz (by lia),tz (by lia)]
 exact IR some (by lia)
theorem CF{v w:W}{P:D->Prop}(h:P (.bl (!decide (v=w)))):Ak (aP v) (aP w) P:=by
 refine#[_,_,vI v,vI w,by have:=uE v;lia,?_]
 have:PyData.eqv (oU v) (oU w)=decide (v=w):=by
  by_cases e:v=w
  .rw[FM e];exact(pC v w).mpr e
  .rw[GM e]
   apply qd.mpr;exact λz=>e ((pC v w).mp z)
 rw[tz rfl,this];exact h
variable {P:Program} {w:World} {mg:Str->Option Value} {base:Heap} {Z:DC} (T:Txt Z mg)
def Jy:cI:=λa P=>∃(b:List Int)(k:Nat),a= [.jY b,af k]/\∀v:Int,P (.int v)
theorem eO:FnOk P w Z.K mg base cw 1 T.d__law_cell_at.f T.d__law_cell_at.fd ["_law_script","_law_k"] (bh Z Jy):=by
 have g:=lC.nd;refine bC T.d__law_cell_at.F lC [0,0] (by decide) (λa R h=>by obtain⟨_,_,rfl,_⟩:=h;rfl) (λi A outer s H E a R b h=>?_)
 have j:=b.units;exists _,(au (ba (Rk (bb n5 (aa 1) (aB aZ rfl T.B.len aY (ae (aa 0) ag)) (bg _)) (aF (aa 0) (aa 1)) ax)));obtain⟨c,k,rfl,q⟩:=h;exists _,rfl,_,rfl;refine#[_,rfl,br (λe=>?_) (λe=>?_)]
 .have d:k<c.length:=by
   have:=KB e
   lia
  exact#[_,rfl,_,rfl,_,Cq (eu d),q _]
 .exact q 0
def g6(l:List Int):List D:=l.map D.int
theorem FA(l:List Int):(g6 l).length=l.length:=aH _
theorem Dj(l:List Int)(x:Int):g6 (l++ [x])=g6 l++ [.int x]:=df ..
theorem Di{l:List Int}{p:Nat}(h:p<l.length):dZ (g6 l) (p:Int)=some (.int (l.getD p 0)):=cC (by unfold g6;rw[cc,fX,eu h];rfl)
theorem vV(x:Int):0<=x%2147483647/\x%2147483647<2147483647:=#[acf _ (by decide),abQ _ (by decide)]
def TB:cI:=λc P=>∃(d:List Int)(k n b:Nat),c= [.jY d,af k,af n,af b]/\k<=10/\n<=40/\0<b/\b<10000000/\∀a:List Int,a.length=n->(∀x∈a,0<=x)->P (.lst (g6 a))
theorem lX:FnOk P w Z.K mg base cw 2 T.d__law_row.f T.d__law_row.fd ["_law_script","_law_k","_law_many","_law_base"] (bh Z TB):=by
 have d:=sN.nd;refine bC T.d__law_row.F sN [0,0,0,0,0,0,0,1,0] (by decide) (λL R h=>by obtain⟨_,_,_,_,rfl,_⟩:=h;rfl) (λY A outer s H E L R l h=>?_)
 have M:=l.units
 refine#[_,(ao (aL false 4 d (aD T.d__law_cell_at (eO T) l (ae (aa 0) (ae (aa 1) ag))))
   (ao (aL false 5 d (pj (fI M) (aC bQ (aD T.d__law_cell_at (eO T) l (ae (aa 0) (ae ax ag))) ax) ax (bg _)))
   (ao (aL false 6 d (aC bQ (aa 4) ax))
   (ao (gu 7 d (gU ag))
   (ao (CJ rfl GT (wx rfl T.B.range (ae (aa 2) ag)) (aQ 8 d) (ao (aL false 6 d (aC bQ (aC cR (aC cR (aC Bu (aa 6) ax) (aD T.d__law_cell_at (eO T) l (ae (aa 0) (ae (aC cR (aa 1) (aa 8)) ag)))) (aa 8)) ax))
   (ao (aL false 6 d (aC bQ (aC cR (aC Bu (aa 6) ax) (aC Bu ax (aa 8))) ax))
   (ao (bM (DW.dt (i3 (dB (eD (aa 5))) (iJ (bb n5 (aa 4) ax (bg _))))) (au (aL false 4 d (aC fR (aa 6) ax))) aS)
   (ao (pq false 7 (aC bQ (aa 4) (aa 3)))
   (au (aL false 4 d (aC fR (aa 4) (aa 3)))))))))
   (au (ba (aa 7)))))))),?_]
 obtain⟨e,k,n,b,rfl,hk,hn,b0,b1,q⟩:=h;refine#[_,rfl,_,rfl,e,k,rfl,λc=>#[trivial,?_]];refine#[_,rfl,e,0,rfl,λN=>#[(by show(0:Int)<2;decide),CP #[trivial,?_]]]
 refine#[_,rfl,(by show(0:Int)<2147483647;decide),trivial,?_]
 refine#[by show 0<=sizeLine;decide,?_]
 refine#[_,rfl,#[by show-(2^62)<=(n:Int);lia,by show(n:Int)<2^62;lia],?_]
 rw[show((n:Int)).toNat=n by lia]
 generalize decide (N%2=0)=m;refine zi (λj p=>∃(x y:Int)(a:List Int)(r:Option D),p= [some (.jY e),some (af k),some (af n),some (af b),some (.int x),some (.bl m),some (.int y),some (.lst (g6 a)),r]/\a.length=j/\(∀x∈a,0<=x)/\0<=y/\y<2147483647) #[c,_,[],_,rfl,rfl,(λx h=>nomatch h),vV c] ?_ ?_
 .rintro j _ hj ⟨x,y,a,r,rfl,t,u,O⟩ A Q
  refine#[_,rfl, .inl #[by lia,by lia],_,rfl,_,rfl,_,rfl,e,k+j,rfl,λv=>#[_,rfl,(by show(0:Int)<2147483647;decide),trivial,?_]]
  have h1:=vV (y*48271+v+(j:Int));refine#[_,rfl, .inl #[by dsimp only;lia,by dsimp only;lia],_,rfl, .inl #[by decide,by decide],(by show(0:Int)<2147483647;decide),trivial,?_]
  have C:=vV ((y*48271+v+(j:Int))%2147483647*69621+7*(j:Int));obtain⟨g,G⟩:∃g,g=((y*48271+v+(j:Int))%2147483647*69621+7*(j:Int))%2147483647:=#[_,rfl];rw[<-G] at C;dsimp only;refine Nz [some (.jY e),some (af k),some (af n),some (af b),some (.int x),some (.bl m),some (.int g),some (.lst (g6 a)),some (af j)] (by rw[G];rfl) ?_
  refine Pw (λp=>∃o:Int,p= [some (.jY e),some (af k),some (af n),some (af b),some (.int o),some (.bl m),some (.int g),some (.lst (g6 a)),some (af j)]) (λS I=>?_) ?_
  .have i:Km [0,0,0,0,0,0,0,1,0] false 4 (E6 Qc (Ko 6) (dC (D.int 5))) S [some (.jY e),some (af k),some (af n),some (af b),some (.int x),some (.bl m),some (.int g),some (.lst (g6 a)),some (af j)]:=#[_,rfl,#[by decide,by decide],trivial,I _ #[_,rfl]]
   exact#[_,rfl,rfl,br (λ_=>bF i) (λ_=>#[_,rfl,_,rfl,br (λ_=>i) (λ_=>I _ #[_,rfl])])]
  .rintro _ ⟨o,rfl⟩
   have J:(0:Int)<(b:Int):=by lia
   have U:=lT o (b:Int) J;refine#[_,rfl,_,rfl,_,rfl,J,trivial,eW (by rw[FA];lia),?_]
   refine#[_,rfl,_,rfl,#[by lia,by lia],trivial,?_]
   refine Q _ #[_,g,a++ [o%(b:Int)],some (af j),by rw[Dj];rfl,by rw[dJ,t];rfl,λz X=>?_,C]
   rcases cU.mp X with h|h
   .exact u z h
   .rw[dF] at h;rw[h];exact U.1
 .rintro _ ⟨x,y,a,r,rfl,t,u,O⟩
  exact#[_,rfl,q a t u]
variable {P:Program} {w:World} {mg:Str->Option Value} {base:Heap} {Z:DC} (T:Txt Z mg)
structure qR (w:W) (r:List Nat):Prop where
 ne:0<r.length
 sz:r.length<=196
 lt:∀k,k<r.length->r.getD k 0<w.length
 tie:2<=w.length->∀k,k<r.length->r.getD ((k+(r.length-1))%r.length) 0∈row w (r.getD k 0)
structure Cl (w:W) (ds:List (Nat×Nat)):Prop where
 nd:ds.Nodup
 dart:∀e∈ds,bK w e
 step:∀e,bK w e->(e∈ds↔wZ w e∈ds)
theorem Cl.bf{w:W}(c:Cl w a)(g:Good w)(b:bK w d):∀k,Wb.bf w k d∈a↔d∈a
 |0=>Iff.rfl
 |k+1=>(c.step _ (cE g b k)).symm.trans (c.bf g b k)
theorem bZ{w:W}:e∈walk w d k↔∃i,i<k/\bf w i d=e:=by
 unfold walk;rw[bL];exact#[λ#[i,a,e]=>#[i,fF.mp a,e],λ#[i,a,e]=>#[i,fF.mpr a,e]]
theorem Cl.len{w:W}(c:Cl w a)(g:Good w)(b:w.length<=14):a.length<=196:=by
 have f:=iy g;have h:w.length*w.length<=14*14:=uw b b
 have:=aR c.nd λe d=>bG.mpr (c.dart e d)
 lia
theorem Cl.nodup{w:W}(c:Cl w e)(g:Good w)(f:bK w d)(l:0<k->d∉e)(m:∀j,0<j->j<k->Wb.bf w j d≠d):(e++walk w d k).Nodup:=by
 rw[ic];refine#[c.nd,oS g f m,λa h b n z=>?_];obtain⟨i,o,rfl⟩:=bZ.mp n;rw[z] at h;exact l (by lia) ((c.bf g f i).mp h)
theorem Cl.back{w:W}(c:Cl w a)(g:Good w)(b:bK w d)(o:0<k)(l:d∉a)(m:∀j,0<j->j<k->Wb.bf w j d≠d)(h:Wb.bf w k d∈a++walk w d k):Wb.bf w k d=d:=by
 rcases cU.mp h with h|h
 .exact absurd ((c.bf g b k).mp h) l
 .obtain⟨i,p,e⟩:=bZ.mp h
  have n:Wb.bf w i d=Wb.bf w i (Wb.bf w (k-i) d):=by rw[<-rS (k-i) i,show i+(k-i)=k by lia];exact e
  have f:=(wL g b (cE g b _) i n).symm
  by_cases z:i=0
  .subst z;exact f
  .exact absurd f (m (k-i) (by lia) (by lia))
theorem Cl.grow{w:W}{f:List (Nat×Nat)}(c:Cl w f)(g:Good w)(b:bK w d)(l:0<k)(n:d∉f)(o:∀j,0<j->j<k->Wb.bf w j d≠d)(e:Wb.bf w k d=d):Cl w (f++walk w d k):=by
 refine#[c.nodup g b (λ_=>n) o,λx a=>?_,λx a=>?_]
 .rcases cU.mp a with h|h
  .exact c.dart x h
  .exact mr g b x h
 .rw[cU,cU,<-c.step x a]
  refine or_congr Iff.rfl #[λh=>?_,λh=>?_]
  .obtain⟨i,p,rfl⟩:=bZ.mp h
   by_cases z:i+1=k
   .exact bZ.mpr #[0,l,by show d=Wb.bf w (i+1) d;rw[z,e]]
   .exact bZ.mpr #[i+1,by lia,rfl]
  .obtain⟨i,p,z⟩:=bZ.mp h
   cases i with
   |zero=>
    obtain⟨m,rfl⟩:∃m,k=m+1:=#[k-1,by lia]
    refine bZ.mpr #[m,by lia,w4 g (cE g b m) a ?_]
    exact e.trans z
   |succ i=>exact bZ.mpr #[i,by lia,w4 g (cE g b i) a z]
theorem uu{w:W}(h:i<k):((walk w d k).map (·.1)).getD i 0=(bf w i d).1:=by
 unfold walk;rw[dH,fX,cc,EG h];rfl
theorem LU{w:W}(g:Good w)(c:w.length<=14)(b:bK w d)(f:0<k)(h:∀j,0<j->j<k->Wb.bf w j d≠d)(e:Wb.bf w k d=d):qR w ((walk w d k).map (·.1)):=by
 have n:=iy g;have o:w.length*w.length<=14*14:=uw c c;have p:=xI g b h;have l:((walk w d k).map (·.1)).length=k:=by rw[aH,jC]
 have st:∀i,(bf w i d).1∈row w (bf w (i+1) d).1:=λi=>g.sym _ _ (cE g b i);refine#[by lia,by lia,λi a=>?_,λ_ i a=>?_]
 .rw[l] at a
  rw[uu a];exact b8 (cE g b i)
 .rw[l] at a ⊢
  rw[uu a,uu (mw _ f)];cases i with
  |zero=>
   obtain⟨m,rfl⟩:∃m,k=m+1:=#[k-1,by lia]
   have:=st m
   rw[e] at this;rw[tB,u6 (by lia)];exact this
  |succ i=>
   rw[show i+1+(k-1)=i+k by lia,Nat.add_mod_right,u6 (by lia)];exact st i
theorem DU{w:W}(g:Good w)(h:w.length=1):w= [[]]:=by
 match w,h with
 | [r],_=>
  cases r with
  |nil=>rfl
  |cons a r=>
   have m:a∈row [a::r] 0:=cP
   have:=g.rng 0 a m
   have e:a=0:=by simpa using this
   subst e;exact absurd m (g.irr 0)
theorem Ff{w:W}(g:Good w)(h:2<=w.length):0<(row w 0).length:=by
 apply Nat.pos_of_ne_zero;intro z;have z:row w 0= []:=zT.mp z
 have:=uB g (S:=λp=>p=0) rfl (λp q b a=>by subst b;rw[z] at a;cases a) 1 (by lia)
 lia
theorem zM{w:W}(a:0<k)(e:bf w k d=d)(b:∀j,0<j->j<k->bf w j d≠d):iN w d (walk w d k):=#[k,a,e,b,rfl]
def Cg(w:W)(b:List (Nat×Nat))(f:List (List Nat))(c:Nat×Nat->Prop):Prop:=∃a:List (List (Nat×Nat)),b=a.flatten/\f=jd a/\(∀r∈a,∃d,iN w d r/\bK w d/\(∀e∈r,lexLe d e)/\c d)/\a.Pairwise (λr g=>∀d e,iN w d r->iN w e g->lexLe d e)/\(∀r∈f,qR w r)/\∀d,bK w d->c d->d∈b
theorem Cg.imp{w:W}{c i:Nat×Nat->Prop}(h:Cg w g j c)(k:∀d,bK w d->i d->c d\/d∈g)(m:∀d,c d->i d):Cg w g j i:=by
 obtain⟨n,o,p,q,s,t,u⟩:=h;exact#[n,o,p,λr v=>let #[d,a,b,e,f]:=q r v;#[d,a,b,e,m d f],s,t,λd l x=>(k d l x).elim (u d l) id]
theorem zL{w:W}(h:iN w d r)(c:iN w e r):d=e:=by
 obtain⟨k,g,_,_,rfl⟩:=h;obtain⟨m,i,_,_,f⟩:=c
 have:=IR List.head? f
 obtain⟨a,rfl⟩:∃a,k=a+1:=#[k-1,by lia]
 obtain⟨b,rfl⟩:∃b,m=b+1:=#[m-1,by lia]
 unfold walk at this;rw[B4,B4] at this;exact Fk this
theorem D7{w:W}(g:Good w)(h:iN w d r)(b:bK w d):∃t,r.map (·.1)=d.1::d.2::t:=by
 obtain⟨k,c,a,_,rfl⟩:=h
 obtain⟨m,rfl⟩:∃m,k=m+2:=by
  exists k-2;apply GE;intro z;obtain rfl:k=1:=by lia
  have a:wZ w d=d:=a;exact CH g b (IR Prod.fst a).symm
 unfold walk;rw[B4,bV,bV,B4,bV,bV,bV];exact#[_,rfl]
theorem Cg.lands{w:W}(g:Good w)(C:Cl w p)(h:Cg w p j c)(all:∀d,bK w d->c d):nU w=j/\∃f,cn w f/\j=jd f:=by
 obtain⟨f,rfl,rfl,k,q,G,s⟩:=h;have v:f.flatten.Perm (bz w):=(zR C.nd (gS g)).mpr λd=>#[λi=>bG.mpr (C.dart d i),λi=>s d (bG.mp i) (all d (bG.mp i))];have R:cn w f:=#[λr l=>let #[d,a,b,e,_]:=k r l;#[d,a,b,e],v];refine#[zq g R ?_,f,R,rfl];unfold jd;rw[iV];refine q.imp_of_mem λ {r m} l x n=>?_;obtain⟨d,a,b,_,_⟩:=k r l;obtain⟨e,o,A,_,_⟩:=k m x;have le:=n d e a o;obtain⟨t,B⟩:=D7 g a b;obtain⟨H,E⟩:=D7 g o A
 by_cases z:d=e
 .subst z
  rw[a.uniq o];unfold nY;cases y:HT.lexLt (ja (m.map (·.1))) (ja (m.map (·.1))) with
  |false=>rfl
  |true=>exact absurd y (by rw[wR];simp)
 .have F:d.1<e.1\/(d.1=e.1/\d.2<e.2):=by
   unfold lexLe at le
   by_cases y:d.1=e.1
   .have:d.2≠e.2:=λu=>z (aar y u)
    lia
   .lia
  rw[B,E];unfold nY ja;rw[bV,bV,bV,bV,HT.gK]
  split
  .rw[HT.gK]
   split
   .lia
   .exact GM (by lia)
  .exact GM (by lia)
def Ej:cI:=λc P=>∃(w:W),c= [aP w]/\Good w/\1<=w.length/\w.length<=14/\∀a:List (List Nat),0<a.length->a.length<=196->(∀r∈a,qR w r)->(2<=w.length->nU w=a/\∃b,cn w b/\a=jd b)->(w.length=1->a= [[0]])->P (.lst (a.map aq))
structure Lf (w:W) (ks:List (Int×Int)) (met:List (Nat×Nat)):Prop where
 nd:ks.Nodup
 sub:∀x∈ks,∃d,bK w d/\x=zz d
 iff:∀d,bK w d->(zz d∈ks↔d∉met)
theorem Lf.len{w:W}(h:Lf w a met)(g:Good w)(b:w.length<=14):a.length<=196:=by
 have f:=iy g;have i:w.length*w.length<=14*14:=uw b b
 have:=aR (m:=(bz w).map zz) h.nd λx c=>by
  obtain⟨d,e,rfl⟩:=h.sub x c;exact mz.mpr (bG.mpr e)
 rw[aH] at this;lia
theorem Lf.pop{w:W}(h:Lf w c met):Lf w (c.erase (zz d)) (met++ [d]):=by
 refine#[h.nd.erase _,λx f=>h.sub x (List.mem_of_mem_erase f),λe g=>?_];rw[h.nd.mem_erase_iff,h.iff e g,cU,dF];refine#[λ#[a,b] z=>z.elim b λz=>a (by rw[z]),λz=>#[λy=>z (.inr (B7 y)),λy=>z (.inl y)]]
def dU(w:W)(p:Nat):List (Nat×Nat):=(aJ p).flatMap λp=>(row w p).map λq=>(p,q)
theorem vE{w:W}:d∈dU w p↔d.1<p/\bK w d:=by
 unfold dU;rw[zX]
 constructor
 .rintro⟨x,a,h⟩
  obtain⟨y,b,rfl⟩:=bL.mp h;exact#[fF.mp a,b]
 .exact λh=>#[d.1,fF.mpr h.1,bL.mpr #[d.2,h.2,rfl]]
theorem CG(w:W)(p:Nat):dU w (p+1)=dU w p++(row w p).map λq=>(p,q):=by
 unfold dU;rw[abx,abG];simp
theorem g8:FnOk P w Z.K mg base cw 1 T.d__law_lands.f T.d__law_lands.fd ["_law_turns_here"] (bh Z Ej):=by
 have v:=oH.nd;refine bC T.d__law_lands.F oH [0,98,1,0,0,0,1,0,0] (by decide) (λt R h=>by obtain⟨_,rfl,_⟩:=h;rfl) (λbo A outer s H E t R X h=>?_)
 have hu:=X.units
 refine#[_,(ao (Kz 1 v)
   (ao (gu 2 v (gU ag))
   (ao (cD rfl GT (eY rfl T.B.enumerate (ae (aa 0) ag)) (fP 2 rfl (aX (aQ 3 v) (aX (aQ 4 v) cX))) (au (cD rfl GT (bX (aa 4)) (aQ 5 v) (au (KD 1 hu (eB (ae (aa 3) (ae (aa 5) ag))) jI)))))
   (ao (cD rfl GT (eY rfl T.B.enumerate (ae (aa 0) ag)) (fP 2 rfl (aX (aQ 3 v) (aX (aQ 4 v) cX))) (au (cD rfl GT (bX (aB HX rfl T.B.sorted jF (ae (aa 4) ag))) (aQ 5 v) (ao (gu 6 v (gU ag))
   (ao (aL false 7 v (eB (ae (aa 3) (ae (aa 5) ag))))
   (ao (pz GT (bb (OS hu) (aa 7) (aa 1) (by with_unfolding_all rfl)) (ao (KA 1 hu (aa 7))
   (ao (pq false 6 (aF (aa 7) ax))
   (ao (aL false 8 v (aF (aa 0) (aF (aa 7) ax)))
   (au (aL false 7 v (eB (ae (aF (aa 7) ax) (ae (aF (aa 8) (aC bQ (aC cR (pk (aa 8) (aF (aa 7) ax)) ax) (aB aZ rfl T.B.len aY (ae (aa 8) ag)))) ag)))))))))
   (au (bM (bb (w9 hu) (aa 6) (iH ag) (bg _)) (au (Ky 2 6)) aS))))))))
   (nz 2
   (au (ba (NR (aa 2) (rk (iH (ae (iH (ae ax ag)) ag))))))))))),?_]
 obtain⟨n,rfl,g,h1,b9,q⟩:=h;have lw:(n.map aq).length=n.length:=aH _;have c1:=iy g;have c2:n.length*n.length<=14*14:=uw b9 b9
 have WU:∀{l:List (Nat×Nat)},l.Nodup->(∀e∈l,bK n e)->l.length<=196:=λ {l} v h=>by
  have:=aR v λe he=>bG.mpr (h e he)
  lia
 refine#[by show 0<=sizeLine;decide,?_]
 exists _,rfl;refine bN (λj ρ=>∃(u:List FV)(o3 o4 N:Option D),ρ= [some (aP n),some (.x (.lj ((dU n j).map zz) u)),some (.lst []),o3,o4,N,none,none,none]/\(dU n j).Nodup) #[[],_,_,_,rfl,f7] ?_ ?_
 .rintro p _ _ G ⟨u,o3,o4,N,rfl,v⟩ A hA
  obtain⟨hp,rfl⟩:=sT G;exists rfl,rfl;exists _,rfl;refine bN (λm ρ=>∃(u:List FV)(N:Option D),ρ= [some (aP n),some (.x (.lj ((dU n p++((row n p).take m).map λq=>(p,q)).map zz) u)),some (.lst []),some (af p),some (aq (row n p)),N,none,none,none]/\(dU n p++((row n p).take m).map λq=>(p,q)).Nodup) #[u,_,by rw[u9,uy,f6];rfl,by rw[u9,uy,f6];exact v] ?_ ?_
  .rintro m _ _ hd2 ⟨u,N,rfl,qC⟩ A2 RL
   obtain⟨o,hq,rfl⟩:=cK hd2;have ur:(row n p).take (m+1)=(row n p).take m++ [o]:=by rw[xW,hq];rfl
   have nn:(p,o)∉dU n p++((row n p).take m).map λq=>(p,q):=λz=>by
    rcases cU.mp z with z|z
    .have:=(vE.mp z).1
     exact absurd this (j3 _)
    .obtain⟨y,O,e⟩:=bL.mp z
     have e:y=o:=IR Prod.snd e;subst e;have nr:=g.nod p;rw[<-mQ (m+1) (row n p),ur] at nr;exact(ic.mp (ic.mp nr).1).2.2 y O y (by simp) rfl
   have e2:dU n p++((row n p).take (m+1)).map (λq=>(p,q))=(dU n p++((row n p).take m).map λq=>(p,q))++ [(p,o)]:=by rw[ur,df,<-j1];rfl
   have l2:=WU qC λe he=>by
    rcases cU.mp he with h|h
    .exact(vE.mp h).2
    .obtain⟨y,O,rfl⟩:=bL.mp h
     exact B5 O
   refine#[.bl true,_,_,rfl,rfl,_,rfl,_,rfl,by show 2<=sizeLine;decide,zz (p,o),rfl,λz=>nn (mz.mp z),by rw[aH];lia,?_]
   have e3:(dU n p++((row n p).take (m+1)).map λq=>(p,q)).map zz=(dU n p++((row n p).take m).map λq=>(p,q)).map zz++ [zz (p,o)]:=by rw[e2,df (f:=zz)];rfl
   refine RL _ #[u++ [.bl true],some (af o),by rw[e3];rfl,?_]
   rw[e2];exact ic.mpr #[qC,by simp,λa ha b hb z=>nn (by rw[<-dF.mp hb,<-z];exact ha)]
  .rintro _ ⟨u,N,rfl,qC⟩
   rw[aH,xV] at qC ⊢;refine hA _ #[u,_,_,_,by rw[CG],by rw[CG];exact qC]
 rintro _ ⟨u,o3,o4,N,rfl,v⟩;rw[gB,lw] at v ⊢
 have L0:Lf n ((dU n n.length).map zz) []:=#[by
   rw[tj,iV];exact(tj.mp v).imp λh z=>h (B7 z),λx hx=>by
   obtain⟨d,G,rfl⟩:=bL.mp hx;exact#[d,(vE.mp G).2,rfl],λd G=>by
   rw[mz,vE];exact#[(λ_ h=>nomatch h),λ_=>#[b8 G,G]]]
 clear v;exists _,rfl
 refine bN (λj ρ=>∃(I:List (Int×Int))(t:List (Nat×Nat))(u:List FV)(J:List (List Nat))(o3 o4 N o6 o7 S:Option D),ρ= [some (aP n),some (.x (.lj I u)),some (.lst (J.map aq)),o3,o4,N,o6,o7,S]/\Lf n I t/\Cl n t/\(0<t.length->0<J.length)/\J.length<=t.length/\Cg n t J λd=>d.1<j)
  #[_,[],u,[],_,_,_,_,_,_,rfl,L0,#[f7,(λe h=>nomatch h),λe _=>#[(λh=>nomatch h),λh=>nomatch h]],id,bJ _,[],rfl,rfl,(λr h=>nomatch h), .nil,(λr h=>nomatch h),λd _ h=>absurd h (by lia)] ?_ ?_
 .clear L0
  rintro p _ _ G ⟨I,t,u,J,o3,o4,N,o6,o7,S,rfl,M,C,rq,rl,ok⟩ A hA;obtain⟨hp,rfl⟩:=sT G;exists rfl,rfl;have rl0:=cL g p;exists _,rfl;dsimp only[pV];refine Jw (by lia) λQ Ti qI=>?_
  refine bN (λm ρ=>∃(I:List (Int×Int))(t:List (Nat×Nat))(u:List FV)(J:List (List Nat))(N o6 o7 S:Option D),ρ= [some (aP n),some (.x (.lj I u)),some (.lst (J.map aq)),some (af p),some (aq (row n p)),N,o6,o7,S]/\Lf n I t/\Cl n t/\(0<t.length->0<J.length)/\J.length<=t.length/\Cg n t J λd=>d.1<p\/(d.1=p/\d.2∈Q.take m))
   #[I,t,u,J,_,_,_,_,rfl,M,C,rq,rl,ok.imp (λd _ h=> .inl (h.elim id λz=>by simp at z)) λd h=> .inl h] ?_ ?_
  .clear rq rl ok C M
   rintro Y _ _ G ⟨I,t,u,J,N,o6,o7,S,rfl,M,C,rq,rl,ok⟩ A hA;obtain⟨o,hq,rfl⟩:=cK G;have de:bK n (p,o):=Ti.mem_iff.mp (gb hq);have ur:Q.take (Y+1)=Q.take Y++ [o]:=by rw[xW,hq];rfl
   refine#[by show 0<=sizeLine;decide,?_]
   refine#[_,rfl,_,rfl,by show 2<=sizeLine;decide,trivial,?_]
   refine mv (λm ρ=>∃(k:Nat)(I:List (Int×Int))(u:List FV)(S:Option D),ρ= [some (aP n),some (.x (.lj I u)),some (.lst (J.map aq)),some (af p),some (aq (row n p)),some (af o),some (aq ((walk n (p,o) k).map (·.1))),some (pairD (bf n k (p,o))),S]/\Lf n I (t++walk n (p,o) k)/\m+k=200/\(0<k->(p,o)∉t)/\(∀j,0<j->j<k->bf n j (p,o)≠(p,o))) 200 #[0,I,u,_,rfl,by rw[show walk n (p,o) 0= [] from rfl,f6];exact M,rfl,(λh=>by lia),λj h1 h2=>by lia] ?_
   clear M;rintro m _ ⟨k,I,u,S,rfl,M,mk,v,hk⟩;have kl:=xI g de hk;have nn:=C.nodup g de v hk;have nl:(t++walk n (p,o) k).length<=196:=WU nn λe he=>(cU.mp he).elim (C.dart e) (mr g de e);have dk:=cE g de k;have hs:=g.sym _ _ dk;have kz:=M.len g b9;exists _,rfl,_,rfl,zz (bf n k (p,o)),_,_,rfl,rfl,_,rfl;refine(?_:if (if false=true then _ else decide (zz (bf n k (p,o))∈I))=true then _ else _);rw[mo cO,show decide (zz (bf n k (p,o))∈I)=decide (bf n k (p,o)∉t++walk n (p,o) k) from abp.mpr (M.iff _ dk)];refine br (λc=>?_) (λc=>?_)
   .have c:bf n k (p,o)∉t++walk n (p,o) k:=KB c
    have bI:=b8 hs;have rln:=cL g (bf n k (p,o)).2;have lr:((row n (bf n k (p,o)).2).map af).length=(row n (bf n k (p,o)).2).length:=aH _;have pos:0<(row n (bf n k (p,o)).2).length:=xY hs;have e0:(0:Int)<(((row n (bf n k (p,o)).2).map af).length:Int):=by rw[lr];lia
    refine#[_,_,rfl,_,rfl,zz (bf n k (p,o)),rfl,(M.iff _ dk).mpr c,by lia,λPX=>?_]
    refine#[_,rfl,_,rfl,_,rfl,trivial,eW (by rw[aH,aH,jC];lia),?_]
    exists _,rfl,_,rfl,_,rfl,_,fe bI,trivial;have fx:=cp hs;exists _,rfl,_,rfl,_,rfl,_,rfl,_,rfl,_,rfl,_,rfl,rfl,cY _,_,_,fx.1,fx.2.1,fx.2.2;exists _,rfl,e0;have em:(((row n (bf n k (p,o)).2).idxOf (bf n k (p,o)).1:Nat):Int)+1=(((row n (bf n k (p,o)).2).idxOf (bf n k (p,o)).1+1:Nat):Int):=by lia
    have et:((((row n (bf n k (p,o)).2).idxOf (bf n k (p,o)).1:Nat):Int)+1)%(((row n (bf n k (p,o)).2).map af).length:Int)=((((row n (bf n k (p,o)).2).idxOf (bf n k (p,o)).1+1)%(row n (bf n k (p,o)).2).length:Nat):Int):=by rw[lr,em,aca]
    refine#[af (h8 (row n (bf n k (p,o)).2) (bf n k (p,o)).1),?_,by show 2<=sizeLine;decide,trivial,m-1,by lia,k+1,I.erase (zz (bf n k (p,o))),PX,some (aq (row n (bf n k (p,o)).2)),?_,?_,by lia,λ_=>?_,λj h1 h2=>?_]
    .show dZ ((row n (bf n k (p,o)).2).map af) ((λi j=>i%j) _ _)=_
     dsimp only;rw[et];exact eM (mw _ pos)
    .have e2:aq ((walk n (p,o) (k+1)).map (·.1))= .lst (((walk n (p,o) k).map (·.1)).map af++ [af (bf n k (p,o)).1]):=by unfold aq;rw[qL,df,df];rfl
     rw[e2];rfl
    .rw[qL,<-j1];exact M.pop
    .by_cases z:0<k
     .exact v z
     .obtain rfl:k=0:=by lia
      exact λh=>c (ig _ h)
    .by_cases z:j=k
     .subst z
      exact λh=>c (dE _ (bZ.mpr #[0,h1,h.symm]))
     .exact hk j h1 (by lia)
   .have c:bf n k (p,o)∈t++walk n (p,o) k:=GE (On c)
    refine#[_,rfl,by show 0<=sizeLine;decide,?_]
    refine(?_:Ak (aq _) (aq []) _);refine Kh #[_,rfl,br (λe=>?_) (λe=>?_)]
    .have U:0<k:=Nat.pos_of_ne_zero λz=>by subst z;exact absurd e (by simp[walk])
     have bk:=C.back g de U (v U) hk c;have C2:=C.grow g de U (v U) hk bk;have L:=LU g b9 de U hk bk;have cl:=C.len g b9;refine#[_,_,rfl,rfl,eW (by rw[aH];lia),?_]
     refine hA _ #[I,t++walk n (p,o) k,u,J++ [(walk n (p,o) k).map (·.1)],some (af o),none,some (pairD (bf n k (p,o))),S,?_,M,C2,λ_=>?_,?_,?_]
     .rw[df (f:=aq)];rfl
     .rw[dJ];exact Nat.succ_pos _
     .rw[dJ,dJ,jC];simp only[abq];lia
     .obtain⟨l5,d1,d2,d3,d6,d4,d5⟩:=ok
      have leq:∀y∈Q.take Y,y<=o:=λy O=>by
       rw[<-mQ (Y+1) Q,ur] at qI
       have:=(u0.mp (u0.mp qI).1).2.2
       exact this y O o (by simp)
      have geq:∀y∈Q,y∉Q.take Y->o<=y:=λy O hn=>by
       have ed:Q.drop Y=o::Q.drop (Y+1):=by
        obtain⟨hl,e⟩:=c9.mp hq;rw[<-e];exact qc hl
       rw[<-mQ Y Q,cU] at O;have O:=O.resolve_left hn;have s2:=(u0.mp (by rw[<-mQ Y Q] at qI;exact qI)).2.1
       rw[ed] at O s2
       rcases cV.mp O with rfl|O
       .exact bJ _
       .exact(List.pairwise_cons.mp s2).1 y O
      have lst:∀e∈walk n (p,o) k,lexLe (p,o) e:=λe he=>by
       obtain⟨i,hi,rfl⟩:=bZ.mp he;have dr:=cE g de i;have nin:bf n i (p,o)∉t:=λz=>v U ((C.bf g de i).mp z);have nc:¬((bf n i (p,o)).1<p\/((bf n i (p,o)).1=p/\(bf n i (p,o)).2∈Q.take Y)):=λz=>nin (d5 _ dr z);unfold lexLe
       by_cases z:(bf n i (p,o)).1=p
       .right
        have U0:(bf n i (p,o)).2∈row n (bf n i (p,o)).1:=dr;refine#[z.symm,geq _ (Ti.mem_iff.mpr (by rw[z] at U0;exact U0)) λy=>nc (.inr #[z,y])]
       .left
        show p<_
        have:=λy=>nc (.inl y)
        lia
      refine#[l5++ [walk n (p,o) k],?_,?_,λr X=>?_,?_,λr X=>?_,λd AH G=>?_]
      .rw[d1,EH];simp
      .rw[d2];unfold jd;rw[df];rfl
      .rcases cU.mp X with h|h
       .obtain⟨d,a1,a2,a3,a4⟩:=d3 r h
        exact#[d,a1,a2,a3,a4.imp id λz=>#[z.1,by rw[ur];exact ig _ z.2]]
       .rw[dF] at h;rw[h]
        exact#[(p,o),zM U bk hk,de,lst, .inr #[rfl,by rw[ur];simp]]
      .refine u0.mpr #[d6,abc _ _,λr X r' nP d e R1 R2=>?_]
       rw[dF] at nP;subst nP;obtain rfl:=zL R2 (zM U bk hk);obtain⟨d',a1,a2,a3,a4⟩:=d3 r X;obtain rfl:=zL R1 a1;unfold lexLe
       rcases a4 with a4|a4
       .exact .inl a4
       .exact .inr #[a4.1,leq _ a4.2]
      .rcases cU.mp X with h|h
       .exact d4 r h
       .rw[dF] at h;rw[h];exact L
      .rw[ur] at G
       by_cases z:d=(p,o)
       .rw[z];exact dE _ (bZ.mpr #[0,U,rfl])
       .exact ig _ (d5 d AH (G.imp id λh=>#[h.1,(cU.mp h.2).elim id λh2=>absurd (aar h.1 (dF.mp h2)) z]))
    .have U:k=0:=by
      have e:(walk n (p,o) k).map (·.1)= []:=KB (by simpa only[Bool.not_eq_false'] using e)
      have:=IR cb e
      rwa [aH,jC] at this
     subst U;have e0:t++walk n (p,o) 0=t:=f6 _;rw[e0] at c M;refine hA _ #[I,t,u,J,_,_,_,_,rfl,M,C,rq,rl,ok.imp (λd _ G=>?_) λd G=>G.imp id λz=>#[z.1,by rw[ur];exact ig _ z.2]]
     rw[ur] at G
     by_cases z:d=(p,o)
     .rw[z];exact .inr c
     .exact .inl (G.imp id λh=>#[h.1,(cU.mp h.2).elim id λh2=>absurd (aar h.1 (dF.mp h2)) z])
  .rintro _ ⟨I,t,u,J,N,o6,o7,S,rfl,M,C,rq,rl,ok⟩
   refine hA _ #[I,t,u,J,_,_,_,_,_,_,rfl,M,C,rq,rl,ok.imp (λd AH G=> .inl ?_) λd G=>?_]
   .rw[aH,xV]
    by_cases z:d.1=p
    .exact .inr #[z,Ti.mem_iff.mpr (z▸AH)]
    .left;lia
   .rcases G with G|G<;>lia
 rintro _ ⟨I,t,u,J,o3,o4,N,o6,o7,S,rfl,M,C,rq,rl,ok⟩;rw[gB,lw] at ok;exists #[_,rfl];have cl:=C.len g b9
 by_cases n2:2<=n.length
 .have r0:=Ff g n2
  obtain⟨x,hx⟩:=abB r0;have lm:=Cg.lands g C ok λd G=>b8 G;obtain⟨l5,d1,d2,d3,d6,d4,d5⟩:=ok;have rp:0<J.length:=rq (xY (d5 (0,x) hx (by show 0<n.length;lia)))
  refine#[_,rfl,_,rfl,λ_=>q J rp (by lia) d4 (λ_=>lm) (λz=>by lia),λz=>?_]
  have:=IR cb z
  rw[aH,mS] at this;lia
 .obtain rfl:=DU g (by lia)
  have d0:t= []:=by
   cases t with
   |nil=>rfl
   |cons e t=>
    have:=C.dart e (cP ..)
    have h0:=b8 this
    have:e.1=0:=by have:e.1<1:=h0;lia
    have h2:=C.dart e (cP ..);unfold bK at h2;rw[this] at h2;cases h2
  have r0:J= []:=by
   rw[d0] at rl;exact zT.mp (Nat.le_zero.mp rl)
  rw[r0];refine#[_,rfl,_,rfl,(λz=>absurd rfl z),λ_=>?_];refine#[by show 1<=sizeLine;decide,by show 1<=sizeLine;decide,?_]
  refine q [[0]] (by decide) (by decide) (λr X=>?_) (λz=>absurd z (by decide)) λ_=>rfl
  rw[dF] at X;subst X;refine#[by decide,by decide,λk hk=>?_,λh=>absurd h (by decide)]
  have:k=0:=by simpa using hk
  subst this;decide
variable {P:Program} {w:World} {mg:Str->Option Value} {base:Heap} {Z:DC} (T:Txt Z mg)
def c8(l:List Nat)(x p:Nat):List Nat:=ins l (l.idxOf x+1) p
def Tx:cI:=λa P=>∃(l:List Nat)(x p:Nat),a= [aq l,af x,af p]/\l.length<=100/\(l≠ []->x∈l)/\P (aq (c8 l x p))
theorem eN:FnOk P w Z.K mg base cw 1 T.d__law_behind.f T.d__law_behind.fd ["_law_row_here","_law_ahead","_law_point"] (fb Z 1 Tx):=by
 have g:=mH.nd;refine jt 1 T.d__law_behind.F mH [0,0,0,0] (by decide) (λi R h=>by obtain⟨_,_,_,rfl,_⟩:=h;rfl) (λn A outer s H E i R j h=>?_)
 have k:=j.units
 refine#[_,(ao (bM (bb (fI k) (aa 0) (iH ag) (bg _)) (au (nv (gU (ae (aa 2) ag)))) aS)
   (ao (aL false 3 g (aC cR (pk (aa 0) (aa 1)) ax))
   (au (nv (GW (aC cR (iz (aa 0) jK (jL (aa 3))) (iH (ae (aa 2) ag))) (iz (aa 0) (jL (aa 3)) jK)))))),?_]
 obtain⟨l,x,p,rfl,o,a,q⟩:=h;refine#[_,rfl,by show 0<=sizeLine;decide,?_]
 refine(?_:tN (aq l) (aq []) _);refine Kc #[_,rfl,br (λe=>?_) (λe=>?_)]
 .obtain rfl:l= []:=KB e
  exact#[_,rfl,by show 1<=sizeLine;decide,q]
 have a:=a (On e);have c:(l.map af).length=l.length:=aH _;have r:=zS.mpr a;exists _,rfl,_,rfl,_,rfl,rfl,cY _,_,_,(cp a).1,(cp a).2.1,(cp a).2.2,trivial
 have b:cutD (l.map af) none (some (((l.idxOf x:Nat):Int)+1))=(l.take (l.idxOf x+1)).map af:=by
  have:=lJ (l.map af) (l.idxOf x+1) (by rw[c];lia)
  rw[qO];exact this
 have d:cutD (l.map af) (some (((l.idxOf x:Nat):Int)+1)) none=(l.drop (l.idxOf x+1)).map af:=by
  have:=qk (l.map af) (l.idxOf x+1) (by rw[c];lia)
  rw[ux];exact this
 have sz:(cutD (l.map af) none (some (((l.idxOf x:Nat):Int)+1))).length+1<=sizeLine:=by rw[b,aH,ik];exact small (by lia)
 have m:(cutD (l.map af) none (some (((l.idxOf x:Nat):Int)+1))++ [af p]).length+(cutD (l.map af) (some (((l.idxOf x:Nat):Int)+1)) none).length<=sizeLine:=by
  rw[b,d,dJ,aH,aH,ik,u4];exact small (by simp;lia)
 have e:(.lst ((cutD (l.map af) none (some (((l.idxOf x:Nat):Int)+1))++ [af p])++cutD (l.map af) (some (((l.idxOf x:Nat):Int)+1)) none):D)=aq (c8 l x p):=by
  rw[b,d];unfold aq c8 ins;rw[df,bV,j1];rfl
 rw[<-e] at q;exact#[_,rfl,_,rfl,_,rfl,by show 1<=sizeLine;decide,sz,_,rfl,_,rfl,_,rfl,_,rfl,m,q]
def lsum(a:List (List Nat)):Nat:=(a.map cb).sum
def Jz:cI:=λb P=>∃(a:List (List Nat))(x:Int),b= [.lst (a.map aq), .int x]/\0<a.length/\a.length<=196/\(∀r∈a,0<r.length/\r.length<=196)/\∀r∈a,∀i,i<r.length->P (.tup [aq r,af i])
theorem vp:FnOk P w Z.K mg base cw 1 T.d__law_corner.f T.d__law_corner.fd ["_law_walks","_law_number"] (bh Z Jz):=by
 have d:=mI.nd;refine bC T.d__law_corner.F mI [0,0,0] (by decide) (λu R h=>by obtain⟨_,_,rfl,_⟩:=h;rfl) (λM A outer s H E u R j h=>?_)
 have N:=j.units
 refine#[_,(ao (aL false 2 d ax)
   (ao (aL false 1 d (aC bQ (aa 1) (aB (NH rfl) rfl T.B.sum NG (ae (Ap (NC:= ["_law_walk"]) (src:= [none]) rfl (wd (av hZ)) trivial (bX (aa 0)) (λ_ _ _=>(c7 0 (show(["_law_walk"]:List Str).Nodup from by decide+kernel))) (λ_ _ _=>gk) (λ_ _ _=>(aB aZ rfl T.B.len aY (ae (aa 0) ag)))) ag))))
   (ao (pz GT (bb SN (aa 1) (aB aZ rfl T.B.len aY (ae (aF (aa 0) (aa 2)) ag)) (bg _)) (ao (aL false 1 d (aC fS (aa 1) (aB aZ rfl T.B.len aY (ae (aF (aa 0) (aa 2)) ag))))
   (au (aL false 2 d (aC cR (aa 2) ax)))))
   (au (ba (eB (ae (aF (aa 0) (aa 2)) (ae (aa 1) ag)))))))),?_]
 obtain⟨a,x,rfl,l,v,o,q⟩:=h;have y:(a.map aq).length=a.length:=aH _;exists trivial;exists _,rfl,_,rfl;refine ko (ρ:= [none]) aq (λr=> .int (r.length:Int)) a _ (λr j Y p=>#[_,rfl,by rw[show(.int (r.length:Int):D)= .int ((r.map af).length:Int) by rw[aH]] at p;exact p]) rfl (small (by lia)) λO=>?_
 have C:0<lsum a:=by
  cases a with
  |nil=>exact absurd l (j3 _)
  |cons r a=>
   have:=(o r (cP ..)).1
   unfold lsum;rw[bV,abX];lia
 have G:(a.map λr=>((r.length:Nat):Int)).sum=((lsum a:Nat):Int):=by
  unfold lsum;clear C l v o q y
  induction a with
  |nil=>rfl
  |cons r a I=>rw[bV,abX,I,bV,abX,Int.natCast_add]
 refine#[a.map λr=>((r.length:Nat):Int),by rw[dH];rfl,?_]
 rw[G];have m:=lT x ((lsum a:Nat):Int) (by lia)
 refine#[by show(0:Int)<((lsum a:Nat):Int);lia,trivial,?_]
 obtain⟨t,J⟩:∃n:Nat,x%((lsum a:Nat):Int)=(n:Int):=#[(x%((lsum a:Nat):Int)).toNat,by lia]
 refine mv (λm ρ=>∃(k n:Nat),ρ= [some (.lst (a.map aq)),some (af n),some (af k)]/\m+k=a.length/\n<lsum (a.drop k)) a.length #[0,t,by rw[show af t= .int (x%((lsum a:Nat):Int)) by unfold af;rw[J]];rfl,rfl,by rw[List.drop_zero];lia] ?_
 rintro m _ ⟨k,n,rfl,mk,b⟩
 have c:k<a.length:=by
  apply GE;intro z;rw[xZ (by lia)] at b
  exact absurd b (acg _)
 have g:dZ (a.map aq) (k:Int)=some (aq (a.getD k [])):=cC (by rw[cc,eu c,fX,eu c];rfl)
 have em:a.getD k []∈a:=by rw[fX,eu c];exact zW c
 have L:a.drop k=a.getD k []::a.drop (k+1):=by rw[fX,eu c];exact qc c
 generalize a.getD k []=r at*;have i:(r.map af).length=r.length:=aH _;rw[L] at b;have b:n<r.length+lsum (a.drop (k+1)):=by unfold lsum at b ⊢;rw[bV,abX] at b;exact b
 exists _,rfl,_,rfl,_,rfl,_,g;refine#[_,rfl,br (λe=>?_) (λe=>?_)]
 .have e:((r.map af).length:Int)<=(n:Int):=by simpa using e
  exists _,rfl,_,rfl,_,rfl,_,g,trivial;refine#[_,rfl,trivial,m-1,by lia,k+1,n-r.length,?_,by lia,by lia]
  rw[show af (n-r.length)= .int ((n:Int)-((r.map af).length:Int)) by rw[i];unfold af;rw[Int.ofNat_sub (by lia)]]
  rfl
 .have e:¬((r.map af).length:Int)<=(n:Int):=by simpa using e
  exact#[_,rfl,_,rfl,_,g,_,rfl,by show 2<=sizeLine;decide,q r em n (by lia)]
theorem jz{r:List Nat}(h:k<r.length):dZ (r.map af) ((k:Int)-1)=some (af (r.getD ((k+(r.length-1))%r.length) 0)):=by
 cases k with
 |zero=>
  rw[tB,u6 (by lia)]
  refine GJ (j:=r.length-1) (n:=r.length) (aH _) ?_ ?_
  .unfold lL
   rw[mo (by lia),tz (by lia)]
   exact IR some (by lia)
  .rw[cc,fX,eu (by lia:r.length-1<r.length)];rfl
 |succ k=>
  rw[show k+1+(r.length-1)=k+r.length by lia,Nat.add_mod_right,u6 (by lia),show((k+1:Nat):Int)-1=(k:Int) by lia]
  exact eM (by lia)
theorem eU:cJ Z G [] []:=#[rfl,λi d h=>by cases i<;>cases h]
theorem aO(d:Dv Z G v x)(h:cJ Z G a b):cJ Z G (some v::a) (some x::b):=#[IR (·+1) h.1,λi y e=>by
 cases i with
 |zero=>cases e;exact#[v,rfl,d]
 |succ i=>exact h.2 i y e]
theorem aU(h:cJ Z G a b):cJ Z G (o::a) (none::b):=#[IR (·+1) h.1,λi y e=>by
 cases i with
 |zero=>cases e
 |succ i=>exact h.2 i y e]
def gz(w:W):Prop:=Good w/\1<=w.length/\w.length<=14
def Pz(w:W)(n:Int)(P:W->Prop):Prop:=gz w/\∀a,gz a->P a
theorem fV(h:Rw Z a v G H b):Dv Z G (.ref a) (aP v):= .lst h.at_ h.dv
theorem Mi:FnOk P w Z.K mg base cw 2 T.d__law_deed.f T.d__law_deed.fd ["_law_turns_here","_law_number"] (DB Z Pz):=by
 have nd:=p4.nd;refine T.d__law_deed.F.ok p4 (λvs H Q E h=>?_) (λbo A outer s H vs Q E C h=>?_)
 .obtain⟨G,a,n,w,u,P,rfl,_⟩:=h;rfl
 have hu:=C.units;obtain⟨G,a,n,c,u,P',rfl,R0,⟨⟨g,l1,ke⟩,q0⟩,q⟩:=h
 refine#[_,bS (jq (aD (Z:=Z) T.d__law_corner (vp T) C (ae (aD T.d__law_lands (g8 T) C (ae (aa 0) ag)) (ae (aC fR (aa 1) ax) ag))) (vH rfl (jx (sq (i:=2) nd rfl (by subst_eqs)) (jx (sq (i:=3) nd rfl (by subst_eqs)) su))))
  (bS (gw (i:=4) nd rfl (by subst_eqs) (aF (Z:=Z) (aa 2) (aa 3)))
  (bS (BB (DW.dt (Z:=Z) (i3 (DW.dt (Hb (bb (fI hu) (aC bQ (aa 1) ax) ax (bg _)) (CM (bb n5 (aB aZ rfl T.B.len aY (ae (aa 0) ag)) ax (bg _))))) (iJ (bb (fI hu) (aB aZ rfl T.B.len aY (ae (aa 0) ag)) ax (bg _)))))
   (bS (jq (aD (Z:=Z) T.d__law_behind ((eN T).imp F9) C (ae (aF (aa 0) (aa 4)) (ae (aF (aa 2) (aC fS (aa 3) ax)) (ae (aB aZ rfl T.B.len aY (ae (aa 0) ag)) ag)))) (ku (pv 0) (aa (Z:=Z) 4) set_list))
   (bS (hU (xp aaq aa4 aa5 jO (pv 0) (bH (iH (Z:=Z) (ae (aa 4) ag)) eF)))
   (jS (sC (jI (Z:=Z)))))) sD)
  (bS (gw (i:=5) nd rfl (by subst_eqs) (aC (Z:=Z) bQ (aC fR (aa 1) ax) (aB aZ rfl T.B.len aY (ae (aa 2) ag))))
  (bS (gw (i:=6) nd rfl (by subst_eqs) (aF (Z:=Z) (aa 2) (aa 5)))
  (bS (BB (DW.dt (Z:=Z) (Hb (bb (w9 hu) (aa 6) (aa 4) (bg _)) (CM (bb zB (aa 6) (aF (aa 0) (aa 4)) (by with_unfolding_all rfl)))))
   (bS (jq (aD (Z:=Z) T.d__law_behind ((eN T).imp F9) C (ae (aF (aa 0) (aa 4)) (ae (aF (aa 2) (aC fS (aa 3) ax)) (ae (aa 6) ag)))) (ku (pv 0) (aa (Z:=Z) 4) set_list))
   (jS (jq (aD (Z:=Z) T.d__law_behind ((eN T).imp F9) C (ae (aF (aa 0) (aa 6)) (ae (aF (aa 2) (aC fS (aa 5) ax)) (ae (aa 4) ag)))) (ku (pv 0) (aa (Z:=Z) 6) set_list)))) sD)
  (jS (sC (jI (Z:=Z))))))))),?_]
 have lw:(c.map aq).length=c.length:=aH _;refine#[G,[some (aP c),some (.int n),none,none,none,none,none],λd=>∃r i,d= .tup [aq r,af i]/\qR c r/\i<r.length,R0.sub,aO (fV R0) (aO (.int n) (aU (aU (aU (aU (aU eU)))))),?_,?_]
 .exact#[_,rfl,c,rfl,g,l1,ke,λrs r0 rl ok _ _=>#[_,rfl,#[by decide,by decide],rs,n / 4,rfl,r0,rl,λr C=>#[(ok r C).ne,(ok r C).sz],λr C i hi=>#[r,i,rfl,ok r C,hi]]]
 rintro _ ⟨r,i,rfl,L,hi⟩ v G1 H1 x1 rB;obtain⟨t,vs,rfl,ht,ds⟩:=rB.n6;obtain⟨vw,vi,rfl,dw,di⟩:=ds.Bv;cases di.ofInt;exists t,[vw, .int (i:Int)],rfl,gd.of (x1.sub _ _ ht),rfl,_,_,rfl,_,_,rfl,rfl;have R1:=R0.ext x1;have X1:=gQ.of (a:=a) x1;have N:=L.lt i hi;obtain⟨p,ep⟩:∃p,p=r.getD i 0:=#[_,rfl];rw[<-ep] at N;have vd:dZ (r.map af) (i:Int)=some (af p):=by rw[ep];exact eM hi
 refine#[G1,[some (aP c),some (.int n),some (aq r),some (af i),none,none,none],λd=>d=af p,R1.sub,aO (fV R1) (aO (.int n) (aO dw (aO (.int _) (aU (aU (aU eU)))))),#[_,rfl,_,rfl,_,vd,rfl],?_];rintro _ rfl v2 G2 H2 x2 qo;cases qo.ofInt;have R2:=R1.ext x2;have X2:=X1.trans (gQ.of x2);have Rr:=dw.mono x2.gg;clear R1 X1 dw rB ds di ht;refine#[G2,[some (aP c),some (.int n),some (aq r),some (af i),some (af p),none,none],λb=>(b=true->c.length<=13)/\(b=false->2<=c.length),R2.sub,aO (fV R2) (aO (.int n) (aO Rr (aO (.int _) (aO (.int _) (aU (aU eU)))))),?_,?_]
 .have last:∀Q:Bool->Prop,(∀b,(b=true->c.length<=13)/\(b=false->2<=c.length)->Q b)->Al (E6 tN (tL Cr (Kb (Ko 0) pV)) (dC (D.int 1))) [some (aP c),some (.int n),some (aq r),some (af i),some (af p),none,none] Q:=λQ hQ=>by
   exists _,rfl;dsimp only[pV,Cr,aP];refine CP #[_,rfl,hQ _ #[λe=>?_,λe=>?_]]
   .have:=KB e;lia
   .have:=On e;lia
  refine#[_,rfl,(by show(0:Int)<4;decide),CP #[_,rfl,br (λ_=>?_) (λ_=>bY (last _ λb h=>h))]]
  refine#[_,rfl,#[_,rfl,br (λe=>#[λ_=>?_,λz=>nomatch z]) (λe=>last _ λb h=>h)]]
  have:((c.map aq).length:Int)<14:=KB e
  lia
 rintro b ⟨Oc,Y5⟩ G3 H3 x3;have S:=R2.ext x3;have X3:=X2.trans (gQ.of x3);have Ij:=Rr.mono x3.gg;clear R2 X2 Rr;have r0:0<r.length:=by lia
 have Xg:∀{k:Nat},k<r.length->row c (r.getD k 0)≠ []->r.getD ((k+(r.length-1))%r.length) 0∈row c (r.getD k 0):=λ {k} hk ne=>by
  by_cases n2:2<=c.length
  .exact L.tie n2 k hk
  .obtain rfl:=DU g (by lia)
   have:=L.lt k hk
   have e0:r.getD k 0=0:=by have:r.getD k 0<1:=this;lia
   rw[e0] at ne;exact absurd rfl ne
 obtain⟨x,ex⟩:∃x,x=r.getD ((i+(r.length-1))%r.length) 0:=#[_,rfl];have Uv:dZ (r.map af) ((i:Int)-1)=some (af x):=by rw[ex];exact jz hi
 have tx:row c p≠ []->x∈row c p:=λne=>by rw[ex,ep];rw[ep] at ne;exact Xg hi ne
 have rlp:=cL g p;cases b with
 |true=>
  have h13:=Oc rfl;refine bF ?_;refine#[G3,[some (aP c),some (.int n),some (aq r),some (af i),some (af p),none,none],λd=>d=aq (c8 (row c p) x c.length),S.sub,aO (fV S) (aO (.int n) (aO Ij (aO (.int _) (aO (.int _) (aU (aU eU)))))),?_,?_]
  .refine#[_,rfl,_,rfl,_,fe N,_,rfl,_,rfl,_,Uv,_,rfl,row c p,x,c.length,by rw[<-lw];rfl,by lia,tx,rfl]
  rintro _ rfl v4 G4 H4 X E9;exists .ref a,rfl;have U:=S.ext X;have X4:=X3.trans (gQ.of X);have KN:=Ij.mono X.gg;clear S X3 Ij;refine#[G4,[some (aP c),some (.int n),some (aq r),some (af i),some (af p),none,none],λd=>d=af p,U.sub,aO (fV U) (aO (.int n) (aO KN (aO (.int _) (aO (.int _) (aU (aU eU)))))),#[_,rfl,rfl],?_];rintro _ rfl v5 G5 H5 Y KJ;have I:=U.ext Y;have X5:=X4.trans (gQ.of Y);have E9:=E9.mono Y.gg;have xl:u.length=c.length:=by rw[I.dv.length,aH]
  refine#[a,u,(p:Int),p,rfl,KJ.ofInt,I.sub _ _ I.at_,AZ (by rw[xl];exact N),?_]
  have d6:DvAll Z G5 (u.set p v4) ((c.set p (c8 (row c p) x c.length)).map aq):=by
   rw[<-pL];exact I.dv.set E9 p
  have J:=I.put d6 (λz=>by have:=IR cb z;rw[dm,mS] at this;lia)
  have X6:=X5.trans (gQ.put (.lst (u.set p v4)));exists .ref a,rfl,ty_list (J.sub _ _ J.at_);refine#[_,[none,none,none,none,some (af p),none,none],λd=>d=aq [p],J.sub,aU (aU (aU (aU (aO (.int _) (aU (aU eU)))))),#[_,rfl,by show 1<=sizeLine;decide,rfl],?_]
  rintro _ rfl M G7 H7 x7 Fb;have O:=J.ext x7;have X7:=X6.trans (gQ.of x7);refine#[a,u.set p v4,M,rfl,rfl,O.sub _ _ O.at_,by rw[dm,xl];exact abO ke (by decide),?_]
  have d8:DvAll Z G7 (u.set p v4++ [M]) ((nV c p x).map aq):=by
   unfold nV;rw[df];exact O.dv.append (.cons Fb .nil)
  have R:=O.put d8 (λz=>by have:=IR cb z;rw[lO,mS] at this;lia)
  have X8:=X7.trans (gQ.put (.lst (u.set p v4++ [M])));refine#[_,[none,none,none,none,none,none,none],λd=>d= .bl true,R.sub,aU (aU (aU (aU (aU (aU (aU eU)))))),rfl,?_];rintro _ rfl v9 G9 H9 x9 KL;cases KL.se;exact q _ (q0 (nV c p x) #[Dx g N,by rw[lO];lia,by rw[lO];lia]) G9 H9 _ (R.ext x9) (X8.trans (gQ.of x9))
 |false=>
  have n2:=Y5 rfl;refine bY ?_;have lr:(r.map af).length=r.length:=aH _;have m:=lT (n / 288) ((r.map af).length:Int) (by rw[lr];lia)
  obtain⟨j,hj⟩:∃j:Nat,n / 288%((r.map af).length:Int)=(j:Int):=#[(n / 288%((r.map af).length:Int)).toNat,by lia]
  have jl:j<r.length:=by lia
  refine#[G3,[some (aP c),some (.int n),some (aq r),some (af i),some (af p),none,none],λd=>d=af j,S.sub,aO (fV S) (aO (.int n) (aO Ij (aO (.int _) (aO (.int _) (aU (aU eU)))))),#[_,rfl,#[by decide,by decide],_,rfl,(by rw[lr];show(0:Int)<_;lia),IR D.int hj],?_]
  rintro _ rfl v4 G4 H4 X E9;cases E9.ofInt;have U:=S.ext X;have X4:=X3.trans (gQ.of X);have KN:=Ij.mono X.gg;clear S X3 Ij;obtain⟨l,eq⟩:∃l,l=r.getD j 0:=#[_,rfl];have at2:dZ (r.map af) (j:Int)=some (af l):=by rw[eq];exact eM jl
  have hq:l<c.length:=by rw[eq];exact L.lt j jl
  refine#[G4,[some (aP c),some (.int n),some (aq r),some (af i),some (af p),some (af j),none],λd=>d=af l,U.sub,aO (fV U) (aO (.int n) (aO KN (aO (.int _) (aO (.int _) (aO (.int _) (aU eU)))))),#[_,rfl,_,rfl,_,at2,rfl],?_];rintro _ rfl v5 G5 H5 Y KJ;cases KJ.ofInt;have I:=U.ext Y;have X5:=X4.trans (gQ.of Y);have Rt:=KN.mono Y.gg;clear U X4 KN
  have fin:∀(w2:W)(G' H':Hp)(ys:List V)(σ:St),σ.length=7->Rw Z a w2 G' H' ys->gQ a G H G' H'->gz w2->dQ Z (dC (D.bl true)) σ H' Q:=λw2 G' H' ys σ sl Rx Xx ok=>by
   refine#[G',am 7 none,λd=>d= .bl true,Rx.sub,#[by rw[ya,sl],λi d h=>by rw[uX] at h;split at h<;>cases h],rfl,?_]
   rintro _ rfl v9 G9 H9 x9 KL;cases KL.se;exact q _ (q0 w2 ok) G9 H9 _ (Rx.ext x9) (Xx.trans (gQ.of x9))
  refine#[G5,[some (aP c),some (.int n),some (aq r),some (af i),some (af p),some (af j),some (af l)],λb=>b=true->l≠p/\l∉row c p,I.sub,aO (fV I) (aO (.int n) (aO Rt (aO (.int _) (aO (.int _) (aO (.int _) (aO (.int _) eU)))))),?_,?_]
  .refine#[_,rfl,_,rfl,?_]
   refine(?_:Ak (.int (l:Int)) (.int (p:Int)) _);refine CD #[_,rfl,br (λe=>?_) (λe z=>nomatch z)];exists _,rfl,_,rfl,_,rfl,_,fe N,rfl,cY _,_,rfl;rw[tz rfl,k4];exact λz=>#[λy=>by rw[y] at e;simp at e,by simpa using z]
  rintro b hb G6 H6 x6;have J:=I.ext x6;have X6:=X5.trans (gQ.of x6);have Ru:=Rt.mono x6.gg;clear I X5 Rt;cases b with
  |false=>
   refine bY ?_;exact fin c G6 H6 u _ rfl J X6 #[g,l1,ke]
  |true=>
   obtain⟨ne,nt⟩:=hb rfl;refine bF ?_;obtain⟨y,ey⟩:∃y,y=r.getD ((j+(r.length-1))%r.length) 0:=#[_,rfl];have Yc:dZ (r.map af) ((j:Int)-1)=some (af y):=by rw[ey];exact jz jl
   have rlq:=cL g l;have ty:y∈row c l:=by rw[ey,eq];exact L.tie n2 j jl
   refine#[G6,[some (aP c),some (.int n),some (aq r),some (af i),some (af p),some (af j),some (af l)],λd=>d=aq (c8 (row c p) x l),J.sub,aO (fV J) (aO (.int n) (aO Ru (aO (.int _) (aO (.int _) (aO (.int _) (aO (.int _) eU)))))),#[_,rfl,_,rfl,_,fe N,_,rfl,_,rfl,_,Uv,_,rfl,row c p,x,l,rfl,by lia,tx,rfl],?_]
   rintro _ rfl M G7 H7 x7 Fb;exists .ref a,rfl;have O:=J.ext x7;have X7:=X6.trans (gQ.of x7);have Rv:=Ru.mono x7.gg;clear J X6 Ru;refine#[G7,[some (aP c),some (.int n),some (aq r),some (af i),some (af p),some (af j),some (af l)],λd=>d=af p,O.sub,aO (fV O) (aO (.int n) (aO Rv (aO (.int _) (aO (.int _) (aO (.int _) (aO (.int _) eU)))))),#[_,rfl,rfl],?_];rintro _ rfl v8 G8 H8 x8 Rq;have R:=O.ext x8;have X8:=X7.trans (gQ.of x8);have Fb:=Fb.mono x8.gg;have Yy:=Rv.mono x8.gg;clear O X7 Rv;have xl:u.length=c.length:=by rw[R.dv.length,aH]
   refine#[a,u,(p:Int),p,rfl,Rq.ofInt,R.sub _ _ R.at_,AZ (by rw[xl];exact N),?_]
   have d9:DvAll Z G8 (u.set p M) ((c.set p (c8 (row c p) x l)).map aq):=by
    rw[<-pL];exact R.dv.set Fb p
   have sl:(c.set p (c8 (row c p) x l)).length=c.length:=dm ..;have R9:=R.put d9 (λz=>by have:=IR cb z;rw[sl,mS] at this;lia)
   have X9:=X8.trans (gQ.put (.lst (u.set p M)));have U3:Dv Z (upd G8 a (.lst (u.set p M))) vw (aq r):=D9 R Yy λb o n e=>by rw[ay n];exact e
   have rq:row (c.set p (c8 (row c p) x l)) l=row c l:=by rw[oh N,mo (Ne.symm ne)]
   have Uu:=fe (w:=c.set p (c8 (row c p) x l)) (p:=l) (by rw[sl];exact hq)
   rw[rq] at Uu;refine#[_,[some (aP (c.set p (c8 (row c p) x l))),some (.int n),some (aq r),some (af i),some (af p),some (af j),some (af l)],λd=>d=aq (c8 (row c l) y p),R9.sub,aO (fV R9) (aO (.int n) (aO U3 (aO (.int _) (aO (.int _) (aO (.int _) (aO (.int _) eU)))))),#[_,rfl,_,rfl,_,Uu,_,rfl,_,rfl,_,Yc,_,rfl,row c l,y,p,rfl,by lia,λ_=>ty,rfl],?_]
   rintro _ rfl v10 Nq JL B0 KH;exists .ref a,rfl;have JS:=R9.ext B0;have QV:=X9.trans (gQ.of B0);have aad:=U3.mono B0.gg;refine#[Nq,[none,none,none,none,none,none,some (af l)],λd=>d=af l,JS.sub,aU (aU (aU (aU (aU (aU (aO (.int _) eU)))))),#[_,rfl,rfl],?_];rintro _ rfl v11 QO Nr JG KI;have Nx:=JS.ext JG;have XH:=QV.trans (gQ.of JG);have KH:=KH.mono JG.gg;refine#[a,u.set p M,(l:Int),l,rfl,KI.ofInt,Nx.sub _ _ Nx.at_,AZ (by rw[dm,xl];exact hq),?_]
   have et:tie c p ((row c p).idxOf x+1) l ((row c l).idxOf y+1)=(c.set p (c8 (row c p) x l)).set l (c8 (row c l) y p):=rfl
   have Yi:DvAll Z QO ((u.set p M).set l v10) ((tie c p ((row c p).idxOf x+1) l ((row c l).idxOf y+1)).map aq):=by
    rw[et,<-pL (c.set p _)];exact Nx.dv.set KH l
   have XG:=Nx.put Yi (λz=>by have:=IR cb z;rw[jZ,mS] at this;lia)
   have XI:=XH.trans (gQ.put (.lst ((u.set p M).set l v10)));exact fin _ _ _ _ _ rfl XG XI #[zj g N hq ne nt,by rw[jZ];lia,by rw[jZ];lia]
variable {P:Program} {w:World} {mg:Str->Option Value} {base:Heap} {Z:DC} (T:Txt Z mg)
structure Cc (w F:W) (ns:List Nat) (k:Nat):Prop where
 l:F.length=w.length
 r:∀i,i<k->∃a,row F (ns.getD i 0)=((row w i).drop a++(row w i).take a).map λx=>ns.getD x 0
theorem Cc.step{w F:W}(a:Nat)(h:Cc w F b k)(N:vQ w.length b)(d:k<w.length):Cc w (F.set (b.getD k 0) (((row w k).drop a++(row w k).take a).map λx=>b.getD x 0)) b (k+1):=by
 have lt:b.getD k 0<F.length:=by rw[h.l];exact N.2.2 _ (qr (by rw[N.1];exact d))
 refine#[by rw[dm];exact h.l,λi f=>?_]
 by_cases c:i=k
 .subst c
  exact#[a,by rw[lA lt,tz rfl]]
 .obtain⟨x,e⟩:=h.r i (by lia)
  exact#[x,by rw[lA lt,mo (λz=>c (getD_inj N.2.1 (by rw[N.1];lia) (by rw[N.1];lia) z.symm)),e]]
theorem Cc.nam{w F:W}(h:Cc w F c w.length)(N:vQ w.length c):XF w F λx=>c.getD x 0:=by
 refine#[h.l,λx b=>N.2.2 _ (qr (by rw[N.1];exact b)),λx y b d e=>getD_inj N.2.1 (by rw[N.1];exact b) (by rw[N.1];exact d) e,λy d=>?_,λx b=>?_]
 .obtain⟨i,f,e⟩:=List.mem_iff_getElem.mp (FO N d)
  exact#[i,by rw[N.1] at f;exact f,by rw[fX,eu f];exact e]
 .obtain⟨a,e⟩:=h.r x b
  exact#[a,by rw[e,df,ux,qO]]
theorem Cc.good{w F:W}(h:Cc w F b w.length)(N:vQ w.length b)(g:Good w):Good F:=by
 have M:=h.nam N
 exact Iu g M.len M.lt M.inj M.sur λp c=>by
  obtain⟨a,e⟩:=M.row p c;rw[e]
  have:=List.perm_append_comm (l₁:=((row w p).map λx=>b.getD x 0).drop a) (l₂:=((row w p).map λx=>b.getD x 0).take a)
  rwa [mQ] at this
theorem Dw:∀(a:List D)(c:DN)(b:List D)(N:List D->Prop),b.length+a.length<=sizeLine->N (b++am a.length (.lst []))->LV (rA i) (Qn pV) a c b N
 | [],c,b,N,_,h=>by
  show N b;simpa using h
 |x::d,c,b,N,e,h=>by
  rw[dG] at e;refine#[by show 0<=sizeLine;decide,by lia,?_]
  refine Dw d _ (b++ [.lst []]) N (by simp;lia) ?_
  rw[j1];exact h
def JA:cI:=λb P=>∃(w:W)(a:List Int),b= [aP w, .lst (g6 a)]/\gz w/\a.length=28/\∀v,gz v->v.length=w.length->P (aP v)
theorem vn:FnOk P w Z.K mg base cw 1 T.d__law_named.f T.d__law_named.fd ["_law_turns_here","_law_row_here"] (fb Z 2 JA):=by
 have m:=oI.nd;refine jt 2 T.d__law_named.F oI [0,0,1,0,2,0,0,0] (by decide) (λds R h=>by obtain⟨_,_,rfl,_⟩:=h;rfl) (λbo A outer s H E ds R hr h=>?_)
 have hu:=hr.units
 refine#[_,(ao (gu 2 m (gU ag))
   (ao (CJ rfl GT (wx rfl T.B.range (ae (aB aZ rfl T.B.len aY (ae (aa 0) ag)) ag)) (aQ 3 m) (au (NX false 2 (aC bQ (aF (aa 1) (aa 3)) (aC cR (aa 3) ax)) (aa 3))))
   (ao (E8 4 (NC:= ["_law_p"]) (src:= [none]) rfl m (wd (av gr)) trivial (bX (aa 0)) (λ_ _ _=>(c7 0 (show(["_law_p"]:List Str).Nodup from by decide+kernel))) (λ_ _ _=>(gU ag)))
   (ao (cD rfl GT (eY rfl T.B.enumerate (ae (aa 0) ag)) (fP 2 rfl (aX (aQ 5 m) (aX (aQ 6 m) cX))) (ao (aL false 7 m (aC bQ (aF (aa 1) (aC cR ax (aa 5))) (aB (CA rfl) rfl T.B.max GL (ae ax (ae (aB aZ rfl T.B.len aY (ae (aa 6) ag)) ag)))))
   (au (CK 4 (aF (aa 2) (aa 5)) (Ku (NC:= ["_law_q","_law_order"]) (src:= [none,some 2]) rfl (wd (av gr)) #[rfl,rfl,trivial] (bX (aC cR (iz (aa 6) (jL (aa 7)) jK) (iz (aa 6) jK (jL (aa 7))))) (λ_ _ _=>(c7 0 (show(["_law_q","_law_order"]:List Str).Nodup from by decide+kernel))) (λ_ _ _=>gk) (λ_ _ _=>(aF (aa 1) (aa 0))))))))
   (au (KC 4)))))),?_]
 obtain⟨c,e,rfl,⟨g,h1,b9⟩,xl,q⟩:=h;have C:(c.map aq).length=c.length:=aH _;refine#[by show 0<=sizeLine;decide,?_]
 refine#[_,rfl,#[by lia,by show((c.map aq).length:Int)<2^62;lia],?_]
 rw[show(((c.map aq).length:Int)).toNat=c.length by lia]
 refine zi (λj ρ=>∃(b:List Nat)(t:Option D),ρ= [some (aP c),some (.lst (g6 e)),some (aq b),t,none,none,none,none]/\vQ j b) #[[],_,rfl,rfl,f7,λx h=>by cases h] ?_ ?_
 .rintro j _ hj ⟨b,t,rfl,M,m,lt⟩ A I
  have y:=lT (e.getD j 0) ((j:Int)+1) (by lia)
  have u:(b.map af).length=j:=by rw[aH,M]
  refine#[_,rfl,_,rfl,_,rfl,_,Di (by lia),_,rfl,by show(0:Int)<(j:Int)+1;lia,_,rfl,_,rfl,trivial,#[y.1,by rw[u];show e.getD j 0%((j:Int)+1)<=_;lia,eW (by rw[u];lia)],?_]
  refine I _ #[ins b (e.getD j 0%((j:Int)+1)).toNat j,some (af j),?_,by rw[Dh,M],lU m (λz=>by have:=lt j z;lia),λx J=>?_]
  .unfold aq;rw[<-IK];rfl
  .rcases fc.mp J with rfl|J
   .lia
   .have:=lt x J;lia
 .rintro _ ⟨b,t,rfl,N⟩
  refine#[_,rfl,Dw _ _ [] _ (by rw[C];exact small (by simp;lia)) ?_]
  have e0:D.lst ([]++am (c.map aq).length (.lst []))=aP (am c.length []):=by
   unfold aP;rw[C,List.map_replicate];rfl
  rw[e0];refine#[_,rfl,bN (λk ρ=>∃(F:W)(o5 o6 o7:Option D),ρ= [some (aP c),some (.lst (g6 e)),some (aq b),t,some (aP F),o5,o6,o7]/\Cc c F b k) #[_,_,_,_,rfl,by simp,λi h=>by lia] ?_ ?_]
  .rintro k d _ hd ⟨F,p5,p6,p7,rfl,n⟩ A I
   obtain⟨O,rfl⟩:=sT hd;have rl:=cL g k;generalize Q:row c k=r at rl;have u:(r.map af).length=r.length:=aH _;exists rfl,rfl;have v:(0:Int)<(if ((r.map af).length:Int)>1 then((r.map af).length:Int) else 1):=by split<;>lia
   have y:=lT (e.getD (14+k) 0) (if ((r.map af).length:Int)>1 then((r.map af).length:Int) else 1) v;refine#[_,rfl,_,rfl,_,Di (l:=e) (p:=14+k) (by lia),_,rfl,_,_,rfl,v,trivial,?_]
   obtain⟨a,S⟩:∃a:Nat,e.getD (14+k) 0%(if ((r.map af).length:Int)>1 then((r.map af).length:Int) else 1)=(a:Int):=#[(e.getD (14+k) 0%(if ((r.map af).length:Int)>1 then((r.map af).length:Int) else 1)).toNat,by lia]
   have al:a<=r.length:=by
    rw[S] at y;have h2:=y.2
    split at h2<;>lia
   refine SM [some (aP c),some (.lst (g6 e)),some (aq b),t,some (aP F),some (af k),some (aq r),some (af a)] (by rw[show af a= .int (e.getD (14+k) 0%(if ((r.map af).length:Int)>1 then((r.map af).length:Int) else 1)) by unfold af;exact IR D.int S.symm];rfl) ?_
   have U:cutD (r.map af) (some (a:Int)) none=(r.drop a).map af:=by rw[qk _ _ (by rw[u];lia),ux]
   have X:cutD (r.map af) none (some (a:Int))=(r.take a).map af:=by rw[lJ _ _ (by rw[u];lia),qO]
   have l2:(r.drop a++r.take a).length=r.length:=by rw[dJ,u4,ik];lia
   have Gh:(cutD (r.map af) (some (a:Int)) none).length+(cutD (r.map af) none (some (a:Int))).length<=sizeLine:=by
    rw[U,X,aH,aH];exact small (by rw[dJ] at l2;lia)
   exists _,rfl,_,rfl,_,rfl,_,rfl,Gh;refine(?_:lcW _ _ _ (cutD (r.map af) (some (a:Int)) none++cutD (r.map af) none (some (a:Int))) _ _ _);rw[U,X,<-df];refine ko (ρ:= [none,some (aq b)]) af (λo=>af (b.getD o 0)) (r.drop a++r.take a) _ (λo ho Y hY=>?_) rfl (small (by lia)) λaE=>?_
   .have:o∈r:=by
     have:o∈r.take a++r.drop a:=List.perm_append_comm.mem_iff.mp ho
     rw[mQ] at this;exact this
    have bI:o<b.length:=by rw[N.1];exact g.rng k o (by rw[Q];exact this)
    exact#[_,rfl,_,rfl,_,eM bI,hY]
   .have Sj:k<b.length:=by rw[N.1];exact O
    have L:b.getD k 0<F.length:=by rw[n.l];exact N.2.2 _ (qr Sj)
    refine#[?_,_,rfl,_,rfl,_,rfl,_,eM Sj,_,b.getD k 0,rfl,fo (by rw[aH];exact L),?_]
    .rw[List.all_map,ab5];intro x _;rfl
    .have Wt:=n.step a N O
     rw[Q] at Wt;refine I _ #[_,some (af k),some (aq r),some (af a),?_,Wt]
     have es:(.lst ((F.map aq).set (b.getD k 0) (.lst ((r.drop a++r.take a).map λo=>af (b.getD o 0)))):D)=aP (F.set (b.getD k 0) ((r.drop a++r.take a).map λx=>b.getD x 0)):=by
      unfold aP;rw[<-pL];unfold aq;rw[dH];rfl
     rw[<-es];rfl
  .rintro _ ⟨F,p5,p6,p7,rfl,n⟩
   rw[gB,C] at n;have G:=n.good N g;exact#[_,rfl,q F #[G,by rw[n.l];lia,by rw[n.l];lia] n.l]
theorem Ir:Good [[]]:=#[λp q h=>by have:=b8 h;cases p<;>simp[row] at h,λp h=>by have:=b8 h;cases p<;>simp[row] at h,λp=>by cases p<;>simp[row],λp q h=>by have:=b8 h;cases p<;>simp[row] at h,λp a=>by
 obtain rfl:p=0:=by simpa using a
 exact .refl _]
def JB:cI:=λa P=>∃(b:List Int),a= [.jY b]/\∀v,gz v->P (aP v)
theorem vo:FnOk P w Z.K mg base cw 3 T.d__law_turns.f T.d__law_turns.fd ["_law_script"] (fb Z 2 JB):=by
 have i:=oJ.nd;refine jt 2 T.d__law_turns.F oJ [0,1,0] (by decide) (λk R h=>by obtain⟨_,rfl,_⟩:=h;rfl) (λt A outer s H E k R a h=>?_)
 have u:=a.units
 refine#[_,(ao (gu 1 i (gU (ae (iH ag) ag)))
   (ao (cD rfl GT (bX (aD T.d__law_row (lX T) a (ae (aa 0) (ae ax (ae ax (ae ax ag)))))) (aQ 2 i) (au (NV 1 T.d__law_deed (Mi T) a (aa 2))))
   (au (nv (gJ T.d__law_named (vn T) a (ae (aa 1) (ae (aD T.d__law_row (lX T) a (ae (aa 0) (ae ax (ae ax (ae ax ag))))) ag))))))),?_]
 obtain⟨b,rfl,q⟩:=h;refine#[by show 0<=sizeLine;decide,by show 1<=sizeLine;decide,?_]
 refine#[_,rfl,b,1,36,20736,rfl,by decide,by decide,by decide,by decide,λy B C=>?_]
 refine bN (λj l=>∃(w:W)(c:Option D),l= [some (.jY b),some (aP w),c]/\gz w) #[[[]],_,rfl,Ir,by decide,by decide] ?_ ?_
 .rintro j _ _ m ⟨d,c,rfl,ok⟩ A n
  obtain⟨x,G,rfl⟩:=cK m;exact#[d,rfl,λz=>by have:=ok.2.1;rw[z] at this;exact absurd this (by decide),_,rfl,x,rfl,ok,λo e=>n _ #[o,_,rfl,e]]
 .rintro _ ⟨d,c,rfl,ok⟩
  exact#[_,rfl,_,rfl,b,2,28,5040,rfl,by decide,by decide,by decide,by decide,λp r I=>#[d,p,rfl,ok,r,λv g _=>#[_,rfl,q v g]]]
variable {P:Program} {w:World} {mg:Str->Option Value} {base:Heap} {Z:DC} (T:Txt Z mg)
theorem Fn{w v:W}(g:Good w)(len:v.length=w.length)(nod:∀p,p<w.length->(row v p).Nodup)(mem:∀p,p<w.length->∀q,q∈row v p↔q∈row w p):Good v:=by
 have all:∀{p q},q∈row v p↔q∈row w p:=λ {p q}=>by
  by_cases h:p<w.length
  .exact mem p h q
  .exact#[λz=>absurd (b8 z) (by lia),λz=>absurd (b8 z) h]
 refine#[λp q h=>by rw[len];exact g.rng p q (all.mp h),λp h=>g.irr p (all.mp h),λp=>?_,λp q h=>all.mpr (g.sym p q (all.mp h)),λp f=>?_]
 .by_cases z:p<w.length
  .exact nod p z
  .have:row v p= []:=abA.mpr λq h=>by have:=b8 h;lia
   rw[this];exact f7
 .have c:∀{a b},Reach w a b->Reach v a b:=λ {a b} h=>by
   induction h with
   |refl=>exact .refl _
   |step _ d e=>exact .step e (all.mpr d)
  exact c (g.con p (by lia))
def fH(r:List Nat):List V:=r.map λn:Nat=>V.int (n:Int)
theorem Dl:∀{r:List Nat}{a:List V},DvAll Z G a (r.map af)->a=fH r
 | [],_,h=>h.jP
 |x::r,_,h=>by
  obtain⟨v,d,rfl,b,c⟩:=h.fT;rw[b.ofInt,Dl c];rfl
theorem gW:∀(r:List Nat),DvAll Z G (fH r) (r.map af)
 | []=> .nil
 |x::r=> .cons (.int _) (gW r)
theorem vJ(d:Dv Z G (.ref f) (aq r)):G f=some (.lst (fH r)):=by
 obtain⟨b,g,e,a,c⟩:=d.fz;cases e;rw[a,Dl c]
theorem zc:∀{w:W}{fs:List Addr},b∉fs->DvAll Z G (fs.map .ref) (w.map aq)->DvAll Z (upd G b o) (fs.map .ref) (w.map aq)
 | [],fs,_,d=>by rw[d.jP];exact .nil
 |r::w,fs,n,d=>by
  obtain⟨v,g,e,a,c⟩:=d.fT;cases fs with
  |nil=>cases e
  |cons f fs=>
   cases e;have ne:f≠b:=λz=>n (by rw[z];exact cP ..)
   exact .cons (.lst (by rw[ay ne];exact vJ a) (gW r)) (zc (λz=>n (dh _ z)) c)
theorem CL:∀{w:W}{fs:List Addr}(p:Nat),fs.Nodup->fs[p]? =some b->DvAll Z G (fs.map .ref) (w.map aq)->DvAll Z (upd G b (.lst (fH c))) (fs.map .ref) ((w.set p c).map aq)
 | [],fs,p,_,_,d=>by rw[d.jP];exact .nil
 |r::w,fs,p,i,a,d=>by
  obtain⟨v,l,e,j,g⟩:=d.fT;cases fs with
  |nil=>cases e
  |cons f fs=>
   cases e;obtain⟨h,k⟩:=j2.mp i;cases p with
   |zero=>
    cases a;exact .cons (.lst aw (gW c)) (zc h g)
   |succ p=>
    have a:fs[p]? =some b:=a;have ne:f≠b:=λz=>h (by rw[z];exact gb a)
    exact .cons (.lst (by rw[ay ne];exact vJ j) (gW r)) (CL p k a g)
theorem Ec(h:Rw Z a f G H (fs.map .ref))(j:(a::fs).Nodup)(g:fs[p]? =some b)(d:List Nat):Rw Z a (f.set p d) (upd G b (.lst (fH d))) (upd H b (.lst (fH d))) (fs.map .ref):=by
 obtain⟨k,l⟩:=j2.mp j;have ne:a≠b:=λz=>k (by rw[z];exact gb g)
 refine#[λc o e=>?_,by rw[ay ne];exact h.at_,CL p l g h.dv,λz=>h.ne (zT.mp (by rw[<-dm (as:=f) (i:=p) (a:=d),z];rfl))]
 by_cases z:c=b
 .subst z;rw[aw] at e ⊢;exact e
 .rw[ay z] at e ⊢;exact h.sub c o e
def Py(w:W)(n:Int)(P:W->Prop):Prop:=gz w/\∀a,gz a->P a
theorem Mh:FnOk P w Z.K mg base cw 1 T.d__law_bent.f T.d__law_bent.fd ["_law_turns_here","_law_cell"] (DD Z Py):=by
 have C:=p0.nd;refine T.d__law_bent.F.ok p0 (λvs H Q E h=>?_) (λbo A outer s H vs Q E hr h=>?_)
 .obtain⟨G,a,n,w,xs,P,rfl,_⟩:=h;rfl
 have hu:=hr.units;obtain⟨G,a,n,c,fs,P',rfl,J,nf,⟨⟨g,l1,ke⟩,q0⟩,q⟩:=h
 refine#[_,bS (gw (i:=2) C rfl (by subst_eqs) (aC (Z:=Z) bQ (aa 1) (aB aZ rfl T.B.len aY (ae (aa 0) ag))))
  (bS (gw (i:=3) C rfl (by subst_eqs) (Mv Dt (pv 0) (aa (Z:=Z) 2) (λ_ _=>rfl)))
  (jS (BB (bb (Z:=Z) SQ (aB aZ rfl T.B.len aY (ae (aa 3) ag)) ax (bg _))
   (bS (gw (i:=4) C rfl (by subst_eqs) (aC (Z:=Z) bQ (aC fR (aa 1) ax) (aB aZ rfl T.B.len aY (ae (aa 3) ag))))
   (bS (gw (i:=5) C rfl (by subst_eqs) (aC (Z:=Z) bQ (aC fR (aa 1) ax) (aB aZ rfl T.B.len aY (ae (aa 3) ag))))
   (jS (jq (eB (Z:=Z) (ae (aF (aa 3) (aa 5)) (ae (aF (aa 3) (aa 4)) ag))) (vH rfl (jx (ku (pv 3) (aa (Z:=Z) 4) set_list) (jx (ku (pv 3) (aa (Z:=Z) 5) set_list) su))))))) sD))),?_]
 have M:(c.map aq).length=c.length:=aH _;have m:=lT n ((c.map aq).length:Int) (by rw[M];lia)
 obtain⟨p,ZH⟩:∃p:Nat,n%((c.map aq).length:Int)=(p:Int):=#[(n%((c.map aq).length:Int)).toNat,by lia]
 have k:p<c.length:=by lia
 refine#[G,[some (aP c),some (.int n),none,none,none,none],λd=>d=af p,J.sub,aO (fV J) (aO (.int n) (aU (aU (aU (aU eU))))),#[_,rfl,_,rfl,(by rw[M];show(0:Int)<_;lia),IR D.int ZH],?_]
 rintro _ rfl v1 G1 H1 x1 rB;cases rB.ofInt;have N:=J.ext x1;have X1:=lG.of (L:=a::fs) x1
 have fl:fs.length=c.length:=by
  have:=N.dv.length
  rwa [aH,M] at this
 obtain⟨b,o⟩:∃b,fs[p]? =some b:=#[_,eu (by lia)]
 refine#[.ref a,rfl,G1,[none,none,some (af p),none,none,none],λd=>d=af p,N.sub,aU (aU (aO (.int _) (aU (aU (aU eU))))),#[_,rfl,rfl],?_];rintro _ rfl v2 G2 H2 x2 qo;cases qo.ofInt;have R2:=N.ext x2;have X2:=X1.trans (lG.of x2);refine#[a,fs.map .ref,(p:Int), .ref b,rfl,rfl,cz.of (R2.sub _ _ R2.at_),GJ (j:=p) (n:=fs.length) (aH _) (fo (by lia)) (by rw[cc,o];rfl),?_]
 have O:∀{u:W}{S H':Hp}(R:Rw Z a u S H' (fs.map .ref)),p<u.length->Dv Z S (.ref b) (aq (row u p)):=λ {u S H'} R hl=>by
  obtain⟨v,hv,d⟩:=R.dv.get (i:=p) (d:=aq (row u p)) (sU hl);rw[cc,o] at hv;cases hv;exact d
 have bl:b∈a::fs:=dh _ (gb o);have U:=O R2 k;have rl:=cL g p;generalize X:row c p=r at U rl;have I:(r.map af).length=r.length:=aH _;refine#[G2,[some (aP c),some (.int n),some (af p),some (aq r),none,none],λb=>b=true->2<r.length,R2.sub,aO (fV R2) (aO (.int n) (aO (.int _) (aO U (aU (aU eU))))),?_,?_]
 .refine#[_,rfl,_,rfl,λe=>?_]
  have:(2:Int)<((r.map af).length:Int):=KB e
  lia
 rintro t ht G3 H3 Y;have R3:=R2.ext Y;have X3:=X2.trans (lG.of Y);have d3:=U.mono Y.gg;cases t with
 |false=>exact bY (q c (q0 c #[g,l1,ke]) G3 H3 R3 X3)
 |true=>
  refine bF ?_;have h2:=ht rfl;have mi:=lT (n / 14) ((r.map af).length:Int) (by rw[I];lia)
  obtain⟨i,hi⟩:∃i:Nat,n / 14%((r.map af).length:Int)=(i:Int):=#[(n / 14%((r.map af).length:Int)).toNat,by lia]
  have il:i<r.length:=by lia
  have mj:=lT (n / 182) ((r.map af).length:Int) (by rw[I];lia)
  obtain⟨j,hj⟩:∃j:Nat,n / 182%((r.map af).length:Int)=(j:Int):=#[(n / 182%((r.map af).length:Int)).toNat,by lia]
  have jl:j<r.length:=by lia
  refine#[G3,[none,some (.int n),none,some (aq r),none,none],λd=>d=af i,R3.sub,aU (aO (.int n) (aU (aO d3 (aU (aU eU))))),#[_,rfl,#[by decide,by decide],_,rfl,(by rw[I];show(0:Int)<_;lia),IR D.int hi],?_]
  rintro _ rfl v4 G4 H4 x4 E9;cases E9.ofInt;have R4:=R3.ext x4;have X4:=X3.trans (lG.of x4);have d4:=d3.mono x4.gg;refine#[G4,[none,some (.int n),none,some (aq r),none,none],λd=>d=af j,R4.sub,aU (aO (.int n) (aU (aO d4 (aU (aU eU))))),#[_,rfl,#[by decide,by decide],_,rfl,(by rw[I];show(0:Int)<_;lia),IR D.int hj],?_]
  rintro _ rfl v5 G5 H5 x5 KJ;cases KJ.ofInt;have R5:=R4.ext x5;have X5:=X4.trans (lG.of x5);have d5:=d4.mono x5.gg;have ai:dZ (r.map af) (i:Int)=some (af r[i]):=cC (by rw[cc,eu il];rfl)
  have aj:dZ (r.map af) (j:Int)=some (af r[j]):=cC (by rw[cc,eu jl];rfl)
  refine#[G5,[none,none,none,some (aq r),some (af i),some (af j)],λd=>d= .tup [af r[j],af r[i]],R5.sub,aU (aU (aU (aO d5 (aO (.int _) (aO (.int _) eU))))),#[_,rfl,_,rfl,_,aj,_,rfl,_,rfl,_,ai,by show 2<=sizeLine;decide,rfl],?_]
  rintro _ rfl v6 G6 H6 x6 Rp;obtain⟨t,vs,rfl,h6,d6⟩:=Rp.n6;obtain⟨u1,u2,rfl,Yk,Yl⟩:=d6.Bv;cases Yk.ofInt;cases Yl.ofInt;have R6:=R5.ext x6;have X6:=X5.trans (lG.of x6);exists t,_,rfl,gd.of (x6.sub _ _ h6),rfl;refine#[_,_,rfl, .ref b,rfl,G6,[none,none,none,none,some (af i),none],λd=>d=af i,R6.sub,aU (aU (aU (aU (aO (.int _) (aU eU))))),#[_,rfl,rfl],?_];rintro _ rfl v7 G7 H7 x7 Fb;have R7:=R6.ext x7;have X7:=X6.trans (lG.of x7);have Us:=vJ (O R7 k);rw[X] at Us;have li:∀s:List Nat,(fH s).length=s.length:=λs=>aH _;refine#[b,fH r,(i:Int),i,rfl,Fb.ofInt,R7.sub _ _ Us,fo (by rw[li];exact il),?_]
  have e1:(fH r).set i (.int (r[j]:Int))=fH (r.set i r[j]):=by unfold fH;rw[mT]
  have R8:=Ec R7 nf o (r.set i r[j]);have X8:=X7.trans (lG.put bl (.lst (fH (r.set i r[j]))));rw[e1];refine#[_,_,rfl, .ref b,rfl,_,[none,none,none,none,none,some (af j)],λd=>d=af j,R8.sub,aU (aU (aU (aU (aU (aO (.int _) eU))))),#[_,rfl,rfl],?_];rintro _ rfl v9 G9 H9 x9 KL;have R9:=R8.ext x9;have X9:=X8.trans (lG.of x9);have Ut:=vJ (O R9 (by rw[dm];exact k))
  rw[lA k,tz rfl] at Ut;refine#[b,fH (r.set i r[j]),(j:Int),j,rfl,KL.ofInt,R9.sub _ _ Ut,fo (by rw[li,dm];exact jl),rfl,?_]
  have e2:(fH (r.set i r[j])).set j (.int (r[i]:Int))=fH ((r.set i r[j]).set j r[i]):=by unfold fH;rw[mT (l:=r.set i r[j])]
  have JS:=Ec R9 nf o ((r.set i r[j]).set j r[i]);have QV:=X9.trans (lG.put bl (.lst (fH ((r.set i r[j]).set j r[i]))));rw[e2];rw[List.set_set] at JS;have pm:=List.set_set_perm il jl;refine q _ (q0 _ #[Fn g (dm ..) (λx hx=>?_) (λx hx y=>?_),by rw[dm];exact l1,by rw[dm];exact ke]) _ _ JS QV
  .rw[lA k]
   split
   .rw[pm.nodup_iff,<-X];exact g.nod p
   .exact g.nod x
  .rw[lA k]
   split
   .next z=>rw[pm.mem_iff,<-X,z]
   .exact Iff.rfl
variable {P:Program} {w:World} {mg:Str->Option Value} {base:Heap} {Z:DC} (T:Txt Z mg)
def M4:cI:=λc P=>∃(w:W)(a b:Nat),c= [.fj w,af a,af b]/\Good w/\a<w.length/\b<w.length/\P (.bl (decide (b∈row w a)))
theorem lV:FnOk P w Z.K mg base cw 2 T.m_tied.f T.m_tied.fd ["self","a","b"] (bh Z M4):=by
 have i:=sI.nd;refine bC T.m_tied.F sI [0,0,0,0] (by decide) (λj R h=>by obtain⟨_,_,_,rfl,_⟩:=h;rfl) (λn A outer s H E j R d h=>?_)
 have o:=d.units
 refine#[_,(ao (aL false 3 i (aB aZ rfl T.B.len aY (ae (kX T.W (aa 0)) ag)))
   (au (ba (kj (aD T.d_is_among (cS T) d (ae (aa 1) (ae (aa 3) ag))) (kj (aD T.d_is_among (cS T) d (ae (aa 2) (ae (aa 3) ag))) (rk (pj Bt (aa 2) (aF (kX T.W (aa 0)) (aa 1)) (by with_unfolding_all rfl)))))))),?_]
 obtain⟨c,a,b,rfl,g,k,p,q⟩:=h;have e:(c.map aq).length=c.length:=aH _;exists _,rfl,c,rfl,trivial;have l:decide ((0:Int)<=(a:Int)/\(a:Int)<((c.map aq).length:Int))=true:=by rw[e];exact FM (by lia)
 have m:decide ((0:Int)<=(b:Int)/\(b:Int)<((c.map aq).length:Int))=true:=by rw[e];exact FM (by lia)
 refine#[_,rfl,_,rfl,_,_,rfl,_,IR D.bl l,bF ?_];refine#[_,rfl,_,rfl,_,_,rfl,_,IR D.bl m,bF ?_];exists _,rfl,_,rfl,c,rfl,_,rfl,_,fe k,rfl,cY _;rw[mo cO];rw[k4];exact q
theorem fJ:FnOk P w Z.K mg base cw 1 T.m_turns.f T.m_turns.fd ["self"] (fb Z 1 M5):=by
 have d:=pZ.nd;refine jt 1 T.m_turns.F pZ [0] (by decide) (λb R h=>by obtain⟨_,rfl,_⟩:=h;rfl) (λe A outer s H E b R c h=>?_)
 have g:=c.units;refine#[_,(au (nv (Ku (NC:= ["row"]) (src:= [none]) rfl (wd (av jr)) trivial (bX (kX T.W (aa 0))) (λ_ _ _=>(c7 0 (show(["row"]:List Str).Nodup from by decide+kernel))) (λ_ _ _=>gk) (λ_ _ _=>(jJ qZ rfl T.B.list qT (ae (aa 0) ag)))))),?_]
 obtain⟨a,rfl,i,q⟩:=h;exact#[_,rfl,a,rfl,ko (ρ:= [none]) aq aq a _ (λy j Y h=>#[_,rfl,h]) rfl (small (by lia)) λk=>q]
def PC:cI:=λa P=>∃(l:List Nat)(x p:Nat),a= [aq l,af x,af p]/\l.length<=100/\x∈l/\P (aq (c8 l x p))
theorem gv:FnOk P w Z.K mg base cw 1 T.d_put_behind.f T.d_put_behind.fd ["row","ahead","p"] (fb Z 1 PC):=by
 have g:=oM.nd;refine jt 1 T.d_put_behind.F oM [0,0,0,0] (by decide) (λi R h=>by obtain⟨_,_,_,rfl,_⟩:=h;rfl) (λm A outer s H E i R j h=>?_)
 have n:=j.units
 refine#[_,(ao (aL false 3 g (aC cR (pk (aa 0) (aa 1)) ax))
   (au (nv (GW (aC cR (iz (aa 0) jK (jL (aa 3))) (iH (ae (aa 2) ag))) (iz (aa 0) (jL (aa 3)) jK))))),?_]
 obtain⟨l,x,p,rfl,o,a,q⟩:=h;have c:(l.map af).length=l.length:=aH _;have r:=zS.mpr a;exists _,rfl,_,rfl,_,rfl,rfl,cY _,_,_,(cp a).1,(cp a).2.1,(cp a).2.2,trivial
 have b:cutD (l.map af) none (some (((l.idxOf x:Nat):Int)+1))=(l.take (l.idxOf x+1)).map af:=by
  have:=lJ (l.map af) (l.idxOf x+1) (by rw[c];lia)
  rw[qO];exact this
 have d:cutD (l.map af) (some (((l.idxOf x:Nat):Int)+1)) none=(l.drop (l.idxOf x+1)).map af:=by
  have:=qk (l.map af) (l.idxOf x+1) (by rw[c];lia)
  rw[ux];exact this
 have sz:(cutD (l.map af) none (some (((l.idxOf x:Nat):Int)+1))).length+1<=sizeLine:=by rw[b,aH,ik];exact small (by lia)
 have k:(cutD (l.map af) none (some (((l.idxOf x:Nat):Int)+1))++ [af p]).length+(cutD (l.map af) (some (((l.idxOf x:Nat):Int)+1)) none).length<=sizeLine:=by
  rw[b,d,dJ,aH,aH,ik,u4];exact small (by simp;lia)
 have e:(.lst ((cutD (l.map af) none (some (((l.idxOf x:Nat):Int)+1))++ [af p])++cutD (l.map af) (some (((l.idxOf x:Nat):Int)+1)) none):D)=aq (c8 l x p):=by
  rw[b,d];unfold aq c8 ins;rw[df,bV,j1];rfl
 rw[<-e] at q;exact#[_,rfl,_,rfl,_,rfl,by show 1<=sizeLine;decide,sz,_,rfl,_,rfl,_,rfl,_,rfl,k,q]
noncomputable def lh(w:W):List (List Nat):=if w.length=1 then[[0]] else nU w
theorem Du{w:W}{P:D->Prop}(g:Good w)(f:1<=w.length)(i:w.length<=14)(h:(∀r∈lh w,∀k,k<r.length->r.getD k 0<w.length)->P (.lst ((lh w).map aq))):Ei [.fj w] P:=by
 refine#[w,rfl,g,f,i,λe=>?_,λe o R j=>?_]
 .have c:lh w= [[0]]:=tz e
  rw[c] at h;refine h λr a k b=>?_;rw[dF] at a;subst a
  have:k=0:=by simpa using b
  subst this;exact f
 .have c:lh w=nU w:=mo (by lia)
  rw[c] at h;refine h λr a k b=>?_;rw[j] at a;unfold jd at a;obtain⟨l,m,rfl⟩:=bL.mp a;obtain⟨d,Rd,n,_⟩:=R.rnd l m;rw[aH] at b;rw[Io];refine b8 (Rd.bz g n _ ?_);rw[fX,eu b];exact zW b
def p9(w:W)(r:List Nat)(i j:Nat):W:=tie w (r.getD i 0) ((row w (r.getD i 0)).idxOf (r.getD ((i+(r.length-1))%r.length) 0)+1) (r.getD j 0) ((row w (r.getD j 0)).idxOf (r.getD ((j+(r.length-1))%r.length) 0)+1)
structure B9 (w:W) (land:Nat) (r:List Nat) (i j:Nat):Prop where
 n2:2<=w.length
 at_:(lh w)[land]? =some r
 L:qR w r
 hi:i<r.length
 hj:j<r.length
 ne:r.getD j 0≠r.getD i 0
 nt:r.getD j 0∉row w (r.getD i 0)
theorem B9.ok{w:W}{a i j:Nat}(C:B9 w a r i j)(g:Good w)(h:w.length<=14):gz (p9 w r i j):=by
 have b:=C.L.lt i C.hi;have c:=C.L.lt j C.hj;unfold p9;exact#[zj g b c C.ne C.nt,by rw[jZ];lia,by rw[jZ];exact h]
def PD:cI:=λb P=>∃(w:W)(a i j:Nat)(r:List Nat),b= [.fj w,af a,af i,af j]/\Good w/\w.length<=14/\B9 w a r i j/\P (.fj (p9 w r i j))
theorem FT:FnOk P w Z.K mg base cw 6 T.d_put_in.f T.d_put_in.fd ["web","land","i","j"] (bh Z PD):=by
 have n:=l8.nd;refine bC T.d_put_in.F l8 [0,0,0,0,0,0,0,0,1] (by decide) (λU R h=>by obtain⟨_,_,_,_,_,rfl,_⟩:=h;rfl) (λbo A outer s H E U R e h=>?_)
 have X:=e.units
 refine#[_,(ao (aL false 4 n (aD T.d_lands (zE T) e (ae (aa 0) ag)))
   (ao (bM (dB (eD (aD T.d_is_among (cS T) e (ae (aa 1) (ae (aB aZ rfl T.B.len aY (ae (aa 4) ag)) ag))))) (au kY) aS)
   (ao (aL false 5 n (aF (aa 4) (aa 1)))
   (ao (bM (DW.dt (i3 (dB (eD (aD T.d_is_among (cS T) e (ae (aa 2) (ae (aB aZ rfl T.B.len aY (ae (aa 5) ag)) ag))))) (iJ (dB (eD (aD T.d_is_among (cS T) e (ae (aa 3) (ae (aB aZ rfl T.B.len aY (ae (aa 5) ag)) ag)))))))) (au kY) aS)
   (ao (vA 6 7 rfl n (ae (aF (aa 5) (aa 2)) (ae (aF (aa 5) (aa 3)) ag)))
   (ao (bM (DW.dt (i3 (bb (fI X) (aa 6) (aa 7) (bg _)) (iJ (eD (kW T.W (aa 0) T.m_tied.m (lV T) (e.mono (by decide)) T.m_tied.b (ae (aa 6) (ae (aa 7) ag))))))) (au kY) aS)
   (ao (gu 8 n (y6 T.W (aa 0) T.m_turns.m (fJ T) (e.mono (by decide)) T.m_turns.b))
   (ao (iA 8 (aa 6) (gJ T.d_put_behind (gv T) e (ae (aF (aa 8) (aa 6)) (ae (aF (aa 5) (aC fS (aa 2) ax)) (ae (aa 7) ag)))))
   (ao (iA 8 (aa 7) (gJ T.d_put_behind (gv T) e (ae (aF (aa 8) (aa 7)) (ae (aF (aa 5) (aC fS (aa 3) ax)) (ae (aa 6) ag)))))
   (au (ba (wq T.mkW (iC T) (e.mono (by decide)) rfl T.mC T.m___init__b (ae (aa 8) ag))))))))))))),?_]
 obtain⟨c,d,i,j,r,rfl,g,z,C,q⟩:=h;have o:=C.ok g z;obtain⟨I,k,L,t,u,ne,Y⟩:=C;exists _,rfl;dsimp only[pV];refine Du g (by lia) z λ_=>#[trivial,?_]
 have hl:d<(lh c).length:=(c9.mp k).1;have J:((lh c).map aq).length=(lh c).length:=aH _;have M:dZ ((lh c).map aq) (d:Int)=some (aq r):=cC (by rw[cc,k];rfl)
 have ta:=L.tie I i t;have tb:=L.tie I j u;have v:=L.lt i t;have G:=L.lt j u;have ai:dZ (r.map af) (i:Int)=some (af (r.getD i 0)):=eM t;have aj:dZ (r.map af) (j:Int)=some (af (r.getD j 0)):=eM u;have pa:=jz t;have pb:=jz u;have N:(r.map af).length=r.length:=aH _;generalize lh c=O at hl J M;have d1:decide ((0:Int)<=(d:Int)/\(d:Int)<((O.map aq).length:Int))=true:=by rw[J];exact FM (by lia)
 exists _,rfl,_,rfl,_,_,rfl,rfl;refine(?_:if (!decide ((0:Int)<=(d:Int)/\(d:Int)<((O.map aq).length:Int)))=true then _ else _);rw[d1];refine bY ?_;exists _,rfl,_,rfl,_,M,trivial;have d2:decide ((0:Int)<=(i:Int)/\(i:Int)<((r.map af).length:Int))=true:=by rw[N];exact FM (by lia)
 have d3:decide ((0:Int)<=(j:Int)/\(j:Int)<((r.map af).length:Int))=true:=by rw[N];exact FM (by lia)
 exists _,rfl,_,rfl,_,_,rfl,rfl;refine(?_:if (!decide ((0:Int)<=(i:Int)/\(i:Int)<((r.map af).length:Int)))=true then _ else _);rw[d2];refine bY ?_;exists _,rfl,_,rfl,_,_,rfl,rfl;refine(?_:if (!decide ((0:Int)<=(j:Int)/\(j:Int)<((r.map af).length:Int)))=true then _ else _);rw[d3];refine bY ?_;exists _,rfl,_,rfl,_,ai,_,rfl,_,rfl,_,aj,_,_,rfl;unfold p9 at q o;generalize r.getD i 0=a at*;generalize r.getD j 0=b at*;generalize r.getD ((i+(r.length-1))%r.length) 0=x at*;generalize r.getD ((j+(r.length-1))%r.length) 0=y at*;exists _,rfl,_,rfl;refine(?_:tN (.int (a:Int)) (.int (b:Int)) _);refine jH #[_,rfl,Qs (GM (by lia)) ?_]
 refine#[_,rfl,c,rfl,_,rfl,_,rfl,c,a,b,rfl,g,v,G,rfl,Qs (GM Y) ?_];exists _,rfl,c,rfl,c,rfl,z,_,rfl;have rla:=cL g a;have rlb:=cL g b;have lw:(c.map aq).length=c.length:=aH _;have Q:∀r:List Nat,(r.map af).all eH=true:=cY;refine#[_,rfl,_,rfl,_,fe v,_,rfl,_,rfl,_,pa,_,rfl,row c a,x,b,rfl,by lia,ta,_,rfl,Q _,_,rfl,_,rfl,(a:Int),a,rfl,fo (by rw[lw];exact v),?_]
 have e1:(c.map aq).set a (.lst ((c8 (row c a) x b).map af))=(c.set a (c8 (row c a) x b)).map aq:=by rw[mT];rfl
 have rb:row (c.set a (c8 (row c a) x b)) b=row c b:=by rw[oh v,mo (Ne.symm ne)]
 have S:(c.set a (c8 (row c a) x b)).length=c.length:=dm ..;rw[e1];have l:=fe (w:=c.set a (c8 (row c a) x b)) (p:=b) (by rw[S];exact G)
 rw[rb] at l;refine#[_,rfl,_,rfl,_,l,_,rfl,_,rfl,_,pb,_,rfl,row c b,y,a,rfl,by lia,tb,_,rfl,Q _,_,rfl,_,rfl,(b:Int),b,rfl,fo (by rw[aH,S];exact G),?_]
 have e2:((c.set a (c8 (row c a) x b)).map aq).set b (.lst ((c8 (row c b) y a).map af))=(tie c a ((row c a).idxOf x+1) b ((row c b).idxOf y+1)).map aq:=by
  unfold tie;rw[mT,mT,mT];rfl
 rw[e2];exact#[_,rfl,_,rfl,o.1,o.2.1,o.2.2,q]
def QN(w:W)(c i j:Int):Prop:=∀(k a b:Nat)(r:List Nat),c=k->i=a->j=b->(lh w)[k]? =some r->a<r.length->b<r.length->r.getD b 0=r.getD a 0\/r.getD b 0∈row w (r.getD a 0)
def PF(c:Addr):JK:=λb P R=>∃(w:W)(a i j:Int),b= [.fj w, .int a, .int i, .int j]/\Good w/\1<=w.length/\w.length<=14/\QN w a i j/\R (.err c [] [])
theorem DQ:FnOk P w Z.K mg base (yk P w) 6 T.d_put_in.f T.d_put_in.fd ["web","land","i","j"] (rY Z (PF T.e_NoCorner)):=by
 have n:=l8.nd;refine Im T.d_put_in.F l8 [0,0,0,0,0,0,0,0,1] (by decide) (λt R u h=>by obtain⟨_,_,_,_,rfl,_⟩:=h;rfl) (λJ A outer s H E t R u d h=>?_)
 have v:=d.units
 refine#[_,(ao (aL false 4 n (aD T.d_lands (zE T) d (ae (aa 0) ag)))
   (ao (bM (dB (eD (aD T.d_is_among (cS T) d (ae (aa 1) (ae (aB aZ rfl T.B.len aY (ae (aa 4) ag)) ag))))) (au (ql rfl T.k_NoCorner T.q_NoCorner T.g_NoCorner)) aS)
   (ao (aL false 5 n (aF (aa 4) (aa 1)))
   (ao (bM (DW.dt (i3 (dB (eD (aD T.d_is_among (cS T) d (ae (aa 2) (ae (aB aZ rfl T.B.len aY (ae (aa 5) ag)) ag))))) (iJ (dB (eD (aD T.d_is_among (cS T) d (ae (aa 3) (ae (aB aZ rfl T.B.len aY (ae (aa 5) ag)) ag)))))))) (au (ql rfl T.k_NoCorner T.q_NoCorner T.g_NoCorner)) aS)
   (ao (vA 6 7 rfl n (ae (aF (aa 5) (aa 2)) (ae (aF (aa 5) (aa 3)) ag)))
   (ao (bM (DW.dt (i3 (bb (fI v) (aa 6) (aa 7) (bg _)) (iJ (eD (kW T.W (aa 0) T.m_tied.m (lV T) (d.mono (by decide)) T.m_tied.b (ae (aa 6) (ae (aa 7) ag))))))) (au (ql rfl T.k_NoCorner T.q_NoCorner T.g_NoCorner)) aS)
   (ao (gu 8 n (y6 T.W (aa 0) T.m_turns.m (fJ T) (d.mono (by decide)) T.m_turns.b))
   (ao (iA 8 (aa 6) (gJ T.d_put_behind (gv T) d (ae (aF (aa 8) (aa 6)) (ae (aF (aa 5) (aC fS (aa 2) ax)) (ae (aa 7) ag)))))
   (ao (iA 8 (aa 7) (gJ T.d_put_behind (gv T) d (ae (aF (aa 8) (aa 7)) (ae (aF (aa 5) (aC fS (aa 3) ax)) (ae (aa 6) ag)))))
   (au (ba (wq T.mkW (iC T) (d.mono (by decide)) rfl T.mC T.m___init__b (ae (aa 8) ag))))))))))))),?_]
 obtain⟨l,c,i,j,rfl,g,x,y,B,q⟩:=h;exists _,rfl;dsimp only[pV];refine Du g x y λlt=>#[trivial,?_];have L:((lh l).map aq).length=(lh l).length:=aH _;exists _,rfl,_,rfl,_,_,rfl,rfl;refine(?_:if (!decide ((0:Int)<=c/\c<(((lh l).map aq).length:Int)))=true then _ else _);refine br (λ_=>q) λe=>?_;have e:(0:Int)<=c/\c<(((lh l).map aq).length:Int):=by simpa using e
 obtain⟨k,rfl⟩:∃k:Nat,c=k:=#[c.toNat,by lia]
 obtain⟨r,d⟩:∃r,(lh l)[k]? =some r:=#[_,eu (by lia)]
 have z:dZ ((lh l).map aq) (k:Int)=some (aq r):=cC (by rw[cc,d];rfl)
 have lt:=lt r (gb d);have M:(r.map af).length=r.length:=aH _;exists _,rfl,_,rfl,_,z,trivial;exists _,rfl,_,rfl,_,_,rfl,rfl;refine(?_:if (!decide ((0:Int)<=i/\i<((r.map af).length:Int)))=true then _ else _);refine br (λ_=>bF q) λe=>?_;have e:(0:Int)<=i/\i<((r.map af).length:Int):=by simpa using e
 obtain⟨a,rfl⟩:∃a:Nat,i=a:=#[i.toNat,by lia]
 exists _,rfl,_,rfl,_,_,rfl,rfl;refine(?_:if (!decide ((0:Int)<=j/\j<((r.map af).length:Int)))=true then _ else _);refine br (λ_=>q) λe=>?_;have e:(0:Int)<=j/\j<((r.map af).length:Int):=by simpa using e
 obtain⟨b,rfl⟩:∃b:Nat,j=b:=#[j.toNat,by lia]
 have o:a<r.length:=by lia
 have p:b<r.length:=by lia
 have C:dZ (r.map af) (a:Int)=some (af (r.getD a 0)):=eM o;have G:dZ (r.map af) (b:Int)=some (af (r.getD b 0)):=eM p;exists _,rfl,_,rfl,_,C,_,rfl,_,rfl,_,G,_,_,rfl;have I:=B k a b r rfl rfl rfl d o p;exists _,rfl,_,rfl;refine(?_:tN (.int (r.getD a 0:Int)) (.int (r.getD b 0:Int)) _);refine jH #[_,rfl,br (λ_=>bF q) λe=>?_];have e:¬(r.getD a 0:Int)=(r.getD b 0:Int):=On e;exists _,rfl,l,rfl,_,rfl,_,rfl,l,_,_,rfl,g,lt a o,lt b p;rw[FM (I.resolve_left (by lia))]
 exact#[rfl,bF q]
variable {P:Program} {w:World} {mg:Str->Option Value} {base:Heap} {Z:DC} (T:Txt Z mg)
def Tz:cI:=λd P=>∃(w:W)(c i j:Int),d= [aP w, .int c, .int i, .int j]/\gz w/\(QN w c i j->P .bu)/\∀k a b r,c=(k:Nat)->i=(a:Nat)->j=(b:Nat)->B9 w k r a b->P (aP (p9 w r a b))
theorem Bw:FnOk P w Z.K mg base cw 2 T.d__law_due.f T.d__law_due.fd ["_law_turns_here","_law_land","_law_i","_law_j"] (bh Z Tz):=by
 have Q:=sM.nd;refine bC T.d__law_due.F sM [0,0,0,0,0,0,1] (by decide) (λds R h=>by obtain⟨_,_,_,_,rfl,_⟩:=h;rfl) (λbo A outer s H E ds R o h=>?_)
 have hu:=o.units
 refine#[_,(ao (aL false 4 Q (aD T.d__law_lands (g8 T) o (ae (aa 0) ag)))
   (ao (bM (DW.dt (i3 (dB (pA ud n5 ax (aa 1) (aB aZ rfl T.B.len aY (ae (aa 4) ag)))) (i3 (dB (pA ud n5 ax (aa 2) (aB aZ rfl T.B.len aY (ae (aF (aa 4) (aa 1)) ag)))) (iJ (dB (pA ud n5 ax (aa 3) (aB aZ rfl T.B.len aY (ae (aF (aa 4) (aa 1)) ag)))))))) (au (ba fO)) aS)
   (ao (aL false 5 Q (aF (aa 4) (aa 1)))
   (ao (bM (DW.dt (i3 (bb (fI hu) (aF (aa 5) (aa 2)) (aF (aa 5) (aa 3)) (bg _)) (iJ (bb Bt (aF (aa 5) (aa 3)) (aF (aa 0) (aF (aa 5) (aa 2))) (by with_unfolding_all rfl))))) (au (ba fO)) aS)
   (ao (y8 6 (NC:= ["_law_row_here"]) (src:= [none]) rfl Q (wd (av kA)) trivial (bX (aa 0)) (λ_ _ _=>(c7 0 (show(["_law_row_here"]:List Str).Nodup from by decide+kernel))) (λ_ _ _=>gk) (λ_ _ _=>(jJ qZ rfl T.B.list qT (ae (aa 0) ag))))
   (ao (iA 6 (aF (aa 5) (aa 2)) (gJ T.d__law_behind (eN T) o (ae (aF (aa 6) (aF (aa 5) (aa 2))) (ae (aF (aa 5) (aC fS (aa 2) ax)) (ae (aF (aa 5) (aa 3)) ag)))))
   (ao (iA 6 (aF (aa 5) (aa 3)) (gJ T.d__law_behind (eN T) o (ae (aF (aa 6) (aF (aa 5) (aa 3))) (ae (aF (aa 5) (aC fS (aa 3) ax)) (ae (aF (aa 5) (aa 2)) ag)))))
   (nz 6
   (au (ba (aa 6))))))))))),?_]
 obtain⟨d,l,i,j,rfl,⟨g,l1,ke⟩,S,q2⟩:=h;refine#[_,rfl,d,rfl,g,l1,ke,λt r0 r1 ok U X=>#[trivial,?_]]
 have el:t=lh d:=by
  unfold lh
  by_cases c:d.length=1
  .rw[tz c];exact X c
  .rw[mo c];exact(U (by lia)).1.symm
 have ll:(t.map aq).length=t.length:=aH _
 have b1:¬(0<=l/\l<((t.map aq).length:Int))->R .bu:=λe=>S λk a b r h1 _ _ o _ _=>by
  rw[<-el] at o
  have:=(c9.mp o).1
  exact absurd #[by lia,by lia] e
 refine#[_,rfl,_,rfl,br (λe=>#[_,rfl,_,rfl,br (λc=>bF (b1 λz=>by simp at c;lia)) (λc=>?_)]) (λe=>#[_,rfl,bF (bF (b1 λz=>On e z.1))])]
 have e0:(0:Int)<=l:=KB e;have e9:l<((t.map aq).length:Int):=by simpa using c
 obtain⟨k,rfl⟩:∃k:Nat,l=k:=#[l.toNat,by lia]
 obtain⟨r,o⟩:∃r,t[k]? =some r:=#[_,eu (by lia)]
 have L:=ok r (gb o);have vd:dZ (t.map aq) (k:Int)=some (aq r):=cC (by rw[cc,o];rfl)
 have lp:(r.map af).length=r.length:=aH _;have Sq:(lh d)[k]? =some r:=by rw[<-el];exact o
 have N:∀m:Int,¬(0<=i/\i<((r.map af).length:Int))\/¬(0<=j/\j<((r.map af).length:Int))->R .bu:=λ_ ee=>S λk' a b r' h1 h2 h3 u ha hb=>by
  have:k'=k:=by lia
  subst this;rw[Sq] at u;cases u;exact ee.elim (λe=>(e #[by lia,by lia]).elim) λe=>(e #[by lia,by lia]).elim
 refine#[_,rfl,_,rfl,br (λe=>#[_,rfl,_,rfl,_,vd,_,rfl,br (λc=>bF (N 0 (.inl λz=>by simp at c;lia))) (λc=>?_)]) (λe=>#[_,rfl,bF (bF (N 0 (.inl λz=>On e z.1)))])]
 have f0:(0:Int)<=i:=KB e;have f9:i<((r.map af).length:Int):=by simpa using c
 refine#[_,rfl,_,rfl,br (λe=>#[_,rfl,_,rfl,_,vd,_,rfl,br (λc=>N 0 (.inr λz=>by simp at c;lia)) (λc=>?_)]) (λe=>#[_,rfl,bF (N 0 (.inr λz=>On e z.1))])]
 have g0:(0:Int)<=j:=KB e;have g9:j<((r.map af).length:Int):=by simpa using c
 obtain⟨a,rfl⟩:∃a:Nat,i=a:=#[i.toNat,by lia]
 obtain⟨b,rfl⟩:∃b:Nat,j=b:=#[j.toNat,by lia]
 have v:a<r.length:=by lia
 have G:b<r.length:=by lia
 have I:dZ (r.map af) (a:Int)=some (af (r.getD a 0)):=eM v;have J:dZ (r.map af) (b:Int)=some (af (r.getD b 0)):=eM G;have pa:=jz v;have pb:=jz G;have O:=L.lt a v;have lb:=L.lt b G
 have b3:r.getD b 0=r.getD a 0\/r.getD b 0∈row d (r.getD a 0)->R .bu:=λe=>S λk' a' b' r' h1 h2 h3 u ha hb=>by
  obtain rfl:k'=k:=by lia
  obtain rfl:a'=a:=by lia
  obtain rfl:b'=b:=by lia
  rw[Sq] at u;cases u;exact e
 exists _,rfl,_,rfl,_,vd,trivial;exists _,rfl,_,rfl,_,I,_,rfl,_,rfl,_,J;refine(?_:tN (.int (r.getD a 0:Int)) (.int (r.getD b 0:Int)) _);refine jH #[_,rfl,br (λe=>bF (b3 (.inl ?_))) (λe=>?_)]
 .have:(r.getD a 0:Int)=(r.getD b 0:Int):=KB e
  lia
 have ne:r.getD b 0≠r.getD a 0:=λz=>On e (by rw[z])
 exists _,rfl,_,rfl,_,J,_,rfl,_,rfl,_,rfl,_,I,_,fe O,rfl,cY _,_,rfl;rw[mo cO,k4];refine br (λe=>b3 (.inr (KB e))) (λe=>?_);have nt:r.getD b 0∉row d (r.getD a 0):=On e;have n2:2<=d.length:=by lia
 have C:B9 d k r a b:=#[n2,Sq,L,v,G,ne,nt];have q:=q2 k a b r rfl rfl rfl C;have ta:=L.tie n2 a v;have tb:=L.tie n2 b G;unfold p9 at q;generalize r.getD a 0=p at*;generalize r.getD b 0=n at*;generalize r.getD ((a+(r.length-1))%r.length) 0=x at*;generalize r.getD ((b+(r.length-1))%r.length) 0=y at*;refine#[_,rfl,ko (ρ:= [none]) aq aq d _ (λy hy Y h=>#[_,rfl,h]) rfl (small (by lia)) λaE=>?_]
 have lw:(d.map aq).length=d.length:=aH _;have rla:=cL g p;have rlb:=cL g n;have fl:∀r:List Nat,(r.map af).all eH=true:=cY;refine#[_,rfl,_,rfl,_,rfl,_,I,_,fe O,_,rfl,_,rfl,_,pa,_,rfl,_,rfl,_,J,row d p,x,n,rfl,by lia,λ_=>ta,_,rfl,fl _,_,rfl,_,rfl,_,rfl,_,I,(p:Int),p,rfl,fo (by rw[lw];exact O),?_]
 have X:(d.map aq).set p (.lst ((c8 (row d p) x n).map af))=(d.set p (c8 (row d p) x n)).map aq:=by rw[mT];rfl
 have rb:row (d.set p (c8 (row d p) x n)) n=row d n:=by rw[oh O,mo (Ne.symm ne)]
 have L7:(d.set p (c8 (row d p) x n)).length=d.length:=dm ..;rw[X];have M:=fe (w:=d.set p (c8 (row d p) x n)) (p:=n) (by rw[L7];exact lb)
 rw[rb] at M;refine#[_,rfl,_,rfl,_,rfl,_,J,_,M,_,rfl,_,rfl,_,pb,_,rfl,_,rfl,_,I,row d n,y,p,rfl,by lia,λ_=>tb,_,rfl,fl _,_,rfl,_,rfl,_,rfl,_,J,(n:Int),n,rfl,fo (by rw[aH,L7];exact lb),?_]
 have U:((d.set p (c8 (row d p) x n)).map aq).set n (.lst ((c8 (row d n) y p).map af))=(tie d p ((row d p).idxOf x+1) n ((row d n).idxOf y+1)).map aq:=by
  unfold tie;rw[mT,mT,mT];rfl
 rw[U];exact#[#[_,rfl],_,rfl,q]
def M1:cI:=λb P=>∃(w:W)(n:Int),b= [aP w, .int n]/\gz w/\∀a i j:Int,P (.tup [.int a, .int i, .int j])
theorem xb:FnOk P w Z.K mg base cw 2 T.d__law_asked.f T.d__law_asked.fd ["_law_turns_here","_law_number"] (bh Z M1):=by
 have b:=oG.nd;refine bC T.d__law_asked.F oG [0,0,0,0,0,0,0,0] (by decide) (λo R h=>by obtain⟨_,_,rfl,_⟩:=h;rfl) (λC A outer s H E o R d h=>?_)
 have c:=d.units
 refine#[_,(ao (aL false 2 b (aD T.d__law_lands (g8 T) d (ae (aa 0) ag)))
   (ao (aL false 3 b (aC bQ (aC fR (aa 1) ax) ax))
   (ao (aL false 4 b (aC bQ (aa 1) (aB aZ rfl T.B.len aY (ae (aa 2) ag))))
   (ao (aL false 5 b (aF (aa 2) (aa 4)))
   (ao (bM (bb (fI c) (aa 3) ax (bg _)) (au (aL false 4 b (aC fS (aC bQ (aa 1) (aC cR (aB aZ rfl T.B.len aY (ae (aa 2) ag)) ax)) ax))) aS)
   (ao (aL false 6 b (aC bQ (aC fR (aa 1) ax) (aB aZ rfl T.B.len aY (ae (aa 5) ag))))
   (ao (bM (bb (fI c) (aa 3) ax (bg _)) (au (aL false 6 b (aC fS (aC bQ (aC fR (aa 1) ax) (aC cR (aB aZ rfl T.B.len aY (ae (aa 5) ag)) ax)) ax))) aS)
   (ao (aL false 7 b (aC bQ (aC fR (aa 1) ax) (aB aZ rfl T.B.len aY (ae (aa 5) ag))))
   (ao (bM (bb (fI c) (aa 3) ax (bg _)) (au (aL false 7 b (aC fS (aC bQ (aC fR (aa 1) ax) (aC cR (aB aZ rfl T.B.len aY (ae (aa 5) ag)) ax)) ax))) aS)
   (au (ba (eB (ae (aa 4) (ae (aa 6) (ae (aa 7) ag))))))))))))))),?_]
 obtain⟨p,n,rfl,⟨g,t,u⟩,q⟩:=h;refine#[_,rfl,p,rfl,g,t,u,λa G I ok J M=>#[trivial,?_]];have e:(a.map aq).length=a.length:=aH _;refine#[_,rfl,#[by decide,by decide],(by show(0:Int)<8;decide),trivial,?_]
 have m:=lT n ((a.map aq).length:Int) (by rw[e];lia)
 obtain⟨k,v⟩:∃k:Nat,n%((a.map aq).length:Int)=(k:Int):=#[(n%((a.map aq).length:Int)).toNat,by lia]
 have i:k<a.length:=by lia
 refine#[_,rfl,_,rfl,(by rw[e];show(0:Int)<_;lia),trivial,?_]
 have x:dZ (a.map aq) (n%((a.map aq).length:Int))=some (aq a[k]):=by
  rw[v];exact cC (by rw[cc,eu i];rfl)
 have L:=ok a[k] (zW i);exists _,rfl,_,rfl,_,x,trivial;generalize a[k]=r at L;have N:=L.ne;have y:(r.map af).length=r.length:=aH _;have j:(0:Int)<((r.map af).length:Int):=by rw[y];lia
 have l:(0:Int)<((r.map af).length:Int)+2:=by lia
 have z:(0:Int)<((a.map aq).length:Int)+2:=by lia
 refine#[_,rfl,CP #[_,rfl,br (λ_=>#[_,rfl,_,rfl,z,trivial,?_]) (λ_=>?_)]]
 all_goals
  refine#[_,rfl,#[by decide,by decide],_,rfl,j,trivial,_,rfl,?_]
  refine CP #[_,rfl,br (λ_=>#[_,rfl,#[by decide,by decide],_,rfl,l,trivial,?_]) (λ_=>?_)]
 all_goals
  refine#[_,rfl,#[by decide,by decide],_,rfl,j,trivial,_,rfl,?_]
  refine CP #[_,rfl,br (λ_=>#[_,rfl,#[by decide,by decide],_,rfl,l,trivial,?_]) (λ_=>?_)]
 all_goals exact#[_,rfl,_,rfl,_,rfl,by show 3<=sizeLine;decide,q _ _ _]
theorem jo(h:ak K t c=some false)(a:cr K t r=some false):cr K t (c::r)=some false:=by rw[cr,h];exact a
def Gb:cI:=λb P=>∃(w:W)(a i j:Int),b= [.fj w, .int a, .int i, .int j]/\gz w/\QN w a i j/\P (.bl true)
theorem ue:FnOk P w Z.K mg base cw 7 T.d__law_refused.f T.d__law_refused.fd ["_law_web","_law_land","_law_i","_law_j"] (bh Z Gb):=by
 have b:=lD.nd;refine bC T.d__law_refused.F lD [0,0,0,0,0,0] (by decide) (λd R h=>by obtain⟨_,_,_,_,rfl,_⟩:=h;rfl) (λm A outer s H E d R c h=>?_)
 have n:=c.units
 refine#[_,(ao (NZ (λ_ _=>by exact(au (Ig T.d_put_in (DQ T) c (ae (aa 0) (ae (aa 1) (ae (aa 2) (ae (aa 3) ag))))))) aS (Rl 4 b T.g_MapError T.q_MapError (λ_=>by exact(ao (aL false 5 b (E7 T.iX (.cons (.own _) (.cons (.own _) (.cons (.own _) (.cons (.own _) (.cons (.own _) (.cons (.own _) (.cons (.own _) (.cons (.own _) (.cons (.own _) .nil))))))))) #[(iK T.g_Alike),rfl,#[(iK T.g_Bridge),rfl,#[(iK T.g_NoRing),rfl,#[(iK T.g_NotFilled),rfl,#[(iK T.g_NotPlane),rfl,#[(iK T.g_Odd),rfl,#[(iK T.g_Shared),rfl,#[(iK T.g_TooFew),rfl,#[(iK T.g_TooMany),rfl,trivial]]]]]]]]] (show 9<=1000 by decide) (aa 4) rfl T.B.isinstance))
   (au (ba (kj (y4 T.iX (.own _) (iK T.g_NoCorner) (aa 4) rfl T.B.isinstance) (kj (y4 T.iX (.blt _) (Td T.x_ValueError) (aa 4) rfl T.B.isinstance) (rk (GV (aa 5))))))))) NT))
   (au (ba jI))),?_]
 obtain⟨e,a,i,j,rfl,⟨g,k,l⟩,B,q⟩:=h;exists _,rfl,_,rfl,_,rfl,_,rfl,e,a,i,j,rfl,g,k,l,B;have x:=T.q_NoCorner.cls;refine#[T.q_NoCorner.obj,true,T.m_NoCorner_MapError,bF ?_];exists _,rfl,x,false,jo T.z_NoCorner_Alike (jo T.z_NoCorner_Bridge (jo T.z_NoCorner_NoRing (jo T.z_NoCorner_NotFilled (jo T.z_NoCorner_NotPlane (jo T.z_NoCorner_Odd (jo T.z_NoCorner_Shared (jo T.z_NoCorner_TooFew (jo T.z_NoCorner_TooMany rfl)))))))),trivial;exact#[_,rfl,x,_,T.z_NoCorner_NoCorner,_,rfl,bF #[_,rfl,x,_,T.z_NoCorner_ValueError,_,rfl,bF #[_,rfl,_,rfl,q]]]
variable {P:Program} {w:World} {mg:Str->Option Value} {base:Heap} {Z:DC} (T:Txt Z mg)
def tM(p q:Nat):Nat×Nat:=(min p q,max p q)
def tU(w:W)(p:Nat):List (Nat×Nat):=(aJ p).flatMap λp=>(row w p).map λq=>tM p q
theorem Em(w:W)(p:Nat):tU w (p+1)=tU w p++(row w p).map λq=>tM p q:=by
 unfold tU;rw[abx,abG];simp
theorem BR{w:W}(g:Good w)(a:w.length<=14):∀p,p<=w.length->(tU w p).length<=14*p
 |0,_=>bJ _
 |p+1,h=>by
  have:=BR g a p (by lia)
  have:=cL g p
  rw[Em,dJ,aH];lia
theorem OM{w:W}:t∈tU w p↔∃a b,a<p/\b∈row w a/\t=tM a b:=by
 unfold tU;rw[zX]
 constructor
 .rintro⟨x,c,h⟩
  obtain⟨y,d,rfl⟩:=bL.mp h;exact#[x,y,fF.mp c,d,rfl]
 .rintro⟨a,b,e,f,rfl⟩
  exact#[a,fF.mpr e,bL.mpr #[b,f,rfl]]
def uI(a:List (Nat×Nat))(x:Nat×Nat):List (Nat×Nat):=if x∈a then a else a++ [x]
theorem Dg:∀(l a:List (Nat×Nat)),(l.map zz).foldl k6 (a.map zz)=(l.foldl uI a).map zz
 | [],a=>rfl
 |x::l,a=>by
  rw[bV,tw,tw,<-Dg l]
  congr 1
  unfold k6 uI
  by_cases h:x∈a
  .rw[tz h,tz (mz.mpr h)]
  .rw[mo h,mo (λz=>h (mz.mp z)),df];rfl
theorem tX:∀(l a:List (Nat×Nat))(x:Nat×Nat),x∈l.foldl uI a↔x∈a\/x∈l
 | [],a,x=>by simp
 |y::l,a,x=>by
  rw[tw,tX l,cV];unfold uI
  split
  .next h=>exact#[λz=>z.elim .inl λz=> .inr (.inr z),λz=>z.elim .inl λz=>z.elim (λe=> .inl (e▸h)) .inr]
  .rw[cU,dF,or_assoc]
theorem nS:∀(l c:List (Nat×Nat)),c.Nodup->(l.foldl uI c).Nodup
 | [],_,h=>h
 |p::d,c,h=>nS d _ (by
  unfold uI
  split
  .exact h
  .next e=>exact ic.mpr #[h,by simp,λa f b g z=>e (by rw[<-dF.mp g,<-z];exact f)])
theorem II(l:List (Nat×Nat)):(l.foldl uI []).length<=l.length:=aR (nS l [] f7) λx a=>((tX l [] x).mp a).elim (λz=>nomatch z) id
theorem DM{w:W}:t∈fW (row w) w.length↔t.1<t.2/\t.2∈row w t.1:=by
 unfold fW;rw[zX]
 constructor
 .rintro⟨x,d,h⟩
  obtain⟨y,c,rfl⟩:=bL.mp h;obtain⟨b,a⟩:=yg.mp c;exact#[KB a,b]
 .exact λ#[b,a]=>#[t.1,fF.mpr (b8 a),bL.mpr #[t.2,yg.mpr #[a,FM b],rfl]]
theorem Gn{w:W}(g:Good w):t∈tU w w.length↔t∈fW (row w) w.length:=by
 rw[OM,DM]
 constructor
 .rintro⟨a,b,_,d,rfl⟩
  have ne:a≠b:=λz=>by subst z;exact g.irr _ d
  unfold tM
  rcases Nat.lt_or_ge a b with c|c
  .rw[Nat.min_eq_left (by lia),Nat.max_eq_right (by lia)];exact#[c,d]
  .rw[Nat.min_eq_right (by lia),Nat.max_eq_left (by lia)];exact#[by show b<a;lia,g.sym _ _ d]
 .rintro⟨e,d⟩
  exists t.1,t.2,b8 d,d;unfold tM;rw[Nat.min_eq_left (by lia),Nat.max_eq_right (by lia)]
theorem HU{w:W}(h:Q (.int (w.length:Int))):Cr [aP w] Q:=by
 have e:(w.map aq).length=w.length:=aH _;show Q (.int ((w.map aq).length:Int));rw[e];exact h
theorem En{w:W}(g:Good w):(fW (row w) w.length).Nodup:=by
 unfold fW;refine uM abn (λa _=>Br ((g.nod a).filter _) λx _ y _ e=>(aaH e).2) λa _ b _ x c d=>?_;obtain⟨_,_,rfl⟩:=bL.mp c;obtain⟨_,_,e⟩:=bL.mp d;exact(aaH e).1.symm
def WW:cI:=λa P=>∃(w:W),a= [.fj w,aP w]/\Good w/\1<=w.length/\w.length<=14/\P (.bl true)
theorem DR:FnOk P w Z.K mg base cw 3 T.d__law_is.f T.d__law_is.fd ["_law_web","_law_turns_here"] (bh Z WW):=by
 have o:=uQ.nd;refine bC T.d__law_is.F uQ [0,0,1,0,0,0,0] (by decide) (λQ R h=>by obtain⟨_,rfl,_⟩:=h;rfl) (λbo A outer s H E Q R n h=>?_)
 have r:=n.units
 refine#[_,(ao (gu 2 o (gU ag))
   (ao (cD rfl GT (eY rfl T.B.enumerate (ae (aa 1) ag)) (fP 2 rfl (aX (aQ 3 o) (aX (aQ 4 o) cX))) (au (cD rfl GT (eY rfl T.B.enumerate (ae (aa 4) ag)) (fP 2 rfl (aX (aQ 5 o) (aX (aQ 6 o) cX))) (ao (pq false 2 (eB (ae (aB (J8 rfl) rfl T.B.min ND (ae (aa 3) (ae (aa 6) ag))) (ae (aB (CA rfl) rfl T.B.max GL (ae (aa 3) (ae (aa 6) ag))) ag))))
   (au (bM (DW.dt (i3 (bb Md (kW T.W (aa 0) T.m_tied.m (lV T) (n.mono (by decide)) T.m_tied.b (ae (aa 3) (ae (aa 6) ag))) jI (bg _)) (iJ (bb (w9 r) (kW T.W (aa 0) T.m_behind.m (jQ T) (n.mono (by decide)) T.m_behind.b (ae (aa 3) (ae (aa 6) ag))) (aF (aa 4) (aC bQ (aC cR (aa 5) ax) (aB aZ rfl T.B.len aY (ae (aa 4) ag)))) (bg _))))) (au (ba jI)) aS))))))
   (au (ba (kj (pj (fI r) (gI T.W (aa 0) T.m_many.m (sh T) (n.mono (by decide)) T.m_many.b) (aB aZ rfl T.B.len aY (ae (aa 1) ag)) (bg _)) (kj (pj (fI r) (gI T.W (aa 0) T.m_turns.m ((fJ T).imp F9) (n.mono (by decide)) T.m_turns.b) (aa 1) (bg _)) (rk (pj (fI r) (gI T.W (aa 0) T.m_ties.m (lW T) (n.mono (by decide)) T.m_ties.b) (aB (E2 rfl) rfl T.B.sorted jF (ae (jJ (J9 rfl r) rfl T.x_set NF (ae (aa 2) ag)) ag)) (bg _))))))))),?_]
 obtain⟨a,rfl,g,h1,u,q⟩:=h;have S:(a.map aq).length=a.length:=aH _;refine#[by show 0<=sizeLine;decide,?_]
 exists _,rfl;refine bN (λj k=>∃(G I d i:Option D),k= [some (.fj a),some (aP a),some (.lst ((tU a j).map pairD)),G,I,d,i]) #[_,_,_,_,rfl] ?_ ?_
 .rintro p _ _ U ⟨G,I,d,i,rfl⟩ A X
  obtain⟨Y,rfl⟩:=sT U;have tl:=BR g u p (by lia)
  have rl:=cL g p;exists rfl,rfl;exists _,rfl;refine bN (λm k=>∃(d i:Option D),k= [some (.fj a),some (aP a),some (.lst ((tU a p++((row a p).take m).map λq=>tM p q).map pairD)),some (af p),some (aq (row a p)),d,i]) #[_,_,by rw[u9,uy,f6];rfl] ?_ ?_
  .rintro m _ _ J ⟨d,i,rfl⟩ A2 RL
   obtain⟨y,hy,rfl⟩:=lK J;obtain⟨c,v,rfl⟩:=cK hy;have ml:=(c9.mp v).1;have C:=gb v;have ur:(row a p).take (m+1)=(row a p).take m++ [c]:=by rw[xW,v];rfl
   exists rfl,rfl;refine#[_,rfl,_,rfl,_,rfl,_,_,rfl,_,rfl,_,rfl,_,_,rfl,by show 2<=sizeLine;decide,trivial,eW (by rw[aH,dJ,aH,ik];lia),?_]
   have ep:(D.tup [.int (if (c:Int)<(p:Int) then(c:Int) else(p:Int)), .int (if (c:Int)>(p:Int) then(c:Int) else(p:Int))])=pairD (tM p c):=by
    unfold pairD tM;dsimp only
    congr 2
    .congr 1
     split<;>lia
    .congr 2
     split<;>lia
   have e2:(tU a p++((row a p).take (m+1)).map λq=>tM p q).map pairD=(tU a p++((row a p).take m).map λq=>tM p q).map pairD++ [pairD (tM p c)]:=by rw[ur,df (f:=λq=>tM p q),<-j1,df (f:=pairD) (l₁:=tU a p++_)];rfl
   have wZ:∀k,k= [some (.fj a),some (aP a),some (.lst ((tU a p++((row a p).take m).map λq=>tM p q).map pairD++ [.tup [.int (if (c:Int)<(p:Int) then(c:Int) else(p:Int)), .int (if (c:Int)>(p:Int) then(c:Int) else(p:Int))]])),some (af p),some (aq (row a p)),some (af m),some (af c)]->A2 k:=λk IH=>RL _ #[some (af m),some (af c),by rw[IH,ep,e2]]
   have L:((row a p).map af).length=(row a p).length:=aH _;have r0:0<(row a p).length:=by lia
   have ix:(row a p).idxOf c=m:=by
    have nr:=g.nod p;obtain⟨_,e⟩:=c9.mp v;rw[<-e];exact nr.idxOf_getElem m ml
   have M:=mm C;rw[ix] at M
   have ea:dZ ((row a p).map af) (((m:Int)+1)%(((row a p).map af).length:Int))=some (af (h8 (row a p) c)):=by
    rw[L,show(m:Int)+1=((m+1:Nat):Int) by lia,<-aca]
    exact cC (by rw[cc,M];rfl)
   exists _,rfl,a,rfl,_,rfl,_,rfl,a,p,c,rfl,g,Y,g.rng _ _ C;rw[FM C];refine#[_,rfl,bY ?_];exists _,rfl,a,rfl,_,rfl,_,rfl,a,p,c,rfl,g,C;refine#[_,rfl,_,rfl,_,rfl,(by rw[L];show(0:Int)<_;lia),_,ea,?_]
   refine(?_:Ak (.int (h8 (row a p) c:Int)) (.int (h8 (row a p) c:Int)) _);refine CD #[_,rfl,?_];rw[FM rfl];exact bY (wZ _ rfl)
  .rintro _ ⟨d,i,rfl⟩
   exact X _ #[some (af p),some (aq (row a p)),d,i,by rw[gB,aH,xV,Em]]
 .rintro _ ⟨G,I,d,i,rfl⟩
  rw[gB,S];exists _,rfl,a,rfl,a,rfl,_,rfl;dsimp only[pV];refine HU (jH #[_,rfl,?_]);rw[FM rfl];refine bF ?_;refine#[_,rfl,a,rfl,a,rfl,u,_,rfl,wj #[_,rfl,?_]];rw[FM rfl];refine bF ?_;refine#[_,rfl,a,rfl,a,rfl,g,u,λts N qI=>?_];have tl:=BR g u a.length (bJ _);have il:=II (tU a a.length);refine#[_,rfl,(tU a a.length).map zz,by rw[dH];rfl,by rw[aH];lia,?_]
  refine#[(tU a a.length).foldl uI [],IR (λl=> [D.x (.mF (cG w) l)]) (Dg (tU a a.length) []),by lia,λms O HC=>?_]
  refine E3 ?_;have qC:=nS (tU a a.length) [] f7;have nt:=En g
  rw[FM (IT qI HC (N.nodup_iff.mpr nt) (O.nodup_iff.mpr qC) λt=>by
   rw[N.mem_iff,O.mem_iff,tX,<-Gn g];exact#[.inr,λz=>z.elim (λz=>nomatch z) id])]
  exact q
end EM
namespace L2
open PySem PySem.Spec PyProof.Rows
def iq(K:ac)(x:Str)(st:Stmt):Prop:=∃(d:Addr)(b c:Option Addr)(e:Array (Option Value))(f kV g h a i:Value),Nw K x d/\Cb K x x st d b c e f kV g h a i/\bj K a x=true/\aA K (.ref d)=true
def EO(K:ac)(C:Addr)(m a:Str)(st:Stmt):Prop:=∃(d:Addr)(c e:Option Addr)(f:Array (Option Value))(g kV h i b j:Value),ad K (.ref C) m=some (some (.ref d))/\ce K (.ref d)=true/\Cb K m a st d c e f g kV h i b j/\bj K b a=true/\aA K (.ref d)=true
abbrev pP(K:ac)(x:Str):Prop:=bc K mainGlobals x=some none
section
variable {K:ac} {h:Heap} {mg:Str->Option Value}
theorem Yt{x:Str}{st:Stmt}{d:Addr}{e f:Option Addr}{g:Array (Option Value)}{i kV j m b n:Value}(a:Nw K x d)(l:Cb K x x st d e f g i kV j m b n)(c:bj K b x=true)(k:aA K (.ref d)=true):iq K x st:=#[_,_,_,_,_,_,_,_,_,_,a,l,c,k]
theorem mfH{C:Addr}{m b:Str}{st:Stmt}{d:Addr}{g i:Option Addr}{j:Array (Option Value)}{n kV o p e q:Value}(a:ad K (.ref C) m=some (some (.ref d)))(f:ce K (.ref d)=true)(l:Cb K m b st d g i j n kV o p e q)(c:bj K e b=true)(k:aA K (.ref d)=true):EO K C m b st:=#[_,_,_,_,_,_,_,_,_,_,a,f,l,c,k]
noncomputable def fG.ch{x:Str}{st:Stmt}{d:List Str}(X:K.In h)(G:h.Ns mainGlobals mg)(e:iq K x st)
  (b:∀(kV f i:Value)(j:Option Addr)(m n:Value)(g:List Value),g.length=d.length->bindArgs (bp x x (gT st) (dA st) (av st) .none kV f i j m n) #[g,[]]=pure (d.zip g)):fG K mg x st d:=
 Classical.choice (by
  obtain⟨_,_,_,_,_,_,_,_,_,_,a,l,c,k⟩:=e;exact#[.of X G a l c k b])
noncomputable def z0.ch{Z:DC}{m d:Str}{st:Stmt}{g:List Str}(e:EO Z.K Z.C m d st)
  (b:∀(kV i n:Value)(o:Option Addr)(p q:Value)(j:List Value),j.length=g.length->bindArgs (bp m d (gT st) (dA st) (av st) .none kV i n o p q) #[j,[]]=pure (g.zip j)):z0 Z m d st g:=
 Classical.choice (by
  obtain⟨_,_,_,_,_,_,_,_,_,_,a,f,l,c,k⟩:=e;exact#[.of a f l c k b])
end
end L2
namespace EM
open PySem L2 Wb
variable {P:Program} {w:World} {mg:Str->Option Value} {base:Heap} {Z:DC} (T:Txt Z mg)
theorem OT:FnOk P w Z.K mg base cw 8 T.d_law.f T.d_law.fd ["_law_script"] (bh Z HA):=by
 have e:=Hz.nd;refine bC T.d_law.F Hz [0,2,0,0,0,0,0,0,0] (by decide) (λds R h=>by obtain⟨_,rfl,_⟩:=h;rfl) (λbo A outer s H E ds R d h=>?_)
 have M:=d.units
 refine#[_,(ao (gu 1 e (gJ T.d__law_turns (vo T) d (ae (aa 0) ag)))
   (ao (bM (bb (fI M) (aC bQ (aC fR (aD T.d__law_cell_at (eO T) d (ae (aa 0) (ae ax ag))) ax) ax) ax (bg _)) (au (NW 1 T.d__law_bent (Mh T) d (aC fR (aD T.d__law_cell_at (eO T) d (ae (aa 0) (ae ax ag))) ax))) aS)
   (nz 1
   (ao (aL false 2 e (wq T.mkW (iC T) (d.mono (by decide)) rfl T.mC T.m___init__b (ae (Ap (NC:= ["_law_row_here"]) (src:= [none]) rfl (wd (av BE)) trivial (bX (aa 1)) (λ_ _ _=>(c7 0 (show(["_law_row_here"]:List Str).Nodup from by decide+kernel))) (λ_ _ _=>gk) (λ_ _ _=>(jJ qZ rfl T.B.list qT (ae (aa 0) ag)))) ag)))
   (ao (cD rfl GT (bX (aD T.d__law_row (lX T) d (ae (aa 0) (ae ax (ae ax (ae ax ag)))))) (aQ 3 e) (ao (GZ (aD T.d__law_asked (xb T) d (ae (aa 1) (ae (aa 3) ag))) (fP 3 rfl (aX (aQ 4 e) (aX (aQ 5 e) (aX (aQ 6 e) cX)))))
   (ao (aL false 7 e (aD T.d__law_due (Bw T) d (ae (aa 1) (ae (aa 4) (ae (aa 5) (ae (aa 6) ag))))))
   (au (bM (bb w6 (aa 7) fO (bg _)) (au (bM (dB (eD (aD T.d__law_refused (ue T) d (ae (aa 2) (ae (aa 4) (ae (aa 5) (ae (aa 6) ag))))))) (au (ba jI)) aS)) (ao (aL false 8 e (aD T.d_put_in (FT T) d (ae (aa 2) (ae (aa 4) (ae (aa 5) (ae (aa 6) ag))))))
   (ao (bM (DW.dt (i3 (dB (eD (Ic T.W T.iW (aa 8) rfl T.B.isinstance rfl T.mC))) (i3 (dB (eD (aD T.d__law_is (DR T) d (ae (aa 8) (ae (aa 7) ag))))) (iJ (bb (w9 M) (gI T.W (aa 2) T.m_turns.m ((fJ T).imp F9) (d.mono (by decide)) T.m_turns.b) (aa 1) (bg _)))))) (au (ba jI)) aS)
   (au (bM (bb (fI M) (aC bQ (aB aZ rfl T.B.len aY (ae (aD T.d__law_lands (g8 T) d (ae (aa 1) ag)) ag)) ax) (aC bQ (aa 3) ax) (bg _)) (ao (aL false 2 e (aa 8))
   (au (aL false 1 e (aa 7)))) aS)))))))))
   (au (ba (pj (fI M) (gI T.W (aa 2) T.m_turns.m ((fJ T).imp F9) (d.mono (by decide)) T.m_turns.b) (aa 1) (bg _))))))))),?_]
 obtain⟨l,rfl,AQ,q⟩:=h;refine#[_,rfl,l,rfl,λN O=>#[_,rfl,?_]];have Q:N≠ []:=λz=>by have:=O.2.1;rw[z] at this;exact absurd this (by decide)
 refine#[_,rfl,l,0,rfl,λy=>#[#[by decide,by decide],(by show(0:Int)<3;decide),CP #[_,rfl,br (λ_=>#[N,rfl,Q,_,rfl,l,0,rfl,λy2=>#[#[by decide,by decide],_,rfl,O,λv ok=>?_]]) (λ_=>?_)]]]
 rotate_left
 .clear Q
  revert N
  intro v ok;obtain⟨g,n,o⟩:=ok;exists #[_,rfl];refine#[_,rfl,ko (ρ:= [none]) aq aq v _ (λy hy Y h=>#[_,rfl,h]) rfl (small (by lia)) λaE=>?_]
  exists v,rfl,g,n,o,trivial;refine#[_,rfl,l,3,4,1296000,rfl,by decide,by decide,by decide,by decide,λxs xl x0=>?_]
  refine bN (λj ρ=>∃(v:W)(p t u G I J:Option D),ρ= [some (.jY l),some (aP v),some (.fj v),p,t,u,G,I,J]/\gz v) #[v,_,_,_,_,_,_,rfl,g,n,o] ?_ ?_
  .clear g n o v
   rintro j _ _ S ⟨v,p,t,u,G,I,J,rfl,ok⟩ A L;obtain⟨x,hx,rfl⟩:=cK S;refine#[_,rfl,_,rfl,v,x,rfl,ok,λc i k=>#[rfl,rfl,?_]];refine#[_,rfl,_,rfl,_,rfl,_,rfl,v,c,i,k,rfl,ok,λB=>#[trivial,?_],λU a b r X e2 e3 C=>#[trivial,?_]]
   .refine#[_,rfl,_,rfl,bF ?_]
    refine#[_,rfl,_,rfl,_,rfl,_,rfl,v,c,i,k,rfl,ok,B,rfl,bY ?_];exact L _ #[v,_,_,_,_,_,_,rfl,ok]
   .subst X e2 e3
    have tok:=C.ok ok.1 ok.2.2;refine#[_,rfl,_,rfl,bY ?_];exists _,rfl,_,rfl,_,rfl,_,rfl,v,U,a,b,r,rfl,ok.1,ok.2.2,C,trivial;refine#[_,rfl,_,rfl,rfl,bY ?_];refine#[_,rfl,_,rfl,p9 v r a b,rfl,tok.1,tok.2.1,tok.2.2,rfl,bY ?_];refine#[_,rfl,v,rfl,v,rfl,ok.2.2,_,rfl,CF #[_,rfl,?_]];rw[FM rfl];refine bY ?_;refine#[_,rfl,v,rfl,ok.1,ok.2.1,ok.2.2,λrs r0 r1 _ _ _=>?_];refine#[(by show(0:Int)<2;decide),_,rfl,(by show(0:Int)<2;decide),?_]
    refine(?_:tN (.int (((rs.map aq).length:Int)%2)) (.int (x%2)) _);exact jH #[_,rfl,br (λ_=>#[_,rfl,trivial,_,rfl,trivial,L _ #[p9 v r a b,_,_,_,_,_,_,rfl,tok]]) (λ_=>L _ #[v,_,_,_,_,_,_,rfl,ok])]
  .rintro _ ⟨v,p,t,u,G,I,J,rfl,ok⟩
   exact#[_,rfl,v,rfl,v,rfl,ok.2.2,_,rfl,wj (by rw[FM rfl];exact q)]
 .clear Q O
  obtain⟨g,n,o⟩:=ok;exists #[_,rfl];refine#[_,rfl,ko (ρ:= [none]) aq aq v _ (λy hy Y h=>#[_,rfl,h]) rfl (small (by lia)) λaE=>?_]
  exists v,rfl,g,n,o,trivial;refine#[_,rfl,l,3,4,1296000,rfl,by decide,by decide,by decide,by decide,λxs xl x0=>?_]
  refine bN (λj ρ=>∃(v:W)(p t u G I J:Option D),ρ= [some (.jY l),some (aP v),some (.fj v),p,t,u,G,I,J]/\gz v) #[v,_,_,_,_,_,_,rfl,g,n,o] ?_ ?_
  .clear g n o v
   rintro j _ _ S ⟨v,p,t,u,G,I,J,rfl,ok⟩ A L;obtain⟨x,hx,rfl⟩:=cK S;refine#[_,rfl,_,rfl,v,x,rfl,ok,λc i k=>#[rfl,rfl,?_]];refine#[_,rfl,_,rfl,_,rfl,_,rfl,v,c,i,k,rfl,ok,λB=>#[trivial,?_],λU a b r X e2 e3 C=>#[trivial,?_]]
   .refine#[_,rfl,_,rfl,bF ?_]
    refine#[_,rfl,_,rfl,_,rfl,_,rfl,v,c,i,k,rfl,ok,B,rfl,bY ?_];exact L _ #[v,_,_,_,_,_,_,rfl,ok]
   .subst X e2 e3
    have tok:=C.ok ok.1 ok.2.2;refine#[_,rfl,_,rfl,bY ?_];exists _,rfl,_,rfl,_,rfl,_,rfl,v,U,a,b,r,rfl,ok.1,ok.2.2,C,trivial;refine#[_,rfl,_,rfl,rfl,bY ?_];refine#[_,rfl,_,rfl,p9 v r a b,rfl,tok.1,tok.2.1,tok.2.2,rfl,bY ?_];refine#[_,rfl,v,rfl,v,rfl,ok.2.2,_,rfl,CF #[_,rfl,?_]];rw[FM rfl];refine bY ?_;refine#[_,rfl,v,rfl,ok.1,ok.2.1,ok.2.2,λrs r0 r1 _ _ _=>?_];refine#[(by show(0:Int)<2;decide),_,rfl,(by show(0:Int)<2;decide),?_]
    refine(?_:tN (.int (((rs.map aq).length:Int)%2)) (.int (x%2)) _);exact jH #[_,rfl,br (λ_=>#[_,rfl,trivial,_,rfl,trivial,L _ #[p9 v r a b,_,_,_,_,_,_,rfl,tok]]) (λ_=>L _ #[v,_,_,_,_,_,_,rfl,ok])]
  .rintro _ ⟨v,p,t,u,G,I,J,rfl,ok⟩
   exact#[_,rfl,v,rfl,v,rfl,ok.2.2,_,rfl,wj (by rw[FM rfl];exact q)]
set_option hygiene false in
local macro_rules| `(tactic|and_intros)=> `(tactic| (intro _ _ _ _ _ _ _ hl;first| (obtain⟨_,rfl⟩:=L2.Qu hl;rfl) | (obtain⟨_,_,rfl⟩:=L2.Qv hl;rfl) | (obtain⟨_,_,_,rfl⟩:=L2.Qw hl;rfl) | (obtain⟨_,_,_,_,rfl⟩:=L2.Wh hl;rfl) | (obtain⟨_,_,_,_,_,rfl⟩:=L2.aal hl;rfl)))
theorem all_mk{l:cM}{w:World}(X:K.In h)(G:h.Ns mainGlobals c)(Zk:c "law"=some (.ref I)) 
  
  
  
  
  
  
  
  
  
  
  
  
  
  
  
  (gC:bc K mainGlobals "Web"=some (some (.ref C)))
  (a0:iq K "round_from" kR)
  (a1:iq K "lands" oE)
  (a2:iq K "is_among" oz)
  (a3:iq K "alien_fault" jU)
  (a4:iq K "self_fault" kS)
  (a5:iq K "twice_fault" jX)
  (a6:iq K "lone_fault" kP)
  (a7:iq K "reached_from_first" dj)
  (a8:iq K "apart_fault" jV)
  (a9:iq K "first_fault" jW)
  (XJ:iq K "put_behind" kQ)
  (XM:iq K "put_in" uq)
  (XO:iq K "_law_cell_at" i8)
  (XQ:iq K "_law_row" ot)
  (XR:iq K "_law_lands" kN)
  (XS:iq K "_law_behind" jT)
  (XT:iq K "_law_corner" hZ)
  (XU:iq K "_law_deed" l7)
  (XW:iq K "_law_named" gr)
  (XX:iq K "_law_turns" kO)
  (XY:iq K "_law_bent" l6)
  (XZ:iq K "_law_due" kA)
  (X0:iq K "_law_refused" i9)
  (Ya:iq K "_law_is" qG)
  (Yb:iq K "_law_asked" kM)
  (U:Nw K "law" f)
  (r:Cb K "law" "law" BE f Wx Ur WT Ww Wd UX WC M UB)
  (Yd:bj K M "law"=true)
  (t:aA K (.ref f)=true)
  (m0:ad K (.ref C) "__init__"=some (some (.ref d)))
  (f0:ce K (.ref d)=true)
  (u:Cb K "__init__" "Web.__init__" fg d Z1 Z4 Z7 Z0 Z2 Z5 Z6 N Z8)
  (x:bj K N "Web.__init__"=true)
  (y:aA K (.ref d)=true)
  (m1:EO K C "many" "Web.many" om)
  (m2:EO K C "turns" "Web.turns" jr)
  (m3:EO K C "ties" "Web.ties" kv)
  (m4:EO K C "tied" "Web.tied" oq)
  (m5:EO K C "behind" "Web.behind" kL)
  (z:cm K C Str.empty=true)
  (Oe:b5 K C=true)
  (A:da K C=true)
  (B:ad K (.ref C) "__setattr__"=some (some (.builtin "object.__setattr__")))
  (E:dg K C=true)
  (F:aA K (.ref C)=true)
  (nR:ad K (.ref C) "rows"=some none)
  (xn:bP K (.builtin "object.__class__") "__get__"=some (some (.builtin "getset_descriptor.__get__")))
  (xt:cq K (.builtin "object.__class__")=some true)
  (H:bc K mainGlobals "ValueError"=some none)
  (Az:bc K mainGlobals "MapError"=some (some (.ref b)))
  (CZ:bc K mainGlobals "TooMany"=some (some (.ref g)))
  (AB:bc K mainGlobals "NotPlane"=some (some (.ref i)))
  (AA:bc K mainGlobals "NoCorner"=some (some (.ref a)))
  (Fj:bc K mainGlobals "NoRing"=some (some (.ref j)))
  (Ip:bc K mainGlobals "Alike"=some (some (.ref k)))
  (Fm:bc K mainGlobals "TooFew"=some (some (.ref m)))
  (yz:bc K mainGlobals "NotFilled"=some (some (.ref n)))
  (N9:bc K mainGlobals "Odd"=some (some (.ref o)))
  (Fi:bc K mainGlobals "Bridge"=some (some (.ref p)))
  (Fl:bc K mainGlobals "Shared"=some (some (.ref q)))
  (AG:b5 K b=true)
  (Ay:ad K (.ref b) "__getattribute__"=some (some (.builtin "BaseException.__getattribute__")))
  (AD:ad K (.ref b) "__getattr__"=some none)
  (BF:ad K (.ref b) "__setattr__"=some (some (.builtin "object.__setattr__")))
  (Af:ad K (.ref b) "__class__"=some (some (.builtin "object.__class__")))
  (Ai:d7 K b=some O)
  (Ag:O.mro= .ref b:: [.type "ValueError", .type "Exception", .type "BaseException", .type "object"])
  (Bk:K.lookup b=some (excClassObj Bp q_MapError b Cd z7 Q wD BI yP z4 yv An A0 A3 A5 A7 A9 "ValueError.__new__"))
  (Ac:Q= [.type "ValueError", .type "Exception", .type "BaseException", .type "object"])
  (Y:b5 K a=true)
  (rJ:ad K (.ref a) "__getattribute__"=some (some (.builtin "BaseException.__getattribute__")))
  (rK:ad K (.ref a) "__getattr__"=some none)
  (sF:ad K (.ref a) "__setattr__"=some (some (.builtin "object.__setattr__")))
  (rf:ad K (.ref a) "__class__"=some (some (.builtin "object.__class__")))
  (rh:d7 K a=some R)
  (rg:R.mro= .ref a:: [.ref b, .type "ValueError", .type "Exception", .type "BaseException", .type "object"])
  (r6:K.lookup a=some (excClassObj Bq q_NoCorner a Ce z8 S wF BJ yQ z5 yw Ao A1 A4 A6 A8 Ba "ValueError.__new__"))
  (qW:S= [.ref b, .type "ValueError", .type "Exception", .type "BaseException", .type "object"])
  (z9:bP K (.ref a) "__call__"=some (some (.builtin "type.__call__")))
  (BS:PySem.W.instIn K (.ref a) (.type "type")=some true)
  (AY:ad K (.ref a) "__init__"=some (some (.builtin "ValueError.__init__")))
  (Bb:aA K (.ref a)=true)
  (z_NoCorner_TooMany:ak K (.ref a) (.ref g)=some false)
  (z_NoCorner_NotPlane:ak K (.ref a) (.ref i)=some false)
  (z_NoCorner_NoRing:ak K (.ref a) (.ref j)=some false)
  (z_NoCorner_Alike:ak K (.ref a) (.ref k)=some false)
  (z_NoCorner_TooFew:ak K (.ref a) (.ref m)=some false)
  (z_NoCorner_NotFilled:ak K (.ref a) (.ref n)=some false)
  (z_NoCorner_Odd:ak K (.ref a) (.ref o)=some false)
  (z_NoCorner_Bridge:ak K (.ref a) (.ref p)=some false)
  (z_NoCorner_Shared:ak K (.ref a) (.ref q)=some false)
  (z_NoCorner_ValueError:ak K (.ref a) (.type "ValueError")=some true)
  (m_NoCorner_MapError:b6 K a (.ref b)=some true)
  (w0:ad K (.ref C) "__class__"=some (some (.builtin "object.__class__")))
  (w1:bP K (.builtin "object.__class__") "__get__"=some (some (.builtin "getset_descriptor.__get__")))
  (w2:cq K (.builtin "object.__class__")=some true)
  (w3:b6 K C (.type "object")=some true)
  (UA:bc K mainGlobals "__name__"=some (some (.str "law_mapdye_k21_put_in" L)))
  (Ye:bc K mainGlobals "MOST_POINTS"=some (some (.int 14 J)))
  (Xo:pP K "len")
  (P2:pP K "range")
  (Xp:pP K "max")
  (Xq:pP K "min")
  (EA:pP K "enumerate")
  (Xt:pP K "zip")
  (Nl:pP K "sorted")
  (Xm:pP K "all")
  (B2:pP K "isinstance")
  (Xn:pP K "int")
  (T8:pP K "bool")
  (T9:pP K "list")
  (P4:pP K "tuple")
  (Xs:pP K "sum")
  (GD:pP K "reversed")
  (Xr:pP K "set")
  :∃fd:FuncData,(∀(s:Shared)(v:Value),BindsTo s fd #[[v],[]] [("_law_script",v)])/\∀base:Heap,K.In base->base.Ns mainGlobals c->FnOk l.prog w K c base cw 40 I fd ["_law_script"] (L2.sR K):=by
 have e:=Zk.symm.trans (PP X G U);cases e;have E0:=rH (st:=fg) u x y;have e0:=E0.binds (ps:= ["self","turns"]) (by and_intros)
 let Z:DC:=#[K,C]
 let T:Txt Z c:=#[#[KF X G Xo,KF X G P2,KF X G Xp,KF X G Xq,KF X G EA,KF X G Xt,KF X G Nl,KF X G Xm,KF X G B2,KF X G Xn,KF X G T8,KF X G T9,KF X G P4,KF X G Xs,KF X G GD],KF X G Xr, .ch X G a0 (by and_intros), .ch X G a1 (by and_intros), .ch X G a2 (by and_intros), .ch X G a3 (by and_intros), .ch X G a4 (by and_intros), .ch X G a5 (by and_intros), .ch X G a6 (by and_intros), .ch X G a7 (by and_intros), .ch X G a8 (by and_intros), .ch X G a9 (by and_intros), .ch X G XJ (by and_intros), .ch X G XM (by and_intros), .ch X G XO (by and_intros), .ch X G XQ (by and_intros), .ch X G XR (by and_intros), .ch X G XS (by and_intros), .ch X G XT (by and_intros), .ch X G XU (by and_intros), .ch X G XW (by and_intros), .ch X G XX (by and_intros), .ch X G XY (by and_intros), .ch X G XZ (by and_intros), .ch X G X0 (by and_intros), .ch X G Ya (by and_intros), .ch X G Yb (by and_intros), .of X G U r Yd t (by and_intros),#[#[z,Oe,A,B],nR],PP X G gC,d,_,E0,#[E,m0,f0,F],e0, .ch m1 (by and_intros), .ch m2 (by and_intros), .ch m3 (by and_intros), .ch m4 (by and_intros), .ch m5 (by and_intros),#[w0,w1,w2,w3,by unfold ak;exact tz (ab8 _)],#[xn,xt],KF X G H,b,PP X G Az,g,PP X G CZ,i,PP X G AB,a,PP X G AA,j,PP X G Fj,k,PP X G Ip,m,PP X G Fm,n,PP X G yz,o,PP X G N9,p,PP X G Fi,q,PP X G Fl,GB AG Ay AD BF Af Ai Ag Bk Ac rfl,GB Y rJ rK sF rf rh rg r6 qW rfl,#[(GB Y rJ rK sF rf rh rg r6 qW rfl).obj,z9,BS,AY,Bb],z_NoCorner_TooMany,z_NoCorner_NotPlane,by unfold ak;exact tz (ab8 _),z_NoCorner_NoRing,z_NoCorner_Alike,z_NoCorner_TooFew,z_NoCorner_NotFilled,z_NoCorner_Odd,z_NoCorner_Bridge,z_NoCorner_Shared,z_NoCorner_ValueError,m_NoCorner_MapError,#[L,PP X G UA],#[J,PP X G Ye]]
 exact#[_,λs v=> .of_eq rfl,λbase _ _=>(((OT (P:=l.prog) (w:=w) (base:=base) T).mono (by decide)).imp (L2.OG (Z:=Z)))]
theorem walk{l:cM}{q:Program}{a:List Str}{i:(Str->Option Value)->Heap->Prop}{c:World->Heap->Prop}{d:DefRec}{K:Params->ac}(j:l.most=some 63)(k:d.params.defaults= [])
  (m:∀(w:World)(h:Heap),c w h->(K w.params).In h)
  (F:∀(w:World)(b:Str->Option Value)(e:Addr)(h:Heap),(K w.params).In h->h.Ns mainGlobals b->b d.name=some (.ref e)->
   ∃g:FuncData,(∀(s:Shared)(u:Value),BindsTo s g #[[u],[]] [("_law_script",u)])/\∀base:Heap,(K w.params).In base->base.Ns mainGlobals b->FnOk l.prog w (K w.params) b base cw 40 e g ["_law_script"] (sR (K w.params))):
  ec q a i c l.row.toRowW d [] (λf n=>dL f n):=L2.TY 40 (by decide) j k m F
end EM
namespace PySem.W.Fast
def tw17948424318046621439:=0
def tw16499678390879787643:=0
def tw11795765394262993745:=0
def tw8951125301504329912:=0
def tw10288315439804562446:=0
def tw11266787788296850648:=0
def tw255987055841999442:=0
def tw2052022605731374726:=0
def tw9969085914060855126:=0
def tw13126232617507342718:=0
def tw5974129516024136953:=0
def tw549188098783997320:=0
def tw13208711412403052319:=0
def tw2907854807765765103:=0
def tw7393456723235678034:=0
def tw10434896048013271608:=0
def tw9580712801882356400:=0
def tw3806715718477404400:=0
def tw7277702980343475084:=0
def tw4826829758220027634:=0
def tw8278988900386295055:=0
def tw12444061868072867820:=0
def tw13826311627248290433:=0
def tw3303059298771324276:=0
def tw9543294310668617308:=0
def tw5182378268949702233:=0
def tw8717467800830336307:=0
def tw9753887268866925459:=0
def tw14355768703226829904:=0
def tw12851949075959208760:=0
def tw9655550263305898670:=0
def tw1729882918671393850:=0
def tw10067628647901493721:=0
def tw659206888975490093:=0
def tw16005116070495604192:=0
def tw16404207196365230301:=0
def tw3470413521237352531:=0
def tw10808422240461037790:=0
def tw5757378951021818543:=0
def tw15087646475224205998:=0
def tw15639799629146586106:=0
def tw10194665991092225660:=0
def tw1821761921658215398:=0
def tw16033480511430923384:=0
def tw10054306973482968471:=0
def tw15047899754612978759:=0
def tw10046427935990941513:=0
def tw13999367785265285635:=0
def tw4594360603014022307:=0
def tw15457356657830205555:=0
def tw1448639027018380686:=0
def tw15377244568919234146:=0
def tw1542741153475108552:=0
def tw16920014412289482143:=0
def tw4794754835293671206:=0
def tw14357179364666165772:=0
def tw12961542700830200649:=0
def tw9401598684916689914:=0
def tw2163392765870257455:=0
def tw16598199369877411539:=0
def tw9593835954942792512:=0
def tw3396209427975297330:=0
def tw6660142975081396845:=0
def tw11657016916564478854:=0
def tw9545086578654864114:=0
def tw6415646081943231291:=0
def tw1288430851058130296:=0
def tw15501000877913401018:=0
def tw4575833843234247619:=0
def tw7830566659749220134:=0
def tw13560078433011807148:=0
def tw11515553549025460272:=0
def tw6946812238526086017:=0
def tw2449060075789155783:=0
def tw17239835096138376361:=0
def tw6982717896869619935:=0
def tw16416444729805000045:=0
def tw3924641065951195524:=0
def tw13648306003746053559:=0
def tw6229882403182092110:=0
def tw13241394548188856668:=0
def tw12159915144306586278:=0
def tw765145705598005863:=0
def tw1556861779157111967:=0
def tw8918500400155443851:=0
def tw16836263875208402497:=0
def tw8352479989735313221:=0
def tw8045149087433801490:=0
def tw4798647028088336692:=0
def tw11225103830113708232:=0
def tw17358833786137026680:=0
def tw6196639893579725401:=0
def tw17051337934077063091:=0
def tw9106346736286739987:=0
def tw13943972759769142948:=0
def tw15967450011675240294:=0
def tw17036279993252440178:=0
def tw4101955553030254243:=0
def tw2196831639499896251:=0
def tw524896780514342896:=0
def tw11976240477378862399:=0
def tw7309053570619387867:=0
def tw2235787719410381571:=0
def tw14112443734275629807:=0
def tw562310925605169334:=0
def tw3012531872537104762:=0
def tw3081322134413688732:=0
def tw12864152206368981245:=0
def tw6106944858526549149:=0
def tw6684439347283448217:=0
def tw15854498723987404159:=0
def tw6342087929326417098:=0
def tw9716502636792602355:=0
def tw7761433796249467513:=0
def tw5531268122896491239:=0
def tw11978538520099918262:=0
def tw7045361097347325648:=0
def tw17020884247355911547:=0
def tw7370176028495182630:=0
def tw14200374720120021547:=0
def tw16987135862914223272:=0
def tw6878729782387917477:=0
def tw111938436248354181:=0
def tw10306307420070915614:=0
def tw6297623167787831563:=0
def tw4189920109183757615:=0
def tw4402324815649041720:=0
def tw15173174403085029557:=0
def tw13607740948319158187:=0
def tw8815520853961490612:=0
def tw17583529543194429833:=0
def tw12891667549743389846:=0
def tw8595015460115799085:=0
def tw15491964824335377429:=0
def tw11891182207822367190:=0
def tw17552865085600015181:=0
def tw4879099244154725721:=0
def tw6570525377917150618:=0
def tw14418485995349049720:=0
def tw10138720906479009599:=0
def tw14664635551928216927:=0
def tw920176579353852822:=0
def tw6830216632769026752:=0
def tw6535074126522007117:=0
def tw18425695018334405208:=0
def tw15172230315862603960:=0
def tw18348150855516759243:=0
def tw14256656678117355946:=0
def tw17798250418951459412:=0
def tw14616504281764723507:=0
def tw12134649521434017702:=0
def tw16483171426908416439:=0
def tw12462272368903289388:=0
def tw18175523014865591912:=0
def tw14507487287783285705:=0
def tw8800851616309690034:=0
def tw13574216600589045930:=0
def tw2970143715222590431:=0
def tw6601022139223946086:=0
def tw7520870344208126161:=0
def tw15695207032431641855:=0
def tw8135142271332645541:=0
def tw4714444034696943428:=0
def tw14450654206350733190:=0
def tw17929312069665854311:=0
def tw13674458894122393499:=0
def tw7750252036030582606:=0
def tw14861775126237263108:=0
def tw14914127911248126589:=0
def tw16664527658418517374:=0
def tw14988071249343023661:=0
def tw1173786928216393726:=0
def tw6085476034046497296:=0
def tw33742293045102782:=0
def tw305599929903517879:=0
def tw17491699383872994066:=0
def tw10486082151162309987:=0
def tw857519928276573867:=0
def tw3483336619592739515:=0
def tw4730445520336633272:=0
def tw1830486726192897907:=0
def tw9294386585620986988:=0
def tw3536193977969963662:=0
def tw14690157383899664616:=0
def tw12833311579338686489:=0
def tw18246832353365758626:=0
def tw10547242566384614107:=0
def tw8501080461816023835:=0
def tw7060191162219697314:=0
def tw1896381487097989705:=0
def tw9225852750123975624:=0
def tw17610213053836481710:=0
def tw11241163196857737581:=0
def tw5376489749046942257:=0
def tw521353011002541505:=0
def tw15287309542042683826:=0
def tw12349701011365761655:=0
def tw7314642841960138591:=0
def tw16068356599924526207:=0
def tw14867799985703846113:=0
def tw4846442500865368502:=0
def tw17164512512457702147:=0
def tw13235747658634557674:=0
def tw1512970309325036449:=0
def tw18099341045702813045:=0
def tw3487323375522962536:=0
def tw9534409454946972026:=0
def tw11900764921198085145:=0
def tw1722936397829666976:=0
def tw4696685041167832778:=0
def tw3575837069539766785:=0
def tw18106463692269850395:=0
def tw11402394183246074697:=0
def tw13411413383315338772:=0
def tw4224300281488940884:=0
def tw207302617625515937:=0
def tw1009309517107742437:=0
def tw16522389004740483371:=0
def tw205497287818339417:=0
def tw4015193028895848174:=0
def tw3455946862248045389:=0
def tw3077267923211681095:=0
def tw18040036529624819873:=0
def tw16493251148989908477:=0
def tw15471849662525045601:=0
def tw15274018653320637767:=0
def tw4010516209662669412:=0
def tw5040131704502570317:=0
def tw5395079457205312914:=0
def tw2749870334692929252:=0
def tw9751882966121348757:=0
def tw5873387541981669004:=0
def tw13349477193212862167:=0
def tw14398411832004821586:=0
def tw1427054408317191476:=0
def tw9896985952643397688:=0
def tw4865900236404755127:=0
def tw9987815241027537669:=0
def tw16881320461498985683:=0
def tw8029285175608341920:=0
def tw18383113762136077350:=0
def tw14059905327565278743:=0
def tw14739310479829845163:=0
def tw10916726532421783029:=0
def tw4302739062562659990:=0
def tw15619734239754737253:=0
def tw15724073739970522421:=0
def tw13960628816488915971:=0
def tw17438967429621296593:=0
def tw14981297639801779313:=0
def tw8053715945881500923:=0
def tw7637640729665437889:=0
def tw971820281901465996:=0
def tw1820093704770386203:=0
def tw8725577544520712830:=0
def tw17191196898733715881:=0
def tw16101953441438785803:=0
def tw13492832581800904951:=0
def tw4556841177524960775:=0
def tw3092811925807892286:=0
end PySem.W.Fast
open PySem PySem.W PyProof.Rows
set_option maxRecDepth 100000 in
set_option maxHeartbeats 0 in
theorem PySem.Challenge.cw_mapdye_k21_put_in_holds : PySem.Challenge.rw_mapdye_k21_put_in.Holds := by
 w_on;o_law;k_head;(case hw=>w_witness2)
 k_fill
 refine EM.walk (l:=PySem.Challenge.rw_mapdye_k21_put_in) rfl rfl (λw h Y=>PySem.W.kIn_of Y) ?F
 case F=>
  intro w mg fa h KX G Fu
  refine' EM.all_mk KX G Fu ?_ ?_ ?_ ?_ ?_ ?_ ?_ ?_ ?_ ?_ ?_ ?_ ?_ ?_ ?_ ?_ ?_ ?_ ?_ ?_ ?_ ?_ ?_ ?_ ?_ ?_ ?_ ?_ ?_ ?_ ?_ ?_ ?_ ?_ ?_ ?_ ?_ ?_ ?_ ?_ ?_ ?_ ?_ ?_ ?_ ?_ ?_ ?_ ?_ ?_ ?_ ?_ ?_ ?_ ?_ ?_ ?_ ?_ ?_ ?_ ?_ ?_ ?_ ?_ ?_ ?_ ?_ ?_ ?_ ?_ ?_ ?_ ?_ ?_ ?_ ?_ ?_ ?_ ?_ ?_ ?_ ?_ ?_ ?_ ?_ ?_ ?_ ?_ ?_ ?_ ?_ ?_ ?_ ?_ ?_ ?_ ?_ ?_ ?_ ?_ ?_ ?_ ?_ ?_ ?_ ?_ ?_ ?_ ?_ ?_ ?_ ?_ ?_ ?_ ?_ ?_
  all_goals (try (first| (show _=_;k_is) | (refine' L2.Yt ?_ ?_ ?_ ?_<;>(try (show _=_;k_is))) | (refine' L2.mfH ?_ ?_ ?_ ?_ ?_<;>(try (show _=_;k_is))) | (refine' L2.Xw ?_ ?_ ?_ ?_ ?_ ?_ ?_<;>first| (show _=_;k_is) |rfl) | (refine' L2.Xy ?_ ?_ ?_ ?_<;>first| (show _=_;k_is) |rfl) |rfl))


