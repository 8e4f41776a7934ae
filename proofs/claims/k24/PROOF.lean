import PyProof.Rows.All
import Wide.All
import OpenK.AllK
import Wide.FinOn
import Lean
import PyProof.EqAt
import PyProof.EqKinds
import PyProof.TupleCall
import PyProof.RaisesMany
import KE.KSortTup
import PyProof.NeKinds
import PyProof.SetKind
import PyProof.SetRoads
import PyProof.SetNew
import PyProof.WalksS
import PyProof.CollectWalk
import PyProof.TupleKey
import PyProof.IsRules
import PyProof.InstEq
import KE.KRevIter
import PyProof.FitsBits
import PyProof.P3Eq
import PyProof.ListRange
import PyProof.RulesAs
import PyProof.NsDelKeeps
import PyProof.PassesOwn
import PyProof.FString
import PyProof.MeetsSeq
import PyProof.DictRoadsH
import PyProof.DictTruth
import PyProof.MinMaxWalk
import PyProof.Rows.SetFrom
import PySem.Challenge.RW_mapdye_k24_not_filled
local macro_rules|`(tactic|subst_eqs)=>`(tactic|first|exact Or.inl rfl|exact Or.inr rfl|exact Or.inr (Or.inl rfl)|exact Or.inr (Or.inr rfl)|assumption)
local macro_rules|`(tactic|bv_omega)=>`(tactic|exact ⟨rfl,rfl,rfl,by decide+kernel,rfl,by decide+kernel,by decide+kernel⟩)
local macro_rules|`(#[$x,$y,*])=>`(⟨$x,$y,*⟩)
local macro_rules|`(#[$x])=>`(⟨$x⟩)
local macro_rules|`(tactic|exists $x,*)=>`(tactic|refine⟨$x,* ,?_⟩)
open PySem.W renaming Frag→ac,kitOne→ad,findIn→ak,keepIn→aA,specialIn→aW,codeIn→bc,nsIn→bd,hasDictIn→bi,emptyDict→bj,mroIn→bv,isFn→bw,fnOf→b4,instObj→b5,plainGet→ce,clsIn→cm,OpenLaw→cq,lookIn→cr,instIn→cu,plainOver→cv,methodObj→cP,takesIn→cS,takerIn→cY,readsIn→da,makesIn→db,findCls→dc,WalkO→dV
open List renaming replicate→am,range→aM,lookup→aP,length→b6,Nodup→cR
open PySem renaming Spec→bp,Within→cb,SetTable→dy,call→dL
open Array renaming replicate→dn
abbrev mo:=@if_neg
abbrev tz:=@if_pos
abbrev GE:=@congrArg
abbrev GT:=@decide_eq_false
abbrev IR:=@decide_eq_true
abbrev KM:=@of_decide_eq_true
abbrev M2:=@of_decide_eq_false
abbrev Os:=@if_false
abbrev aaq:=@beq_eq_false_iff_ne
abbrev aat:=@beq_iff_eq
abbrev aax:=@if_true
abbrev aaJ:=@getElem?_pos
abbrev aaO:=@beq_self_eq_true
abbrev abd:=@decide_eq_decide
abbrev abW:=@bne_self_eq_false
open PySem renaming wpAny_bind→ir,wpAny_pure→AC,wpAny_holding→On,wpAny_truthy_bool→SL,wpAny_Call_Name_kw→UV,wpAny_newObj_type→Wp,wpAny_loadPart_at→W1,wpAny_isSubtype_exc→aar,wpAny_standAt→aas,wpAny_call_entry→aav,mem_of_lookup→aaw,wpAny_call→aay,codeAny_mono→aaz,wpAny_passesOwn→aaB,wpAny_setState_of→aaD,call_meets→aaG,sizeLine_eq→aaH,wpAny_rule→aaL,codeAny_call_builtin→aaN,wpAny_field→aaP,wpAny_comprehension_free→aaV,wpAny_Call_method_late→aa5,wpAny_newList→aa8,plainObj_wpAny_Assign_Attribute→abi,wpAny_execs_nil→abk,codeAny_of_tree→abq,codeAny_builtin→abw,wpAny_loadPart→abD,wpAny_of_eq→abK,wpAny_attempt→abS,wpAny_pyIter_list→abV,wpAny_lookBehind→ab2,pastItsLine_dict→ab3,wpAny_forIn_list→acd,codeAny_compStart_list→acy,wpAny_setField→acF,plainId_quiet→acH,wpAny_nsSet1→acI,codeAny_loop→acJ
open PySem.Heap renaming get?_push_of_some→Da,lt_size→FB,get?_push_size→GM,get?_update_other→SC,get?_update_self→SZ,get?_update_ne→aaF,size_update→aaM,size_push→aa1,get?_push_ne→aa4
open PyProof.Rows renaming wpS_bind→Do,wpS_pure→FM,wpS_mono→PP,wpS_forRange→P3,callWith_type1→aaK,wpS_get→aaQ,wpS_modify→aa2,wpS_lift→aba,slot_tuple_getitem→abj,callWith_builtin1→abm,size_push'→abr,entry_list_sort→abt,slot_list_sort→abE,args_list_sort→abF,assignInOrder_cons→abL,listUpdate_at→abR,subscriptTail_builtinR→acx,seqEpoch_at→acz,sortedAll_old→acG,sortedAll_at→acK,plain_sorted→acL,entry_sorted→acM,args_sorted1→acN,collect_list→acO
open Option.some renaming inj→Fk
open PySem.PassesOwn renaming never→FS
open Classical renaming byContradiction→Gc
open PySem.W renaming mg_none_of→KB,mg_of→Re,kia_one→SB,callWith_K→aaA,methodCall_KW→abf,looks_findIn→abl,plainGet_of→abB,any_some→ab8,looks_specialIn→acm,cellsFrom_some→acv
open PyProof.Rows.KeyOrd renaming kle_trans→KF,kle_of_klt→Pv,kle_refl→UF,klt_of_kle_of_klt→aaX
open PySem.F renaming plainAttrs_list→Pi,excBase_ValueError→aaC,slot_list_append→aaZ,type_list_append→aa0,args_tuple_add_2→ab4,slot_list_insert→ace,type_list_insert→acf,entry_tuple_add→ack,slot_list_index→acn,type_list_index→aco,slot_list_count→acp,slot_tuple_add→acw
open Prod renaming ext→aau
open List.Pairwise renaming imp_of_mem→aaE
open PySem.Calls renaming callWith_builtin→aaI,call_function_entry→aaT,evalArgs_plain→abo,Name_function_global→abQ
open Prod.mk renaming inj→aaR
open PySem.Heap.SameBut renaming update→aaS
open PySem.SeqAt.EqAt renaming int_int→aaU
open PySem.Obj renaming data_mapFields→aaW,isFreed_of_fields→abg
open Array renaming size_setIfInBounds→aaY,getElem?_setIfInBounds→abG,toList_inj→ab6,toList_filterMap→acB
open List renaming pairwise_singleton→aa3,pairwise_lt_range→aa6,all_cons→aa7,take_succ_eq_append_getElem→abb,filter_cons→abc,take_length→abe,pairwise_reverse→abh,map_nil→abn,foldl_cons→abp,reverse_reverse→abu,mem_of_mem_take→abv,eq_nil_iff_forall_not_mem→aby,exists_mem_of_length_pos→abz,filterMap_cons→abA,map_congr_left→abC,countP_eq_length_filter→abH,count_set→abI,take_succ→abJ,mem_filterMap→abM,find?_eq_none→abO,reverse_perm→abX,mem_of_find?_eq_some→abZ,count_replicate_self→ab0,mem_flatMap→ab5,all_eq_true→ab7,nodup_range→aca,any_eq_true→acg,getElem_map→ach,of_mem_zip→acq,range_succ→acr,getElem_replicate→acC
open Nat renaming lt_succ_self→aa9,ne_of_gt→ab1
open PySem.Around renaming under_plainId→abx,in1_units→ab9
open PySem.Code renaming quiet_builtin→abN
open Int renaming emod_lt_of_pos→abP,toNat_natCast→abY,natCast_emod→acj,emod_nonneg→acs
open PySem.MeetsSeq3 renaming plain_eq_loop→abT
open Bool renaming not_true→abU,or_eq_true→acu,false_and→acD,and_false→acE
open PySem.SetTable renaming toList_insertAt→acb,insertAt_perm→acA
open List.Perm renaming eq_of_pairwise→aci
open Nat.succ renaming inj→acP
def ah{g:Prop}(h:∀G:Prop,(g->G)->G):g:=h g id
set_option hygiene false in
local macro_rules|`(tactic|rfl')=>`(tactic|refine ah fun G0 k0=>?_)
set_option hygiene false in
local macro_rules|`(tactic|ac_rfl)=>`(tactic|refine k0 ?_)
set_option Elab.async false
set_option linter.all false
set_option maxRecDepth 100000
abbrev aL:= @List.length_map
abbrev dm:= @List.getElem?_eq_some_iff
abbrev eI:= @List.getElem?_eq_getElem
abbrev fz:= @List.getD_eq_getElem?_getD
abbrev dq:= @List.mem_cons_self
abbrev eJ:= @List.mem_cons_of_mem
abbrev dB:= @List.length_append
abbrev bJ:= @Nat.le_refl
abbrev fZ:= @Array.length_toList
abbrev gW:= @List.mem_append_right
abbrev cJ:= @List.size_toArray
abbrev cU:= @List.length_cons
abbrev df:= @List.getElem?_map
abbrev dD:= @List.mem_singleton
abbrev bQ:= @Nat.ne_of_lt
abbrev cf:= @List.map_cons
abbrev eD:= @Bool.false_ne_true
abbrev fm:= @List.mem_of_getElem?
abbrev dh:= @List.mem_append
abbrev eZ:= @Bool.false_eq_true
abbrev f9:= @Array.getElem?_toList
abbrev fo:= @Nat.lt_of_lt_of_le
abbrev cz:= @List.mem_map
abbrev eE:= @List.map_append
abbrev iu:= @List.mem_append_left
abbrev eF:= @List.mem_cons
abbrev fI:= @List.append_nil
abbrev fJ:= @List.length_set
abbrev gz:= @List.nodup_append
abbrev ji:= @List.getElem?_set_self
abbrev kL:= @List.getElem?_append_left
abbrev eG:= @List.map_map
abbrev jj:= @List.getElem?_set_ne
abbrev j7:= @List.getElem?_eq_none
abbrev mW:= @List.getElem?_append_right
abbrev iw:= @List.length_take
abbrev jk:= @Array.toList_append
abbrev gB:= @List.nodup_nil
abbrev gD:= @List.mem_range
abbrev i3:= @List.pairwise_map
abbrev fq:= @Nat.zero_le
abbrev lN:= @List.take_append_drop
abbrev i4:= @Nat.le_of_not_lt
abbrev qm:= @List.drop_eq_getElem_cons
abbrev kM:= @List.append_assoc
abbrev mX:= @List.getElem?_set
abbrev j8:= @Nat.lt_irrefl
abbrev lO:= @List.length_nil
abbrev lP:= @List.nodup_cons
abbrev jm:= @Nat.le_trans
abbrev vd:= @List.getElem?_replicate
abbrev ve:= @List.getElem?_cons_succ
abbrev y6:= @Array.getElem?_eq_some_iff
abbrev y8:= @List.nodup_iff_pairwise_ne
abbrev tU:= @List.getElem?_of_mem
abbrev vf:= @List.take_of_length_le
abbrev qo:= @List.flatten_cons
abbrev y9:= @List.idxOf_lt_length_iff
abbrev za:= @List.set_eq_of_length_le
abbrev qp:= @List.getElem_mem
abbrev vg:= @List.pairwise_append
abbrev zb:= @List.length_pos_of_mem
abbrev zc:= @List.drop_eq_nil_of_le
abbrev A0:= @Array.getElem?_eq_getElem
abbrev zd:= @List.length_replicate
abbrev tV:= @List.length_drop
abbrev tW:= @List.lookup_cons
abbrev lQ:= @Nat.le_succ
abbrev vh:= @Bool.eq_false_iff
abbrev Ga:= @Array.getD_eq_getD_getElem?
abbrev ze:= @List.replicate_succ
abbrev zf:= @List.reverse_append
abbrev Gb:= @List.perm_ext_iff_of_nodup
abbrev vj:= @Bool.and_eq_true
abbrev vk:= @Nat.mod_eq_of_lt
abbrev vm:= @List.mem_reverse
abbrev Gd:= @List.pairwise_iff_getElem
abbrev qr:= @Nat.sub_self
abbrev vn:= @List.nil_append
abbrev zg:= @Nat.lt_succ_of_lt
abbrev tX:= @List.map_take
abbrev vo:= @Nat.mul_le_mul
abbrev Ge:= @List.drop_of_length_le
abbrev tY:= @Nat.zero_add
abbrev A1:= @Array.size_extract
abbrev Gg:= @List.length_singleton
abbrev vp:= @List.map_drop
abbrev JV:= @Array.perm_iff_toList_perm
abbrev A3:= @List.flatMap_cons
abbrev A4:= @Array.toList_push
abbrev Gh:= @Array.toList_reverse
abbrev zh:= @List.take_zero
abbrev JW:= @List.getElem?_take_of_lt
abbrev A5:= @List.mem_flatten
abbrev Gi:= @List.getElem?_range
abbrev Gj:= @List.flatten_append
abbrev JX:= @List.eraseIdx_cons_succ
abbrev JY:= @List.length_eq_zero_iff
abbrev zi:= @List.sum_cons
abbrev tZ:= @Nat.mod_lt
abbrev yX:= @List.getElem?_drop
abbrev DU:= @List.range_succ_eq_map
abbrev yY:= @List.length_range
abbrev yZ:= @List.ext_getElem?
abbrev y3:= @Option.bind_some
abbrev uI:= @List.any_cons
abbrev DV:= @List.length_pos_iff
abbrev y4:= @List.mem_filter
abbrev uJ:= @Nat.le_of_lt
abbrev uK:= @List.map_set
abbrev DX:= @Nat.lt_of_le_of_lt
abbrev DY:= @List.getElem_idxOf
namespace L2
open PySem PySem.Spec PyProof.Rows
abbrev Key:=Sum Int Str
def NU:Key->Value->Bool
 | .inl k,v=>Value.isInt k v
 | .inr x,v=>Value.isStrOf x v
def Yy(w:World):Key->Int
 | .inl k=>hashInt k
 | .inr x=>hashStr w x
theorem c8:∀{k:Key}{v:Value},NU k v=true->(∃i t,k=Sum.inl i/\v=Value.int i t)\/(∃x t,k=Sum.inr x/\v=Value.str x t)
 | .inl i,v,h=>by
  obtain⟨t,e⟩:=Value.isInt_shape (k:=i) (v:=v) h;exact .inl #[i,t,rfl,e]
 | .inr x,v,h=>by
  obtain⟨t,e⟩:=Value.isStrOf_shape (x:=x) (v:=v) h;exact .inr #[x,t,rfl,e]
def Qt(a b:Int):decide ((Sum.inl a:Key)=Sum.inl b)=(a==b):=by
 by_cases e:a=b
 .subst e;simp
 .have h:¬(Sum.inl a:Key)=Sum.inl b:=λq=>e (Sum.inl.inj q)
  rw[GT h];exact(aaq.mpr e).symm
def Qx(a b:Str):decide ((Sum.inr a:Key)=Sum.inr b)=decide (a=b):=by
 by_cases e:a=b
 .subst e;simp
 .have h:¬(Sum.inr a:Key)=Sum.inr b:=λq=>e (Sum.inr.inj q)
  rw[GT h,GT e]
def Qu(a:Int)(b:Str):decide ((Sum.inl a:Key)=Sum.inr b)=false:=GT (λq=>nomatch q)
def Qw(a:Str)(b:Int):decide ((Sum.inr a:Key)=Sum.inl b)=false:=GT (λq=>nomatch q)
def xX(prog:Program)(w:World):PySem.KeyKind prog w Key where
 is:=NU
 hash:=Yy w
 inj:=λv a b g f=>by
  rcases c8 g with ⟨i,t,rfl,rfl⟩ | ⟨x,t,rfl,rfl⟩
  .rcases c8 f with ⟨j,u,rfl,e⟩ | ⟨y,u,rfl,e⟩
   .injection e with c _;rw[c]
   .exact nomatch e
  .rcases c8 f with ⟨j,u,rfl,e⟩ | ⟨y,u,rfl,e⟩
   .exact nomatch e
   .injection e with c _;rw[c]
 byValue:=λk v h=>by
  rcases c8 h with ⟨i,t,rfl,rfl⟩ | ⟨x,t,rfl,rfl⟩<;>rfl
 pyHash:=λd h=>by
  rcases c8 d with ⟨i,t,rfl,rfl⟩ | ⟨x,t,rfl,rfl⟩
  .exact wpAny_pyHash_int h
  .exact wpAny_pyHash_str h
 eqBool:=λl d h=>by
  rcases c8 l with ⟨i,t,rfl,rfl⟩ | ⟨x,t,rfl,rfl⟩
  .rcases c8 d with ⟨j,u,rfl,rfl⟩ | ⟨y,u,rfl,rfl⟩
   .rw[Qt] at h;exact wpAny_eqBool_int h
   .rw[Qu] at h;exact SeqAt.EqAt.int_str i t y u _ _ _ _ h
  .rcases c8 d with ⟨j,u,rfl,rfl⟩ | ⟨y,u,rfl,rfl⟩
   .rw[Qw] at h;exact SeqAt.EqAt.str_int x t j u _ _ _ _ h
   .rw[Qx] at h;exact wpAny_eqBool_str h
 «strs»:=λk x t v h=>by
  rcases c8 h with ⟨i,u,rfl,e⟩ | ⟨y,u,rfl,e⟩
  .exact nomatch e
  .injection e with c _
   subst c;cases v<;>rfl
inductive V where
 |bb|bl (b:Bool) |int (i:Int) |str (x:Str) |Kc (b:Array UInt8) |GW (b:UInt64) |ref (a:Addr) |ty (n:String)
 deriving DecidableEq
def RelV:V->Value->Prop
 | .bb,u=>u=Value.none
 | .bl b,u=>u=Value.bool b
 | .int i,u=>∃t,u=Value.int i t
 | .str x,u=>∃t,u=Value.str x t
 | .Kc b,u=>∃t,u=Value.bytes b t
 | .GW b,u=>∃t,u=Value.float b t
 | .ref a,u=>u=Value.ref a
 | .ty n,u=>u=Value.type n
abbrev Vals:List V->List Value->Prop:=Paired RelV
theorem Vals.length{xs:List V}{a:List Value}(r:Vals xs a):xs.length=a.length:=Paired.length r
theorem Vals.get:∀{a:List V}{b:List Value}{i:Nat}{x:V},Vals a b->a[i]? =some x->∃u,b[i]? =some u/\RelV x u
 |_,_,_,_, .nil,e=>by simp at e
 |_,_,0,_, .cons r _,e=>by simp at e;subst e;exact#[_,rfl,r]
 |_,_,i+1,x, .cons _ t,e=>by
  obtain⟨u,c,d⟩:=Vals.get (i:=i) (x:=x) t (by simpa using e)
  exact#[u,by simpa using c,d]
theorem Vals.set{x:V}(r:RelV x u):∀{a:List V}{b:List Value}(i:Nat),Vals a b->Vals (a.set i x) (b.set i u)
 |_,_,_, .nil=> .nil
 |_,_,0, .cons _ t=> .cons r t
 |_,_,i+1, .cons q t=> .cons q (Vals.set r i t)
theorem Vals.append:∀{a b:List V}{c d:List Value},Vals a c->Vals b d->Vals (a++b) (c++d)
 |_,_,_,_, .nil,s=>s
 |_,_,_,_, .cons r t,s=> .cons r (Vals.append t s)
theorem Vals.take:∀{xs:List V}{a:List Value}(n:Nat),Vals xs a->Vals (xs.take n) (a.take n)
 |_,_,0,_=> .nil
 |_,_,_+1, .nil=> .nil
 |_,_,n+1, .cons r t=> .cons r (Vals.take n t)
theorem Vals.drop:∀{xs:List V}{a:List Value}(n:Nat),Vals xs a->Vals (xs.drop n) (a.drop n)
 |_,_,0,r=>r
 |_,_,_+1, .nil=> .nil
 |_,_,n+1, .cons _ t=>Vals.drop n t
def km:Option V->Option Value->Prop
 |some v,some u=>RelV v u
 |none,none=>True
 |_,_=>False
def KV{a:Type}:List (a×V)->List (a×Value)->Prop:=Paired λ(p:a×V)(q:a×Value)=>p.1=q.1/\RelV p.2 q.2
def kV:Key->V
 | .inl i=> .int i
 | .inr x=> .str x
inductive HO where
  |lst (xs:List V)
  |tup (xs:List V)
  |dK (fg:List (Key×V)) |dT (fg:List (List Key×V))
  |set (S:Int->Bool) (n:Nat)
  |ins (C dx:Addr) (fs:List (Str×V))
  |own (x:Addr)
  |xd (fs:List (Str×V))
  |met (f x:Addr)
  |rng (lo hi:Int)
  |qB (o:Obj) (u:HO)
  |FX (ps:Array Value)
  |ext (φ:Heap->Prop)
abbrev Hp:=Addr->Option HO
def upd(H:Hp)(a:Addr)(o:HO):Hp:=λb=>if b=a then some o else H b
def av{a:Addr}{o:HO}:upd H a o a=some o:=by unfold upd;rw[tz rfl]
def ax{a b:Addr}{o:HO}(h:b≠a):upd H a o b=H b:=by unfold upd;rw[mo h]
def aD{H:Hp}{a b:Addr}{o:HO}(h:H a=some o)(h':H b=none):a≠b:=by
 intro e;subst e;rw[h] at h';cases h'
section
variable (P:Program) (w:World)
def ck(H:Hp)(h:Heap)(a:Addr):HO->Prop
 | .lst c=>c.length<=sizeLine/\∃(b:List Value)(n:Nat),Vals c b/\h.get? a=some {cls:= .type "list",data:= .seq b.toArray n}
 | .tup c=>c.length<=sizeLine/\∃b:List Value,Vals c b/\IsTup h a b.toArray
 | .dK e=>e.length<=sizeLine/\(a==sysModules)=false/\∃j,KV e j/\h.DictOf (xX P w) a j
 | .dT e=>e.length<=sizeLine/\(a==sysModules)=false/\∃c:List (List Key×Addr×Value),
   Paired (λ(p:List Key×V)(q:List Key×Addr×Value)=>p.1=q.1/\H q.2.1=some (.tup (p.1.map kV))/\RelV p.2 q.2.2) e c/\
   ∃o k r,h.get? a=some o/\o.ExactDict/\o.data= .dict k r/\k.toList=c.map (entryOfKey (tupleKind (xX P w)))/\(c.map (·.1)).Nodup
 | .set S n=>h.SetOf (intKind P w) a S n
 | .ins C g fs=>H g=some (.own a)/\fs.length<=1000/\g≠a/\h.get? a=some (b5 C g)/\
   ∃d,h.Ns1 g d/\(∀f,km (fs.lookup f) (d f))/\cb d (fs.map (·.1))
 | .own _=>∃o,h.get? a=some o
 | .xd fs=>∃d,h.Ns1 a d/\∀f,km (fs.lookup f) (d f)
 | .rng lo s=>∃t u v,h.get? a=some {cls:= .type "range",data:= .fields [.int lo t, .int s u, .int 1 v].toArray}
 | .qB o u=>h.get? a=some o/\ck H h a u
 | .FX y=>h.get? a=some {cls:= .none,data:= .fields y}
 | .met f x=>h.get? a=some (cP (.ref f) (.ref x))
 | .ext i=>i h/\(∃o,h.get? a=some o)/\∀l m:Heap,i l->(∀o,l.get? a=some o->m.get? a=some o)->i m
def gI(H:Hp)(h:Heap):Prop:=∀a o,H a=some o->ck P w H h a o
end
section
variable {P:Program} {w:World} {H H':Hp} {h h':Heap} {a:Addr} {o:HO}
theorem ck.lt(x:ck P w H h a o):a<h.objs.size:=by
 cases o with
 |lst b=>obtain⟨_,_,_,_,e⟩:=x;exact FB e
 |tup b=>obtain⟨_,_,_,p⟩:=x;exact p.lt
 |dK c=>obtain⟨_,_,_,_,o,_,_,e,_⟩:=x;exact FB e
 |dT c=>obtain⟨_,_,_,_,o,_,_,e,_⟩:=x;exact FB e
 |set S n=>obtain⟨o,_,_,_,e,_⟩:=x;exact FB e
 |ins C d fs=>obtain⟨_,_,_,e,_⟩:=x;exact FB e
 |own y=>obtain⟨_,e⟩:=x;exact FB e
 |xd fs=>obtain⟨_,⟨_,_,_,e,_⟩,_⟩:=x;exact FB e
 |rng lo g=>obtain⟨_,_,_,e⟩:=x;exact FB e
 |qB i u=>obtain⟨e,_⟩:=x;exact FB e
 |FX j=>exact FB (show h.get? a=some _ from x)
 |met f y=>exact FB (show h.get? a=some _ from x)
 |ext k=>obtain⟨_,⟨_,e⟩,_⟩:=x;exact FB e
theorem Paired.SM:∀{c:List e}{d:List g},Paired F c d->(∀a b,F a b->G a b)->Paired G c d
 |_,_, .nil,_=> .nil
 |_,_, .cons r t,f=> .cons (f _ _ r) (Paired.SM t f)
theorem ck.oW(x:ck P w H h a o)(k:∀b u,(b=a\/H b=some (.own a))->h.get? b=some u->h'.get? b=some u)
  (E:∀b,H b=some (.own a)->H' b=some (.own a)) (F:∀b m,H b=some (.tup m)->H' b=some (.tup m)):ck P w H' h' a o:=by
 induction o with
 |lst m=>obtain⟨z,l,n,r,e⟩:=x;exact#[z,l,n,r,k _ _ (.inl rfl) e]
 |tup m=>obtain⟨z,l,r,g,e,c⟩:=x;exact#[z,l,r,g,k _ _ (.inl rfl) e,c]
 |dK G=>obtain⟨z,y,I,r,g,i,j,e,c⟩:=x;exact#[z,y,I,r,g,i,j,k _ _ (.inl rfl) e,c]
 |dT G=>
  obtain⟨z,y,m,r,g,i,j,e,c⟩:=x;exact#[z,y,m,Paired.SM r λp q z=>#[z.1,F _ _ z.2.1,z.2.2],g,i,j,k _ _ (.inl rfl) e,c]
 |set S n=>obtain⟨g,i,j,t,e,c⟩:=x;exact#[g,i,j,t,k _ _ (.inl rfl) e,c]
 |ins C N fs=>
  rfl';obtain⟨d,z,ne,e,s,⟨A,i,j,L,c⟩,r⟩:=x;ac_rfl;exact#[E _ d,z,ne,k _ _ (.inl rfl) e,s,#[A,i,j,k _ _ (.inr d) L,c],r]
 |own y=>obtain⟨g,e⟩:=x;exact#[g,k _ _ (.inl rfl) e]
 |xd fs=>obtain⟨s,⟨A,i,j,e,c⟩,r⟩:=x;exact#[s,#[A,i,j,k _ _ (.inl rfl) e,c],r]
 |rng lo Q=>obtain⟨t,u,v,e⟩:=x;exact#[t,u,v,k _ _ (.inl rfl) e]
 |qB g u M=>obtain⟨e,q⟩:=x;exact#[k _ _ (.inl rfl) e,M q]
 |FX B=>
  have e:h.get? a=some {cls:= .none,data:= .fields B}:=x;show h'.get? a=some {cls:= .none,data:= .fields B};exact k a _ (.inl rfl) e
 |met f y=>
  have e:h.get? a=some (cP (.ref f) (.ref y)):=x;show h'.get? a=some (cP (.ref f) (.ref y));exact k a _ (.inl rfl) e
 |ext R=>obtain⟨p,⟨o,e⟩,st⟩:=x;exact#[st _ _ p λo q=>k _ _ (.inl rfl) q,#[o,k _ _ (.inl rfl) e],st]
theorem gI.lt(x:gI P w H h)(e:H a=some o):a<h.objs.size:=(x a o e).lt
def gI.fresh(x:gI P w H h)(e:h.objs.size<=a):H a=none:=by
 cases q:H a with
 |none=>rfl
 |some u=>exact absurd (fo (x.lt q) e) (j8 _)
def gI.kept(x:gI P w H h)(k:∀b u,h.get? b=some u->h'.get? b=some u):gI P w H h':=λa o e=>
 (x a o e).oW (λb u _ q=>k b u q) (λ_ q=>q) λ_ _ q=>q
def gI.laid(x:gI P w H h)(k:∀b u,h.get? b=some u->h'.get? b=some u)(g:h.objs.size<=a)(new:ck P w (upd H a o) h' a o):gI P w (upd H a o) h':=λb u e=>by
 have d:=x.fresh g
 by_cases f:b=a
 .subst f;rw[av] at e;cases e;exact new
 .rw[ax f] at e
  exact(x b u e).oW (λc v _ q=>k c v q) (λc q=>by rw[ax (aD q d)];exact q) λc i q=>by rw[ax (aD q d)];exact q
end
def Rd(H:Hp)(a:Addr)(u:HO):Prop:=H a=some u\/∃o,H a=some (.qB o u)
def Rd.ok{P:Program}{w:World}{H:Hp}{a:Addr}(r:Rd H a u)(x:gI P w H h):ck P w H h a u:=by
 rcases r with r| ⟨o,r⟩
 .exact x a u r
 .obtain⟨_,q⟩:=x a _ r
  exact q
def LM:Option HO->Prop
 |some (.lst _)=>True
 |some (.dK _)=>True
 |some (.dT _)=>True
 |some (.set _ _)=>True
 |some (.ins _ _ _)=>True
 |some (.ext _)=>True
 |_=>False
section
variable {P:Program} {w:World} {H:Hp} {h h':Heap} {x e:Addr} {o':HO}
def gI.write(ok:gI P w H h)(a:LM (H x))(j:e=x\/H e=some (.own x))(k:∀b u,b≠e->h.get? b=some u->h'.get? b=some u)(n:∃u,h'.get? e=some u)
  (new:ck P w (upd H x o') h' x o'):gI P w (upd H x o') h':=λb u q=>by
 have l:∀c y,H c=some (.own y)->c≠x:=λc y r z=>by subst z;rw[r] at a;exact a
 have o:∀c d,H c=some (.tup d)->c≠x:=λc d r z=>by subst z;rw[r] at a;exact a
 by_cases f:b=x
 .subst f;rw[av] at q;cases q;exact new
 .rw[ax f] at q
  by_cases g:b=e
  .have m:H b=some (.own x):=by
    rcases j with z|z
    .exact absurd (g.trans z) f
    .rw[g];exact z
   obtain⟨v,p⟩:=n;rw[q] at m;cases m;exact#[v,by rw[g];exact p]
  .refine(ok b u q).oW (λc v i r=>k c v ?_ r) (λc r=>by rw[ax (l c b r)];exact r) λc d r=>by rw[ax (o c d r)];exact r
   rcases i with rfl|i
   .exact g
   .rintro rfl
    rcases j with z|z
    .exact l c b i z
    .rw[i] at z;cases z;exact f rfl
end
structure Un (fs ex:List Addr) (H H':Hp) (h h':Heap):Prop where
 keep:∀b o,h.get? b=some o->H b=none->b∉fs->b∉ex->h'.get? b=some o
 slot:∀b o,h.get? b=some o->H b=none->b∈fs->b∉ex->∃sl,h'.get? b=some {o with slots:=sl}
 free:∀b o,h.get? b=some o->H b=none->b∉ex->H' b=none
 there:∀b o,h.get? b=some o->b∉ex->∃o',h'.get? b=some o'
 tups:∀b xs,H b=some (.tup xs)->H' b=some (.tup xs)
 frzs:∀b o u,H b=some (.qB o u)->H' b=some (.qB o u)
 tbls:∀b ps,H b=some (.FX ps)->∃more,H' b=some (.FX (ps++more))
section
variable {fs Ur ex p0:List Addr} {H H1 H2:Hp} {h h1 h2 h':Heap} {a x e:Addr} {o:HO}
def Un.any(u:Un fs ex H H1 h h1)(q:h.get? b=some c)(n:H b=none)(d:b∉ex):∃g,h1.get? b=some {c with slots:=g}:=by
 by_cases f:b∈fs
 .exact u.slot b c q n f d
 .exact#[c.slots,u.keep b c q n f d]
def Un.kept(k:∀b u,h.get? b=some u->h'.get? b=some u):Un fs ex H H h h':=
 #[λb c q _ _ _=>k b c q,λb c q _ _ _=>#[c.slots,k b c q],λ_ _ _ n _=>n,λb c q _=>#[c,k b c q],λ_ _ q=>q,λ_ _ _ q=>q,λ_ d q=>#[#[],by rw[q];simp]]
def Un.refl:Un fs ex H H h h:=Un.kept λ_ _ q=>q
def Un.laid(k:∀b u,h.get? b=some u->h'.get? b=some u)(d:h.objs.size<=a)(c:H a=none):Un fs ex H (upd H a o) h h' where
 keep:=λb u q _ _ _=>k b u q
 slot:=λb u q _ _ _=>#[u.slots,k b u q]
 free:=λb u q n _=>by rw[ax (bQ (fo (FB q) d))];exact n
 there:=λb u q _=>#[u,k b u q]
 tups:=λb f q=>by rw[ax (aD q c)];exact q
 frzs:=λb u f q=>by rw[ax (aD q c)];exact q
 tbls:=λb g q=>#[#[],by rw[ax (aD q c),q];simp]
def Un.write(c:LM (H x))(j:e=x\/H e=some (.own x))(k:∀b u,b≠e->h.get? b=some u->h'.get? b=some u)(l:∃u,h'.get? e=some u):Un fs ex H (upd H x o) h h':=by
 have f:∀b,H b=none->b≠x:=λb n z=>by subst z;rw[n] at c;exact c
 have g:∀b,H b=none->b≠e:=λb n z=>by
  subst z
  rcases j with r|r
  .exact f b n r
  .rw[n] at r;cases r
 have d:∀b u,H b=some u->¬LM (some u)->b≠x:=λb u q m z=>by subst z;rw[q] at c;exact m c
 refine#[λb u q n _ _=>k b u (g b n) q,λb u q n _ _=>#[u.slots,k b u (g b n) q],λb u q n _=>by rw[ax (f b n)];exact n,λb u q _=>?_,
  λb p q=>by rw[ax (d b _ q λz=>z)];exact q,λb u p q=>by rw[ax (d b _ q λz=>z)];exact q,λb s q=>#[#[],by rw[ax (d b _ q λz=>z),q];simp]]
 by_cases i:b=e
 .subst i;exact l
 .exact#[u,k b u i q]
end
def RT(h:Heap)(H:Hp):List Addr:=(aM h.objs.size).filter λa=>(H a).isSome
def sE(h:Heap)(H:Hp):Heap:=PySem.W.hideAll h (RT h H)
def Hg(h:Heap)(H:Hp):(sE h H).objs.size=h.objs.size:=PySem.W.hideAll_size _ _
def KD(e:h.get? b=some o)(n:H b=none):(sE h H).get? b=some o:=
 PySem.W.hideAll_get _ e λa=>by
  have q:(H b).isSome=true:=(y4.mp a).2;rw[n] at q;simp at q
def Og(e:(sE h H).get? b=some o):h.get? b=some o/\H b=none:=by
 have a:h.get? b=some o:=PySem.W.of_hideAll (RT h H) e;exists a;cases q:H b with
 |none=>rfl
 |some x=>
  have c:b∈RT h H:=y4.mpr #[gD.mpr (FB a),by simp[q]]
  have z:(sE h H).get? b=none:=PySem.W.hideAll_none (RT h H) c;rw[z] at e;cases e
structure Mod (K:ac) (mg:Str->Option Value) (base:Heap):Prop where
 kin:K.In base
 glob:base.Ns mainGlobals mg
 blt:∃mb,base.Ns builtinsNs mb/\∀x:Str,x≠"__name__"->mb x=bootBuiltins x
 nolimit:base.NoLimit
structure Cx where
 prog:Program
 w:World
 K:ac
 mg:Str->Option Value
 base:Heap
 A:Around
 N:List Str
 s₀:Shared
 H₀:Hp
 env:Env
 outer:List Env
 stack:List Env
 ex:List Addr
 fn:Str->Bool
 calm:Bool
 pn:List (Addr×Obj)
 xe:Value->Shared->Prop
def r8(l:List Env):List Addr:=l.filterMap (·.frame)
abbrev Cx.fs(X:Cx):List Addr:=r8 X.outer
def lR(a:Scope)(x:Str):Prop:=a.names.lookup x=some .local\/a.names.lookup x=some .cell\/a.names.lookup x=some .free
def Loc(a:Scope)(x:Str):Prop:=a.names.lookup x=some .local\/a.names.lookup x=some .cell
def Look(env:Env)(h:Heap)(m:Str->Option Value)(x:Str)(u:Value):Prop:=
 (env.kindOf x=some .local/\m x=some u)\/((env.kindOf x=some .cell\/env.kindOf x=some .free)/\∃c,env.cells.lookup x=some c/\h.IsCell c (some u))
structure Cx.Ok (X:Cx):Prop where
 mod:Mod X.K X.mg X.base
 kind:X.env.scope.kind= .function
 glob:X.env.globals=mainGlobals
 blt:X.env.builtins=builtinsNs
 above:X.s₀.heap.objs.size<=X.env.locals
 inj:∀x y c,X.env.cells.lookup x=some c->X.env.cells.lookup y=some c->x=y
 has:∀x,(X.env.kindOf x=some .cell\/X.env.kindOf x=some .free)->∃c,X.env.cells.lookup x=some c
 cab:∀x c,X.fn x=true->X.env.cells.lookup x=some c->X.s₀.heap.objs.size<=c
 hd:X.calm=true->X.A.handled=none
 frames:X.A.frames=some X.stack
 stk:X.stack=X.outer\/(X.stack=X.env::X.outer/\X.env.frame=some X.env.locals)
 exf:∀b∈X.ex,b≠X.env.locals/\∀x c,X.env.cells.lookup x=some c->c≠b
 bs:∀b o,X.base.get? b=some o->X.s₀.heap.get? b=some o/\X.H₀ b=none
 bsz:X.base.objs.size<=X.s₀.heap.objs.size
 noex:∀b o,X.base.get? b=some o->b∉X.ex
 exfs:∀b∈X.ex,b∉X.fs
 funs:X.s₀.heap.FunFrames X.base X.outer
 frf:∀b∈X.fs,X.H₀ b=none
structure Inv (X:Cx) (pins:List (Addr×Obj)) (σ:List (Option V)) (H:Hp) (s:Shared):Prop where
 ok:X.Ok
 os:s.os=X.s₀.os
 bare:AllBare s.gens
 base:Un X.fs X.ex X.H₀ H X.s₀.heap s.heap
 loc:∃m,s.heap.Ns X.env.locals m/\∀(i:Nat)(x:Str)(v:V),X.N[i]? =some x->σ[i]? =some (some v)->lR X.env.scope x->∃u,RelV v u/\Look X.env s.heap m x u
 cell:∀x c,X.env.cells.lookup x=some c->∃v,s.heap.IsCell c v
 free:H X.env.locals=none
 freeC:∀x c,X.env.cells.lookup x=some c->H c=none
 pin:∀p∈X.pn++pins,s.heap.get? p.1=some p.2/\H p.1=none/\p.1≠X.env.locals/\p.1∉X.fs/\∀v,p.2.data≠ .cell v
 hok:gI X.prog X.w H s.heap
 len:σ.length=X.N.length
section
variable {X:Cx} {pins:List (Addr×Obj)} {σ:List (Option V)} {H H':Hp} {s:Shared} {h':Heap}
def Cx.Ok.YN(ok:X.Ok)(e:X.base.get? b=some o):b∉X.fs:=λa=>by
 have:=(ok.funs.mem a).1
 rw[e] at this;cases this
theorem Inv.bs(I:Inv X pins σ H s):∀b o,X.base.get? b=some o->s.heap.get? b=some o/\H b=none:=λb o e=>
 #[I.base.keep b o (I.ok.bs b o e).1 (I.ok.bs b o e).2 (I.ok.YN e) (I.ok.noex b o e),I.base.free b o (I.ok.bs b o e).1 (I.ok.bs b o e).2 (I.ok.noex b o e)]
def Inv.bk(I:Inv X pins σ H s):∀b o,X.base.get? b=some o->s.heap.get? b=some o:=λb o e=>(I.bs b o e).1
theorem Inv.mod(I:Inv X pins σ H s):Mod X.K X.mg X.base:=I.ok.mod
def Inv.c7(I:Inv X pins σ H s):X.K.In s.heap:=I.ok.mod.kin.keeps I.bk
theorem Inv.lt(I:Inv X pins σ H s):X.env.locals<s.heap.objs.size:=let #[_,a,_]:=I.loc;a.lt
def Inv.sz(I:Inv X pins σ H s):X.s₀.heap.objs.size<=s.heap.objs.size:=jm I.ok.above (uJ I.lt)
def Inv.SQ(I:Inv X pins σ H s)(h:s.heap.objs.size<=a):a∉X.fs:=λb=>by
 obtain⟨_,o,c,_⟩:=I.ok.funs.mem b;exact absurd (fo (FB c) (jm I.sz h)) (j8 _)
def Inv.wK(I:Inv X pins σ H s):∀x c,X.env.cells.lookup x=some c->c≠X.env.locals:=λx c e z=>by
 obtain⟨v,o,a,b⟩:=I.cell x c e;obtain⟨m,⟨g,h,i,d,f,_⟩,_⟩:=I.loc;rw[z,d] at a;cases a;rw[f] at b;cases b
theorem Inv.funs(I:Inv X pins σ H s):s.heap.FunFrames X.base X.outer:=by
 have all:∀(l:List Env),(∀b∈r8 l,b∈X.fs)->X.s₀.heap.FunFrames X.base l->s.heap.FunFrames X.base l:=by
  intro l
  induction l with
  |nil=>intro _ _;trivial
  |cons env r g=>
   intro f h;rfl';obtain⟨j,⟨L,o,a,k,m,n⟩,p⟩:=h;have c:L∈X.fs:=f L (by unfold r8;rw[abA,a];exact dq)
   obtain⟨t,e⟩:=I.base.slot L o m (I.ok.frf L c) c λz=>I.ok.exfs L z c;ac_rfl;exact#[j,#[L,_,a,k,e,n],g (λb d=>f b (by unfold r8;rw[abA,a];exact eJ _ d)) p]
 exact all X.outer (λ_ d=>d) I.ok.funs
theorem Inv.stack(I:Inv X pins σ H s):s.heap.FunFrames X.base X.stack:=by
 rcases I.ok.stk with e| ⟨e,a⟩
 .rw[e];exact I.funs
 .rw[e]
  obtain⟨m,b,_⟩:=I.loc;refine .cons (by rw[I.ok.kind];decide) a b ?_ I.funs
  exact Heap.get?_none_of_le (jm I.ok.bsz I.ok.above)
def Inv.Dm(I:Inv X pins σ H s):∀b∈r8 X.stack,b∈X.env.locals::X.fs:=λb a=>by
 rcases I.ok.stk with e| ⟨e,c⟩
 .rw[e] at a;exact eJ _ a
 .rw[e] at a
  unfold r8 at a;rw[abA,c] at a;exact a
def Inv.yI(I:Inv X pins σ H s):∀b∈r8 X.stack,H b=none:=λb a=>by
 rcases eF.mp (I.Dm b a) with e|a
 .rw[e];exact I.free
 .obtain⟨_,o,c,_⟩:=I.ok.funs.mem a
  exact I.base.free b o c (I.ok.frf b a) λz=>I.ok.exfs b z a
def Inv.step{g':Array GenState}{d':Drawn}{ch:List Addr}(I:Inv X pins σ H s)
  (t:∀b∈ch,(b∈X.ex\/X.s₀.heap.objs.size<=b)/\b≠X.env.locals/\(∀x c,X.env.cells.lookup x=some c->c≠b)/\∀p∈X.pn++pins,p.1≠b)
  (keep:∀b o,b≠X.env.locals->b∉X.fs->b∉ch->s.heap.get? b=some o->H b=none->h'.get? b=some o)
  (slot:∀b o,b≠X.env.locals->b∈X.fs->b∉ch->s.heap.get? b=some o->H b=none->∃F,h'.get? b=some {o with slots:=F}) (free:∀b o,b∉ch->s.heap.get? b=some o->H b=none->H' b=none)
  (there:∀b o,b∉ch->s.heap.get? b=some o->∃y,h'.get? b=some y)
  (tups:∀b xs,H b=some (.tup xs)->H' b=some (.tup xs)) (frzs:∀b o u,H b=some (.qB o u)->H' b=some (.qB o u)) (tbls:∀b C,H b=some (.FX C)->∃more,H' b=some (.FX (C++more)))
  (O:∀m,s.heap.Ns X.env.locals m->h'.Ns X.env.locals m) (hok:gI X.prog X.w H' h') (P:AllBare g'):
  Inv X pins σ H' {s with heap:=h',gens:=g',drawn:=d',toks:=t'}:=by
 have J:∀b o,X.s₀.heap.get? b=some o->b≠X.env.locals:=λb o e=>bQ (fo (FB e) I.ok.above)
 have E:∀b o,X.s₀.heap.get? b=some o->b∉X.ex->b∉ch:=λb o e a h=>by
  rcases(t b h).1 with z|z
  .exact a z
  .exact absurd (fo (FB e) z) (j8 _)
 have f:∀x c,X.env.cells.lookup x=some c->∀v,s.heap.IsCell c v->h'.IsCell c v:=λx c e v #[o,j,G]=>by
  have A:c∉ch:=λz=>(t c z).2.2.1 x c e rfl
  by_cases L:c∈X.fs
  .obtain⟨F,q⟩:=slot c o (I.wK x c e) L A j (I.freeC x c e)
   exact#[_,q,G]
  .exact#[o,keep c o (I.wK x c e) L A j (I.freeC x c e),G]
 refine#[I.ok,I.os,P,#[λb o e n h a=>?_,λb o e n h a=>?_,λb o e n a=>?_,λb o e a=>?_,λb xs e=>tups b xs (I.base.tups b xs e),λb o xs e=>frzs b o xs (I.base.frzs b o xs e),λb C e=>?_],?_,λx c e=>?_,?_,λx c e=>?_,λp M=>?_,hok,I.len]
 .exact keep b o (J b o e) h (E b o e a) (I.base.keep b o e n h a) (I.base.free b o e n a)
 .obtain⟨F,g⟩:=I.base.slot b o e n h a
  obtain⟨Q,B⟩:=slot b _ (J b o e) h (E b o e a) g (I.base.free b o e n a);exact#[Q,B]
 .obtain⟨y,g⟩:=I.base.there b o e a
  exact free b y (E b o e a) g (I.base.free b o e n a)
 .obtain⟨y,g⟩:=I.base.there b o e a
  exact there b y (E b o e a) g
 .obtain⟨R,g⟩:=I.base.tbls b C e
  obtain⟨S,B⟩:=tbls b _ g;exact#[R++S,by rw[B,Array.append_assoc]]
 .obtain⟨m,T,U⟩:=I.loc
  refine#[m,O m T,λi x v g B Y=>?_];obtain⟨u,r,l⟩:=U i x v g B Y;exists u,r
  rcases l with l| ⟨k,c,e,z⟩
  .exact .inl l
  .exact .inr #[k,c,e,f x c e _ z]
 .obtain⟨v,z⟩:=I.cell x c e
  exact#[v,f x c e v z]
 .obtain⟨m,⟨o,_,_,j,_⟩,_⟩:=I.loc
  exact free _ o (λz=>(t _ z).2.1 rfl) j I.free
 .obtain⟨v,o,j,G⟩:=I.cell x c e
  exact free c o (λz=>(t c z).2.2.1 x c e rfl) j (I.freeC x c e)
 .obtain⟨e,n,ne,N,d⟩:=I.pin p M
  have A:p.1∉ch:=λz=>(t p.1 z).2.2.2 p M rfl;exact#[keep p.1 p.2 ne N A e n,free p.1 p.2 A e n,ne,N,d]
def Inv.un{t':Nat}(I:Inv X pins σ H s)(u:Un X.fs [] H H' s.heap h')(hok:gI X.prog X.w H' h'):Inv X pins σ H' {s with heap:=h',toks:=t'}:=by
 rfl';obtain⟨m,⟨o,p,q,d,r⟩,_⟩:=id I.loc;obtain⟨t,h⟩:=u.any d I.free (by simp)
 ac_rfl
 exact I.step (g':=s.gens) (d':=s.drawn) (ch:= []) (λ_ z=>nomatch z) (λb o _ c _ e n=>u.keep b o e n c (by simp)) (λb o _ c _ e n=>u.slot b o e n c (by simp)) (λb o _ e n=>u.free b o e n (by simp)) (λb o _ e=>u.there b o e (by simp)) u.tups u.frzs u.tbls (λv i=>by
  rfl';obtain⟨x,j,k,f,l⟩:=i;ac_rfl;rw[d] at f;cases f;exact#[_,j,k,h,l]) hok I.bare
def Inv.call{g':Array GenState}{t':Nat}{d':Drawn}{ch:List Addr}(I:Inv X pins σ H s)(u:Un (r8 X.stack) ch H H' s.heap h')(hok:gI X.prog X.w H' h')(j:AllBare g')
  (g:∀b∈ch,(b∈X.ex\/X.s₀.heap.objs.size<=b)/\b≠X.env.locals/\(∀x c,X.env.cells.lookup x=some c->c≠b)/\∀p∈X.pn++pins,p.1≠b):
  Inv X pins σ H' {s with heap:=h',gens:=g',drawn:=d',toks:=t'}:=by
 rfl';obtain⟨m,⟨o,A,B,h,r⟩,_⟩:=id I.loc;obtain⟨C,f⟩:=u.any h I.free λz=>(g _ z).2.1 rfl;ac_rfl
 exact I.step (ch:=ch) g (λb o f l a e n=>u.keep b o e n (λz=>(eF.mp (I.Dm b z)).elim f l) a) (λb o _ _ a e n=>u.any e n a) (λb o a e n=>u.free b o e n a) (λb o a e=>u.there b o e a) u.tups u.frzs u.tbls (λE q=>by
  rfl';obtain⟨F,t,v,i,y⟩:=q;ac_rfl;rw[h] at i;cases i;exact#[_,t,v,f,y]) hok j
def Inv.turned{t':Nat}{it:Addr}(I:Inv X pins σ H s)(k:∀b o,b≠it->s.heap.get? b=some o->h'.get? b=some o)(g:H it=none)(d:it≠X.env.locals)
  (h:it∈X.ex\/X.s₀.heap.objs.size<=it) (i:∀x c,X.env.cells.lookup x=some c->c≠it) (j:∀p∈X.pn++pins,p.1≠it):Inv X pins σ H {s with heap:=h',toks:=t'}:=by
 have f:∀b u,H b=some u->b≠it:=λb u e z=>by rw[z,g] at e;cases e
 refine I.step (g':=s.gens) (d':=s.drawn) (ch:= [it]) (λb l=>?_) (λb o _ _ a e _=>k b o (λz=>a (by simp[z])) e) (λb o _ _ a e _=>#[o.slots,k b o (λz=>a (by simp[z])) e]) (λ_ _ _ _ n=>n)
  (λb o a e=>#[o,k b o (λz=>a (by simp[z])) e]) (λ_ _ e=>e) (λ_ _ _ e=>e) (λb B e=>#[#[],by rw[e];simp]) (λm t=>?_) (λb u e=>?_) I.bare
 .have e:b=it:=by simpa using l
  subst e;exact#[h,d,i,j]
 .obtain⟨o,w,y,A,r⟩:=t
  exact#[o,w,y,k _ o (Ne.symm d) A,r]
 .refine(I.hok b u e).oW (λc v a q=>k c v ?_ q) (λ_ q=>q) λ_ _ q=>q
  rcases a with z|z
  .rw[z];exact f b u e
  .exact f c _ z
def Inv.tok(I:Inv X pins σ H s)(t:Nat):Inv X pins σ H {s with toks:=t}:=I.un (h':=s.heap) (t':=t) Un.refl I.hok
theorem Inv.kept{t':Nat}(I:Inv X pins σ H s)(k:∀b u,s.heap.get? b=some u->h'.get? b=some u):Inv X pins σ H {s with heap:=h',toks:=t'}:=I.un (Un.kept k) (I.hok.kept k)
theorem Inv.laid{a:Addr}{o:HO}{t':Nat}(I:Inv X pins σ H s)(k:∀b u,s.heap.get? b=some u->h'.get? b=some u)(c:s.heap.objs.size<=a)(new:ck X.prog X.w (upd H a o) h' a o):
  Inv X pins σ (upd H a o) {s with heap:=h',toks:=t'}:=I.un (Un.laid k c (I.hok.fresh c)) (I.hok.laid k c new)
theorem Inv.write{x e:Addr}{o:HO}{t':Nat}(I:Inv X pins σ H s)(a:LM (H x))(c:e=x\/H e=some (.own x))(k:∀b u,b≠e->s.heap.get? b=some u->h'.get? b=some u)(d:∃u,h'.get? e=some u)
  (new:ck X.prog X.w (upd H x o) h' x o):Inv X pins σ (upd H x o) {s with heap:=h',toks:=t'}:=I.un (Un.write a c k d) (I.hok.write a c k d new)
def Inv.tj(I:Inv X pins σ H s)(h:∀p∈a,s.heap.get? p.1=some p.2/\H p.1=none/\p.1≠X.env.locals/\p.1∉X.fs/\∀v,p.2.data≠ .cell v):Inv X a σ H s:=
 #[I.ok,I.os,I.bare,I.base,I.loc,I.cell,I.free,I.freeC,λp b=>(dh.mp b).elim (λz=>I.pin p (iu _ z)) (h p),I.hok,I.len]
def uw{N:List Str}(c:N.Nodup){i j:Nat}{x:Str}(a:N[i]? =some x)(b:N[j]? =some x):i=j:=by
 obtain⟨f,d⟩:=dm.mp a;obtain⟨g,e⟩:=dm.mp b;exact(List.getElem_inj c).mp (d.trans e.symm)
def store_ok2(I:Inv X pins σ H s)(hN:X.N.Nodup)(O:X.N[i]? =some x)(B:Loc X.env.scope x)(r:RelV v u)
  (h:∀S,Inv X pins (σ.set i (some v)) H S->(∃a,Heap.SameBut a s.heap S.heap/\(a=X.env.locals\/X.env.cells.lookup x=some a))->Q () S) (hf:X.fn x=true\/X.env.scope.names.lookup x=some .local:=by subst_eqs):wpAny M A (storeName X.env x u) Q E s:=by
 obtain⟨m,T,hl⟩:=id I.loc;have EM:(X.env.scope.kind== .class|| (X.env.scope.kind== .module&&X.env.locals !=X.env.globals))=false:=by rw[I.ok.kind];rfl
 have Jx:i<σ.length:=by rw[I.len];exact(dm.mp O).1
 have wK:=I.wK
 have g:∀{a:Addr}{L:Heap},(∃o,s.heap.get? a=some o/\H a=none)->Heap.SameBut a s.heap L->gI X.prog X.w H L:=λ {a L} ha f b ob e=>by
  obtain⟨_,_,BS⟩:=ha;refine(I.hok b ob e).oW (λc P t q=>(f.2 c ?_).trans q) (λ_ q=>q) λ_ _ q=>q;rintro rfl
  rcases t with rfl|t
  .rw[BS] at e;cases e
  .rw[BS] at t;cases t
 rcases B with F|F
 .refine wpAny_storeName_local F T (λL BX f=>?_) EM
  obtain⟨oL,_,_,xH,_⟩:=id T;refine h _ #[I.ok,I.os,I.bare,#[λb o e n G B=>?_,λb o e n G B=>?_,I.base.free,λb o e B=>?_,I.base.tups,I.base.frzs,I.base.tbls],#[_,BX,λj y U l C Y=>?_],λy c e=>?_,I.free,I.freeC,λp Z=>?_,g #[oL,xH,I.free] f,by simpa using I.len] #[_,f, .inl rfl]
  .exact(f.2 b (bQ (fo (FB e) I.ok.above))).trans (I.base.keep b o e n G B)
  .obtain⟨sl,l⟩:=I.base.slot b o e n G B
   exact#[sl,(f.2 b (bQ (fo (FB e) I.ok.above))).trans l]
  .obtain⟨o',l⟩:=I.base.there b o e B
   exact#[o',(f.2 b (bQ (fo (FB e) I.ok.above))).trans l]
  .by_cases J:j=i
   .subst J
    rw[O] at l;cases l;rw[ji Jx] at C;cases C;exact#[u,r, .inl #[F,by simp]]
   .rw[jj (Ne.symm J)] at C
    obtain⟨u',r',q⟩:=hl j y U l C Y;exists u',r'
    rcases q with ⟨k,e⟩ | ⟨k,c,e,z⟩
    .refine .inl #[k,?_]
     have:y≠x:=λe=>J (uw hN l (e▸O))
     simp[this,e]
    .exact .inr #[k,c,e,z.sameBut f (wK y c e)]
  .obtain⟨P,z⟩:=I.cell y c e
   exact#[P,z.sameBut f (wK y c e)]
  .obtain⟨e,n,ne,nf,d⟩:=I.pin p Z
   exact#[(f.2 p.1 ne).trans e,n,ne,nf,d]
 .have UL:X.fn x=true:=by
   rcases hf with z|z
   .exact z
   .rw[z] at F;cases F
  obtain⟨c,t⟩:=I.ok.has x (.inl F);obtain⟨P,z⟩:=I.cell x c t;refine wpAny_storeName_cell I.ok.kind F t z (λL su f=>?_);obtain⟨oc,Ye,Yf⟩:=id z;refine h {s with heap:=L} #[I.ok,I.os,I.bare,#[λb o e n G B=>?_,λb o e n G B=>?_,I.base.free,λb o e B=>?_,I.base.tups,I.base.frzs,I.base.tbls],#[m,T.sameBut f (Ne.symm (wK x c t)),λj y U l C Y=>?_],λy R e=>?_,I.free,I.freeC,λp Z=>?_,g #[oc,Ye,I.freeC x c t] f,by simpa using I.len] #[c,f, .inr t]
  .exact(f.2 b (bQ (fo (FB e) (I.ok.cab x c UL t)))).trans (I.base.keep b o e n G B)
  .obtain⟨sl,l⟩:=I.base.slot b o e n G B
   exact#[sl,(f.2 b (bQ (fo (FB e) (I.ok.cab x c UL t)))).trans l]
  .obtain⟨o',l⟩:=I.base.there b o e B
   exact#[o',(f.2 b (bQ (fo (FB e) (I.ok.cab x c UL t)))).trans l]
  .by_cases J:j=i
   .subst J
    rw[O] at l;cases l;rw[ji Jx] at C;cases C;exact#[u,r, .inr #[.inl F,c,t,su]]
   .rw[jj (Ne.symm J)] at C
    obtain⟨u',r',q⟩:=hl j y U l C Y;exists u',r'
    rcases q with q| ⟨k,R,e,z'⟩
    .exact .inl q
    .refine .inr #[k,R,e,z'.sameBut f ?_]
     rintro rfl;exact J (uw hN l (I.ok.inj _ _ _ e t▸O))
  .by_cases Xz:R=c
   .subst Xz;exact#[_,su]
   .obtain⟨w2,z2⟩:=I.cell y R e
    exact#[w2,z2.sameBut f Xz]
  .obtain⟨e,n,ne,nf,d⟩:=I.pin p Z
   refine#[(f.2 p.1 ?_).trans e,n,ne,nf,d];intro q;rw[q,Ye] at e;have q':oc=p.2:=Fk e;exact d P (by rw[<-q'];exact Yf)
def jF{x:Str}{v:V}(I:Inv X pins σ H s)(b:X.N.Nodup)(c:X.N[i]? =some x)(d:Loc X.env.scope x)(r:RelV v u)
  (h:∀a,Inv X pins (σ.set i (some v)) H a->Q () a) (e:X.fn x=true\/X.env.scope.names.lookup x=some .local:=by subst_eqs):wpAny M A (storeName X.env x u) Q E s:=
 store_ok2 I b c d r (λa f _=>h a f) e
def Inv.Gz{s':Shared}{ch:List Addr}(I:Inv X pins σ H s)(a:s'.os=s.os)(u:Un (r8 X.stack) ch H H' s.heap s'.heap)(hok:gI X.prog X.w H' s'.heap)(d:AllBare s'.gens)
  (f:∀b∈ch,(b∈X.ex\/X.s₀.heap.objs.size<=b)/\b≠X.env.locals/\(∀x c,X.env.cells.lookup x=some c->c≠b)/\∀p∈X.pn++pins,p.1≠b):Inv X pins σ H' s':=by
 obtain⟨h,g',d',t',g⟩:=s';have e:g=s.os:=a;subst e;exact I.call (g':=g') (t':=t') (d':=d') u hok d f
end
abbrev XK:=Value->Option Addr->Hp->Prop
abbrev St:=List (Option V)
abbrev VK:=V->Hp->Prop
abbrev TE:=St->Hp->VK->Prop
abbrev TT:=St->Hp->(Bool->Hp->Prop)->Prop
abbrev TA:=St->Hp->(List V->Hp->Prop)->Prop
structure Ends where
 nx:St->Hp->Prop
 rt:VK
 bk:St->Hp->Prop:=λ_ _=>False
 ct:St->Hp->Prop:=λ_ _=>False
abbrev TS:=Ends->St->Hp->Prop
def EP(X:Cx)(a:List (Addr×Obj))(c:St)(Q:VK)(u:Value)(d:Shared):Prop:=∃v b,Inv X a c b d/\RelV v u/\Q v b
def TP(X:Cx)(a:List (Addr×Obj))(d:St)(Q:Bool->Hp->Prop)(b:Bool)(e:Shared):Prop:=∃c,Inv X a d c e/\Q b c
def AP(X:Cx)(a:List (Addr×Obj))(d:St)(Q:List V->Hp->Prop)(e:List Value)(f:Shared):Prop:=∃b c,Inv X a d c f/\Vals b e/\Q b c
def SP(X:Cx)(a:List (Addr×Obj))(D:Ends)(f:Flow)(d:Shared):Prop:=
 match f with
 | .next=>∃c b,Inv X a c b d/\D.nx c b
 | .brk=>∃c b,Inv X a c b d/\D.bk c b
 | .cont=>∃c b,Inv X a c b d/\D.ct c b
 | .ret u=>∃v c b,Inv X a c b d/\RelV v u/\D.rt v b
def PE(X:Cx)(e:Expr)(t:TE):Prop:=
 ∀(a:List (Addr×Obj))(s:Shared)(b:St)(H:Hp)(Q:VK),Inv X a b H s->t b H Q->wpAny (model X.prog X.w) X.A (eval e X.env) (EP X a b Q) X.xe s
def PT(X:Cx)(e:Expr)(t:TT):Prop:=
 ∀(a:List (Addr×Obj))(s:Shared)(b:St)(H:Hp)(Q:Bool->Hp->Prop),Inv X a b H s->t b H Q->wpAny (model X.prog X.w) X.A (isTrue e X.env (eval e X.env)) (TP X a b Q) X.xe s
def PW(X:Cx)(e:Expr)(t:TT):Prop:=
 ∀(b:Sem Value)(a:List (Addr×Obj))(s:Shared)(c:St)(H:Hp)(Q:Bool->Hp->Prop),Inv X a c H s->t c H Q->wpAny (model X.prog X.w) X.A (isTrue e X.env b) (TP X a c Q) X.xe s
def PW.pt(h:PW X e t):PT X e t:=h _
def PA(X:Cx)(d:List Expr)(t:TA):Prop:=
 ∀(b:Pos)(a:List (Addr×Obj))(s:Shared)(c:St)(H:Hp)(Q:List V->Hp->Prop),Inv X a c H s->t c H Q->wpAny (model X.prog X.w) X.A (spliced (backTo b (starEach d X.env))) (AP X a c Q) X.xe s
def PS(X:Cx)(st:Stmt)(t:TS):Prop:=
 ∀(a:List (Addr×Obj))(s:Shared)(b:St)(H:Hp)(D:Ends),Inv X a b H s->t D b H->wpAny (model X.prog X.w) X.A (exec st X.env) (SP X a D) X.xe s
def kc(X:Cx)(st:List Stmt)(t:TS):Prop:=
 ∀(a:List (Addr×Obj))(s:Shared)(b:St)(H:Hp)(D:Ends),Inv X a b H s->t D b H->wpAny (model X.prog X.w) X.A (execs st X.env) (SP X a D) X.xe s
def thn{Q c:b->Shared->Prop}(h:wpAny M A t Q E s)(d:∀a s,Q a s->c a s):wpAny M A t c E s:=wpAny_mono h d λ_ _ x=>x
section
variable {X:Cx}
def S9(i:Nat):TE:=λa H Q=>∃v,a[i]? =some (some v)/\Q v H
def tC(v:V):TE:=λ_ H Q=>Q v H
def C6(k:X.N[i]? =some x)(n:lR X.env.scope x)(f:(x==("__debug__":Str))=false:=by decide)(o:(x==("__classdict__":Str))=false:=by decide):PE X (.Name x d) (S9 i):=by
 intro b s p H Q I h;rfl';obtain⟨v,e,h⟩:=h;obtain⟨m,t,w⟩:=I.loc;obtain⟨u,r,l⟩:=w i x v k e n;have fin:EP X b p Q u s:=#[v,H,I,r,h];ac_rfl
 rcases l with ⟨a,y⟩ | ⟨a,c,g,j⟩
 .exact wpAny_Name (wpAny_loadName_local I.ok.kind a t y fin) f
 .rcases a with a|a
  .exact wpAny_Name (wpAny_loadName_cell I.ok.kind a g j fin) f
  .exact wpAny_Name (wpAny_loadName_free I.ok.kind a g j fin o) f
def Q4{i j pos}:PE X (.Constant (.int i) j pos) (tC (.int i)):=λ_ _ _ H _ I h=>wpAny_Constant_int #[.int i,H,I.tok _,#[_,rfl],h]
def Vs{b j pos}:PE X (.Constant (.bool b) j pos) (tC (.bl b)):=λ_ _ _ H _ I h=>Constant_bool #[.bl b,H,I,rfl,h]
def Q6{j pos}:PE X (.Constant .none j pos) (tC .bb):=λ_ _ _ H _ I h=>Constant_none #[.bb,H,I,rfl,h]
def C5{x j pos}:PE X (.Constant (.str x) j pos) (tC (.str x)):=λ_ _ _ H _ I h=>Calls.Constant_str #[.str x,H,I.tok _,#[_,rfl],h]
def Gl(X:Cx)(x:Str):Prop:=X.env.kindOf x=some .globalImplicit
def iV(I:Inv X a c H s)(d:Gl X x)(e:X.mg x=some u)(h:Q u s)
  (f:(x==("__debug__":Str))=false:=by decide):wpAny (model X.prog X.w) X.A (eval (.Name x b) X.env) Q E s:=
 abQ I.ok.kind d (Calls.loadGlobal_global (by rw[I.ok.glob];exact I.mod.glob.keeps I.bk) e h) f
def pH{u:Value}(I:Inv X a c H s)(d:Gl X x)(e:X.mg x=none)(f:bootBuiltins x=some u)(h:Q u s)
  (g:x≠"__name__":=by decide) (i:(x==("__debug__":Str))=false:=by decide):wpAny (model X.prog X.w) X.A (eval (.Name x b) X.env) Q E s:=by
 obtain⟨l,j,k⟩:=I.mod.blt;exact abQ I.ok.kind d (Calls.loadGlobal_builtin (by rw[I.ok.glob];exact I.mod.glob.keeps I.bk) e (by rw[I.ok.blt];exact j.keeps I.bk) ((k x g).trans f) h) i
def Fw{v:V}(b:Gl X x)(c:X.mg x=some u)(r:RelV v u)(d:(x==("__debug__":Str))=false:=by decide):PE X (.Name x a) (tC v):=
 λ_ _ _ H _ I h=>iV I b c #[v,H,I,r,h] d
def Fv(b:Gl X x)(c:X.mg x=none)(d:bootBuiltins x=some u)(r:RelV v u)(e:x≠"__name__":=by decide)(f:(x==("__debug__":Str))=false:=by decide):PE X (.Name x a) (tC v):=
 λ_ _ _ H _ I h=>pH I b c d #[v,H,I,r,h] e f
variable {a b:Expr} {ta tb:TE} {pos:Pos}
variable {tA Dr:TT} {rest:List Expr}
def Zo(t u:TT):TT:=λd H Q=>t d H λc e=>if c=true then u d e Q else Q false e
def tOr(t u:TT):TT:=λd H Q=>t d H λc e=>if c=true then Q true e else u d e Q
def Zx(t:TT):TT:=λd H Q=>t d H λc e=>Q (!c) e
def ON(f:PT X a tA):PW X (.BoolOp .And [a] pos) tA:=by
 intro i d s g H Q I h;refine isTrue_and (thn (f d s g H Q I h) λc j e=>?_);cases c with
 |true=>exact isTrue_and_nil e
 |false=>exact e
def Rl(f:PT X a tA):PW X (.BoolOp .Or [a] pos) tA:=by
 intro i d s g H Q I h;refine isTrue_or (thn (f d s g H Q I h) λc j e=>?_);cases c with
 |false=>exact isTrue_or_nil e
 |true=>exact e
def Rk(j:PT X a tA)(k:PW X (.BoolOp .And (b::rest) pos) Dr):PW X (.BoolOp .And (a::b::rest) pos) (Zo tA Dr):=by
 intro l d s e H Q I h;refine isTrue_and (thn (j d s e H _ I h) λc m #[f,g,i]=>?_);cases c with
 |true=>exact k l d m e f Q g i
 |false=>exact#[f,g,i]
def Vx(j:PT X a tA)(k:PW X (.BoolOp .Or (b::rest) pos) Dr):PW X (.BoolOp .Or (a::b::rest) pos) (tOr tA Dr):=by
 intro l d s e H Q I h;refine isTrue_or (thn (j d s e H _ I h) λc m #[f,g,i]=>?_);cases c with
 |true=>exact#[f,g,i]
 |false=>exact k l d m e f Q g i
def Rj(e:PT X a tA):PT X (.UnaryOp .Not a pos) (Zx tA):=by
 intro d s f H Q I h;exact isTrue_not (e d s f H (λc g=>Q (!c) g) I h)
def VM(f g:TE):TE:=λd H Q=>f d H λx e=>∃c,x= .bl c/\if c=true then g d e Q else Q (.bl false) e
def VT(d:TE):TE:=λe H Q=>d e H λx f=>∃c,x= .bl c/\Q (.bl (!c)) f
def Q8{op}(h:PE X a t):PE X (.BoolOp op [a] pos) t:=λc s d H Q I hw=>BoolOp_one (h c s d H Q I hw)
def QZ(j:PE X a ta)(k:PE X (.BoolOp .And (b::rest) pos) tb):PE X (.BoolOp .And (a::b::rest) pos) (VM ta tb):=by
 intro d s f H Q I h;refine BoolOp_and (thn (j d s f H _ I h) λv l m=>?_);rfl';obtain⟨x,g,i,o,e⟩:=m;obtain⟨c,rfl,e⟩:=e;ac_rfl;subst o;refine SL ?_;cases c with
 |true=>exact k d l f g Q i e
 |false=>exact#[.bl false,g,i,rfl,e]
def Q7(f:PE X a ta):PE X (.UnaryOp .Not a pos) (VT ta):=by
 intro d s g H Q I h;refine UnaryOp_ (thn (f d s g H _ I h) λv n i=>?_);rfl';obtain⟨x,k,l,m,e⟩:=i;obtain⟨c,rfl,e⟩:=e;ac_rfl;subst m;exact not_of (SL #[.bl (!c),k,l,rfl,e])
def tIf(t:TT)(f g:TE):TE:=λd H Q=>t d H λc e=>if c=true then f d e Q else g d e Q
def K7(l:PT X c tA)(m:PE X a ta)(n:PE X b tb):PE X (.IfExp c a b pos) (tIf tA ta tb):=by
 intro e s f H Q I h;refine wpAny_IfExp (thn (l e s f H _ I h) λd g #[i,j,k]=>?_);cases d with
 |true=>exact m e g f i Q j k
 |false=>exact n e g f i Q j k
end
def cy(K:ac)(H:Hp)(a:Addr)(c:List V):Prop:=
 Rd H a (.lst c)\/
  ∃(o:Obj)(b:Array Value)(n:Nat),K.lookup a=some o/\o.cls= .type "list"/\o.dict=none/\o.data= .seq b n/\b.size<=sizeLine/\Vals c b.toList
def gm(K:ac)(H:Hp)(a:Addr)(c:List V):Prop:=
 Rd H a (.tup c)\/
  ∃(o:Obj)(b:Array Value)(n:Nat),K.lookup a=some o/\o.cls= .type "tuple"/\o.data= .seq b n/\b.size<=sizeLine/\Vals c b.toList
def Wn:Value->Option V
 | .none=>some .bb
 | .bool b=>some (.bl b)
 | .int i _=>some (.int i)
 | .str x _=>some (.str x)
 | .bytes b _=>some (.Kc b)
 | .float b _=>some (.GW b)
 | .ref a=>some (.ref a)
 | .type n=>some (.ty n)
 |_=>none
def RelV.abs{x:V}{u:Value}(r:RelV x u):Wn u=some x:=by
 cases x with
 |bb=>cases r;rfl
 |bl _=>cases r;rfl
 |int _=>obtain⟨t,rfl⟩:=r;rfl
 |str _=>obtain⟨t,rfl⟩:=r;rfl
 |Kc _=>obtain⟨t,rfl⟩:=r;rfl
 |GW _=>obtain⟨t,rfl⟩:=r;rfl
 |ref _=>cases r;rfl
 |ty _=>cases r;rfl
def RelV.inj{x y:V}(r:RelV x u)(q:RelV y u):x=y:=Fk (r.abs.symm.trans q.abs)
theorem Vals.inj:∀{a b:List V}{c:List Value},Vals a c->Vals b c->a=b
 |_,_,_, .nil, .nil=>rfl
 |_,_,_, .cons r t, .cons d e=>by rw[r.inj d,Vals.inj t e]
section
variable {X:Cx} {pins:List (Addr×Obj)} {σ:St} {H:Hp} {s:Shared} {a:Addr} {xs ys:List V}
def cy.of{K:ac}(h:H a=some (.lst xs)):cy K H a xs:= .inl (.inl h)
def gm.of{K:ac}(h:H a=some (.tup xs)):gm K H a xs:= .inl (.inl h)
def Inv.list(I:Inv X pins σ H s)(h:cy X.K H a xs):∃its:List Value,Vals xs its/\PlainL s.heap a its.toArray/\xs.length<=sizeLine:=by
 rcases h with h| ⟨o,its,n,b,c,d,f,g,r⟩
 .obtain⟨z,its,n,r,e⟩:=h.ok I.hok
  exact#[its,r,#[_,n,e,rfl,rfl,rfl],z]
 .refine#[its.toList,r,#[o,n,I.c7 a o b,c,d,by simpa using f],?_]
  have e:=r.length;simp only[fZ] at e;lia
def Inv.tuple(I:Inv X pins σ H s)(h:gm X.K H a xs):∃its:List Value,Vals xs its/\IsTup s.heap a its.toArray/\xs.length<=sizeLine:=by
 rcases h with h| ⟨o,its,n,b,c,d,f,r⟩
 .obtain⟨z,its,r,p⟩:=h.ok I.hok
  exact#[its,r,p,z]
 .refine#[its.toList,r,#[o,I.c7 a o b,c,n,by simpa using d],?_]
  have e:=r.length;simp only[fZ] at e;lia
def Inv.AE(I:Inv X pins σ H s)(h:cy X.K H a xs)(h':cy X.K H a ys):xs=ys:=by
 rfl';obtain⟨c,r,⟨o,n,e,_,_,d⟩,_⟩:=I.list h;obtain⟨b,j,⟨m,p,f,_,_,g⟩,_⟩:=I.list h';ac_rfl;rw[e] at f;cases f;rw[d] at g
 injection g with k _
 have:c=b:=by simpa using GE Array.toList k
 subst this;exact r.inj j
end
abbrev Cx.qk(X:Cx)(E:Value->Shared->Prop):Cx:={X with xe:=E}
abbrev Cx.kR(X:Cx):Cx:=X.qk λ_ _=>False
theorem Cx.Ok.qk{X:Cx}(ok:X.Ok)(E:Value->Shared->Prop):(X.qk E).Ok:=
 #[ok.mod,ok.kind,ok.glob,ok.blt,ok.above,ok.inj,ok.has,ok.cab,ok.hd,ok.frames,ok.stk,ok.exf,ok.bs,ok.bsz,ok.noex,ok.exfs,ok.funs,ok.frf]
def Cx.Ok.kJ{X:Cx}(ok:(X.qk E).Ok):X.Ok:=
 #[ok.mod,ok.kind,ok.glob,ok.blt,ok.above,ok.inj,ok.has,ok.cab,ok.hd,ok.frames,ok.stk,ok.exf,ok.bs,ok.bsz,ok.noex,ok.exfs,ok.funs,ok.frf]
section
variable {X:Cx} {pins:List (Addr×Obj)} {σ:St} {H:Hp} {s:Shared} {E:Value->Shared->Prop}
theorem Inv.qk(I:Inv X pins σ H s)(E:Value->Shared->Prop):Inv (X.qk E) pins σ H s:=#[I.ok.qk E,I.os,I.bare,I.base,I.loc,I.cell,I.free,I.freeC,I.pin,I.hok,I.len]
theorem Inv.kJ(I:Inv (X.qk E) pins σ H s):Inv X pins σ H s:=#[I.ok.kJ,I.os,I.bare,I.base,I.loc,I.cell,I.free,I.freeC,I.pin,I.hok,I.len]
theorem SP.kJ{D:Ends}{f:Flow}{s':Shared}(h:SP (X.qk E) pins D f s'):SP X pins D f s':=by
 cases f with
 |next=>obtain⟨az,H',I,q⟩:=h;exact#[az,H',I.kJ,q]
 |brk=>obtain⟨az,H',I,q⟩:=h;exact#[az,H',I.kJ,q]
 |cont=>obtain⟨az,H',I,q⟩:=h;exact#[az,H',I.kJ,q]
 |ret u=>obtain⟨v,az,H',I,r,q⟩:=h;exact#[v,az,H',I.kJ,r,q]
theorem kc.kR{st:List Stmt}{t:TS}(h:kc X.kR st t):kc X st t:=λa s b H D I hw=>
 wpAny_mono (h a s b H D (I.qk _) hw) (λ_ _ q=>q.kJ) λ_ _ z=>False.elim z
end
section
variable {X:Cx} {st:Stmt} {rest:List Stmt} {t u:TS} {e:Expr} {te:TE} {pos:Pos}
def VS:TS:=λD a H=>D.nx a H
def ZA(t u:TS):TS:=λD a H=>t {D with nx:=u D} a H
def tu:kc X [] VS:=λ_ _ a H _ I h=>abk #[a,H,I,h]
def bY(h1:PS X st t)(h2:kc X rest u):kc X (st::rest) (ZA t u):=by
 intro pins s σ H D I h;refine wpAny_execs_cons (thn (h1 pins s σ H {D with nx:=u D} I h) λf s1 q=>?_)
 cases f with
 |next=>
  obtain⟨az,H',I',q⟩:=q;exact h2 pins s1 az H' D I' q
 |ret v=>exact q
 |brk=>exact q
 |cont=>exact q
def gv(h1:PS X st t):kc X [st] t:=by
 intro pins s σ H D I h;refine wpAny_execs_cons (thn (h1 pins s σ H D I h) λf s1 q=>?_);cases f with
 |next=>exact wpAny_execs_nil q
 |ret v=>exact q
 |brk=>exact q
 |cont=>exact q
def Inv.quiet(I:Inv X a b H s):interactive X.env=false:=by simp[interactive,I.ok.kind]
def VP(b:TE):TS:=λD a H=>b a H λ_ c=>D.nx a c
def fO(c:PE X e te)(d:swapsWith e none pos.line X.env=pure false:=by rfl):PS X (.Expr e pos) (VP te):=by
 intro a s b H D I h;exact wpAny_Expr_any (thn (c a s b H _ I h) λv j #[x,f,g,k,i]=>#[b,f,g,i]) I.quiet d
def Zz(a:TE):TS:=λD b H=>a b H D.rt
def pQ(c:PE X e te):PS X (.Return (some e) pos) (Zz te):=by
 intro a s b H D I h;exact wpAny_Return_some (thn (c a s b H _ I h) λv j #[x,d,f,g,i]=>#[x,b,d,f,g,i])
def Zv(c:TT)(t u:TS):TS:=λD a H=>c a H λb d=>if b=true then t D a d else u D a d
def C8(m:PT X c tc)(n:kc X a t)(o:kc X b u):PS X (.If c a b pos) (Zv tc t u):=by
 intro f s g H D I h;refine wpAny_If (thn (m f s g H _ I h) λd i #[j,k,l]=>?_);cases d with
 |true=>exact n f i g j D k l
 |false=>exact o f i g j D k l
def RM:TS:=λ_ _ _=>False
def Lh:PS X st RM:=λ_ _ _ _ _ _ h=>h.elim
end
abbrev TG:=V->St->Hp->(St->Hp->Prop)->Prop
abbrev zl:=List V->St->Hp->(St->Hp->Prop)->Prop
def PG(X:Cx)(a:Expr)(t:TG):Prop:=
 ∀(b:List (Addr×Obj))(s:Shared)(c:St)(H:Hp)(v:V)(u:Value)(Q:St->Hp->Prop),Inv X b c H s->RelV v u->t v c H Q->
  wpAny (model X.prog X.w) X.A (assign a X.env u) (λ_ f=>∃d e,Inv X b d e f/\Q d e) X.xe s
def A9(X:Cx)(g:List Expr)(t:zl):Prop:=
 ∀(a:List (Addr×Obj))(s:Shared)(b:St)(H:Hp)(c:List V)(d:List Value)(Q:St->Hp->Prop),Inv X a b H s->Vals c d->t c b H Q->
  wpAny (model X.prog X.w) X.A (assignInOrder ((assignEach g X.env).map (·.2)) d) (λ_ h=>∃e f,Inv X a e f h/\Q e f) X.xe s
abbrev LQ:=V->V->V->Hp->(Hp->Prop)->Prop
def Sg(X:Cx)(t:LQ):Prop:=
 ∀(a:List (Addr×Obj))(s:Shared)(b:St)(H:Hp)(o i v:V)(c d u:Value)(Q:Hp->Prop),Inv X a b H s->RelV o c->RelV i d->RelV v u->t o i v H Q->
  wpAny (model X.prog X.w) X.A (setItem c d u) (λ_ f=>∃e,Inv X a b e f/\Q e) X.xe s
section
variable {X:Cx} {pos:Pos}
def M7(i:Nat):TG:=λv a H Q=>Q (a.set i (some v)) H
def jV{i:Nat}(b:X.N.Nodup)(c:X.N[i]? =some x)(d:Loc X.env.scope x)(e:X.fn x=true\/X.env.scope.names.lookup x=some .local:=by subst_eqs):PG X (.Name x f) (M7 i):=by
 intro a s j H v u Q I r h;exact wpAny_assign_Name (jF I b c d r (λk g=>#[_,H,g,h]) e)
def Xi:zl:=λa b H Q=>a= []/\Q b H
def Uu(t:TG)(u:zl):zl:=λa b H Q=>∃v r,a=v::r/\t v b H λc d=>u r c d Q
def sZ:A9 X [] Xi:=by
 intro a s b H c d Q I r h;obtain⟨e,h⟩:=h;subst e;cases r;exact assignInOrder_nil #[b,H,I,h]
theorem jD(c:PG X e t)(d:A9 X b u)
  (f:(assignEach (e::b) X.env).map (·.2)=assign e X.env::(assignEach b X.env).map (·.2):=by rfl):A9 X (e::b) (Uu t u):=by
 intro a s g H w x Q I r h;obtain⟨v,y,i,h⟩:=h;subst i;cases r with
 |cons r j=>
  rw[f];refine abL (thn (c a s g H _ _ _ I r h) λ_ k l=>?_);rfl';obtain⟨n,o,p,q⟩:=l;ac_rfl;exact d a k n o _ _ Q p j q
def Xk(K:ac)(n:Nat)(t:zl):TG:=λv c H Q=>∃a b,v= .ref a/\gm K H a b/\b.length=n/\t b c H Q
def vY(i:X.calm=true)(h:A9 X d t)
  (j:(assignEach d X.env).length=n:=by rfl) (l:(assignEach d X.env).findIdx? (·.1)=none:=by rfl):PG X (.Tuple d k pos) (Xk X.K n t):=by
 intro c s f H v u Q I r hw;rfl';obtain⟨a,p,q,w,x,hw⟩:=hw;subst q;subst r;obtain⟨y,g,z,F⟩:=I.tuple w;ac_rfl;refine assign_Tuple_tuple (I.ok.hd i) z (by simp[j,<-x,g.length]) l λA B=>?_
 have C:Inv X c f H {s with heap:=A}:=I.kept (t':=s.toks) λb o e=>B b o (bQ (FB e)) e
 exact h c _ f H p _ Q C (g) hw
def Xj(b c:TE)(t:LQ):TG:=λv a H Q=>b a H λo d=>c a d λi e=>t o i v e λf=>Q a f
def mv(l:PE X o g)(m:PE X i j)(n:Sg X t)
  (p:∀v,assign (.Subscript o i pos) X.env v=(do
   let b <-holding [v] (eval o X.env)
   let c <-holding [v,b] (eval i X.env)
   standAt pos
   holding [v,b,c] (setItem b c v)
   release [v,b,c] []):=by intro _;rfl):PG X (.Subscript o i pos) (Xj g j t):=by
 intro a s f H v u Q I r h;rw[p];refine ir (On (thn (l a s f H _ I h) λb q d=>?_));rfl';obtain⟨x,w,z,A,B⟩:=d;ac_rfl;refine ir (On (thn (m a q f w _ z B) λc C d=>?_));rfl';obtain⟨y,E,F,G,J⟩:=d;ac_rfl;refine ir (aas (ir (On (thn (n a C f E x y v b c u _ F A G r J) λ_ O d=>?_))));rfl';obtain⟨L,M,N⟩:=d;ac_rfl;exact wpAny_release #[f,L,M,N]
def SX(b:TE)(g:TG):TS:=λD a H=>b a H λx c=>g x a c D.nx
def ju(f:PE X e c)(i:PG X b g)(j:swapsWithSole [b] e pos.line X.env=pure false:=by rfl)(hw:swappedStores [b] e X.env=pure none:=by rfl)
  (k:(assignEach [b] X.env).map (·.2)= [assign b X.env]:=by rfl):PS X (.Assign [b] e pos) (SX c g):=by
 intro a s d H D I h;refine wpAny_Assign_stores (thn (f a s d H _ I h) λv l #[x,m,n,o,p]=>?_) j hw;rw[k];exact thn (i a l d m x v _ n o p) λ_ r q=>q
def jv{i:Nat}(d:X.N.Nodup)(f:X.N[i]? =some x)(g:Loc X.env.scope x)(j:PE X e c)(k:swapsWith e (some (.Name x a)) pos.line X.env=pure false:=by rfl)(l:X.fn x=true\/X.env.scope.names.lookup x=some .local:=by subst_eqs):
  PS X (.Assign [.Name x a] e pos) (SX c (M7 i)):=by
 intro b s m H D I h;refine wpAny_Assign_Name (thn (j b s m H _ I h) λv t #[y,n,o,p,q]=>?_) k;exact jF o d f g p (λu r=>#[_,n,r,q]) l
def Zy(i j:Nat)(b:TA):TS:=λD a H=>b a H λc d=>∃v w,c= [v,w]/\D.nx ((a.set i (some v)).set j (some w)) d
theorem Rh{kt k2 Ig}(C:X.calm=true)(n:X.N.Nodup)(E:X.N[i]? =some x)(F:X.N[j]? =some y)(G:i≠j)
  (r:X.env.scope.names.lookup x=some .local) (t:X.env.scope.names.lookup y=some .local) (J:PA X [a,b] m)
  (hw:swappedStores [.Tuple [.Name x k, .Name y py] kt pt] (.Tuple [a,b] k2 Ig) X.env=pure (some [x,y]))
  (L:swapsWithSole [.Tuple [.Name x k, .Name y py] kt pt] (.Tuple [a,b] k2 Ig) pos.line X.env=pure false:=by rfl):
  PS X (.Assign [.Tuple [.Name x k, .Name y py] kt pt] (.Tuple [a,b] k2 Ig) pos) (Zy i j m):=by
 intro c s u H D I h;rw[exec_Assign_arm];refine ir (aas ?_);rw[L];refine ir (AC ?_);rw[mo (by decide)]
 refine ir (Tuple_ (thn (J _ c s u H _ I h) λM d O=>?_));obtain⟨vs,z,P,Q,l⟩:=O;obtain⟨v,w,R,l⟩:=l;subst R
 obtain⟨f,g,rfl,S,T⟩:∃f g,M= [f,g]/\RelV v f/\RelV w g:=by
  cases Q with
  |cons p q=>
   cases q with
   |cons U Y=>
    cases Y;exact#[_,_,rfl,p,U]
 refine Wp ?_ (by show 2<=sizeLine;decide)
 have Z:Inv X c u z {d with heap:=d.heap.push {cls:= .type "tuple",data:= .seq [f,g].toArray}}:=P.kept (t':=d.toks) λb o e=>Da _ e
 rw[hw];refine ir (AC ?_);show wpAny (model X.prog X.w) X.A (do rule "assign.swapped-stores";let items <-unpackItems (.ref d.heap.objs.size) 2 none;assignInOrder [λv=>bindName X.env y v,λv=>bindName X.env x v] items.reverse;pure Flow.next) _ _ _
 refine ir (aaL (ir (unpackItems_tuple (items:= [f,g].toArray) (I.ok.hd C) (IsTup.new d.heap _) λh' B4=>?_)));have I3:=Z.kept (h':=h') (t':=d.toks) λb o e=>B4 b o (bQ (FB e)) e;show wpAny _ _ (assignInOrder [λv=>bindName X.env y v,λv=>bindName X.env x v] [g,f]>>=λ_=>pure Flow.next) _ _ _;refine ir (abL (wpAny_bindName (jF I3 n F (.inl t) T (λs2 I4=>?_) (.inr t))));refine abL (wpAny_bindName (jF I4 n E (.inl r) S (λs3 B=>assignInOrder_nil (AC ?_)) (.inr r)));rw[List.set_comm _ _ (Ne.symm G)] at B;exact#[_,z,B,l]
end
section
variable {X:Cx} {pos:Pos}
def RO(c:TT)(h:TS):TS:=λD a H=>∃W:Nat->St->Hp->Prop,(∃m,W m a H)/\∀m a H,W m a H->
 c a H λb d=>if b=true then ∃N:St->Hp->Prop,(∀e f,N e f->∃g,g<m/\W g e f)/\h {D with nx:=N,ct:=N,bk:=D.nx} a d else D.nx a d
def Li{c:Expr}{body:List Stmt}{tc:TT}{tb:TS}(hp:PassesOwn (model X.prog X.w) X.A X.env X.xe)(hc:PT X c tc)(hb:kc X body tb):PS X (.While c body [] pos) (RO tc tb):=by
 intro pins s σ H D I h;obtain⟨W,⟨m0,w0⟩,turn⟩:=h;refine wpAny_While (codeAny_whileLoop (λn s'=>∃az H',Inv X pins az H' s'/\W n az H') ?_ m0 #[σ,H,I,w0]);intro n s1 V3;rfl';obtain⟨IY,H1,I1,w1⟩:=V3;ac_rfl;refine wpAny_passesOwn hp (thn (hc pins s1 IY H1 _ I1 (turn n IY H1 w1)) λb s2 bu=>?_);rfl';obtain⟨H2,I2,q2⟩:=bu;ac_rfl;cases b with
 |true=>
  rfl';obtain⟨N,hN,q2⟩:=q2;ac_rfl;rw[if_pos rfl];refine wpAny_passesOwn hp (thn (hb pins s2 IY H2 _ I2 q2) λf s3 q3=>?_);cases f with
  |next=>
   obtain⟨vP,H3,I3,n3⟩:=q3;obtain⟨m',hm,w3⟩:=hN vP H3 n3;exact#[m',hm,vP,H3,I3,w3]
  |cont=>
   obtain⟨vP,H3,I3,n3⟩:=q3;obtain⟨m',hm,w3⟩:=hN vP H3 n3;exact#[m',hm,vP,H3,I3,w3]
  |brk=>exact q3
  |ret v=>exact q3
 |false=>
  rw[if_neg eD];exact wpAny_execs_nil #[IY,H2,I2,q2]
end
structure It where
 go:Nat->Hp->Prop
 yld:Nat->Hp->V->Hp->Prop
 stop:Nat->Hp->Prop
def f6(X:Cx)(a:List (Addr×Obj))(H:Hp)(b:Addr):Prop:=
 H b=none/\b≠X.env.locals/\b∉X.fs/\(b∈X.ex\/X.s₀.heap.objs.size<=b)/\(∀x c,X.env.cells.lookup x=some c->c≠b)/\∀p∈X.pn++a,p.1≠b
def Inv.M5(I:Inv X a g H s)(d:s.heap.objs.size<=b)(h:f b=none):f6 X a f b:=by
 refine#[h,ab1 (fo I.lt d),I.SQ d, .inr (jm I.sz d),λx c e z=>?_,λp i z=>?_]
 .obtain⟨v,q⟩:=I.cell x c e
  exact absurd (fo q.lt (by rw[z];exact d)) (j8 _)
 .exact absurd (fo (FB (I.pin p i).1) (by rw[z];exact d)) (j8 _)
structure Turn (P:Program) (w:World) (K:ac) (tg:Expr) (J:It) (fp:List Addr) (it:Addr) (tn:Nat->Heap->Prop):Prop where
 mem:it∈fp
 obj:∀i h,tn i h->∀b∈fp,∃o,h.get? b=some o/\∀v,o.data≠ .cell v
 keep:∀i h h',tn i h->(∀b∈fp,∀o,h.get? b=some o->h'.get? b=some o)->tn i h'
 item:∀(X:Cx),X.prog=P->X.w=w->X.K=K->X.calm=true->∀(i:Nat)(pins:List (Addr×Obj))(s:Shared)(σ:St)(H:Hp)(E:Value->Shared->Prop),Inv X pins σ H s->(∀b∈fp,f6 X pins H b)->tn i s.heap->J.go i H->
  wpAny (model P w) X.A (pyNext (.ref it)) (λr s1=>∃u,r=some u/\
   wpAny (model P w) X.A (letOwnedTupleGo tg (.ref it) u) (λ_ s2=>∃x H',Inv X pins σ H' s2/\RelV x u/\J.yld i H x H'/\tn (i+1) s2.heap/\∀b∈fp,H' b=none) E s1) E s
 done:∀(X:Cx),X.prog=P->X.w=w->X.K=K->X.calm=true->∀(i:Nat)(pins:List (Addr×Obj))(s:Shared)(σ:St)(H:Hp)(E:Value->Shared->Prop),Inv X pins σ H s->(∀b∈fp,f6 X pins H b)->tn i s.heap->J.stop i H->
  wpAny (model P w) X.A (pyNext (.ref it)) (λr s1=>r=none/\Inv X pins σ H s1) E s
 self:∀(A:Around)(i:Nat)(s:Shared)(Q:Value->Shared->Prop)(E:Value->Shared->Prop),tn i s.heap->Q (.ref it) s->wpAny (model P w) A (pyIter (.ref it)) Q E s
abbrev TI:=St->Hp->(It->Hp->Prop)->Prop
def Wh(X:Cx)(a:List (Addr×Obj))(h:St)(i:Expr)(R:It->Hp->Prop)(j:Value)(d:Shared):Prop:=
 ∃(e:Addr)(f:List Addr)(g:Nat->Heap->Prop)(J:It)(c:Hp),j= .ref e/\Inv X a h c d/\Turn X.prog X.w X.K i J f e g/\g 0 d.heap/\(∀b∈f,f6 X a c b)/\R J c
def PI(X:Cx)(c iter:Expr)(d:TI):Prop:=
 ∀(a:List (Addr×Obj))(s:Shared)(b:St)(H:Hp)(R:It->Hp->Prop),Inv X a b H s->d b H R->
  wpAny (model X.prog X.w) X.A (eval iter X.env) (λv e=>wpAny (model X.prog X.w) X.A (pyIter v) (Wh X a b c R) X.xe e) X.xe s
theorem Nb{M:Model}{A:Around}{E:Value->Shared->Prop}{s:Shared}{b:Expr}{c:Addr}{u:Value}{o:Obj}{n:String}{d:Array Value}{Q:Unit->Shared->Prop}(e:s.heap.get? c=some o)(f:o.cls= .type n)(g:o.data= .fields d)
  (i: ["enumerate","zip","dict_itemiterator","dict_reverseitemiterator","odict_iterator","itertools.zip_longest","itertools.pairwise"].contains n=false) (a:Q () s):wpAny M A (letOwnedTupleGo b (.ref c) u) Q E s:=by
 unfold letOwnedTupleGo
 cases b<;>first
  |exact wpAny_pure a
  | (cases u<;>first
    |exact wpAny_pure a
    | (refine wpAny_bind (wpAny_load e ?_)
       rw[f,g];show wpAny M A (if (["enumerate","zip","dict_itemiterator","dict_reverseitemiterator","odict_iterator","itertools.zip_longest","itertools.pairwise"].contains n&&d[0]? ==some (rawInt _))=true then _ else _) Q E s;rw[if_neg (by intro h;rw[i,Bool.false_and] at h;cases h)]
       exact wpAny_pure a))
def Tf(K:ac)(a:Addr):It:=
 #[λi H=>∃b x,cy K H a b/\b[i]? =some x,λi H x c=>c=H/\∀b,cy K H a b->b[i]? =some x,λi H=>∃b,cy K H a b/\b.length<=i]
def Pr(lo:Int)(n:Nat):It:=#[λi _=>i<n,λi H x a=>a=H/\x= .int (lo+i),λi _=>n<=i]
def IE{P:Program}{w:World}{K:ac}{R:Expr}(a g:Addr):Turn P w K R (Tf K a) [g] g (λi h=>h.IsListIter g a i) where
 mem:=by simp
 obj:=λi h st b j=>by
  have e:b=g:=by simpa using j
  subst e;obtain⟨o,e,c,d⟩:=st;exact#[o,e,λv z=>by rw[d] at z;cases z]
 keep:=λi h l st k=>st.at λo e=>k g (by simp) o e
 item:=by
  intro X q hw r N i f s O H E I m st t;rfl';subst q hw r;obtain⟨T,x,n,A⟩:=t;obtain⟨B,C,p,U⟩:=I.list n;obtain⟨u,Y,Z⟩:=C.get A;obtain⟨F,G,f2,J,L,M⟩:=m g (by simp)
  ac_rfl;refine wpAny_pyNext_list_item st p.isList (x:=u) (by simpa using Y) λl Q sb=>?_
  have I1:Inv X f O H {s with heap:=l}:=I.turned (t':=s.toks) (λb o j e=>(sb.2 b j).trans e) F G J L M
  obtain⟨o,e,c,d⟩:=id Q;exact#[u,rfl,Nb (s:={s with heap:=l}) e c d (by decide) #[x,H,I1,Z,#[rfl,λys hy=>by rw[I.AE hy n];exact A],Q,λb j=>(m b j).1]]
 done:=by
  intro X q hw r N i f s O H E I m st t;rfl';subst q hw r;obtain⟨T,n,A⟩:=t;obtain⟨B,C,p,U⟩:=I.list n;obtain⟨F,G,f2,J,L,M⟩:=m g (by simp)
  have hl:=C.length;ac_rfl;exact wpAny_pyNext_list_end (I.ok.hd N) st p.isList (by simp;lia) λl eb=>#[rfl,I.turned (t':=s.toks) (λb o j e=>eb b o j e) F G J L M]
 self:=λ_ _ _ _ _ st h=>wpAny_pyIter_listiter st h
def F0{P:Program}{w:World}{K:ac}{G:Expr}(a:Addr)(lo:Int)(n:Nat):Turn P w K G (Pr lo n) [a] a (λi h=>IsRangeIter h a (lo+(i:Nat)*1) ((n:Int)-(i:Nat)) 1) where
 mem:=by simp
 obj:=λi h st b d=>by
  have e:b=a:=by simpa using d
  subst e
  exact#[_,st,λv z=>by
   have J:Data.fields _=Data.cell v:=z;cases J]
 keep:=λi h f st k=>k a (by simp) _ st
 item:=by
  intro X j hw l m i c s B H E I g st p;subst j hw l;rfl';obtain⟨r,u,M,x,y,A⟩:=g a (by simp)
  ac_rfl;have W:=Walks.range (prog:=X.prog) (w:=X.w) (I.ok.hd m) a lo 1 n;refine W.item i s _ _ p st λv f C N F O=>?_;obtain⟨t,rfl⟩:=N;have Q:Inv X c B H {s with heap:=f,toks:=C}:=I.turned (λb o d e=>O b o (by simpa using d) e) r u x y A
  refine#[_,rfl,Nb (s:={s with heap:=f,toks:=C}) (n:="range_iterator") F rfl rfl (by decide) #[.int (lo+i),H,Q,#[t,?_],#[rfl,rfl],F,λb d=>(g b d).1]]
  rw[Int.mul_one]
 done:=by
  intro X j hw l m i c s B H E I g st p;subst j hw l;rfl';obtain⟨r,u,M,x,y,A⟩:=g a (by simp)
  ac_rfl;exact wpAny_pyNext_range_end (I.ok.hd m) st (by have:n<=i:=p;lia) λf R=>#[rfl,I.turned (t':=s.toks) (λb o d e=>R b o d e) r u x y A]
 self:=λ_ _ _ _ _ st h=>wpAny_pyIter_rangeiter st h
section
variable {X:Cx} {tg:Expr}
def U4(K:ac)(c:TE):TI:=λd H R=>c d H λx b=>∃a,x= .ref a/\(∃e,cy K b a e)/\R (Tf K a) b
def OE(j:PE X l i):PI X tg l (U4 X.K i):=by
 intro c s k H R I h;refine thn (j c s k H _ I h) λv d m=>?_;rfl';obtain⟨x,r,f,t,u⟩:=m;ac_rfl;rfl';obtain⟨a,e,⟨A,w⟩,q⟩:=u;subst e;subst t;obtain⟨y,B,p,C⟩:=f.list w;ac_rfl;refine abV p.isList ?_;refine#[d.heap.objs.size,[d.heap.objs.size],_,_,r,rfl,f.kept (t':=d.toks) λb o e=>Da _ e,IE a _,#[_,GM _ rfl,rfl,rfl],λb z=>?_,q];have e:b=d.heap.objs.size:=by simpa using z
 subst e;exact f.M5 (bJ _) (f.hok.fresh (bJ _))
def Ll{c:List (Addr×Obj)}{d:St}{H:Hp}{s:Shared}{R:It->Hp->Prop}{E:Value->Shared->Prop}{lo a:Int}{t u v:Tok}{f:Nat}(I:Inv X c d H s)(h: -(2^62)<=lo)(i:lo<2^62)(j: -(2^62)<=a)(k:a<2^62)
  (q:R (Pr lo (a-lo).toNat) H):wpAny (model X.prog X.w) X.A (pyIter (.ref s.heap.objs.size)) (Wh X c d tg R) E {s with heap:=s.heap.push {cls:= .type "range",data:= .fields [.int lo t, .int a u, .int 1 v].toArray},toks:=f}:=by
 refine wpAny_pyIter_range (IsRange.new ..) (small_one h i j k) ?_;have g:Inv X c d H {s with heap:=s.heap.push {cls:= .type "range",data:= .fields [.int lo t, .int a u, .int 1 v].toArray},toks:=f}:=I.kept λb o e=>Da _ e
 refine#[(s.heap.push {cls:= .type "range",data:= .fields [.int lo t, .int a u, .int 1 v].toArray}).objs.size,[(s.heap.push {cls:= .type "range",data:= .fields [.int lo t, .int a u, .int 1 v].toArray}).objs.size],_,_,H,rfl,
  g.kept (t':=f) λb o e=>Da _ e,F0 _ lo (a-lo).toNat,?_,λb l=>?_,q]
 .have m:lo+((0:Nat):Int)*1=lo:=by simp
  have n:(((a-lo).toNat:Nat):Int)-((0:Nat):Int)=Builtin.Range.rangeSize lo a 1:=by rw[rangeSize_one];split<;>lia
  show IsRangeIter _ _ (lo+((0:Nat):Int)*1) ((((a-lo).toNat:Nat):Int)-((0:Nat):Int)) 1;rw[m,n];exact GM _ rfl
 .have e:b=(s.heap.push {cls:= .type "range",data:= .fields [.int lo t, .int a u, .int 1 v].toArray}).objs.size:=by simpa using l
  subst e;exact g.M5 (bJ _) (g.hok.fresh (bJ _))
def U5(a:TA):TI:=λb H R=>a b H λc d=>∃j:Int,c= [.int j]/\-(2^62)<=j/\j<2^62/\R (Pr 0 j.toNat) d
def Ib(g:Gl X "range")(i:X.mg "range"=none)(k:PA X [a] f)(l:starEach [a] X.env= [(false,eval a X.env)]:=by rfl):PI X tg (.Call (.Name "range" p) [a] [] b) (U5 f):=by
 intro c s m H R I h;refine Call_ (pH I g i boot_range (aaK (thn (k b c s m H _ I h) λw x #[y,z,n,o,d]=>?_) l rfl));obtain⟨j,e,d,u,q⟩:=d;subst e;cases o with
 |cons r v=>
  cases v;obtain⟨t,rfl⟩:=r;exact call_range_1 (Ll n (by lia) (by lia) d u (by simpa using q))
def Zu(e:TI)(g:TG)(f:TS):TS:=λD a H=>e a H λJ h=>∃W:Nat->Nat->St->Hp->Prop,(∃m,W 0 m a h)/\∀i m a H,W i m a H->
 (J.stop i H/\D.nx a H)\/(J.go i H/\∃N:St->Hp->Prop,(∀c b,N c b->∃d,d<m/\W (i+1) d c b)/\∀x b,J.yld i H x b->g x a b λj k=>f {D with nx:=N,ct:=N,bk:=D.nx} j k)
def mw(a:List Addr)(h:Heap):List (Addr×Obj):=a.filterMap λb=>(h.get? b).map λo=>(b,o)
def eY(c:b∈a)(e:h.get? b=some o):(b,o)∈mw a h:=abM.mpr #[b,c,by rw[e];rfl]
def HV(c:p∈mw a h):p.1∈a/\h.get? p.1=some p.2:=by
 obtain⟨b,d,e⟩:=abM.mp c;cases q:h.get? b with
 |none=>rw[q] at e;cases e
 |some o=>
  rw[q] at e;have f:(b,o)=p:=Fk e;subst f;exact#[d,q]
def Inv.pinned(I:Inv X a f H s)(i:∀b∈c,f6 X a H b)(j:∀b∈c,∃o,s.heap.get? b=some o/\∀v,o.data≠ .cell v):Inv X (a++mw c s.heap) f H s:=
 I.tj λp k=>(dh.mp k).elim (λz=>I.pin p (gW _ z)) λz=>by
  rfl';obtain⟨g,e⟩:=HV z;obtain⟨m,n,q,_⟩:=i p.1 g;obtain⟨o,h,d⟩:=j p.1 g;ac_rfl;rw[e] at h;cases h;exact#[e,m,n,q,d]
def Inv.jG(I:Inv X (a++pl) b H s):Inv X a b H s:=I.tj λp c=>I.pin p (gW _ (iu _ c))
theorem vZ{Z:TI}(C:PassesOwn (model X.prog X.w) X.A X.env X.xe)(hc:X.calm=true)(hi:PI X tg iter Z)(hg:PG X tg g)(c:kc X t tb)
  (hs:∀x,foldedSetIterable iter X.env x=pure x:=by intro _;rfl):PS X (.For tg iter t [] P) (Zu Z g tb):=by
 intro a s σ H D I h;refine wpAny_For (thn (hi a s σ H _ I h) λv s1 h1=>thn h1 λzM s2 h2=>?_) hs;rfl';obtain⟨it,E,tn,J,H2,e,I2,T,j4,f2,W,⟨m0,w0⟩,F⟩:=h2;subst e;ac_rfl;have j:∀{q:Hp},(∀b∈E,q b=none)->∀b∈E,f6 X a q b:=λhn b c=>#[hn b c,(f2 b c).2];refine codeAny_forLoop_any (λn s'=>∃i G q,Inv X a G q s'/\tn i s'.heap/\(∀b∈E,q b=none)/\W i n G q) ?_ m0 #[0,σ,H2,I2,j4,λb c=>(f2 b c).1,w0];intro n s3 V3;rfl';obtain⟨i,L,O,I3,vN,Xg,w3⟩:=V3;ac_rfl
 rcases F i n L O w3 with ⟨stop,qn⟩ | ⟨go,N,hN,step⟩
 .refine aaB C (thn (T.done X rfl rfl rfl hc i a s3 L O X.xe I3 (j Xg) vN stop) λr s4 B=>?_)
  obtain⟨R,I4⟩:=B;subst R;exact abk #[L,O,I4,qn]
 .refine aaB C (thn (T.item X rfl rfl rfl hc i a s3 L O X.xe I3 (j Xg) vN go) λr s4 B=>?_)
  obtain⟨u,R,h4⟩:=B;subst R;refine aaB C (thn h4 λ_ s5 B=>?_);rfl';obtain⟨x,H5,I5,r5,y5,S,zC⟩:=B;ac_rfl;have Td:=I5.pinned (j zC) (T.obj _ _ S);refine aaB C (thn (hg _ s5 L H5 x u _ Td r5 (step x H5 y5)) λ_ s6 B=>?_);rfl';obtain⟨U,H6,I6,q6⟩:=B;ac_rfl;refine aaB C (thn (c _ s6 U H6 _ I6 q6) λf Y y=>?_)
  have again:∀{k:St}{l:Hp},Inv X (a++mw E s5.heap) k l Y->N k l->∃m,m<n/\∃i G q,Inv X a G q Y/\tn i Y.heap/\(∀b∈E,q b=none)/\W i m G q:=λ {k l} p M=>by
   obtain⟨m',hm,w7⟩:=hN k l M;refine#[m',hm,i+1,k,l,p.jG,T.keep _ _ _ S λb c o e=>(p.pin (b,o) (gW _ (gW _ (eY c e)))).1,λb c=>?_,w7];obtain⟨o,e,d⟩:=T.obj _ _ S b c;exact(p.pin (b,o) (gW _ (gW _ (eY c e)))).2.1
  cases f with
  |next=>obtain⟨k,l,p,M⟩:=y;exact again p M
  |cont=>obtain⟨k,l,p,M⟩:=y;exact again p M
  |brk=>obtain⟨k,l,p,y⟩:=y;exact#[k,l,p.jG,y]
  |ret v=>obtain⟨x7,k,l,p,r7,y⟩:=y;exact#[x7,k,l,p.jG,r7,y]
end
abbrev R2:=V->V->Hp->VK->Prop
def OpR(X:Cx)(f:Value->Value->Sem Value)(r:R2):Prop:=
 ∀(a:List (Addr×Obj))(s:Shared)(b:St)(H:Hp)(x y:V)(v u:Value)(Q:VK),Inv X a b H s->RelV x v->RelV y u->r x y H Q->
  wpAny (model X.prog X.w) X.A (f v u) (EP X a b Q) X.xe s
def UnR(X:Cx)(f:Value->Sem Value)(r:V->Hp->VK->Prop):Prop:=
 ∀(a:List (Addr×Obj))(s:Shared)(b:St)(H:Hp)(x:V)(v:Value)(Q:VK),Inv X a b H s->RelV x v->r x H Q->
  wpAny (model X.prog X.w) X.A (f v) (EP X a b Q) X.xe s
def CallR(X:Cx)(f:Value)(r:List V->Hp->VK->Prop):Prop:=
 ∀(a:List (Addr×Obj))(s:Shared)(b:St)(H:Hp)(c:List V)(d:List Value)(Q:VK),Inv X a b H s->Vals c d->r c H Q->
  wpAny (model X.prog X.w) X.A (call f d) (EP X a b Q) X.xe s
def Wj(X:Cx)(r:V->Hp->(Bool->Hp->Prop)->Prop):Prop:=
 ∀(a:List (Addr×Obj))(s:Shared)(b:St)(H:Hp)(x:V)(v:Value)(Q:Bool->Hp->Prop),Inv X a b H s->RelV x v->r x H Q->
  wpAny (model X.prog X.w) X.A (truthy v) (TP X a b Q) X.xe s
def Pb(r:R2)(b c:TE):TE:=λa H Q=>b a H λx d=>c a d λy e=>r x y e Q
def tUn(r:V->Hp->VK->Prop)(a:TE):TE:=λb H Q=>a b H λx c=>r x c Q
def rI(C:Int->Int->Prop)(g:Int->Int->V):R2:=λx y H Q=>∃i j,x= .int i/\y= .int j/\C i j/\Q (g i j) H
def zT(g:Int->Int->V):R2:=λx y H Q=>∃i j,x= .int i/\y= .int j/\Q (g i j) H
def rU(g:Int->V):V->Hp->VK->Prop:=λx H Q=>∃i,x= .int i/\Q (g i) H
section
variable {X:Cx} {a b c:Expr} {ta tb tc:TE} {pos:Pos}
def LZ(l:PE X a ta)(m:PE X b tb){d:List (Addr×Obj)}{s:Shared}{e:St}{H:Hp}{R:V->V->Hp->Prop}(I:Inv X d e H s)
  (h:ta e H λx k=>tb e k λy g=>R x y g) {Q:Value->Shared->Prop} {f:Value->Value->Sem Value}
  (n:∀v u j x y g,Inv X d e g j->RelV x v->RelV y u->R x y g->wpAny (model X.prog X.w) X.A (f v u) Q X.xe j):
  wpAny (model X.prog X.w) X.A (eval a X.env) (λv i=>wpAny (model X.prog X.w) X.A (eval b X.env) (λu o=>wpAny (model X.prog X.w) X.A (f v u) Q X.xe o) X.xe i) X.xe s:=by
 refine thn (l d s e H _ I h) λv p #[x,k,q,r,t]=>?_;refine thn (m d p e k _ q t) λu j #[y,g,z,B,C]=>?_;exact n v u j x y g z r B C
def OB(f:OpR X (binaryOp e) r)(g:PE X a ta)(i:PE X b tb):PE X (.BinOp a e b pos) (Pb r ta tb):=by
 intro d s j H Q I h;exact wpAny_BinOp (LZ g i I h λv u k x y l m n o q=>f d k j l x y v u Q m n o q)
def Vt(g:UnR X (unaryOp e) r)(i:PE X a ta):PE X (.UnaryOp e a pos) (tUn r ta):=by
 intro d s f H Q I h;exact UnaryOp_ (thn (i d s f H _ I h) λv j #[x,k,l,m,n]=>g d j f k x v Q l m n)
def Vk{f:Value->Value->Sem Value}{C:Int->Int->Prop}{g:Int->Int->Int}
  (rule:∀(i j:Int)(t u:Tok)(s:Shared)(Q:Value->Shared->Prop)(E:Value->Shared->Prop),C i j->Q (.int (g i j) s.toks) {s with toks:=s.toks+1}->wpAny (model X.prog X.w) X.A (f (.int i t) (.int j u)) Q E s):
  OpR X f (rI C λi j=> .int (g i j)):=by
 intro d s n H x y v u Q I e k h;obtain⟨i,j,rfl,rfl,l,q⟩:=h;obtain⟨t,rfl⟩:=e;obtain⟨m,rfl⟩:=k;exact rule i j t m s _ _ l #[.int (g i j),H,I.tok _,#[_,rfl],q]
def SS{f:Value->Value->Sem Value}{g:Int->Int->Int}
  (rule:∀(i j:Int)(t u:Tok)(s:Shared)(Q:Value->Shared->Prop)(E:Value->Shared->Prop),Q (.int (g i j) s.toks) {s with toks:=s.toks+1}->wpAny (model X.prog X.w) X.A (f (.int i t) (.int j u)) Q E s):
  OpR X f (zT λi j=> .int (g i j)):=by
 intro d s m H x y v u Q I e k h;obtain⟨i,j,rfl,rfl,q⟩:=h;obtain⟨t,rfl⟩:=e;obtain⟨l,rfl⟩:=k;exact rule i j t l s _ _ #[.int (g i j),H,I.tok _,#[_,rfl],q]
def JG{f:Value->Value->Sem Value}{g:Int->Int->Bool}
  (rule:∀(i j:Int)(t u:Tok)(s:Shared)(Q:Value->Shared->Prop)(E:Value->Shared->Prop),Q (.bool (g i j)) s->wpAny (model X.prog X.w) X.A (f (.int i t) (.int j u)) Q E s):
  OpR X f (zT λi j=> .bl (g i j)):=by
 intro d s m H x y v u Q I e k h;obtain⟨i,j,rfl,rfl,q⟩:=h;obtain⟨t,rfl⟩:=e;obtain⟨l,rfl⟩:=k;exact rule i j t l s _ _ #[.bl (g i j),H,I,rfl,q]
def Sf(i j:Int):Prop:=0<j/\j<1073741824
def IZ(i j:Int):Prop:=(-(2^64)<i/\i<2^64)\/(-(2^64)<j/\j<2^64)
def IZ.ok(h:IZ i j):IntMulOk i j:=by
 rcases h with ⟨d,e⟩ | ⟨d,e⟩
 .exact .of_left (intBits_le_64 d e)
 .exact .of_right (intBits_le_64 d e)
def QR:OpR X (binaryOp .Add) (zT λi j=> .int (i+j)):=SS λ_ _ _ _ _ _ _ q=>add_int q
def QY:OpR X (binaryOp .Sub) (zT λi j=> .int (i-j)):=SS λ_ _ _ _ _ _ _ q=>sub_int q
def QV:OpR X (binaryOp .Mult) (rI IZ λi j=> .int (i*j)):=Vk λ_ _ _ _ _ _ _ d q=>mul_int q d.ok
def Om:OpR X (binaryOp .FloorDiv) (rI Sf λi j=> .int (i / j)):=Vk λi j _ _ _ _ _ d q=>by
 have e:(0:Int)<j:=d.1;have f:j<1073741824:=d.2;exact floordiv_int (by lia) (by rw[Int.fdiv_eq_ediv_of_nonneg i (by lia)];exact q) (.inl (PyProof.noPylong_small (by lia)))
def QU:OpR X (binaryOp .Mod) (rI (λ_ j=>0<j) λi j=> .int (i%j)):=Vk λi j _ _ _ _ _ d q=>by
 have e:(0:Int)<j:=d;exact mod_int' (by lia) (by rw[Int.fmod_eq_emod_of_nonneg i (by lia)];exact q)
def unI{f:Value->Sem Value}{g:Int->Int}
  (rule:∀(i:Int)(t:Tok)(s:Shared)(Q:Value->Shared->Prop)(E:Value->Shared->Prop),Q (.int (g i) s.toks) {s with toks:=s.toks+1}->wpAny (model X.prog X.w) X.A (f (.int i t)) Q E s):
  UnR X f (rU λi=> .int (g i)):=by
 intro d s j H x v Q I e h;obtain⟨i,rfl,q⟩:=h;obtain⟨t,rfl⟩:=e;exact rule i t s _ _ #[.int (g i),H,I.tok _,#[_,rfl],q]
def RV:UnR X (unaryOp .USub) (rU λi=> .int (-i)):=unI λ_ _ _ _ _ q=>neg_int q
end
section
variable {X:Cx} {a b c:Expr} {ta tb tc:TE} {pos:Pos}
def Jt(I:Inv X d f H s)(q:Q (.bl k) H)(e:k=g):EP X d f Q (.bool g) s:=by
 subst e;exact#[.bl k,H,I,rfl,q]
def Vo:OpR X (compareOp .Lt) (zT λi j=> .bl (decide (i<j))):=JG λ_ _ _ _ _ _ _ q=>lt_int q
def Vn:OpR X (compareOp .LtE) (zT λi j=> .bl (decide (i<=j))):=JG λ_ _ _ _ _ _ _ q=>le_int q
def Vm:OpR X (compareOp .Gt) (zT λi j=> .bl (decide (j<i))):=JG λ_ _ _ _ _ _ _ q=>gt_int q
def Vl:OpR X (compareOp .GtE) (zT λi j=> .bl (decide (j<=i))):=JG λ_ _ _ _ _ _ _ q=>ge_int q
def QT:OpR X (compareOp .Is) (λx y H Q=>y= .bb/\Q (.bl (decide (x= .bb))) H):=by
 intro d s g H x y v u Q I e f h;obtain⟨rfl,q⟩:=h;subst f;refine is_none_gen (Jt I q ?_)
 cases x<;>first
  | (cases e;rfl)
  | (obtain⟨t,rfl⟩:=e;rfl)
def Oq:OpR X (compareOp .IsNot) (λx y H Q=>y= .bb/\Q (.bl (!decide (x= .bb))) H):=by
 intro d s g H x y v u Q I e f h;obtain⟨rfl,q⟩:=h;subst f;refine isnot_none_gen (Jt I q ?_)
 cases x<;>first
  | (cases e;rfl)
  | (obtain⟨t,rfl⟩:=e;rfl)
def OpR.or(h:OpR X f r)(k:OpR X f e):OpR X f (λx y H Q=>r x y H Q\/e x y H Q):=by
 intro d s g H x y v u Q I i j q
 rcases q with q|q
 .exact h d s g H x y v u Q I i j q
 .exact k d s g H x y v u Q I i j q
def ba(b:Expr)(h:d≠ .In:=by decide)(e:d≠ .NotIn:=by decide):behindInMarks d b=false:=by
 have f:(d==CmpOp.In)=false:=by cases d<;>first|rfl|exact absurd rfl h
 have g:(d==CmpOp.NotIn)=false:=by cases d<;>first|rfl|exact absurd rfl e
 cases b<;>simp[behindInMarks,f,g]
def Ou(f:OpR X (compareOp e) r)(g:PE X a ta)(i:PE X b tb)(j:behindInMarks e b=false):PE X (.Compare a [e] [b] pos) (Pb r ta tb):=by
 intro d s k H Q I h;exact wpAny_Compare1 (LZ g i I h λv u l x y m n o p q=>f d l k m x y v u Q n o p q) j
def IA(t:TE):TT:=λd H Q=>t d H λx e=>∃k,x= .bl k/\Q k e
def OK(i:OpR X (compareOp f) r)(j:PE X a ta)(l:PE X b tb)(m:behindInMarks f b=false):PT X (.Compare a [f] [b] pos) (IA (Pb r ta tb)):=by
 intro d s g H Q I h
 refine wpAny_isTrue_Compare1 (thn (j d s g H _ I h) λv n #[x,o,p,q,t]=>thn (l d n g o _ p t) λu w #[y,A,B,C,E]=>
  thn (i d w g A x y v u _ B q C E) λc M #[z,F,G,J,k,e,L]=>?_) m
 subst e;subst J;exact SL #[F,G,L]
def Ds(r f:R2)(g h tc:TE):TE:=λd H Q=>g d H λx i=>h d i λy j=>r x y j λz e=>∃k,z= .bl k/\
 (if k=true then tc d e λl m=>f y l m Q else Q (.bl false) e)
theorem K6(q:OpR X (compareOp i) r)(t:OpR X (compareOp j) l)(w:PE X a ta)(A:PE X b tb)(B:PE X c tc)
  (C:lastMarks [i,j] [b,c]=false:=by with_unfolding_all rfl):PE X (.Compare a [i,j] [b,c] pos) (Ds r l ta tb tc):=by
 intro f s g H Q I h
 refine Compare_chain (thn (w f s g H _ I h) λv E #[x,F,G,J,L]=>chain_link (thn (A f E g F _ G L) λu M #[y,N,O,m,P]=>
  thn (q f M g N x y v u _ O J m P) λd R #[z,n,o,S,k,e,p]=>?_)) C
 subst e;subst S;refine SL ?_;cases k with
 |false=>exact ite_ff #[.bl false,n,o,rfl,p]
 |true=>exact ite_tt (chain_last (thn (B f R g n _ o p) λT U #[Y,Z,I4,r4,q4]=>t f U g Z y Y u T Q I4 m r4 q4))
theorem Lj(q:OpR X (compareOp i) r)(t:OpR X (compareOp j) l)(w:PE X a ta)(A:PE X b tb)(B:PE X c tc)
  (C:lastMarks [i,j] [b,c]=false:=by with_unfolding_all rfl):PT X (.Compare a [i,j] [b,c] pos) (IA (Ds r l ta tb tc)):=by
 intro f s g H Q I h
 refine isTrue_chain (thn (w f s g H _ I h) λv E #[x,F,G,J,L]=>test_link (thn (A f E g F _ G L) λu M #[y,N,O,m,P]=>
  thn (q f M g N x y v u _ O J m P) λd R #[z,n,o,S,k,e,p]=>?_)) C
 subst e;subst S;refine SL ?_;cases k with
 |false=>
  rfl';obtain⟨k',U,Y⟩:=p;cases U;ac_rfl;exact ite_ff #[n,o,Y]
 |true=>
  refine ite_tt (test_last (thn (B f R g n _ o p) λZ s4 #[z',H4,I4,r4,q4]=>thn (t f s4 g H4 y z' u Z _ I4 m r4 q4) λd' s5 #[z2,H5,I5,r5,k2,e2,q5]=>?_));subst e2;subst r5;exact SL #[H5,I5,q5]
def LR(K:ac)(x:V)(H:Hp)(k:Bool):Prop:=
 match x with
 | .bb=>k=false
 | .bl b=>k=b
 | .int i=>k=(i !=0)
 | .str y=>y.length<=sizeLine/\k=((y.length:Int) !=0)
 | .Kc y=>y.size<=sizeLine/\k=((y.size:Int) !=0)
 | .ref p=>(∃d,cy K H p d/\k= !d.isEmpty)\/(∃d,gm K H p d/\k= !d.isEmpty)\/∃e,H p=some (.dK e)/\k= !e.isEmpty
 |_=>False
def E5(r:KV e f):(!f.isEmpty)= !e.isEmpty:=by
 cases r<;>rfl
def uX(r:Vals e d):(!d.toArray.isEmpty)= !e.isEmpty:=by
 cases r<;>simp
def kD:(sizeLine:Nat)<2^63:=by rw[aaH];decide
def JS:Wj X (λx H Q=>∃k,LR X.K x H k/\Q k H):=by
 intro pins s σ H x v Q I rx h;obtain⟨k,e,q⟩:=h;have hl:=kD;have hs:sizeLine=16777216:=sizeLine_eq;cases x with
 |bb=>
  cases rx;have e':k=false:=e;subst e';exact truthy_none #[H,I,q]
 |bl b=>
  cases rx;have e':k=b:=e;subst e';exact wpAny_truthy_bool #[H,I,q]
 |int i=>
  obtain⟨t,rfl⟩:=rx;have e':k=(i !=0):=e;subst e';exact PySem.P.truthy_int #[H,I,q]
 |str y=>
  obtain⟨t,rfl⟩:=rx;obtain⟨hy,e'⟩:y.length<=sizeLine/\k=((y.length:Int) !=0):=e;subst e';exact PySem.P.truthy_str (by lia) #[H,I.tok _,q]
 |Kc y=>
  obtain⟨t,rfl⟩:=rx;obtain⟨hy,e'⟩:y.size<=sizeLine/\k=((y.size:Int) !=0):=e;subst e';exact PySem.W.truthy_bytes (by lia) #[H,I.tok _,q]
 |ref p=>
  subst rx;have e':(∃xs,cy X.K H p xs/\k= !xs.isEmpty)\/(∃xs,gm X.K H p xs/\k= !xs.isEmpty)\/∃fg,H p=some (.dK fg)/\k= !fg.isEmpty:=e
  rcases e' with ⟨xs,hx,e'⟩ | ⟨xs,hx,e'⟩ | ⟨fg,hx,e'⟩
  .subst e'
   obtain⟨its,r,pl,hz⟩:=I.list hx;have hlen:=r.length;exact wpAny_truthy_list pl.isList (by simp only[cJ];lia) #[H,I.tok _,by rw[uX r];exact q]
  .subst e'
   obtain⟨its,r,pl,hz⟩:=I.tuple hx;have hlen:=r.length;exact truthy_tuple pl (by simp only[cJ];lia) #[H,I.tok _,by rw[uX r];exact q]
  .subst e'
   obtain⟨hz,hS,vs,r,m⟩:fg.length<=sizeLine/\(p==sysModules)=false/\∃vs,KV fg vs/\s.heap.DictOf (xX X.prog X.w) p vs:=I.hok p _ hx;have hlen:fg.length=vs.length:=Paired.length r;exact wpAny_truthy_dict hS m (by lia) #[H,I.tok _,by rw[E5 r];exact q]
 |_=>exact(show False from e).elim
def Lk(i:PE X a ta)(j:∀d,isTrue a X.env d=(do let v <-d;standAt a.pos;holding [v] (truthy v))):
  PT X a (λf H Q=>ta f H λx g=>∃k,LR X.K x g k/\Q k g):=by
 intro e s f H Q I h;exact isTrue_plain (thn (i e s f H _ I h) λv l #[x,m,n,o,p]=>JS e l f m x v Q n o p) (j _)
def vals1(r:Vals [x] d):∃u,d= [u]/\RelV x u:=by
 cases r with
 |cons e f=>cases f;exact#[_,rfl,e]
def vals2(r:Vals [x,y] d):∃u e,d= [u,e]/\RelV x u/\RelV y e:=by
 cases r with
 |cons f g=>
  cases g with
  |cons h i=>cases i;exact#[_,_,rfl,f,h]
def GB(g:X.calm=true):CallR X (.builtin "max") (λe H Q=>∃i j,e= [.int i, .int j]/\Q (.int (if j>i then j else i)) H):=by
 intro f s m H e n Q I r h;rfl';obtain⟨i,j,rfl,q⟩:=h;obtain⟨u,p,rfl,⟨t,rfl⟩,⟨v,rfl⟩⟩:=vals2 r;ac_rfl;refine max_two_ints (I.ok.hd g) λw x k=>#[_,H,I.kept k,?_,q]
 by_cases d:j>i
 .rw[tz d,tz d];exact#[_,rfl]
 .rw[mo d,mo d];exact#[_,rfl]
def GC(g:X.calm=true):CallR X (.builtin "min") (λe H Q=>∃i j,e= [.int i, .int j]/\Q (.int (if j<i then j else i)) H):=by
 intro f s m H e n Q I r h;rfl';obtain⟨i,j,rfl,q⟩:=h;obtain⟨u,p,rfl,⟨t,rfl⟩,⟨v,rfl⟩⟩:=vals2 r;ac_rfl;refine min_two_ints (I.ok.hd g) λw x k=>#[_,H,I.kept k,?_,q]
 by_cases d:j<i
 .rw[tz d,tz d];exact#[_,rfl]
 .rw[mo d,mo d];exact#[_,rfl]
end
structure wj (h:Heap) (x dx C:Addr) (mA:Str->Option Value):Prop where
 obj:h.get? x=some (b5 C dx)
 ns:h.Ns1 dx mA
 ne:dx≠x
def qL{h:Heap}(n:h.Ns1 c d):∃od,h.get? c=some od/\∀b,cr b od=some (d b):=by
 rfl';obtain⟨o,f,u,i,j,k,_,l⟩:=n;ac_rfl;refine#[o,i,λb=>?_];have e:=l b;unfold nsFind findBy at e;rw[<-Array.find?_toList] at e;unfold cr;rw[j];dsimp only
 split
 .rename_i y q
  rw[q] at e;exact GE some e
 .rename_i q
  rw[q] at e
  have a:f.toList.any (·.refKey)=false:=by
   rw[List.any_eq_false];intro y m;obtain⟨z,t,p⟩:=k y (Array.mem_toList_iff.mp m);simp[DictEntry.refKey,p]
  have r:¬f.toList.any (·.refKey)=true:=by rw[a];exact eD
  rw[mo r];exact GE some e
def wj.look(I:wj h x c C d):∃b,PySem.W.InstAt h x (b5 C c) C (some b)/\∀a,cr a b=some (d a):=
 let #[b,e,f]:=qL I.ns
 #[b,#[I.obj,rfl,rfl,e],f]
section
variable {prog:Program} {w:World} {A:Around} {E:Value->Shared->Prop} {s:Shared} {K:ac} {x dx C f:Addr} {mA:Str->Option Value} {name:Str} {v:Value}
def get_map(X:K.In s.heap)(I:wj s.heap x dx C mA)(b:ce K C name=true)(c:bi K C=true)
  (d:ak K (.ref C) name=some none) (e:mA name=some v) (g:PySem.W.handedIn v=true) (h:Q v {s with toks:=s.toks+1}):
  wpAny (model prog w) A (getAttr (.ref x) name a) Q E s:=by
 obtain⟨j,J,i⟩:=I.look;exact PySem.W.get_value X J (abB b).1 (PySem.W.findObj_own c d rfl (by rw[i,e])) g h
def Kv(X:K.In s.heap)(I:wj s.heap x dx C mA)(a:ce K C name=true)
  (b:ak K (.ref C) name=some (some (.ref f))) (c:bw K (.ref f)=true) (d:mA name=none) (h:Q (.ref f,[.ref x]) s):
  wpAny (model prog w) A (getMethod (.ref x) name pl) Q E s:=by
 obtain⟨e,J,g⟩:=I.look;exact PySem.W.method_fn X J (abB a).1 (abB a).2 b (aat.mp c) (by show(cr name e).map (·.isSome)=some false;rw[g,d];rfl) h
def OY{e:List Str}(X:K.In s.heap)(I:wj s.heap x dx C mA)
  (j:ak K (.ref C) "__setattr__"=some (some (.builtin "object.__setattr__"))) (k:cv K C=true) (l:cY K C name=some none) (m:bi K C=true)
  (hw:cb mA e) (B:e.length<=sizeLine)
  (h:∀c,wj c x dx C (λy=>if y=name then some v else mA y)->Heap.SameBut dx s.heap c->Q () {s with heap:=c,toks:=s.toks+2}):
  wpAny (model prog w) A (setAttr (.ref x) name v) Q E s:=by
 rfl';obtain⟨F,J,G⟩:=I.look;obtain⟨H,o,p⟩:=PySem.W.any_some m;ac_rfl;refine PySem.W.set_plain X J j (PySem.W.osa_open (s:={s with toks:=s.toks+1}) (r:=none) X J k l λb=>?_)
 have q:s.heap.get? x=some #[.ref C,some dx, .plain, #[]]:=I.obj;refine ir (AC (ir (ir (abD q (ir (PySem.W.Looks.here (s:={s with toks:=s.toks+1}) (PySem.W.looks_clsIn X o) ?_))))))
 rw[p];refine AC (a:=some dx) (ir (AC (ir ?_)));refine acI (s:={s with toks:=s.toks+1}) I.ns λc g i=>?_
 rfl';obtain⟨L,M,N,t,u,z⟩:=g.count (PySem.Within.cons name v hw);ac_rfl;refine ir (ab2 t (by rw[u];exact ab3 (jm z (by rw[cU];lia))) ?_)
 exact AC (h _ #[(i.2 _ (Ne.symm I.ne)).trans I.obj,g,I.ne] i)
def KZ(X:K.In s.heap)(c:db K C=true)
  (e:ak K (.ref C) "__init__"=some (some (.ref f))) (i:PySem.W.typeIn K (.ref f)=some (.type "function"))
  (h:codeAny (model prog w) (A.under (.builtin "type.__call__" #[.ref C::a,b])) (.call (.ref f) #[.ref (s.heap.objs.size+1)::a,b]) (PySem.W.InitBack (s.heap.objs.size+1) R)
   {s with heap:=(s.heap.push bj).push (b5 C s.heap.objs.size)}):
  codeAny (model prog w) A (.call (.ref C) #[a,b]) R s:=by
 obtain⟨j,g,d,t,os⟩:=s;exact PySem.W.make_core (PySem.W.makes_of X c) (abl X e) (λself=>PySem.W.bind_fn X self i) (.inl rfl) h
end
def iY(f:Str)(v:V):List (Str×V)->List (Str×V)
 | []=> [(f,v)]
 | (g,x)::r=>if g=f then(g,v)::r else(g,x)::iY f v r
theorem l8(f g:Str)(v:V):∀fs:List (Str×V),(iY f v fs).lookup g=if g=f then some v else fs.lookup g
 | []=>by
  show aP g [(f,v)]=_
  by_cases h:g=f
  .have a:(g==f)=true:=aat.mpr h
   simp only[aP,a,tz h]
  .have a:(g==f)=false:=aaq.mpr h
   simp only[aP,a,mo h]
 | (k,x)::r=>by
  have c:=l8 f g v r;rw[show iY f v ((k,x)::r)=(if k=f then(k,v)::r else(k,x)::iY f v r) from rfl]
  by_cases b:k=f
  .rw[tz b]
   by_cases h:g=k
   .have a:(g==k)=true:=aat.mpr h
    simp only[aP,a,tz (h.trans b)]
   .have a:(g==k)=false:=aaq.mpr h
    simp only[aP,a,mo (λe:g=f=>h (e.trans b.symm))]
  .rw[mo b]
   by_cases h:g=k
   .have a:(g==k)=true:=aat.mpr h
    simp only[aP,a,mo (λe:g=f=>b (h.symm.trans e))]
   .have a:(g==k)=false:=aaq.mpr h
    simp only[aP,a];exact c
theorem jQ(f:Str)(v:V):∀fs:List (Str×V),f∈(iY f v fs).map (·.1)/\∀g,g∈fs.map (·.1)->g∈(iY f v fs).map (·.1)
 | []=>#[by simp[iY],λg h=>by simp at h]
 | (k,x)::r=>by
  obtain⟨b,c⟩:=jQ f v r;rw[show iY f v ((k,x)::r)=(if k=f then(k,v)::r else(k,x)::iY f v r) from rfl]
  by_cases a:k=f
  .rw[tz a]
   subst a;exact#[by simp,λg h=>h]
  .rw[mo a]
   refine#[?_,λg h=>?_]
   .rw[cf]
    exact eJ _ b
   .rw[cf] at h ⊢
    rcases eF.mp h with e|e
    .exact eF.mpr (.inl e)
    .exact eJ _ (c g e)
theorem l6(f:Str)(v:V):∀fs:List (Str×V),(iY f v fs).length<=fs.length+1
 | []=>by simp[iY]
 | (k,x)::r=>by
  have b:=l6 f v r;rw[show iY f v ((k,x)::r)=(if k=f then(k,v)::r else(k,x)::iY f v r) from rfl]
  by_cases a:k=f
  .rw[tz a,cU,cU];lia
  .rw[mo a,cU,cU];lia
def km.some_of{v:V}{o:Option Value}(r:km (some v) o):∃u,o=some u/\RelV v u:=by
 cases o with
 |none=>exact(show False from r).elim
 |some u=>exact#[u,rfl,r]
def km.none_of(r:km none o):o=none:=by
 cases o with
 |none=>rfl
 |some u=>exact(show False from r).elim
def xv{v:V}{u:Value}(r:RelV v u):PySem.W.handedIn u=true:=by
 cases v with
 |bb=>cases(show u=Value.none from r);rfl
 |bl b=>cases(show u=Value.bool b from r);rfl
 |int i=>obtain⟨t,e⟩:=(show ∃t,u=Value.int i t from r);cases e;rfl
 |str x=>obtain⟨t,e⟩:=(show ∃t,u=Value.str x t from r);cases e;rfl
 |Kc b=>obtain⟨t,e⟩:=(show ∃t,u=Value.bytes b t from r);cases e;rfl
 |GW b=>obtain⟨t,e⟩:=(show ∃t,u=Value.float b t from r);cases e;rfl
 |ref a=>cases(show u=Value.ref a from r);rfl
 |ty n=>cases(show u=Value.type n from r);rfl
section
variable {P:Program} {w:World} {H H':Hp} {h h':Heap} {a C dx:Addr} {fs Ur:List (Str×V)}
def sH(hok:gI P w H h)(e:H a=some (.ins C dx fs)):∃b,wj h a dx C b/\(∀f,km (fs.lookup f) (b f))/\cb b (fs.map (·.1))/\fs.length<=1000/\H dx=some (.own a):=by
 obtain⟨d,z,ne,c,b,n,r,q⟩:=(show ck P w H h a (.ins C dx fs) from hok a _ e);exact#[b,#[c,n,ne],r,q,z,d]
end
structure wb (K:ac) (C:Addr):Prop where
 pg:ce K C Str.empty=true
 hd:bi K C=true
 po:cv K C=true
 sa:ak K (.ref C) "__setattr__"=some (some (.builtin "object.__setattr__"))
def wb.get{K:ac}{C:Addr}(c:wb K C)(f:Str):ce K C f=true:=c.pg
def gE(K:ac)(C:Addr)(f:Str):Prop:=ak K (.ref C) f=some none
def gE.IB{K:ac}{C:Addr}{f:Str}(n:gE K C f):cY K C f=some none:=by
 unfold cY;rw[show ak K (.ref C) f=some none from n];rfl
structure Meth (K:ac) (C:Addr) (m:Str) (f:Addr):Prop where
 at_:ak K (.ref C) m=some (some (.ref f))
 fn:bw K (.ref f)=true
 kp:aA K (.ref f)=true
section
variable {X:Cx} {pins:List (Addr×Obj)} {σ:St} {H:Hp} {s:Shared} {a C dx:Addr} {fs:List (Str×V)} {f:Str} {v:V} {A:Around} {E:Value->Shared->Prop}
def EJ(I:Inv X pins σ H s)(e:H a=some (.ins C dx fs))(c:wb X.K C)(n:gE X.K C f)(l:fs.lookup f=some v)
  (h:∀u d,Inv X pins σ H d->RelV v u->Q u d):wpAny (model X.prog X.w) A (getAttr (.ref a) f b) Q E s:=by
 obtain⟨i,O,r,_,_,_⟩:=sH I.hok e;obtain⟨u,j,g⟩:=km.some_of (v:=v) (o:=i f) (by rw[<-l];exact r f)
 exact get_map I.c7 O (c.get f) c.hd n j (xv g) (h u _ (I.tok _) g)
def uV{pl:Sem Bool}(I:Inv X pins σ H s)(e:H a=some (.ins C dx fs))(c:wb X.K C)(k:Meth X.K C m g)(l:fs.lookup m=none)
  (h:Q (.ref g,[.ref a]) s):wpAny (model X.prog X.w) A (getMethod (.ref a) m pl) Q E s:=by
 obtain⟨b,O,r,_,_,_⟩:=sH I.hok e;have d:b m=none:=km.none_of (by rw[<-l];exact r m)
 exact Kv I.c7 O (c.get m) k.at_ k.fn d h
def FI(I:Inv X pins σ H s)(e:H a=some (.ins C dx fs))(c:wb X.K C)(n:gE X.K C f)(N:fs.length<1000)(m:RelV y u)
  (h:∀i,Inv X pins σ (upd H a (.ins C dx (iY f y fs))) i->Q () i):wpAny (model X.prog X.w) A (setAttr (.ref a) f u) Q E s:=by
 rfl';obtain⟨j,O,r,k,_,l⟩:=sH I.hok e;have t:(fs.map (·.1)).length<=sizeLine:=by rw[aL,aaH];lia
 ac_rfl;refine OY I.c7 O c.sa c.po n.IB c.hd k t λB d F=>h _ ?_;have G:∃o,B.get? dx=some o:=let #[o,_,_,J,_]:=d.ns;#[o,J];refine I.write (x:=a) (e:=dx) (by rw[e];exact True.intro) (.inr l) (λb q L z=>(F.2 b L).trans z) G ?_
 refine#[by rw[ax O.ne];exact l,?_,O.ne,d.obj,_,d.ns,λg=>?_,λg M=>?_]
 .have:=l6 f y fs;lia
 .show km ((iY f y fs).lookup g) (if g=f then some u else j g)
  rw[l8]
  by_cases q:g=f
  .rw[tz q,tz q];exact m
  .rw[mo q,mo q];exact r g
 .by_cases q:g=f
  .rw[q];exact(jQ f y fs).1
  .refine(jQ f y fs).2 g (k g λz=>M ?_)
   show(if g=f then some u else j g)=none;rw[mo q];exact z
def Inv.made(I:Inv X pins σ H s):Inv X pins σ (upd (upd H s.heap.objs.size (.own (s.heap.objs.size+1))) (s.heap.objs.size+1) (.ins C s.heap.objs.size []))
  {s with heap:=(s.heap.push bj).push (b5 C s.heap.objs.size)}:=by
 have c:(s.heap.push bj).get? s.heap.objs.size=some bj:=GM s.heap rfl
 have d:((s.heap.push bj).push (b5 C s.heap.objs.size)).get? (s.heap.objs.size+1)=some (b5 C s.heap.objs.size):=by
  have:=GM (s.heap.push bj) (o:=b5 C s.heap.objs.size) rfl
  rwa [aa1] at this
 have g:(s.heap.push bj).Ns s.heap.objs.size (λ_=>none):=#[bj, #[],_,c,rfl,(λe h=>absurd h (by simp)),λ_=>rfl]
 have i:=I.laid (a:=s.heap.objs.size) (o:= .own (s.heap.objs.size+1)) (h':=s.heap.push bj) (t':=s.toks) (λb u q=>Da _ q) (bJ _) #[_,c];refine i.laid (a:=s.heap.objs.size+1) (o:= .ins C s.heap.objs.size []) (t':=s.toks) (λb u q=>Da _ q) (Nat.le_of_eq (aa1 _ _)) ?_;have ne:s.heap.objs.size≠s.heap.objs.size+1:=bQ (aa9 _);refine#[by rw[ax ne,av],fq _,ne,d,λ_=>none,(Heap.Ns1.of_empty g).at λo q=>Da _ q,λ_=>True.intro,λy j=>absurd rfl j]
def Ei{f:Str}{s:Shared}(d:attributeBase e f env (eval e env)=eval e env)
  (h:wpAny (model prog w) A (eval e env) (λo b=>wpAny (model prog w) A (getAttr o f true) Q E b) E s):wpAny (model prog w) A (eval (.Attribute e f c) env) Q E s:=
 Attribute_any_ h (by rw[arm_eval_Attribute,d])
end
def Zt(K:ac)(c:TE)(f:Str):TE:=λd H Q=>c d H λx b=>∃a C e fs v,x= .ref a/\b a=some (.ins C e fs)/\wb K C/\gE K C f/\fs.lookup f=some v/\Q v b
def Zf(K:ac)(e g:TE)(f:Str):TS:=λD b H=>g b H λy h=>e b h λx c=>∃a C d fs,x= .ref a/\c a=some (.ins C d fs)/\wb K C/\gE K C f/\fs.length<1000/\
 D.nx b (upd c a (.ins C d (iY f y fs)))
section
variable {X:Cx} {o e value:Expr} {f:Str} {pos pos' ZF:Pos} {ta tv:TE}
def Q3(d:PE X e ta)(g:attributeBase e f X.env (eval e X.env)=eval e X.env):PE X (.Attribute e f pos) (Zt X.K ta f):=by
 intro b s i H Q I h;refine Ei g (thn (d b s i H _ I h) λu A j=>?_);rfl';obtain⟨x,m,p,r,a,C,E,fs,v,t,w,c,n,l,q⟩:=j;ac_rfl;subst t;obtain rfl:u=Value.ref a:=r;exact EJ p w c n l λF G y z=>#[v,m,y,z,q]
def Rf(g:PE X o ta)(i:PE X value tv)(j:swapsWith value (some (.Attribute o f pos')) pos.line X.env=pure false):PS X (.Assign [.Attribute o f pos'] value pos) (Zf X.K ta tv f):=by
 intro b s d H D I h;refine abi (thn (i b s d H _ I h) λu k #[y,m,p,r,q]=>thn (g b k d m _ p q) λt F #[x,G,v,w,a,C,J,fs,z,A,c,n,l,B]=>?_) j;subst z;obtain rfl:t=Value.ref a:=w;exact FI v A c n l r λL E=>#[d,_,E,B]
end
section
variable {X:Cx} {pins:List (Addr×Obj)} {σ:St} {H:Hp} {s:Shared} {A:Around} {E:Value->Shared->Prop} {Q:Value->Shared->Prop} {c:Value} {b:Bool}
inductive kn (K:ac) (H:Hp):V->Value->Prop where
 |bb:kn K H .bb (.type "NoneType")
 |bl (x:Bool):kn K H (.bl x) (.type "bool")
 |int (i:Int):kn K H (.int i) (.type "int")
 |str (x:Str):kn K H (.str x) (.type "str")
 |GW (x:UInt64):kn K H (.GW x) (.type "float")
 |lst {a:Addr} {xs:List V} (e:H a=some (.lst xs)):kn K H (.ref a) (.type "list")
 |qB {a:Addr} {o:Obj} {xs:List V} (e:H a=some (.qB o (.lst xs))):kn K H (.ref a) (.type "list")
 |tup {a:Addr} {xs:List V} (e:H a=some (.tup xs)):kn K H (.ref a) (.type "tuple")
 |dK {a:Addr} {fg:List (Key×V)} (e:H a=some (.dK fg)):kn K H (.ref a) (.type "dict")
 |dT {a:Addr} {fg:List (List Key×V)} (e:H a=some (.dT fg)):kn K H (.ref a) (.type "dict")
 |ins {a C dx:Addr} {fs:List (Str×V)} (e:H a=some (.ins C dx fs)) (cl:wb K C) (ha:ak K (.ref C) "__class__"=some (some (.builtin "object.__class__")))
   (hn:aW K (.builtin "object.__class__") "__get__"=some (some (.builtin "getset_descriptor.__get__"))) (htk:cS K (.builtin "object.__class__")=some true)
   (hm:bv K C (.type "object")=some true):kn K H (.ref a) (.ref C)
def Hv{x:V}{u t:Value}(I:Inv X pins σ H s)(rx:RelV x u)(ty:kn X.K H x t)(e:ad X.K t c=some b)(h:∀tk,Q (.bool b) {s with toks:=tk}):
  wpAny (model X.prog X.w) A (call (.builtin "isinstance") [u,c]) Q E s:=by
 cases ty with
 |bb=>cases(show u=Value.none from rx);exact PySem.W.kia_one PySem.W.kitx_none I.c7 True.intro e (λz=>nomatch z) h
 |bl y=>cases(show u=Value.bool y from rx);exact PySem.W.kia_one PySem.W.kitx_bool I.c7 True.intro e (λz=>nomatch z) h
 |int i=>obtain⟨t,q⟩:=(show ∃t,u=Value.int i t from rx);cases q;exact PySem.W.kia_one PySem.W.kitx_int I.c7 True.intro e (λz=>nomatch z) h
 |str y=>obtain⟨t,q⟩:=(show ∃t,u=Value.str y t from rx);cases q;exact PySem.W.kia_one PySem.W.kitx_str I.c7 True.intro e (λz=>nomatch z) h
 |GW y=>obtain⟨t,q⟩:=(show ∃t,u=Value.float y t from rx);cases q;exact PySem.W.kia_one PySem.W.kitx_float I.c7 True.intro e (λz=>nomatch z) h
 | @lst a xs ea=>
  cases(show u=Value.ref a from rx);obtain⟨_,_,n,_,h1⟩:=(show ck X.prog X.w H s.heap a (.lst xs) from I.hok a _ ea);exact PySem.W.kia_one PySem.W.kitx_list I.c7 #[_,h1,rfl] e (λz=>nomatch z) h
 | @qB a ob xs ea=>
  cases(show u=Value.ref a from rx);obtain⟨_,_,_,n,_,h1⟩:=(show ck X.prog X.w H s.heap a (.qB ob (.lst xs)) from I.hok a _ ea);exact PySem.W.kia_one PySem.W.kitx_list I.c7 #[_,h1,rfl] e (λz=>nomatch z) h
 | @tup a xs ea=>
  cases(show u=Value.ref a from rx);obtain⟨_,_,_,p⟩:=(show ck X.prog X.w H s.heap a (.tup xs) from I.hok a _ ea);obtain⟨o,h1,h2,_⟩:=p;exact PySem.W.kia_one PySem.W.kitx_tuple I.c7 #[o,h1,h2] e (λz=>nomatch z) h
 | @dK a fg ea=>
  cases(show u=Value.ref a from rx);obtain⟨_,_,vs,_,p⟩:=(show ck X.prog X.w H s.heap a (.dK fg) from I.hok a _ ea);obtain⟨o,es,ep,h1,h2,_⟩:=p;exact PySem.W.kia_one PySem.W.kitx_dict I.c7 #[o,h1,h2.1] e (λz=>nomatch z) h
 | @dT a fg ea=>
  cases(show u=Value.ref a from rx);obtain⟨_,_,xs,_,o,es,ep,h1,h2,_⟩:=(show ck X.prog X.w H s.heap a (.dT fg) from I.hok a _ ea);exact PySem.W.kia_one PySem.W.kitx_dict I.c7 #[o,h1,h2.1] e (λz=>nomatch z) h
 | @ins a C dx fs ea cl ha hn htk hm=>
  rfl';cases(show u=Value.ref a from rx);obtain⟨mA,O,_⟩:=sH I.hok ea;obtain⟨od,J,_⟩:=O.look;ac_rfl;exact PySem.W.kia_one (PySem.W.kitx_own (cl.get _) cl.hd ha hn htk hm) I.c7 J e (λz=>nomatch z) h
end
structure bN (k:Nat) (A:Around):Prop where
 hd:A.handled=none
 dp:A.depth+3*k+5<recursionLimit
 un:A.units+16*k+200<cLine
def bN.mono(r:bN k A)(h:j<=k):bN j A:=#[r.hd,by have:=r.dp;lia,by have:=r.un;lia]
theorem bN.deeper(r:bN (k+1) A)(env:Env):bN k (A.deeper env):=
 #[r.hd,by have:=r.dp;show A.depth+1+3*k+5<_;lia,by have:=r.un;show A.units+3+16*k+200<_;lia]
def Ff{A:Around}:(A.under (.builtin "type.__call__" #[.ref C::a,b])).depth=A.depth+1:=by
 first|rfl|simp[Around.under,Code.weight,Code.isCreation,Code.isGuard,Code.isCaller,Code.frames,Code.isFrame,guardIds]
def Fg{A:Around}:(A.under (.builtin "type.__call__" #[.ref C::a,b])).units=A.units+1:=by
 first|rfl|simp[Around.under,Code.cUnits,Code.frames,Code.isFrame]
def bN.make(r:bN (k+1) A)(C:Addr)(a:List Value)(b:List (Str×Value)):bN k (A.under (.builtin "type.__call__" #[.ref C::a,b])):=
 #[r.hd,by have:=r.dp;rw[Ff];lia,by have:=r.un;rw[Fg];lia]
theorem bN.depth{k:Nat}(r:bN k A):A.depth<recursionLimit:=by have:=r.dp;lia
theorem bN.units{k:Nat}(r:bN k A):A.units+64<cLine:=by have:=r.un;lia
def S0:TA:=λ_ H Q=>Q [] H
def VO(b:TE)(tr:TA):TA:=λa H Q=>b a H λx c=>tr a c λd e=>Q (x::d) e
section
variable {X:Cx} {e:Expr} {es:List Expr} {te:TE} {t:TA} {pos:Pos}
def cp:PA X [] S0:=λ_ _ _ _ H Q I h=>Calls.spliced_nil #[[],H,I, .nil,h]
def bq(d:PE X e te)(f:PA X es t)(g:starEach (e::es) X.env=(false,eval e X.env)::starEach es X.env:=by rfl):PA X (e::es) (VO te t):=by
 intro b a s c H Q I h;rw[g];show wpAny _ _ (spliced ((false,eval e X.env)::backTo b (starEach es X.env))) _ _ s;refine Calls.spliced_cons (thn (d a s c H _ I h) λu i j=>?_);rfl';obtain⟨x,l,m,n,o⟩:=j;ac_rfl;exact thn (f b a i c l _ m o) λz A #[p,q,r,v,w]=>#[x::p,q,r, .cons n v,w]
def ZD(t:TA):TE:=λc H Q=>t c H λa b=>a.length<=sizeLine/\∀p,b p=none->Q (.ref p) (upd b p (.tup a))
def Zw(t:TA):TE:=λc H Q=>t c H λa b=>a.length<=sizeLine/\∀p,b p=none->Q (.ref p) (upd b p (.lst a))
def Ra{x1}(h:PA X es t):PE X (.Tuple es x1 pos) (ZD t):=by
 intro a s g H Q I i;refine wpAny_Tuple_spliced (thn (h pos a s g H _ I i) λj c #[k,d,f,r,z,q]=>#[r.length▸z,?_]);have l:d c.heap.objs.size=none:=f.hok.fresh (bJ _);refine#[.ref c.heap.objs.size,upd d c.heap.objs.size (.tup k),f.laid (t':=c.toks) (λb u e=>Da _ e) (bJ _) ?_,rfl,q _ l];exact#[z,j,r,#[_,GM _ rfl,rfl,_,rfl]]
def vX(h:PA X es t):PE X (.List es pos) (Zw t):=by
 intro a s g H Q I i;refine wpAny_List_spliced (thn (h pos a s g H _ I i) λj c #[k,d,f,r,z,q]=>#[r.length▸z,?_]);have l:d c.heap.objs.size=none:=f.hok.fresh (bJ _);refine#[.ref c.heap.objs.size,upd d c.heap.objs.size (.lst k),f.laid (t':=c.toks) (λb u e=>Da _ e) (bJ _) ?_,rfl,q _ l];exact#[z,j,0,r,GM _ rfl]
end
abbrev Sp:=List V->Hp->VK->XK->Prop
abbrev pV:=List Env->Hp->Shared->XK->Value->Shared->Prop
structure Env0 (P:Program) (w:World) (K:ac) (mg:Str->Option Value) (base:Heap) (A:Around) (outer:List Env) (s:Shared) (H:Hp):Prop where
 frames:A.frames=some outer
 mod:Mod K mg base
 bs:∀b o,base.get? b=some o->s.heap.get? b=some o/\H b=none
 bsz:base.objs.size<=s.heap.objs.size
 funs:s.heap.FunFrames base outer
 frf:∀b∈r8 outer,H b=none
 hok:gI P w H s.heap
 bare:AllBare s.gens
def CE(outer:List Env)(P:Program)(w:World)(H:Hp)(s:Shared)(Q:VK)(u:Value)(a:Shared):Prop:=
 ∃v b,a.os=s.os/\AllBare a.gens/\Un (r8 outer) [] H b s.heap a.heap/\gI P w b a.heap/\RelV v u/\Q v b
def CR(b:pV)(outer:List Env)(P:Program)(w:World)(H:Hp)(s:Shared)(Q:VK)(E:XK)(r:Result)(a:Shared):Prop:=
 match r with
 | .ok (.ret u)=>CE outer P w H s Q u a
 | .ok _=>False
 | .error e=>b outer H s E e a
structure FnOk (P:Program) (w:World) (K:ac) (mg:Str->Option Value) (base:Heap) (CX:pV) (k:Nat) (f:Addr) (fd:FuncData) (ps:List Str) (sp:Sp):Prop where
 len:∀vs H Q E,sp vs H Q E->vs.length=ps.length
 run:∀(A:Around)(outer:List Env)(s:Shared)(H:Hp)(args:Args)(us:List Value)(vs:List V)(Q:VK)(E:XK),bN k A->Env0 P w K mg base A outer s H->BindsTo s fd args (ps.zip us)->Vals vs us->sp vs H Q E->
  codeAny (model P w) A (.call (.ref f) args) (CR CX outer P w H s Q E) s
theorem FnOk.mono{P:Program}{w:World}{K:ac}{b:Str->Option Value}{base:Heap}(F:FnOk P w K b base c j f d ps e)(h:j<=k):
  FnOk P w K b base c k f d ps e:=#[F.len,λA outer s H a g i Q E l=>F.run A outer s H a g i Q E (l.mono h)]
def FnOk.imp{P:Program}{w:World}{K:ac}{base:Heap}{d:pV}{f:Addr}{g i:Sp}(F:FnOk P w K c base d k f e ps g)
  (h:∀a H Q E,i a H Q E->g a H Q E):FnOk P w K c base d k f e ps i:=
 #[λa H Q E q=>F.len a H Q E (h _ _ _ _ q),λA outer s H b j a Q E l m n o p=>F.run A outer s H b j a Q E l m n o (h _ _ _ _ p)]
def Env0.make{P:Program}{w:World}{K:ac}{a:Str->Option Value}{base:Heap}{A:Around}{outer:List Env}{s:Shared}{H:Hp}(e:Env0 P w K a base A outer s H)(C:Addr)(b:List Value)(c:List (Str×Value)):
  Env0 P w K a base (A.under (.builtin "type.__call__" #[.ref C::b,c])) outer s H:=#[by first|exact e.frames| (simpa [Around.under,Code.envs,Code.isFrame,pushEnvs] using e.frames),e.mod,e.bs,e.bsz,e.funs,e.frf,e.hok,e.bare]
section
variable {X:Cx} {pins:List (Addr×Obj)} {σ:St} {H:Hp} {s s':Shared}
def Inv.fC(I:Inv X pins σ H s):Env0 X.prog X.w X.K X.mg X.base X.A X.stack s H:=
 #[I.ok.frames,I.ok.mod,I.bs,jm I.ok.bsz I.sz,I.stack,I.yI,I.hok,I.bare]
def Inv.after(I:Inv X pins σ H s)(h:CE X.stack X.prog X.w H s Q u s'):EP X pins σ Q u s':=by
 obtain⟨v,c,os,bare,un,hok,r,q⟩:=h;obtain⟨e,g,d,t,a⟩:=s';obtain rfl:a=s.os:=os;exact#[v,c,I.call (h':=e) (g':=g) (d':=d) (t':=t) (ch:= []) un hok bare (λb z=>absurd z (by simp)),r,q]
end
def VN(a:Sp)(b:List V)(E:XK)(t:TA):TE:=λc H Q=>t c H λd e=>a (d++b) e Q E
def Iz(C:Addr)(m:Str)(d:Sp)(e:List V)(E:XK)(f:TE)(t:TA):TE:=λb H Q=>f b H λx c=>∃a g fs,x= .ref a/\c a=some (.ins C g fs)/\fs.lookup m=none/\
 t b c λh i=>d (x::(h++e)) i Q E
def VR(C:Addr)(c:Sp)(d:List V)(E:XK)(t:TA):TE:=λe H Q=>t e H λf b=>∀x a,b x=none->b a=none->a≠x->
 c (.ref x::(f++d)) (upd (upd b a (.own x)) x (.ins C a [])) (λv g=>v= .bb/\Q (.ref x) g) E
def Binds(K:ac)(d:FuncData)(b:List Str)(c:List Value):Prop:=
 ∀(s:Shared)(a:List Value),K.In s.heap->(a++c).length=b.length->BindsTo s d #[a,[]] (b.zip (a++c))
def Binds.all{K:ac}{c:FuncData}{b:List Str}(h:∀a:List Value,a.length=b.length->bindArgs c #[a,[]]=pure (b.zip a)):Binds K c b []:=λs a _ d=>by
 rw[fI] at d ⊢;exact .of_eq (h a d)
def Passes(c:pV)(X:Cx)(E:XK):Prop:=∀(a:List (Addr×Obj))(d:St)(H:Hp)(s:Shared)(e:Value)(b:Shared),Inv X a d H s->c X.stack H s E e b->X.xe e b
section
variable {X:Cx} {CX:pV} {k:Nat} {f C:Addr} {fd:FuncData} {ps:List Str} {sp:Sp} {br:List V} {ds:List Value} {E:XK} {x m:Str} {p pos apos:Pos} {e o:Expr} {es:List Expr} {ta:TE} {t:TA}
theorem C9{pins:List (Addr×Obj)}{σ:St}{H:Hp}{s:Shared}{Q:VK}{us:List Value}{vs:List V}(F:FnOk X.prog X.w X.K X.mg X.base CX k f fd ps sp)(hr:bN k X.A)(hb:Binds X.K fd ps ds)(hd:Vals br ds)(hx:Passes CX X E)
  (I:Inv X pins σ H s) (r:Vals vs us) (h:sp (vs++br) H Q E):wpAny (model X.prog X.w) X.A (call (.ref f) us) (EP X pins σ Q) X.xe s:=by
 have r2:Vals (vs++br) (us++ds):=r.append hd;have hl:(us++ds).length=ps.length:=by rw[<-r2.length];exact F.len _ _ _ _ h
 refine wpAny_call (codeAny_mono (F.run X.A X.stack s H #[us,[]] (us++ds) (vs++br) Q E hr I.fC (hb s us I.c7 hl) r2 h) λr s' hq=>?_);cases r with
 |error e=>exact hx pins σ H s e s' I hq
 |ok fl=>
  cases fl with
  |ret u=>exact I.after hq
  |next=>exact False.elim hq
  |brk=>exact False.elim hq
  |cont=>exact False.elim hq
def oj(F:FnOk X.prog X.w X.K X.mg X.base CX k f fd ps sp)(d:bN k X.A)(g:Gl X x)(i:X.mg x=some (.ref f))(j:aA X.K (.ref f)=true)(l:Binds X.K fd ps ds)(n:Vals br ds)(u:Passes CX X E)
  (v:PA X (e::es) t) (y:(x==("__debug__":Str))=false:=by decide) (z:starEach (e::es) X.env=(false,eval e X.env)::starEach es X.env:=by rfl) (b:(backTo pos (starEach es X.env)).any (·.1)=false:=by rfl):
  PE X (.Call (.Name x p) (e::es) [] pos) (VN sp br E t):=by
 intro a s B H Q I h;refine UV (iV I g i ?_ y);refine aaA (h₀:=X.base) I.ok.mod.kin j (thn (v pos a s B H _ I h) λG J #[L,M,c,r,q]=>#[c.c7,?_]) z b;exact C9 F d l n u c r q
def OA{pl:Sem Bool}(y:PE X o ta)(c:wb X.K C)(g:Meth X.K C m f)(F:FnOk X.prog X.w X.K X.mg X.base CX k f fd ps sp)(z:bN k X.A)(B:Binds X.K fd ps ds)(G:Vals br ds)(J:Passes CX X E)(L:PA X (e::es) t)
  (M:starEach (e::es) X.env=(false,eval e X.env)::starEach es X.env:=by rfl) (d:(backTo pos (starEach es X.env)).any (·.1)=false:=by rfl)
  (N:eval (.Call (.Attribute o m apos) (e::es) [] pos) X.env=(do
   let i <-eval o X.env
   standAt apos.atName
   let (f,first) <-holding [i] (getMethod i m pl)
   callWith pos f first (backTo pos (starEach (e::es) X.env)) (backToKw pos (keywordEach [] X.env))):=by rfl):
  PE X (.Call (.Attribute o m apos) (e::es) [] pos) (Iz C m sp br E ta t):=by
 intro b s j H Q I h;refine abf (pl:=pl) (thn (y b s j H _ I h) λu O #[x,P,n,R,a,Y,fs,S,T,l,q]=>?_) N;subst S;obtain rfl:u=Value.ref a:=R;refine uV n T c g l ?_;refine aaA (first:= [.ref a]) (h₀:=X.base) I.ok.mod.kin g.kp (thn (L pos b O j P _ n q) λus Z #[vs,p,v,r,U]=>#[v.c7,?_]) M d;exact C9 (us:= .ref a::us) (vs:= .ref a::vs) F z B G J v (.cons rfl r) U
def AK{pl:Sem Bool}(j:PE X o ta)(c:wb X.K C)(g:Meth X.K C m f)(F:FnOk X.prog X.w X.K X.mg X.base CX k f fd ps sp)(n:bN k X.A)(r:Binds X.K fd ps ds)(v:Vals br ds)(y:Passes CX X E)
  (z:eval (.Call (.Attribute o m apos) [] [] pos) X.env=(do
   let i <-eval o X.env
   standAt apos.atName
   let (f,first) <-holding [i] (getMethod i m pl)
   callWith pos f first (backTo pos (starEach [] X.env)) (backToKw pos (keywordEach [] X.env))):=by rfl):
  PE X (.Call (.Attribute o m apos) [] [] pos) (Iz C m sp br E ta S0):=by
 intro b s B H Q I h;refine abf (pl:=pl) (thn (j b s B H _ I h) λu M #[x,N,d,G,a,O,fs,J,L,l,q]=>?_) z;subst J;obtain rfl:u=Value.ref a:=G;refine uV d L c g l ?_;exact PySem.W.callWith_K0 (first:= [.ref a]) d.c7 g.kp (C9 (us:= [.ref a]) (vs:= [.ref a]) F n r v y d (.cons rfl .nil) q)
structure Mk (K:ac) (C f:Addr):Prop where
 makes:db K C=true
 init:ak K (.ref C) "__init__"=some (some (.ref f))
 fn:bw K (.ref f)=true
 kp:aA K (.ref C)=true
theorem Ln{pins:List (Addr×Obj)}{σ:St}{H:Hp}{s:Shared}{Q:VK}{us:List Value}{vs:List V}(M:Mk X.K C f)(F:FnOk X.prog X.w X.K X.mg X.base CX k f fd ps sp)(hr:bN (k+1) X.A)(hb:Binds X.K fd ps ds)(hd:Vals br ds)
  (hx:Passes CX X E) (I:Inv X pins σ H s) (r:Vals vs us)
  (h:∀x dx,H x=none->H dx=none->dx≠x->sp (.ref x::(vs++br)) (upd (upd H dx (.own x)) x (.ins C dx [])) (λv H2=>v= .bb/\Q (.ref x) H2) E):
  wpAny (model X.prog X.w) X.A (call (.ref C) us) (EP X pins σ Q) X.xe s:=by
 have hq:=h (s.heap.objs.size+1) s.heap.objs.size (I.hok.fresh (lQ _)) (I.hok.fresh (bJ _)) (bQ (Nat.lt_succ_self _));have I2:=Inv.made (C:=C) I;have r2:Vals (V.ref (s.heap.objs.size+1)::(vs++br)) (Value.ref (s.heap.objs.size+1)::(us++ds)):= .cons rfl (r.append hd)
 have hl:(Value.ref (s.heap.objs.size+1)::us++ds).length=ps.length:=by
  have e:=r2.length;rw[F.len _ _ _ _ hq] at e;exact e.symm
 refine wpAny_call (KZ (f:=f) I.c7 M.makes M.init (beq_iff_eq.mp M.fn) (codeAny_mono (F.run _ X.stack _ _ #[Value.ref (s.heap.objs.size+1)::us,[]] (Value.ref (s.heap.objs.size+1)::(us++ds)) _ _ E (hr.make C us [])
  (I2.fC.make C us []) (hb _ (Value.ref (s.heap.objs.size+1)::us) I2.c7 hl) r2 hq) λr s' uf=>?_))
 cases r with
 |error e=>exact hx pins σ _ _ e s' I2 uf
 |ok fl=>
  cases fl with
  |ret u=>
   rfl';obtain⟨v,H',I3,rv,ev,q3⟩:=I2.after uf;subst ev;ac_rfl;exact#[rv,#[V.ref (s.heap.objs.size+1),H',I3,rfl,q3]]
  |next=>exact False.elim uf
  |brk=>exact False.elim uf
  |cont=>exact False.elim uf
def Oz(M:Mk X.K C f)(F:FnOk X.prog X.w X.K X.mg X.base CX k f fd ps sp)(d:bN (k+1) X.A)(g:Gl X x)(i:X.mg x=some (.ref C))(j:Binds X.K fd ps ds)(l:Vals br ds)(n:Passes CX X E)
  (u:PA X (e::es) t) (v:(x==("__debug__":Str))=false:=by decide) (y:starEach (e::es) X.env=(false,eval e X.env)::starEach es X.env:=by rfl) (b:(backTo pos (starEach es X.env)).any (·.1)=false:=by rfl):
  PE X (.Call (.Name x p) (e::es) [] pos) (VR C sp br E t):=by
 intro a s z H Q I h;refine UV (iV I g i ?_ v);refine aaA (h₀:=X.base) I.ok.mod.kin M.kp (thn (u pos a s z H _ I h) λB G #[J,L,c,r,q]=>#[c.c7,?_]) y b;exact Ln M F d j l n c r q
end
section
variable {X:Cx} {CX:pV} {k:Nat} {f C:Addr} {fd:FuncData} {ps ks:List Str} {sp:Sp} {E:XK} {x m:Str} {p pos apos aam:Pos} {e o:Expr} {es:List Expr} {kws:List Keyword} {te ta:TE} {t tk:TA} {nm:Option Str}
variable {g:List Value->List Value->List Value} {gV:List V->List V->List V}
end
structure aF (N P:List Str) (sc:Scope):Prop where
 kind:sc.kind= .function
 co:sc.isCoroutine=false
 gen:sc.isGenerator=false
 nd:N.Nodup
 pre:N.take P.length=P
 par:∀x∈P,sc.names.lookup x=some .local\/sc.names.lookup x=some .cell
 nofree:∀y∈sc.names,y.2≠ .free
theorem wB{kindOf:Str->Option NameKind}{x:Str}:∀{binds:List (Str×Value)}{m:Str->Option Value},(∀v,(x,v)∉binds)->bindL kindOf binds m x=m x
 | [],_,_=>rfl
 | (n,v)::r,m,h=>by
  unfold bindL;rw[wB λw hw=>h w (eJ _ hw)]
  split
  .have:x≠n:=by rintro rfl;exact h v dq
   simp[this]
  .rfl
theorem wz{kindOf:Str->Option NameKind}{x:Str}:∀{binds:List (Str×Value)}{m:Str->Option Value},(∀v,(x,v)∉binds)->bindC kindOf binds m x=m x
 | [],_,_=>rfl
 | (n,v)::r,m,h=>by
  unfold bindC;rw[wz λw hw=>h w (eJ _ hw)]
  split
  .rfl
  .have:x≠n:=by rintro rfl;exact h v dq
   simp[this]
theorem wA{kindOf:Str->Option NameKind}{x:Str}{v:Value}:∀{P:List Str}{a:List Value}{i:Nat}{m:Str->Option Value},P.Nodup->P[i]? =some x->a[i]? =some v->kindOf x=some .local->
  bindL kindOf (P.zip a) m x=some v
 | [],_,_,_,_,h,_,_=>by simp at h
 |_::_,[],_,_,_,_,h,_=>by simp at h
 |p::P,w::a,0,m,d,b,c,e=>by
  simp at b c;subst b;subst c;show bindL kindOf ((p,w)::P.zip a) m p=_;unfold bindL;rw[wB λv f=>(lP.mp d).1 (acq f).1,tz e];simp
 |p::P,w::a,i+1,m,d,b,c,e=>by
  show bindL kindOf ((p,w)::P.zip a) m x=_;unfold bindL;exact wA (i:=i) (lP.mp d).2 (by simpa using b) (by simpa using c) e
theorem wy{kindOf:Str->Option NameKind}{x:Str}{v:Value}:∀{P:List Str}{a:List Value}{i:Nat}{m:Str->Option Value},P.Nodup->P[i]? =some x->a[i]? =some v->kindOf x≠some .local->
  bindC kindOf (P.zip a) m x=some v
 | [],_,_,_,_,h,_,_=>by simp at h
 |_::_,[],_,_,_,_,h,_=>by simp at h
 |p::P,w::a,0,m,d,b,c,e=>by
  simp at b c;subst b;subst c;show bindC kindOf ((p,w)::P.zip a) m p=_;unfold bindC;rw[wz λv f=>(lP.mp d).1 (acq f).1,mo e];simp
 |p::P,w::a,i+1,m,d,b,c,e=>by
  show bindC kindOf ((p,w)::P.zip a) m x=_;unfold bindC;exact wy (i:=i) (lP.mp d).2 (by simpa using b) (by simpa using c) e
def start(N:List Str)(a:List V):St:=a.map some++am (N.length-a.length) none
def kv(g:pV)(P:Program)(w:World)(K:ac)(mg:Str->Option Value)(base:Heap)(N:List Str)(b:Str)(a:Scope)(f:Addr)(c:Value)(A:Around)(outer:List Env)(s:Shared)(H:Hp)(E:XK):Cx where
 prog:=P
 w:=w
 K:=K
 mg:=mg
 base:=base
 A:=A.deeper (envOfC b a s.heap.objs.size f c)
 N:=N
 s₀:=s
 H₀:=H
 env:=envOfC b a s.heap.objs.size f c
 outer:=outer
 stack:=envOfC b a s.heap.objs.size f c::outer
 ex:= []
 calm:=true
 fn:=λ_=>true
 pn:= []
 xe:=λe h=>wpAny (model P w) (A.deeper (envOfC b a s.heap.objs.size f c)) (leaving (envOfC b a s.heap.objs.size f c) e) (λ_ d=>g outer H s E e d) (λi d=>g outer H s E i d) h
def z8{a:Scope}{n:Nat}(h:a.names.lookup x=some .cell):∃c,(cellsFrom n a.names []).lookup x=some c:=by
 have q:=acv a.names n [] (.inl h);exact Option.isSome_iff_exists.mp q
theorem Ht{M:pV}{P:Program}{w:World}{K:ac}{I:Str->Option Value}{base:Heap}{N m:List Str}{g:Str}{d:Scope}{f:Addr}{C:Value}{A:Around}{outer:List Env}{s O:Shared}{H:Hp}{E:XK}{J:List Value}{o:List V}
  (S:aF N m d) (U:A.handled=none) (l:Env0 P w K I base A outer s H) (hl:o.length=m.length) (r:Vals o J)
  (x:InCallC s s.heap.objs.size (bindL (envOfC g d s.heap.objs.size f C).kindOf (m.zip J) λ_=>none) (cellsFrom (s.heap.objs.size+1) d.names []) (bindC (envOfC g d s.heap.objs.size f C).kindOf (m.zip J) λ_=>none) O):
  Inv (kv M P w K I base N g d f C A outer s H E) [] (start N o) H O:=by
 have X:m.length<=N.length:=by have:=GE b6 S.pre;rw[iw] at this;lia
 obtain⟨F,tk,rfl,Q⟩:=x.done;have L:∀b:Addr,b∉(kv M P w K I base N g d f C A outer s H E).ex:=λb z=>absurd (show b∈([]:List Addr) from z) (by simp)
 refine#[#[l.mod,S.kind,rfl,rfl,bJ _,λy z c F j=>?_,λy t=>?_,λy c _ h=>?_,λ_=>U,Around.frames_deeper l.frames, .inr #[rfl,rfl],λb z=>absurd z (L b),l.bs,l.bsz,λb _ _=>L b,λb z=>absurd z (L b),l.funs,l.frf],
  rfl,l.bare,Un.kept Q,#[_,x.toInCall.ns,λi y v F j h3=>?_],λy c h=>#[_,x.cell y c h],l.hok.fresh (bJ _),λy c h=>?_,λp B=>absurd (show p∈([]:List (Addr×Obj)) from B) (by simp),l.hok.kept Q,?_]
 .exact name_of_addr x.apart (aaw F) (aaw j)
 .have t:d.names.lookup y=some .cell\/d.names.lookup y=some .free:=t
  rcases t with t|t
  .exact z8 t
  .exact absurd rfl (S.nofree _ (aaw t))
 .exact uJ (x.above y c (aaw h))
 .have G:i<o.length:=by
   unfold start at j
   by_cases G:i<o.length
   .exact G
   .rw[mW (by simpa using G)] at j
    rw[vd] at j
    split at j<;>cases j
  have Y:o[i]? =some v:=by
   unfold start at j;rw[kL (by simpa using G),df] at j
   cases e:o[i]? with
   |none=>rw[e] at j;cases j
   |some a=>rw[e] at j;cases j;rfl
  obtain⟨u,R,Z⟩:=r.get Y
  have B:m[i]? =some y:=by
   rw[<-S.pre,JW (by lia)];exact F
  have T:m.Nodup:=by rw[<-S.pre];exact S.nd.sublist (List.take_sublist _ _)
  exists u,Z
  rcases S.par y (fm B) with k|k
  .exact .inl #[k,wA T B R k]
  .obtain⟨c,e⟩:=z8 (n:=s.heap.objs.size+1) k
   refine .inr #[.inl k,c,e,?_];have q:=x.cell y c e;rw[wy T B R (by show d.names.lookup y≠_;rw[k];decide)] at q
   exact q
 .exact l.hok.fresh (uJ (x.above y c (aaw h)))
 .unfold start
  show _=N.length;rw[dB,aL,zd];lia
theorem M3{B:pV}{P:Program}{w:World}{K:ac}{C:Str->Option Value}{base:Heap}{k:Nat}{f:Addr}{i c:Str}{d:Arguments}{g:List Stmt}{a:Scope}{U kV p X l Y oc:Value}{Z od:Option Addr}
  {C3:Array (Option Value)} {N F:List Str} {L:Sp} (lk:K.lookup f=some #[oc,od, .func (b4 i c d g a U kV p X Z l Y),C3]) (dW:bc K l c=true) (S:aF N F a)
  (len:∀h H Q E,L h H Q E->h.length=F.length)
  (jP:∀(A:Around)(outer:List Env)(s:Shared)(H:Hp)(h:List V)(Q:VK)(E:XK),bN k (A.deeper (envOfC c a s.heap.objs.size f l))->L h H Q E->
   ∃t,kc (kv B P w K C base N c a f l A outer s H E) g t/\t {nx:=λ_ j=>Q .bb j,rt:=Q} (start N h) H):
  FnOk P w K C base B (k+1) f (b4 i c d g a U kV p X Z l Y) F L:=by
 refine#[len,λA outer s H args us h Q E M z hb r zK=>?_];have hl:=len _ _ _ _ zK;have KX:K.In s.heap:=z.mod.kin.keeps λb o e=>(z.bs b o e).1;have O:s.heap.NoLimit:=z.mod.nolimit.keeps λb o e=>(z.bs b o e).1
 have UN:∀y∈F.zip us,a.names.lookup y.1=some .local\/(a.names.lookup y.1=some .cell/\((cellsFrom (s.heap.objs.size+1) a.names []).lookup y.1).isSome=true):=λ#[n,v] hy=>by
  rcases S.par n (acq hy).1 with q|q
  .exact .inl q
  .exact .inr #[q,acv _ _ _ (.inl q)]
 refine codeAny_call_function M.depth (KX _ _ lk) rfl S.co S.gen rfl (PySem.W.codeRec_of KX dW) (hb _ _ _ _ ?_);refine wpAny_newFunctionEnv_cells S.kind UN λenv he s1 x=>?_;subst he;obtain⟨t,ht,hq⟩:=jP A outer s H h Q E (M.deeper _) zK;refine#[O.keeps x.toInCall.keep,codeAny_func ?_];have I:Inv (kv B P w K C base N c a f l A outer s H E) [] (start N h) H s1:=Ht S M.hd z hl r x;refine wpAny_mono (ht [] s1 (start N h) H _ I hq) (λfl R m=>?_) λe R m=>m
 have fin:∀{G:St}{j:Hp}{v:V}{u:Value},Inv (kv B P w K C base N c a f l A outer s H E) [] G j R->RelV v u->Q v j->CE outer P w H s Q u R:=
  λ {G j v u} J T q=>#[v,j,J.os,J.bare,J.base,J.hok,T,q]
 cases fl with
 |ret u=>
  obtain⟨v,G,j,J,T,q⟩:=m;exact fin J T q
 |next=>
  obtain⟨G,j,J,q⟩:=m;exact fin (v:=V.bb) (u:=Value.none) J rfl q
 |brk=>
  obtain⟨_,_,_,q⟩:=m;exact False.elim q
 |cont=>
  obtain⟨_,_,_,q⟩:=m;exact False.elim q
section
variable {X:Cx} {x:Str} {p pos:Pos} {e:Expr} {es:List Expr} {t:TA} {id T:String} {r:List V->Hp->VK->Prop}
def Zs(r:List V->Hp->VK->Prop)(t:TA):TE:=λa H Q=>t a H λb c=>r b c Q
def pO(c:CallR X (.builtin id) r)(d:Gl X x)(f:X.mg x=none)(g:bootBuiltins x=some (.builtin id))(i:PA X (e::es) t)(j:x≠"__name__":=by decide)(k:(x==("__debug__":Str))=false:=by decide)
  (he:starEach (e::es) X.env=(false,eval e X.env)::starEach es X.env:=by rfl) (hpl:(backTo pos (starEach es X.env)).any (·.1)=false:=by rfl):PE X (.Call (.Name x p) (e::es) [] pos) (Zs r t):=by
 intro a s b H Q I h;refine UV (pH I d f g ?_ j k);exact abm (thn (i pos a s b H _ I h) λl m #[n,o,q,u,v]=>c a m b o n l Q q u v) he hpl
def yk(c:CallR X (.type T) r)(d:Gl X x)(f:X.mg x=none)(g:bootBuiltins x=some (.type T))(i:PA X (e::es) t)(j:x≠"__name__":=by decide)(k:(x==("__debug__":Str))=false:=by decide)
  (he:starEach (e::es) X.env=(false,eval e X.env)::starEach es X.env:=by rfl) (hpl:(backTo pos (starEach es X.env)).any (·.1)=false:=by rfl):PE X (.Call (.Name x p) (e::es) [] pos) (Zs r t):=by
 intro a s b H Q I h;refine UV (pH I d f g ?_ j k);exact aaK (thn (i pos a s b H _ I h) λl m #[n,o,q,u,v]=>c a m b o n l Q q u v) he hpl
end
end L2
namespace HT
open PySem PyProof.Rows
def lexLt:List Int->List Int->Bool
 | [],[]=>false
 | [],_::_=>true
 |_::_,[]=>false
 |x::a,y::b=>if x=y then lexLt a b else decide (x<y)
def gQ(x y:Int)(a b:List Int):lexLt (x::a) (y::b)=if x=y then lexLt a b else decide (x<y):=rfl
def xT:lexLt [] []=false:=rfl
def vD(y:Int)(a:List Int):lexLt [] (y::a)=true:=rfl
def vC(x:Int)(a:List Int):lexLt (x::a) []=false:=rfl
def Ks(A:Around)(s:Shared)(a:Int)(t:Tok)(c:Int)(u:Tok):∃e,SeqAt.EqAt A s (.int a t) (.int c u) e/\(e=true↔a=c):=
 #[(a==c),aaU a t c u,by simp]
def AN(A:Around)(s:Shared)(a:Int)(t:Tok)(c:Int)(u:Tok)(prog:Program)(w:World)(E:Value->Shared->Prop)(Q:Value->Shared->Prop)(h:Q (.bool (decide (a<c))) s):
  wpAny (model prog w) A (richCompare .Lt (.int a t) (.int c u)) Q E s:=
 (PyProof.Rows.lt_int h:wpAny (model prog w) A (compareOp .Lt (.int a t) (.int c u)) Q E s)
section
open PySem.SeqAt
open PySem.AutoSeq1 (wpAny_loadPart')
open PySem.MeetsSeq PySem.MeetsSeq2 PySem.MeetsSeq3
end
section
variable {prog:Program} {w:World} {A:Around} {E:Value->Shared->Prop} {s:Shared}
def L6(r:IsTup s.heap t c.toArray)(u:IsTup s.heap b a.toArray)(h:c≠ [])
  (v:a= []->Q (.ref t) s) (x:a≠ []->Q (.ref s.heap.objs.size) {s with heap:=s.heap.push {cls:= .type "tuple",data:= .seq (c++a).toArray}})
  (y:c.length+a.length<=sizeLine):wpAny (model prog w) A (binaryOp .Add (.ref t) (.ref b)) Q E s:=by
 rfl';obtain⟨⟨cls,i,data,j⟩,f,k,n,l⟩:=id r;obtain⟨⟨C,m,data2,o⟩,g,p,q,d⟩:=id u;ac_rfl;simp only at k l p d;subst k l p d;have e:c.toArray++a.toArray=(c++a).toArray:=by simp
 by_cases hw:a= []
 .exact concat_meets #[_,f,rfl] #[_,g,rfl] noFill_tuple_add seq_tuple_add acw ack (ab4 _ _)
   (tuple_addW1 t b c.toArray a.toArray n q i m j o (by simpa using h) (by simp[hw])) #[f,g,v hw]
 .refine concat_meets #[_,f,rfl] #[_,g,rfl] noFill_tuple_add seq_tuple_add acw ack (ab4 _ _)
   (tuple_addW2 t b c.toArray a.toArray n q i m j o (by simpa using h) (by simpa using hw) (by rw[cJ,cJ];exact y)) #[f,g,?_]
  rw[e];exact x hw
def bZ(n d:Nat):Option Int->Nat
 |none=>d
 |some v=>if v<0 then(v+(n:Int)).toNat else min v.toNat n
def Ru(n d:Nat)(b:d<=n)(o:Option Int):bZ n d o<=n:=by
 cases o with
 |none=>exact b
 |some v=>
  show(if v<0 then(v+(n:Int)).toNat else min v.toNat n)<=n
  by_cases a:v<0
  .rw[tz a];lia
  .rw[mo a];exact Nat.min_le_right _ _
def Er(v:Int)(n d:Nat):(if v<0 then max (v+(n:Int)) 0 else min v (n:Int))=((bZ n d (some v):Nat):Int):=by
 show(if v<0 then max (v+(n:Int)) 0 else min v (n:Int))=(((if v<0 then(v+(n:Int)).toNat else min v.toNat n):Nat):Int)
 by_cases a:v<0
 .simp only[tz a];lia
 .simp only[mo a];lia
def Ee(lo a:Option Int)(n:Nat):Builtin.Slice.sliceAdjust lo a 1 (n:Int)=(((bZ n 0 lo:Nat):Int),((bZ n n a:Nat):Int)):=by
 have b:¬((1:Int)<0):=by lia
 unfold Builtin.Slice.sliceAdjust;simp only[b,Os];refine aau ?_ ?_
 .cases lo with
  |none=>rfl
  |some v=>exact Er v n 0
 .cases a with
  |none=>rfl
  |some v=>exact Er v n n
def Fx(i j:Nat):Builtin.Slice.slicePlaces (i:Int) (j:Int) 1=j-i:=by
 unfold Builtin.Slice.slicePlaces;have a:(1:Int)>0:=by lia
 simp only[a,aax,Int.ediv_one]
 split<;>lia
def u5(p:IsPart v o)(h:Q o s):wpAny (model prog w) A (Builtin.Slice.slicePartIndex v) Q E s:=by
 cases p with
 |none=>exact slicePart_none h
 |int i t=>exact slicePart_int h
def tN{f:Addr}{b c:Value}{lo a:Option Int}{n:Nat}{Q:Int×Int×Nat->Shared->Prop}(g:s.heap.IsSliceOf f b c .none)(pl:IsPart b lo)(i:IsPart c a)
  (h:Q (((bZ n 0 lo:Nat):Int),1,bZ n n a-bZ n 0 lo) s):wpAny (model prog w) A (Builtin.Slice.sliceApplied (.ref f) (pure (n:Int))) Q E s:=by
 rfl';obtain⟨os,d,l,e⟩:=id g;ac_rfl;unfold Builtin.Slice.sliceApplied Builtin.Slice.sliceFields;refine ir (ir (aaP d e (x:=b) rfl (ir (aaP d e (x:=c) rfl (ir (aaP d e (x:= .none) rfl (AC ?_)))))));refine ir (slicePart_none ?_);rw[mo (by decide)]
 refine ir (u5 pl (ir (u5 i (ir (AC ?_)))));show wpAny _ _ (match Builtin.Slice.sliceAdjust lo a 1 (n:Int) with| (lo,a)=>pure (lo,(1:Int),Builtin.Slice.slicePlaces lo a 1)) _ _ s
 rw[Ee lo a n];show wpAny _ _ (pure (((bZ n 0 lo:Nat):Int),(1:Int),Builtin.Slice.slicePlaces ((bZ n 0 lo:Nat):Int) ((bZ n n a:Nat):Int) 1)) _ _ s;rw[Fx];exact AC h
def Lc(a:Array Value)(i k:Nat):((aM k).filterMap λ(m:Nat)=>a[((i:Int)+(m:Int)*1).toNat]?).toArray=((a.toList.drop i).take k).toArray:=by
 have e:(λ(m:Nat)=>a[((i:Int)+(m:Int)*1).toNat]?)=λm=>a[i+m]? :=by
  funext m
  have:((i:Int)+(m:Int)*1).toNat=i+m:=by lia
  rw[this]
 rw[e]
 have:=pick_run a i k
 rw[List.filterMap_map] at this;have b:((λx=>a[x]?)∘λx=>i+x)=λm=>a[i+m]? :=rfl;rw[b] at this;rw[this]
theorem qD{t e:Addr}{a:Array Value}{g i:Value}{lo b:Option Int}{Q:Value->Shared->Prop}(c:IsTup s.heap t a)(j:s.heap.IsSliceOf e g i .none)(pl:IsPart g lo)(k:IsPart i b)
  (hw:¬(bZ a.size 0 lo=0/\bZ a.size a.size b=a.size))
  (h:Q (.ref s.heap.objs.size) {s with heap:=s.heap.push {cls:= .type "tuple",data:= .seq ((a.toList.drop (bZ a.size 0 lo)).take (bZ a.size a.size b-bZ a.size 0 lo)).toArray}})
  (p:a.size<=sizeLine):wpAny (model prog w) A (getItem (.ref t) (.ref e)) Q E s:=by
 have d:sizeOk (.seq ((a.toList.drop (bZ a.size 0 lo)).take (bZ a.size a.size b-bZ a.size 0 lo)).toArray):=by
  show((a.toList.drop (bZ a.size 0 lo)).take (bZ a.size a.size b-bZ a.size 0 lo)).toArray.size<=sizeLine;rw[cJ,iw,tV,fZ];lia
 have r:bZ a.size a.size b<=a.size:=Ru _ _ (bJ _) b;obtain⟨os,l,n,u⟩:=id j;have f:s.TypeIs (.ref e) "slice":=#[os,l,n];unfold getItem
 try with_reducible refine wpAny_holding ?_
 first|refine wpAny_bind (wpAny_pure ?_) |skip
 refine wpAny_bind (wpAny_sequenceKey c.typeIs (by decide) ?_)
 refine wpAny_bind (wpAny_callSpecial?_slot (name:=Str.ofString "__getitem__") c.typeIs PyProof.Rows.slot_tuple_getitem
  (wpAny_call_entry PyProof.Rows.slot_tuple_getitem c.typeIs entry_tuple_getitem ?_ (args_tuple_getitem _ _)))
 show wpAny _ _ (Builtin.Tuple.tupleItemsOf (.ref t)>>=_) _ _ s;refine wpAny_bind (tupleItemsOf_ c ?_);refine wpAny_bind (wpAny_typeOf f ?_);rw[if_pos (by decide)]
 refine wpAny_bind (tN j pl k ?_)
 have o:¬((((bZ a.size 0 lo:Nat):Int)==0&&(1:Int)==1&&(bZ a.size a.size b-bZ a.size 0 lo)==a.size)=true):=by
  intro q;rw[vj,vj] at q;have v:((bZ a.size 0 lo:Nat):Int)=0:=eq_of_beq q.1.1;have x:bZ a.size a.size b-bZ a.size 0 lo=a.size:=eq_of_beq q.2;exact hw #[by lia,by lia]
 show wpAny _ _ (if (((bZ a.size 0 lo:Nat):Int)==0&&(1:Int)==1&&(bZ a.size a.size b-bZ a.size 0 lo)==a.size)=true then _ else _) _ _ s;rw[if_neg o,Lc]
 first
  |exact wpAny_bind (m:=Builtin.Tuple.tupleExact _) (wpAny_newObj_type (wpAny_pure #[_,rfl,wpAny_pure h]) d)
  |exact wpAny_bind (m:=Builtin.Tuple.tupleExact _) (wpAny_newObj_type (wpAny_bind (wpAny_pure (wpAny_pure #[_,rfl,wpAny_pure h]))) d)
  |exact wpAny_bind (wpAny_bind (m:=Builtin.Tuple.tupleExact _) (wpAny_newObj_type (wpAny_pure (wpAny_pure #[_,rfl,wpAny_pure h])) d))
  |exact wpAny_bind (wpAny_bind (m:=Builtin.Tuple.tupleExact _) (wpAny_newObj_type (wpAny_pure #[_,rfl,wpAny_pure h]) d))
end
end HT
namespace L2
open PySem PySem.Spec PyProof.Rows
abbrev TO:=St->Hp->(Option Int->Hp->Prop)->Prop
def PO(X:Cx)(e:Option Expr)(t:TO):Prop:=
 ∀(a:List (Addr×Obj))(s:Shared)(b:St)(H:Hp)(Q:Option Int->Hp->Prop),Inv X a b H s->t b H Q->
  wpAny (model X.prog X.w) X.A (evalPart e X.env) (λu d=>∃o c,Inv X a b c d/\IsPart u o/\Q o c) X.xe s
def Pa:TO:=λ_ H Q=>Q none H
def VU(t:TE):TO:=λa H Q=>t a H λx b=>∃i,x= .int i/\Q (some i) b
def intsAre_of:∀{b:List Value},Vals (a.map V.int) b->IntsAre b a:=by
 induction a with
 |nil=>intro b r;rw[abn] at r;cases r;exact .nil
 |cons n a c=>
  intro b r;rw[cf] at r;cases r with
  |cons d f=>
   obtain⟨t,e⟩:=d;subst e;exact .cons n t (c f)
section
variable {X:Cx} {e:Expr} {te:TE} {lo hi:Option Expr} {tl th:TO} {pos p2:Pos}
def OG:PO X none Pa:=by
 intro a s b H Q I h;rw[evalPart_none];exact AC #[none,H,I, .none,h]
def OH(h:PE X e te):PO X (some e) (VU te):=by
 intro a s b H Q I hw;rw[evalPart_some];refine thn (h a s b H _ I hw) λu l c=>?_;rfl';obtain⟨x,f,g,j,k⟩:=c;obtain⟨i,rfl,q⟩:=k;obtain⟨t,rfl⟩:=j;ac_rfl;exact#[some i,f,g, .int i t,q]
def Gs(X:Cx)(r:V->Option Int->Option Int->Hp->VK->Prop):Prop:=
 ∀(a:List (Addr×Obj))(s:Shared)(b:St)(H:Hp)(x:V)(v c d:Value)(lo f:Option Int)(g:Addr)(Q:VK),Inv X a b H s->RelV x v->s.heap.IsSliceOf g c d .none->IsPart c lo->IsPart d f->r x lo f H Q->
  ∃T id,typeLookup (.type T) "__getitem__"=pure (some (.builtin id))/\s.TypeIs v T/\wpAny (model X.prog X.w) X.A (getItem v (.ref g)) (EP X a b Q) X.xe s
def Gs.or(h:Gs X r)(m:Gs X c):Gs X (λx lo b H Q=>r x lo b H Q\/c x lo b H Q):=by
 intro a s d H x v f g lo b i Q I j k pl l q
 rcases q with q|q
 .exact h a s d H x v f g lo b i Q I j k pl l q
 .exact m a s d H x v f g lo b i Q I j k pl l q
def tSl(r:V->Option Int->Option Int->Hp->VK->Prop)(b:TE)(c d:TO):TE:=λa H Q=>b a H λx f=>c a f λl g=>d a g λu h=>r x l u h Q
def K9(m:Gs X r)(n:PE X e te)(o:PO X lo tl)(p:PO X hi th):PE X (.Subscript e (.Slice lo hi none p2) pos) (tSl r te tl th):=by
 intro a s d H Q I h;refine Subscript_ (thn (n a s d H _ I h) λv t f=>?_);rfl';obtain⟨x,y,z,A,B⟩:=f;ac_rfl;refine wpAny_Slice (thn (o a t d y _ z B) λi C #[l,E,F,pl,G]=>thn (p a C d E _ F G) λj c f=>?_);rfl';obtain⟨u,k,J,L,M⟩:=f;ac_rfl;rw[evalPart_none];refine AC ?_;have N:Inv X a d k {c with heap:=c.heap.push {cls:= .type "slice",data:= .fields [i,j, .none].toArray}}:=J.kept (t':=c.toks) λb S q=>Da _ q
 obtain⟨T,id,O,P,R⟩:=m a {c with heap:=c.heap.push {cls:= .type "slice",data:= .fields [i,j, .none].toArray}} d k x v i j l u c.heap.objs.size Q N A (Heap.IsSliceOf.new ..) pl L M
 exact tail_any (ops:= [.ref c.heap.objs.size,v]) P O R (by with_unfolding_all rfl)
def uQ(a:List V)(lo b:Option Int):List V:=(a.drop (HT.bZ a.length 0 lo)).take (HT.bZ a.length a.length b-HT.bZ a.length 0 lo)
def rS(a:List V)(lo b:Option Int):(uQ a lo b).length<=a.length:=by
 unfold uQ;rw[iw,tV];lia
def Zb(K:ac):V->Option Int->Option Int->Hp->VK->Prop:=λx lo c H Q=>∃a b,x= .ref a/\gm K H a b/\
 ¬(HT.bZ b.length 0 lo=0/\HT.bZ b.length b.length c=b.length)/\∀p,H p=none->Q (.ref p) (upd H p (.tup (uQ b lo c)))
def Rv:Gs X (Zb X.K):=by
 intro i s u H x v w y lo f z Q I l m pl n h;rfl';obtain⟨a,d,rfl,t,hw,q⟩:=h;subst l;obtain⟨g,r,j,k⟩:=I.tuple t;have c:g.toArray.size=d.length:=by rw[cJ];exact r.length.symm
 ac_rfl;exists "tuple",_,abj.lookup,j.typeIs;refine HT.qD j m pl n (by rw[c];exact hw) ?_ (by rw[c];exact k)
 rw[c];refine#[.ref s.heap.objs.size,_,I.laid (t':=s.toks) (o:= .tup (uQ d lo f)) (λb B q=>Da _ q) (bJ _) ?_,rfl,q _ (I.hok.fresh (bJ _))];exact#[jm (rS d lo f) k,_,(r.drop (HT.bZ d.length 0 lo)).take (HT.bZ d.length d.length f-HT.bZ d.length 0 lo),IsTup.new _ _]
def VB(K:ac):R2:=λx y H Q=>∃a b d c,x= .ref a/\y= .ref b/\gm K H a d/\gm K H b c/\d≠ []/\d.length+c.length<=sizeLine/\
 (c= []->Q (.ref a) H)/\(c≠ []->∀p,H p=none->Q (.ref p) (upd H p (.tup (d++c))))
def Vals.ya(r:Vals a b):b= []↔a= []:=by
 cases r with
 |nil=>simp
 |cons _ _=>simp
def Ol:OpR X (binaryOp .Add) (VB X.K):=by
 intro f s F H x y v u Q I i j h;rfl';obtain⟨a,b,l,m,rfl,rfl,n,p,r,g,t,A⟩:=h;subst i;subst j;obtain⟨B,d,C,_⟩:=I.tuple n;obtain⟨J,c,E,_⟩:=I.tuple p;ac_rfl;refine HT.L6 C E (λz=>r (d.ya.mp z)) (λz=>#[.ref a,H,I,rfl,t (c.ya.mp z)]) (λz=>?_) (by rw[<-d.length,<-c.length];exact g)
 refine#[.ref s.heap.objs.size,_,I.laid (t':=s.toks) (o:= .tup (l++m)) (λb L q=>Da _ q) (bJ _) ?_,rfl,A (λw=>z (c.ya.mpr w)) _ (I.hok.fresh (bJ _))];exact#[by rw[dB];exact g,_,d.append c,IsTup.new _ _]
end
def kh(n:Nat)(i:Int):Option Nat:=if 0<=i then(if i<n then some i.toNat else none) else if-(n:Int)<=i then some (i+n).toNat else none
def dR{a:Type}(b:List a)(i:Int):Option a:=(kh b.length i).bind λj=>b[j]?
def E7(h:kh n i=some j):seqIndex? i n=some j/\j<n/\-(n:Int)<=i/\i<n:=by
 unfold kh at h
 by_cases b:0<=i
 .rw[tz b] at h
  by_cases a:i<n
  .rw[tz a] at h
   have e:i.toNat=j:=Fk h;exact#[by rw[seqIndex_of b a,e],by lia,by lia,a]
  .rw[mo a] at h;cases h
 .rw[mo b] at h
  by_cases a: -(n:Int)<=i
  .rw[tz a] at h
   have e:(i+n).toNat=j:=Fk h;exact#[by rw[seqIndex_neg (by lia) a,e],by lia,a,by lia]
  .rw[mo a] at h;cases h
def Eg(h:dR a i=some v):∃j,seqIndex? i a.length=some j/\a[j]? =some v/\j<a.length/\-(a.length:Int)<=i/\i<a.length:=by
 unfold dR at h;cases e:kh a.length i with
 |none=>rw[e] at h;cases h
 |some j=>
  rw[e] at h;obtain⟨c,d,f,g⟩:=E7 e;exact#[j,c,h,d,f,g]
def Eh{b:Type}{a:List b}{j:Nat}{v:b}(h:a[j]? =some v):dR a (j:Int)=some v:=by
 have c:j<a.length:=(dm.mp h).1
 have e:kh a.length (j:Int)=some j:=by
  unfold kh;rw[tz (by lia),tz (by lia)];simp
 unfold dR;rw[e];exact h
def wk(b:Expr):Prop:=∀o i,subscripted b false o i=operate [o,i] (getItem o i)
def Gm(X:Cx)(r:R2):Prop:=
 ∀(c a:Expr)(b:List (Addr×Obj))(s:Shared)(d:St)(H:Hp)(x y:V)(v u:Value)(Q:VK),Inv X b d H s->RelV x v->RelV y u->r x y H Q->
  subscripted a false v u=operate [v,u] (getItem v u)->wpAny (model X.prog X.w) X.A (subscriptTail c a v u) (EP X b d Q) X.xe s
def D2(X:Cx)(id:String)(r:V->List V->Hp->VK->Prop):Prop:=
 ∀(a:List (Addr×Obj))(s:Shared)(b:St)(H:Hp)(x:V)(c:List V)(v:Value)(d:List Value)(Q:VK),Inv X a b H s->RelV x v->Vals c d->r x c H Q->
  wpAny (model X.prog X.w) X.A (call (.builtin id) (v::d)) (EP X a b Q) X.xe s
section
variable {X:Cx} {a b:Expr} {ta tb:TE} {pos:Pos}
def Gm.or(h:Gm X r)(l:Gm X f):Gm X (λx y H Q=>r x y H Q\/f x y H Q):=by
 intro c d e s g H x y v u Q I i j q k
 rcases q with q|q
 .exact h c d e s g H x y v u Q I i j q k
 .exact l c d e s g H x y v u Q I i j q k
def Ox(d:Gm X r)(e:PE X a ta)(f:PE X b tb)(g:wk b):PE X (.Subscript a b pos) (Pb r ta tb):=by
 intro c s i H Q I h;exact Subscript_ (LZ e f I h λv u j x y k l m n q=>d a b c j i k x y v u Q l m n q (g _ _))
def Y5(K:ac):R2:=λx y H Q=>∃p c i v,x= .ref p/\y= .int i/\cy K H p c/\dR c i=some v/\Q v H
def Y6(K:ac):R2:=λx y H Q=>∃p c i v,x= .ref p/\y= .int i/\gm K H p c/\dR c i=some v/\Q v H
def E8:Gm X (Y5 X.K):=by
 intro e f c s l H x y v u Q I A B h m;rfl';obtain⟨p,R,i,z,rfl,rfl,E,F,q⟩:=h;subst A;obtain⟨t,rfl⟩:=B;obtain⟨g,r,pl,S⟩:=I.list E;obtain⟨j,d,G,T,J,L⟩:=Eg F;obtain⟨w,n,M⟩:=r.get G;have N:=r.length;have U:=kD;have fin:EP X c l Q w s:=#[z,H,I,M,q];ac_rfl
 by_cases o:0<=i
 .have k:i.toNat=j:=by
   rw[seqIndex_of o L] at d;exact Fk d
  exact item_listR pl.isList o (by lia) (by rw[k];simpa using n) fin m
 .have k:(i+(g.toArray.size:Int)).toNat=j:=by
   rw[seqIndex_neg (by lia) J] at d
   rw[cJ,<-N];exact Fk d
  exact acx (x:=w) pl.isList.typeIs slot_list_getitem.lookup
   (wpAny_getItem_list_neg (Q:=λr O=>r=w/\EP X c l Q r O) pl.isList (by lia) (by rw[cJ]<;>lia) (by lia) (by rw[k];simpa using n) #[rfl,fin]) m
def Qr:Gm X (Y6 X.K):=by
 intro d e c s f H x y v u Q I g k h l;rfl';obtain⟨p,M,i,z,rfl,rfl,n,o,q⟩:=h;subst g;obtain⟨t,rfl⟩:=k;obtain⟨A,r,pl,N⟩:=I.tuple n;obtain⟨j,B,C,O,P,R⟩:=Eg o;obtain⟨w,E,F⟩:=r.get C;have G:=r.length;have S:=kD;have fin:EP X c f Q w s:=#[z,H,I,F,q];ac_rfl
 exact acx (x:=w) pl.typeIs slot_tuple_getitem.lookup
  (getItem_tuple (j:=j) (Q:=λr J=>r=w/\EP X c f Q r J) pl (by lia) (by lia) (by rw[cJ,<-G];exact B) (by simpa using E) #[rfl,fin]) l
def Fh(c:List Value)(n j:Nat)(u:Value):Obj.mapSeq (·.setIfInBounds j u) {cls:= .type "list",data:= .seq c.toArray n}={cls:= .type "list",data:= .seq (c.set j u).toArray n}:=by
 simp[Obj.mapSeq]
theorem Inv.lst{c:List (Addr×Obj)}{d:St}{H:Hp}{s:Shared}{p:Addr}{xs:List V}(I:Inv X c d H s)(h:H p=some (.lst xs)):
  ∃(its:List Value)(n:Nat),Vals xs its/\s.heap.get? p=some {cls:= .type "list",data:= .seq its.toArray n}/\xs.length<=sizeLine:=by
 obtain⟨z,its,n,r,e⟩:=I.hok p _ h;exact#[its,n,r,e,z]
def Inv.QH{its c:List Value}(I:Inv X d j H s)(h:H p=some (.lst xs))
  (l:s.heap.get? p=some {cls:= .type "list",data:= .seq its.toArray n}) (k:f {cls:= .type "list",data:= .seq its.toArray n}={cls:= .type "list",data:= .seq c.toArray i}) (r:Vals g c) (m:g.length<=sizeLine) (t:Nat):
  Inv X d j (upd H p (.lst g)) {s with heap:=s.heap.update p f,toks:=t}:=by
 have e:(s.heap.update p f).get? p=some {cls:= .type "list",data:= .seq c.toArray i}:=by
  rw[SZ f l (by rw[k]<;>rfl),k]
 refine I.write (x:=p) (e:=p) (by rw[h];trivial) (.inl rfl) (λb u o q=>(SC _ _ (Ne.symm o)).trans q) #[_,e] ?_
 exact#[m,c,i,r,e]
def VD:V->V->V->Hp->(Hp->Prop)->Prop:=λo i v H Q=>∃p c k j,o= .ref p/\i= .int k/\H p=some (.lst c)/\kh c.length k=some j/\Q (upd H p (.lst (c.set j v)))
def set_list:Sg X VD:=by
 intro c s A H o i v M N u Q I B C E h;rfl';obtain⟨p,G,k,j,rfl,rfl,m,J,q⟩:=h;subst B;obtain⟨t,rfl⟩:=C;obtain⟨d,n,r,f,L⟩:=I.lst m;obtain⟨e,P,w,x⟩:=E7 J;have g:=r.length;have R:=kD;ac_rfl
 have y:Inv X c A (upd H p (.lst (G.set j v))) {s with heap:=s.heap.update p (Obj.mapSeq (·.setIfInBounds j u))}:=
  I.QH m f (Fh d n j u) (r.set E j) (by rw[fJ];exact L) s.toks
 by_cases z:0<=k
 .have l:k.toNat=j:=by
   rw[seqIndex_of z x] at e;exact Fk e
  exact PySem.W.ki_setAt f z (by lia) (by rw[cJ,<-g];exact x) (by rw[l];exact#[_,y,q])
 .have l:(k+(d.toArray.size:Int)).toNat=j:=by
   rw[seqIndex_neg (by lia) w] at e
   rw[cJ,<-g];exact Fk e
  exact PySem.W.ki_setBack f (by lia) (by rw[cJ,<-g];exact w) (by lia) (by rw[l];exact#[_,y,q])
def zU(lo c:Option Int)(n:Nat):(sliceBounds lo c none n).1=((HT.bZ n 0 lo:Nat):Int)/\(sliceBounds lo c none n).2.1=((HT.bZ n n c:Nat):Int)/\(sliceBounds lo c none n).2.2=1:=by
 refine#[?_,?_,rfl]
 .cases lo with
  |none=>simp[sliceBounds,HT.bZ]
  |some i=>
   simp only[sliceBounds,HT.bZ,Option.getD_none,show(1:Int)>0 by decide,aax]
   by_cases h:i<0
   .simp only[h,aax]<;>lia
   .simp only[h,Os]<;>lia
 .cases c with
  |none=>simp[sliceBounds,HT.bZ]
  |some i=>
   simp only[sliceBounds,HT.bZ,Option.getD_none,show(1:Int)>0 by decide,aax]
   by_cases h:i<0
   .simp only[h,aax]<;>lia
   .simp only[h,Os]<;>lia
def yz(c:List Value)(lo d:Option Int):slicePick c.toArray lo d none=((c.drop (HT.bZ c.length 0 lo)).take (HT.bZ c.length c.length d-HT.bZ c.length 0 lo)).toArray:=by
 obtain⟨e,f,g⟩:=zU lo d c.toArray.size;unfold slicePick;rw[e,f,g];simp only[sliceRange_one,pick_run,cJ]<;>rfl
def Za(K:ac):V->Option Int->Option Int->Hp->VK->Prop:=λx lo d H Q=>∃a c,x= .ref a/\cy K H a c/\∀p,H p=none->Q (.ref p) (upd H p (.lst (uQ c lo d)))
def OZ:Gs X (Za X.K):=by
 intro f s t H x v u w lo e y Q I i j pl k h;rfl';obtain⟨a,c,rfl,m,q⟩:=h;subst i;obtain⟨n,r,g,p⟩:=I.list m;have d:=r.length;ac_rfl;exists "list",_,slot_list_getitem.lookup,g.isList.typeIs;refine wpAny_getItem_list_slice g.isList j pl k .none (by simp) ?_ (by rw[cJ]<;>lia)
 rw[yz,<-d];refine#[.ref s.heap.objs.size,_,I.laid (t':=s.toks) (o:= .lst (uQ c lo e)) (λb A q=>Da _ q) (bJ _) ?_,rfl,q _ (I.hok.fresh (bJ _))];exact#[jm (rS c lo e) p,_,0,(r.drop (HT.bZ c.length 0 lo)).take (HT.bZ c.length c.length e-HT.bZ c.length 0 lo),GM _ rfl]
def h7:V->Bool
 | .bb=>true
 | .bl _=>true
 | .int _=>true
 | .str _=>true
 |_=>false
def xg:V->V->Bool
 | .bb, .bb=>true
 | .bl a, .bl b=>a==b
 | .bl a, .int b=>(if a then 1 else 0)==b
 | .int a, .bl b=>a==(if b then 1 else 0)
 | .int a, .int b=>a==b
 | .str a, .str b=>a==b
 |_,_=>false
def P5{A:Around}{s:Shared}{y x:V}{u v:Value}(ry:RelV y u)(rx:RelV x v)(fy:h7 y=true)(fx:h7 x=true):SeqAt.EqAt A s u v (xg y x):=by
 cases y with
 |bb=>
  cases ry;cases x with
  |bb=>cases rx;exact SeqAt.EqAt.same _
  |bl b=>cases rx;exact SeqAt.EqAt.none_bool b
  |int b=>obtain⟨t,rfl⟩:=rx;exact SeqAt.EqAt.none_int b t
  |str b=>obtain⟨t,rfl⟩:=rx;exact SeqAt.EqAt.none_str b t
  |_=>exact absurd (show false=true from fx) eD
 |bl a=>
  subst ry;cases x with
  |bb=>cases rx;exact SeqAt.EqAt.bool_none a
  |bl b=>cases rx;exact SeqAt.EqAt.bool_bool a b
  |int b=>obtain⟨t,rfl⟩:=rx;exact SeqAt.EqAt.bool_int a b t
  |str b=>obtain⟨t,rfl⟩:=rx;exact SeqAt.EqAt.bool_str a b t
  |_=>exact absurd (show false=true from fx) eD
 |int a=>
  obtain⟨t',rfl⟩:=ry;cases x with
  |bb=>cases rx;exact SeqAt.EqAt.int_none a t'
  |bl b=>cases rx;exact SeqAt.EqAt.int_bool a t' b
  |int b=>obtain⟨t,rfl⟩:=rx;exact SeqAt.EqAt.int_int a t' b t
  |str b=>obtain⟨t,rfl⟩:=rx;exact SeqAt.EqAt.int_str a t' b t
  |_=>exact absurd (show false=true from fx) eD
 |str a=>
  obtain⟨t',rfl⟩:=ry;cases x with
  |bb=>cases rx;exact SeqAt.EqAt.str_none a t'
  |bl b=>cases rx;exact SeqAt.EqAt.str_bool a t' b
  |int b=>obtain⟨t,rfl⟩:=rx;exact SeqAt.EqAt.str_int a t' b t
  |str b=>obtain⟨t,rfl⟩:=rx;exact SeqAt.EqAt.str_str a t' b t
  |_=>exact absurd (show false=true from fx) eD
 |_=>exact absurd (show false=true from fy) eD
def pZ(x:V)(u:Value):Bool:=match u with
 | .none=>xg .bb x
 | .bool b=>xg (.bl b) x
 | .int i _=>xg (.int i) x
 | .str z _=>xg (.str z) x
 |_=>false
def vS{x y:V}{u:Value}(r:RelV y u)(f:h7 y=true):pZ x u=xg y x:=by
 cases y with
 |bb=>cases r;rfl
 |bl b=>cases r;rfl
 |int i=>obtain⟨t,rfl⟩:=r;rfl
 |str z=>obtain⟨t,rfl⟩:=r;rfl
 |_=>exact absurd (show false=true from f) eD
theorem ni:∀{c:List V}{d:List Value},Vals c d->c.all h7=true->d.any (pZ x)=c.any λy=>xg y x
 |_,_, .nil,_=>rfl
 |y::c,u::d, .cons r t,f=>by
  rw[aa7,vj] at f;rw[uI,uI,vS r f.1,ni t f.2]
theorem jC(g:RelV x v)(h:h7 x=true):∀{d:List V}{e:List Value},Vals d e->d.all h7=true->∀u∈e,SeqAt.EqAt A s u v (pZ x u)
 |_,_, .nil,_=>λu c=>by cases c
 |y::d,u::e, .cons r t,f=>λi c=>by
  rw[aa7,vj] at f
  rcases eF.mp c with rfl|c
  .rw[vS r f.1];exact P5 r g f.1 h
  .exact jC g h t f.2 i c
def Qp(x:V)(c:List V):Bool:=c.any λy=>xg y x
def VC(K:ac)(d:Bool):R2:=λx y H Q=>∃p c,y= .ref p/\(cy K H p c\/gm K H p c)/\h7 x=true/\c.all h7=true/\Q (.bl (if d then !Qp x c else Qp x c)) H
def HX:OpR X (compareOp .In) (VC X.K false):=by
 intro e s l H x y v u Q I f i h;rfl';obtain⟨p,n,rfl,d,g,fs,q⟩:=h;subst i;ac_rfl
 rcases d with d|d
 .obtain⟨c,r,pl,k⟩:=I.list d
  refine SeqAt.in_listAt (pZ x) pl.isList (λw hw=>jC f g r fs w (by simpa using hw)) #[.bl _,H,I,rfl,?_]
  rw[show c.toArray.any (pZ x)=c.any (pZ x) by simp,ni r fs]
  exact q
 .obtain⟨c,r,pl,k⟩:=I.tuple d
  refine SeqAt.in_tupleAt (pZ x) pl (λw hw=>jC f g r fs w (by simpa using hw)) #[.bl _,H,I,rfl,?_]
  rw[show c.toArray.any (pZ x)=c.any (pZ x) by simp,ni r fs]
  exact q
def zS:OpR X (compareOp .NotIn) (VC X.K true):=by
 intro e s l H x y v u Q I f i h;rfl';obtain⟨p,n,rfl,d,g,fs,q⟩:=h;subst i;ac_rfl
 rcases d with d|d
 .obtain⟨c,r,pl,k⟩:=I.list d
  refine SeqAt.notIn_listAt (pZ x) pl.isList (λw hw=>jC f g r fs w (by simpa using hw)) #[.bl _,H,I,rfl,?_]
  rw[show c.toArray.any (pZ x)=c.any (pZ x) by simp,ni r fs]
  exact q
 .obtain⟨c,r,pl,k⟩:=I.tuple d
  refine SeqAt.notIn_tupleAt (pZ x) pl (λw hw=>jC f g r fs w (by simpa using hw)) #[.bl _,H,I,rfl,?_]
  rw[show c.toArray.any (pZ x)=c.any (pZ x) by simp,ni r fs]
  exact q
def zq:CallR X (.builtin "len") (λi H Q=>∃p d,i= [.ref p]/\(cy X.K H p d\/gm X.K H p d)/\Q (.int d.length) H):=by
 intro j s n H i o Q I r h;rfl';obtain⟨p,d,rfl,e,q⟩:=h;obtain⟨u,rfl,l⟩:=vals1 r;subst l;have v:=kD;ac_rfl
 rcases e with e|e
 .obtain⟨f,g,pl,m⟩:=I.list e
  have c:=g.length;exact Calls.call_len_list pl.isList (by simp only[cJ]<;>lia) #[.int d.length,H,I.tok _,#[s.toks+1,by rw[cJ,c]],q]
 .obtain⟨f,g,pl,m⟩:=I.tuple e
  have c:=g.length;exact len_tuple pl (by simp only[cJ]<;>lia) #[.int d.length,H,I.tok _,#[s.toks+1,by rw[cJ,c]],q]
def zr:CallR X (.type "list") (λA H Q=>∃p f,A= [.ref p]/\(cy X.K H p f\/gm X.K H p f)/\∀l,H l=none->Q (.ref l) (upd H l (.lst f))):=by
 intro j s C H A F Q I r h;obtain⟨p,f,rfl,k,q⟩:=h;obtain⟨u,rfl,E⟩:=vals1 r;subst E
 have fin:∀(c:List Value),Vals f c->f.length<=sizeLine->∀(d:Heap)(g:Nat),(∀b B,s.heap.get? b=some B->d.get? b=some B)->
   d.get? s.heap.objs.size=some {cls:= .type "list",dict:=none,data:= .seq c.toArray g,slots:= #[]}->EP X j C Q (.ref s.heap.objs.size) {s with heap:=d}:=λc i m d g t e=>
  #[.ref s.heap.objs.size,_,I.laid (t':=s.toks) t (bJ _) (show ck X.prog X.w _ d _ (.lst f) from#[m,c,g,i,e]),rfl,q _ (I.hok.fresh (bJ _))]
 rcases k with k|k
 .obtain⟨c,i,pl,m⟩:=I.list k
  have v:=i.length;obtain⟨o,x,y,n,z⟩:=pl.isList;exact call_list_seq p (.inl rfl) x y z (λd g t e=>fin c i m d g t e) (by simp only[cJ]<;>lia)
 .obtain⟨c,i,pl,m⟩:=I.tuple k
  have v:=i.length;obtain⟨o,x,y,n,z⟩:=pl;exact call_list_seq p (.inr rfl) x y z (λd g t e=>fin c i m d g t e) (by simp only[cJ]<;>lia)
def RU(K:ac)(T:String)(x:V)(H:Hp):Prop:=match x with
 | .str _=>T="str"
 | .int _=>T="int"
 | .ref p=>(T="list"/\∃d,cy K H p d)\/(T="tuple"/\∃o,K.lookup p=some o/\o.cls= .type "tuple"/\o.dict=none)\/
   (T="dict"/\((∃c,H p=some (.dK c))\/∃c,H p=some (.dT c)))\/(T="set"/\∃S n,H p=some (.set S n))
 |_=>False
theorem JT(I:Inv X g m H s)(r:RelV x v)(h:RU X.K T x H):
  s.TypeIs v T/\∀a,v= .ref a->∃l,s.heap.get? a=some l/\l.dict=none:=by
 cases x with
 |str z=>
  obtain⟨t,rfl⟩:=r;cases(show T="str" from h);exact#[typeIs_str s z t,λ_ e=>nomatch e]
 |int i=>
  obtain⟨t,rfl⟩:=r;cases(show T="int" from h);exact#[typeIs_int s i t,λ_ e=>nomatch e]
 |ref p=>
  subst r
  rcases h with ⟨rfl,A,q⟩ | ⟨rfl,o,d,u,j⟩ | ⟨rfl,d⟩ | ⟨rfl,S,n,d⟩
  .obtain⟨w,_,pl,_⟩:=I.list q
   refine#[pl.isList.typeIs,λa e=>?_];cases e;obtain⟨o,n,e,c,j,_⟩:=pl;exact#[o,e,j]
  .refine#[#[o,I.c7 p o d,u],λa e=>?_]
   cases e;exact#[o,I.c7 _ o d,j]
  .have z:∃o,s.heap.get? p=some o/\o.ExactDict:=by
    rcases d with ⟨y,d⟩ | ⟨y,d⟩
    .obtain⟨_,_,_,_,o,_,_,e,f,_⟩:=I.hok p _ d
     exact#[o,e,f]
    .obtain⟨_,_,_,_,o,_,_,e,f,_⟩:=I.hok p _ d
     exact#[o,e,f]
   obtain⟨o,e,f⟩:=z;refine#[#[o,e,f.1],λa k=>?_];cases k;exact#[o,e,f.2.1]
  .obtain⟨o,_,_,_,e,f,_⟩:=I.hok p _ d
   refine#[#[o,e,f.1],λa k=>?_];cases k;exact#[o,e,f.2.1]
 |_=>exact False.elim h
def Zp(K:ac)(T:String)(r:V->List V->Hp->VK->Prop)(d:TE):TE:=λe H Q=>d e H λx c=>RU K T x c/\r x [] c Q
def tBM(K:ac)(T:String)(r:V->List V->Hp->VK->Prop)(e:TE)(t:TA):TE:=λc H Q=>e c H λx d=>RU K T x d/\t c d λf g=>r x f g Q
variable {o e:Expr} {es:List Expr} {to:TE} {t:TA} {name:Str} {apos aB:Pos} {T id:String} {r:V->List V->Hp->VK->Prop}
def Q0(i:PlainAttrs T)(slot:Slot T name id)(j:typeOf (.builtin id)=pure (.type "method_descriptor"))(k:D2 X id r)(l:PE X o to)
  (m:attributeBase o name X.env (eval o X.env)=eval o X.env:=by rfl) (n:(apos.endLine==aB.line)=true:=by rfl):PE X (.Call (.Attribute o name apos) [] [] aB) (Zp X.K T r to):=by
 intro c s d H Q I h;refine wpAny_Call_method0_late m n (thn (l c s d H _ I h) λv p q=>?_);rfl';obtain⟨x,w,f,g,y,z⟩:=q;obtain⟨A,B⟩:=JT f g y;ac_rfl;exact#[T,id,i,slot,j,A,B,aaI rfl (PySem.evalArgs_none (k c p d w x [] v [] Q f g .nil z))]
def oi(l:PlainAttrs T)(slot:Slot T name id)(m:typeOf (.builtin id)=pure (.type "method_descriptor"))(n:D2 X id r)(p:PE X o to)(q:PA X (e::d) t)
  (u:attributeBase o name X.env (eval o X.env)=eval o X.env:=by rfl)
  (w:((backTo f (starEach (e::d) X.env)).all (λx=>!x.1)&&(backToKw f (keywordEach [] X.env)).all (λx=>x.1.isSome)
   &&decide ((e::d).length+([]:List Keyword).length+(if ([]:List Keyword).isEmpty then 0 else 1)<30))=true:=by rfl)
  (y:(apos.endLine==f.line)=true:=by rfl) (z:starEach (e::d) X.env=(false,eval e X.env)::starEach d X.env:=by rfl) (A:(backTo f (starEach d X.env)).any (·.1)=false:=by rfl):
  PE X (.Call (.Attribute o name apos) (e::d) [] f) (tBM X.K T r to t):=by
 intro c s g H Q I h;refine aa5 u w y rfl (thn (p c s g H _ I h) λv B C=>?_);rfl';obtain⟨x,F,i,j,G,J⟩:=C;obtain⟨L,M⟩:=JT i j G;ac_rfl;exists T,id,l,slot,m,L,M;have k:=q f c B g F _ i J;rw[z] at k ⊢;refine aaI (by show(false|| (backTo f (starEach d X.env)).any (·.1))=false;rw[A]<;>rfl) (abo ?_)
 exact thn k λN O #[P,R,S,U,Y]=>n c O g R x P v N Q S j U Y
end
def Pt(X:Cx)(id:String)(r:V->List V->Hp->VK->Prop):Prop:=
 ∀(a:List (Addr×Obj))(s:Shared)(b:St)(H:Hp)(x:V)(c:List V)(v:Value)(d:List Value)(Q:VK),Inv X a b H s->RelV x v->Vals c d->r x c H Q->
  wpAny (model X.prog X.w) X.A (call (.builtin id) (v::d)) (EP X a b Q) X.xe s
def Vals.one(h:Vals [x] a):∃u,a= [u]/\RelV x u:=by
 cases h with|cons r t=>cases t;exact#[_,rfl,r]
def Vals.two{x y:V}(h:Vals [x,y] a):∃u v,a= [u,v]/\RelV x u/\RelV y v:=by
 cases h with
 |cons r t=>
  obtain⟨v,rfl,q⟩:=Vals.one t;exact#[_,v,rfl,r,q]
theorem Vals.zero:∀{a:List Value},Vals [] a->a= []
 |_, .nil=>rfl
theorem Vals.dropLast(h:Vals a b):Vals a.dropLast b.dropLast:=by
 induction h with
 |nil=>exact .nil
 |cons r t c=>
  cases t with
  |nil=>exact .nil
  |cons q d=>exact .cons r c
theorem Vals.rep(h:Vals a b):∀k:Nat,Vals (am k a).flatten (am k b).flatten
 |0=> .nil
 |k+1=>by
  rw[ze,ze,qo,qo];exact Vals.append h (Vals.rep h k)
def EF(l:List c):l.eraseIdx (l.length-1)=l.dropLast:=by
 induction l with
 |nil=>rfl
 |cons a r d=>
  cases r with
  |nil=>rfl
  |cons b r=>
   have e:(a::b::r).length-1=((b::r).length-1)+1:=by
    have f:(a::b::r).length=r.length+2:=rfl;have g:(b::r).length=r.length+1:=rfl;lia
   rw[e,JX,d]
   all_goals rfl
theorem foldl_rep(a:List Value):∀(k:Nat)(b:List Value),
  List.foldl (λc d=>c++d) b.toArray (am k a.toArray)=(b++(am k a).flatten).toArray
 |0,b=>by simp
 |k+1,b=>by
  have e:b.toArray++a.toArray=(b++a).toArray:=by simp
  have f:(b++a)++(am k a).flatten=b++(am (k+1) a).flatten:=by
   rw[ze,qo,kM]
  rw[<-f,<-foldl_rep a k (b++a),<-e,ze,abp]
section
variable {X:Cx} {pins:List (Addr×Obj)} {σ:St} {H:Hp} {s:Shared} {l b:Addr} {xs ys zs:List V}
def Inv.N5{its its':List Value}(I:Inv X pins σ H s)(a:H l=some (.lst xs))
  (e:s.heap.get? l=some {cls:= .type "list",data:= .seq its.toArray n}) (c:f its.toArray=its'.toArray) (d:Vals ys its') (g:ys.length<=sizeLine):
  Inv X pins σ (upd H l (.lst ys)) {s with heap:=s.heap.update l (Obj.mapSeq f),toks:=t'}:=by
 have q:=PySem.IsL.update e f;rw[c] at q;refine I.write (x:=l) (e:=l) (by rw[a];exact trivial) (.inl rfl) (λj u h i=>(SC s.heap (Obj.mapSeq f) (Ne.symm h)).trans i) #[_,q] ?_
 exact#[g,its',_,d,q]
def Inv.JD{its:List Value}{t':Nat}(I:Inv X pins σ H s)(a:Vals ys its)(c:ys.length<=sizeLine):
  Inv X pins σ (upd H s.heap.objs.size (.lst ys)) {s with heap:=s.heap.push {cls:= .type "list",data:= .seq its.toArray},toks:=t'}:=
 I.laid (λ_ _ q=>Da _ q) (bJ _) #[c,its,0,a,GM _ rfl]
theorem Inv.fresh(I:Inv X pins σ H s):H s.heap.objs.size=none:=I.hok.fresh (bJ _)
def Inv.qf(I:Inv X pins σ H s)(a:H l=some (.lst xs)):xs.length<=sizeLine/\∃(its:List Value)(n:Nat),Vals xs its/\xs.length=its.length/\s.heap.get? l=some {cls:= .type "list",data:= .seq its.toArray n}:=by
 obtain⟨z,its,n,r,e⟩:=I.hok l _ a;exact#[z,its,n,r,r.length,e]
def K2(h:n<=sizeLine):Builtin.List.listTooLong n=false:=by
 unfold Builtin.List.listTooLong;exact GT (by lia)
end
section
variable {X:Cx}
def OP:V->List V->Hp->VK->Prop:=λx b H Q=>∃l a y,x= .ref l/\b= [y]/\H l=some (.lst a)/\a.length<sizeLine/\Q .bb (upd H l (.lst (a++ [y])))
def jS:Pt X "list.append" OP:=by
 intro b s j H x k v m Q I d f h;rfl';obtain⟨l,p,y,rfl,rfl,c,t,q⟩:=h;subst d;obtain⟨u,rfl,i⟩:=f.one;obtain⟨z,a,n,r,w,e⟩:=I.qf c;ac_rfl;refine aaG F.slot_list_append #[_,e,rfl] F.entry_list_append (F.args_list_append_2 _ _) (PySem.list_append l a.toArray n u (by rw[cJ];lia)) #[e,?_]
 refine#[.bb,_,I.N5 (its':=a++ [u]) c e (by simp) (r.append (.cons i .nil)) ?_,rfl,q]
 rw[dB,Gg];lia
def Y8:V->List V->Hp->VK->Prop:=λx b H Q=>∃l a y,x= .ref l/\b= []/\H l=some (.lst a)/\a[a.length-1]? =some y/\Q y (upd H l (.lst a.dropLast))
def QJ:Pt X "list.pop" Y8:=by
 intro c s t H x w v A Q I f g h;rfl';obtain⟨l,C,y,rfl,rfl,d,j,q⟩:=h;subst f;have b:=g.zero;subst b;obtain⟨z,a,n,r,k,e⟩:=I.qf d;obtain⟨u,m,o⟩:=r.get j;ac_rfl
 have p:a.toArray[a.toArray.size-1]? =some u:=by
  show a.toArray[a.length-1]? =some u;rw[<-f9,<-k];exact m
 refine aaG F.slot_list_pop #[_,e,rfl] F.entry_list_pop (F.args_list_pop_1 _) (MeetsSeq.list_pop_last l a.toArray n u p (by rw[cJ];lia)) #[e,?_]
 refine#[y,_,I.N5 (its':=a.dropLast) d e ?_ r.dropLast ?_,o,q]
 .show a.toArray.eraseIdxIfInBounds (a.toArray.size-1)=a.dropLast.toArray
  rw[cJ,List.eraseIdxIfInBounds_toArray,EF]
 .rw[List.length_dropLast]
  lia
def Y3:R2:=λx y H Q=>∃l b a c,x= .ref l/\y= .ref b/\H l=some (.lst a)/\H b=some (.lst c)/\a.length+c.length<=sizeLine/\∀p,H p=none->Q (.ref p) (upd H p (.lst (a++c)))
def JH:OpR X (binaryOp .Add) Y3:=by
 intro c s w H x y v u Q I f g h;rfl';obtain⟨l,b,B,C,rfl,rfl,j,k,E,q⟩:=h;subst f;subst g;obtain⟨z,a,n,r,F,e⟩:=I.qf j;obtain⟨G,d,J,m,o,p⟩:=I.qf k;ac_rfl;refine PySem.P.add_list e p ?_ (by rw[cJ,cJ];lia)
 have t:a.toArray++d.toArray=(a++d).toArray:=by simp
 rw[t];exact#[.ref _,_,I.JD (t':=s.toks) (r.append m) (by rw[dB];lia),rfl,q _ I.fresh]
def Y9:R2:=λx y H Q=>∃l k a,x= .ref l/\y= .int k/\H l=some (.lst a)/\-(2^63)<=k/\k<2^63/\a.length*k.toNat<=sizeLine/\
 ∀p,H p=none->Q (.ref p) (upd H p (.lst (am k.toNat a).flatten))
def len_rep(a:List b)(k:Nat):(am k a).flatten.length=k*a.length:=by
 induction k with
 |zero=>simp
 |succ k c=>rw[ze,qo,dB,c,Nat.succ_mul,Nat.add_comm]
def QX:OpR X (binaryOp .Mult) Y9:=by
 intro g s O H x y v u Q I j o h;rfl';obtain⟨l,k,R,rfl,rfl,w,A,B,i,q⟩:=h;subst j;obtain⟨t,rfl⟩:=o;obtain⟨z,b,n,r,C,e⟩:=I.qf w;have c:b.toArray.size*k.toNat<=sizeLine:=by rw[cJ,<-C];exact i
 ac_rfl
 have E:¬b.toArray.size*k.toNat>(2^63-1) / 8:=by
  have:(sizeLine:Nat)<=(2^63-1) / 8:=by decide
  lia
 have G:¬(!Builtin.List.listFitsIndex k)=true:=by
  rw[fitsIndex_both A B];exact eD
 have J:¬Builtin.List.listTooLong (b.toArray.size*k.toNat)=true:=by
  rw[K2 c];exact eD
 have L:List.foldl (λd f=>d++f) #[] (am (if b.toArray.isEmpty=true then 0 else k.toNat) b.toArray)=(am k.toNat b).flatten.toArray:=by
  have M:∀m:Nat,List.foldl (λd f=>d++f) #[] (am m b.toArray)=(am m b).flatten.toArray:=λm=>by
   have:=foldl_rep b m []
   rw[vn] at this;exact this
  rw[M];cases b with
  |nil=>simp
  |cons a S=>rw[mo (by simp)]
 refine wpAny_binaryOp_repeat_ref (T:="list") (U:="int") (by decide) #[_,e,rfl] (λN=>typeIs_int N k t) noFill_list_mul F.fills_int_mul F.slot_int_rmul repeat_list F.slot_int_index.lookup
  (aaG F.slot_int_rmul (typeIs_int s k t) F.entry_int_rmul (F.args_int_rmul_2 _ _) (int___rmul___int_list k t l b.toArray n)
   #[e,rfl,#[_,e,rfl],aaG F.slot_list_mul #[_,e,rfl] F.entry_list_mul (F.args_list_mul_2 _ _) (AutoListH.list___mul___list_int_3 l b.toArray n k t G E J) #[e,?_]])
 rw[L];exact#[.ref _,_,I.JD (t':=s.toks) (r.rep k.toNat) (by rw[len_rep,Nat.mul_comm];exact i),rfl,q _ I.fresh]
end
section
variable {prog:Program} {w:World} {A:Around} {E:Value->Shared->Prop} {s:Shared}
end
section
variable {X:Cx}
end
end L2
namespace V6
open PySem PySem.W PySem.Calls PyProof.Rows
def ug:∀(c:List Int)(d:List Value),WellAll P h d (c.map WData.int)->IntsAre d c:=by
 intro c
 induction c with
 |nil=>
  intro d w;rw[abn] at w;cases w;exact .nil
 |cons n c e=>
  intro d w;rw[cf] at w;cases w with
  |cons a b=>
   cases a;exact .cons _ _ (e _ b)
theorem Im{l:OpenLaw}(o:l.most=some n) 
  (j:l.row.toRowW.claim.pre args=true) (p:WellAll P h c args):
  ∃a k b,c= [Value.ref a]/\args= [WData.list (b.map WData.int)]/\h.get? a=some {cls:= .type "list",data:= .seq k.toArray}/\IntsAre k b/\b.length<=n:=by
 have i:WShape.hasAll [] args [.list .int]=true:=(pre_splitW j).1;have m:l.pre.holds [] {args:=args}=true:=(pre_splitW j).2;obtain⟨d,r,rfl,s,t⟩:=hasAllW_cons i;obtain rfl:=hasAllW_nil t;obtain⟨A,rfl,u⟩:=hasW_list s;obtain⟨b,rfl⟩:=items_int u
 have e:b.length<=n:=by
  unfold OpenLaw.pre at m
  have f:(WTm.not (.lt (.lit (.int (n:Int))) (.len (.arg 0)))).holds [] {args:= [.list (b.map .int)]}=true:=by
   have f:=(holds_andW m).1;rw[o] at f;exact f
  have g:=condW_of f (w_not (w_lt w_lit (w_len_list (w_arg rfl))));rw[aL] at g;refine i4 λq=>?_;have v:(n:Int)<((b.length:Nat):Int):=by lia
  first
   | (rw[B v] at g;exact absurd g (by decide))
   | (simp at g;lia)
 cases p with
 |cons w x=>
  cases x;cases w with
  |list y z=>exact#[_,_,b,rfl,rfl,y,ug b _ z,e]
def Ie(l:OpenLaw)(args:List WData):l.row.toRowW.claim.post args (.bool true) args=true:=
 postW_of (r:=l.row.toRowW) (X:=(true==true))
  (show WShape.has [] (.bool true) .bool=true by first|rfl|decide|simp[WShape.has,WShape.arms,WShape.armsAll])
  (show(WTm.eq .res (.lit (.bool true))).value [] {args:=args,res:=some (.bool true),after:=args}=some (.bool (true==true)) from w_eq_bool (w_res rfl) w_lit) rfl
def Bd{l:OpenLaw} 
  (C:l.most=some n) (E:d.params.defaults= [])
  (call:∀(w:World)(e b:Shared)(m u:Str->Option Value)(j:Addr)(o:Obj)(v p g:Value)(a:Addr)(i:List Value)(s:List Int),
   Ground q c [] x w e m u b.heap->y w b.heap->
   b.heap.get? j=some o->o.data= .func (docDef d.name d.params d.body d.scope v p g)->b.heap.CodeRec p d.name->m d.name=some (.ref j)->
   b.heap.get? a=some {cls:= .type "list",data:= .seq i.toArray}->IntsAre i s->s.length<=n->b.gens= #[]->
   codeAny (model l.prog w) callerA (.call (.ref j) #[[.ref a],[]]) (λr t=>r= .ok (.ret (.bool true))/\OldK b.heap t.heap/\t.os=b.os/\AllBare t.gens) b):
  WalkO q c x y l.row.toRowW d [] (λf i=>dL f i):=by
 intro w e b m u G Y j o v p g F kV H I J z L M A B as N O KH P EV;obtain rfl:F= .none:=Dflts.none z E;obtain rfl:kV= .none:=Dflts.noKw z;rfl';obtain⟨a,i,s,rfl,rfl,R,h,k⟩:=Im C N P;ac_rfl;refine enter_call (aaz (call w e b m u j o v p g a i s G Y H (fd_plain I) J L R h k M) λr t S=>?_);obtain⟨rfl,T,U,X⟩:=S;exact#[.inl #[.bool true, .bool true,[],rfl,λ_=>rfl, .bool true,Ie l _,λ_=>#[List.Pairwise.nil,λ_ Z=>(nomatch Z)]],T,U,X]
section
variable {prog:Program} {w:World} {A:Around} {E:Value->Shared->Prop} {s:Shared} {K:Frag}
end
end V6
namespace L2
open PySem PySem.Spec PyProof.Rows
theorem rf:∀{a:List Value}{b:List Int},IntsAre a b->Vals (b.map V.int) a
 |_,_, .nil=> .nil
 |_,_, .cons n t h=> .cons #[t,rfl] (rf h)
def LN(H:Hp):Prop:=∀b,H b=none\/∃o a,H b=some (.qB o (.lst a))
theorem KR{P:Program}{w:World}{K:ac}{l E:Str->Option Value}{L:pV}{k:Nat}{G a:Addr}{M:FuncData}{x:Str}{N:Sp}{c:Shared}{j:List Value}{p:List Int}
  (O:K.In c.heap) (Q:c.heap.Ns mainGlobals l) (f:c.heap.Ns builtinsNs E) (Hd:∀x:Str,x≠"__name__"->E x=bootBuiltins x) (XY:c.heap.NoLimit) (hg:c.gens= #[])
  (B:c.heap.get? a=some {cls:= .type "list",data:= .seq j.toArray}) (R:IntsAre j p) (S:p.length<=sizeLine) (hr:bN k callerA)
  (F:∀base:Heap,K.In base->base.Ns mainGlobals l->FnOk P w K l base L k G M [x] N) (UD:∀(s:Shared)(u:Value),BindsTo s M #[[u],[]] [(x,u)])
  (zK:∀H:Hp,LN H->cy K H a (p.map V.int)->N [.ref a] H (λv _=>v= .bl true) λ_ _ _=>False)
  (Uw:∀H e g,L [] H c (λ_ _ _=>False) e g->False):
  codeAny (model P w) callerA (.call (.ref G) #[[.ref a],[]]) (λr g=>r= .ok (.ret (.bool true))/\OldK c.heap g.heap/\g.os=c.os/\AllBare g.gens) c:=by
 have T:=rf R;have YC:=R.length
 have i:∀H:Hp,LN H->cy K H a (p.map V.int)->gI P w H c.heap->(∀b,H b≠none->b=a)->(H a≠none->K.lookup a=none)->
   codeAny (model P w) callerA (.call (.ref G) #[[.ref a],[]]) (λr g=>r= .ok (.ret (.bool true))/\OldK c.heap g.heap/\g.os=c.os/\AllBare g.gens) c:=by
  intro H U hS hok X hK;have Y:∀{b:Addr}{o:Obj},c.heap.get? b=some o->H b=none->(sE c.heap H).get? b=some o:=λe n=>KD e n
  have Od:∀{b:Addr}{o:Obj}{t:Array DictEntry}{y:Nat},c.heap.get? b=some o->o.data= .dict t y->H b=none:=λ {b o t y} e d=>by
   cases q:H b with
   |none=>rfl
   |some u=>
    have I:b=a:=X b (by rw[q];simp)
    subst I;rw[B] at e;cases e;have d':Data.seq j.toArray _=Data.dict t y:=d;cases d'
  have C:∀{b:Addr}{m:Str->Option Value},c.heap.Ns b m->(sE c.heap H).Ns b m:=λ {b m} #[o,t,y,e,d,r]=>#[o,t,y,Y e (Od e d),d,r]
  have Z:K.In (sE c.heap H):=λb o e=>Y (O b o e) (by
   cases q:H b with
   |none=>rfl
   |some u=>
    have I:b=a:=X b (by rw[q];simp)
    subst I;rw[hK (by rw[q];simp)] at e;cases e)
  have hM:Mod K l (sE c.heap H):=#[Z,C Q,#[E,C f,Hd],let #[mc,h1,h2]:=XY;#[mc,C h1,h2]];have e0:Env0 P w K l (sE c.heap H) callerA [] c H:=#[rfl,hM,λb o e=>Og e,Nat.le_of_eq (Hg _ _),trivial,λb f=>absurd (show b∈([]:List Addr) from f) (by simp),hok, .of_eq hg]
  refine aaz ((F _ Z (C Q)).run callerA [] c H #[[.ref a],[]] [.ref a] [.ref a] _ _ hr e0 (UD c (.ref a)) (.cons rfl .nil) (zK H U hS)) λr g h=>?_;cases r with
  |error e=>exact(Uw H e g h).elim
  |ok fl=>
   cases fl with
   |next=>exact False.elim h
   |brk=>exact False.elim h
   |cont=>exact False.elim h
   |ret u=>
    rfl';obtain⟨v,H',os,bare,un,Yg,r',q⟩:=h;have q':v= .bl true:=q;subst q';ac_rfl;obtain rfl:u=Value.bool true:=r';refine#[rfl,OldK.of_keep λb o e=>?_,os,bare];cases q:H b with
    |none=>exact un.keep b o e q (by intro z;exact absurd (show b∈([]:List Addr) from z) (by simp)) (by simp)
    |some u=>
     rcases U b with z| ⟨ob,xs,z⟩
     .rw[q] at z;cases z
     .have z2:=un.frzs b ob _ z
      obtain⟨e1,_⟩:=hok b _ z;obtain⟨e2,_⟩:=Yg b _ z2;rw[e] at e1;cases e1;exact e2
 cases J:K.lookup a with
 |some o=>
  have e:=O a o J;rw[B] at e;cases Fk e;refine i (λ_=>none) (λ_=> .inl rfl) (.inr #[_,j.toArray,_,J,rfl,rfl,rfl,by rw[cJ,YC];exact S,by simpa using T]) (λb u z=>by have A:(none:Option HO)=some u:=z;cases A) (λb z=>absurd rfl z) λz=>absurd rfl z
 |none=>
  refine i (λb=>if b=a then some (.qB {cls:= .type "list",data:= .seq j.toArray} (.lst (p.map V.int))) else none) (λb=>?_) (.inl (.inr #[{cls:= .type "list",data:= .seq j.toArray},tz rfl])) (λb u z=>?_) (λb z=>?_) λ_=>J
  .by_cases f:b=a
   .exact .inr #[_,_,tz f]
   .exact .inl (mo f)
  .by_cases f:b=a
   .have A:=(tz f).symm.trans z
    obtain rfl:=Fk A;subst f;exact#[B,by rw[aL];exact S,j,_,T,B]
   .have A:=(mo f).symm.trans z
    cases A
  .by_cases f:b=a
   .exact f
   .exact absurd (mo f) z
def Ph{l:cq}{n k:Nat}{q:Program}{i:List Str}{I:(Str->Option Value)->Heap->Prop}{A:World->Heap->Prop}{d:DefRec}{K:Params->ac}{CX:World->pV}{sp:World->Sp}{x:Str}
  (J:l.most=some n) (L:n<=sizeLine) (M:d.params.defaults= []) (N:bN k callerA)
  (O:∀(w:World)(h:Heap),A w h->(K w.params).In h)
  (F:∀(w:World)(m:Str->Option Value)(r:Addr)(h:Heap),(K w.params).In h->h.Ns mainGlobals m->m d.name=some (.ref r)->
   ∃y:FuncData,(∀(s:Shared)(u:Value),BindsTo s y #[[u],[]] [(x,u)])/\
    ∀base:Heap,(K w.params).In base->base.Ns mainGlobals m->FnOk l.prog w (K w.params) m base (CX w) k r y [x] (sp w))
  (P:∀(w:World)(H:Hp)(a:Addr)(t:List Int),t.length<=n->LN H->cy (K w.params) H a (t.map V.int)->sp w [.ref a] H (λv _=>v= .bl true) λ_ _ _=>False)
  (Q:∀(w:World)(H:Hp)(s:Shared)(e:Value)(z:Shared),CX w [] H s (λ_ _ _=>False) e z->False):
  dV q i I A l.row.toRowW d [] (λf B=>dL f B):=by
 refine V6.Bd J M λw C p m mb r o pm cd R a B t G Y ho hd dW S U j c X=>?_;have E:=O w _ Y;obtain⟨y,Z,hF⟩:=F w m r _ E G.T.g S;exact KR E G.T.g G.T.b G.T.builtins G.T.nolimit X U j (jm c L) N hF Z (λH hO hS=>P w H a t c hO hS) λH e z=>Q w H p e z
def inClass(s:Stmt)(j:Nat):Stmt:=match s with
 | .ClassDef _ _ _ body _ _ _ _ _ _ _=>body.getD j (.Pass #[0,0,0,0])
 |_=> .Pass #[0,0,0,0]
def hU(s:Stmt):Arguments:=match s with
 | .FunctionDef _ a _ _ _ _ _ _ _ _=>a
 |_=>{posonlyargs:= [],args:= [],vararg:=none,kwonlyargs:= [],kw_defaults:= [],kwarg:=none,defaults:= []}
def dM(s:Stmt):List Stmt:=match s with
 | .FunctionDef _ _ b _ _ _ _ _ _ _=>b
 |_=> []
def aw(s:Stmt):Scope:=match s with
 | .FunctionDef _ _ _ _ _ _ sc _ _ _=>sc
 |_=>{kind:= .function,names:= [],isGenerator:=false,isCoroutine:=false}
abbrev cg:pV:=λ_ _ _ _ _ _=>False
abbrev E0:XK:=λ_ _ _=>False
def kS:Passes cg X E0:=λ_ _ _ _ _ _ _ h=>h.elim
structure rA (K:ac) (x qual:Str) (st:Stmt) (f:Addr) (fd:FuncData):Prop where
 ex:∃(oc:Value)(od:Option Addr)(kV doc pm:Value)(an:Option Addr)(bo ct:Value)(C3:Array (Option Value)),
  fd=b4 x qual (hU st) (dM st) (aw st) .none kV doc pm an bo ct/\K.lookup f=some #[oc,od, .func fd,C3]/\bc K bo qual=true
 kp:aA K (.ref f)=true
section
variable {P:Program} {w:World} {K:ac} {mg:Str->Option Value} {base:Heap}
def rA.ok{x a:Str}{st:Stmt}{f:Addr}{e:FuncData}{N c:List Str}{k:Nat}{d:Sp}(F:rA K x a st f e)(S:aF N c (aw st))(len:∀vs H Q E,d vs H Q E->vs.length=c.length)
  (g:∀(b:Value)(A:Around)(outer:List Env)(s:Shared)(H:Hp)(vs:List V)(Q:VK)(E:XK),bN k (A.deeper (envOfC a (aw st) s.heap.objs.size f b))->d vs H Q E->
   ∃t,kc (kv cg P w K mg base N a (aw st) f b A outer s H E).kR (dM st) t/\t {nx:=λ_ i=>Q .bb i,rt:=Q} (start N vs) H):FnOk P w K mg base cg (k+1) f e c d:=by
 rfl';obtain⟨u,v,kV,l,y,z,b,B,C,rfl,m,n⟩:=F.ex;ac_rfl;refine M3 m n S len λA outer s H vs Q E o p=>?_;obtain⟨t,h,q⟩:=g b A outer s H vs Q E o p;exact#[t,h.kR,q]
def rA.binds{st:Stmt}{ps:List Str}(F:rA K x a st f j)
  (h:∀(kV b c:Value)(d:Option Addr)(e g:Value)(i:List Value),i.length=ps.length->bindArgs (b4 x a (hU st) (dM st) (aw st) .none kV b c d e g) #[i,[]]=pure (ps.zip i)):Binds K j ps []:=by
 rfl';obtain⟨m,n,kV,b,c,d,e,g,o,rfl,p,q⟩:=F.ex;ac_rfl;exact .all (h kV b c d e g)
def lX{x a:Str}{st:Stmt}{f:Addr}{i:Value}{j e:Option Addr}{m:Array (Option Value)}{kV b g d h:Value}(l:K.lookup f=some #[i,j, .func (b4 x a (hU st) (dM st) (aw st) .none kV b g e d h),m])
  (c:bc K d a=true) (k:aA K (.ref f)=true):rA K x a st f (b4 x a (hU st) (dM st) (aw st) .none kV b g e d h):=#[#[i,j,kV,b,g,e,d,h,m,rfl,l,c],k]
end
def eu(h:n<=1000):n<sizeLine:=DX h (by decide)
section
variable {X:Cx}
def pv(i:Nat)(b:X.N[i]? =some x:=by rfl)(c:lR X.env.scope x:=by subst_eqs)(d:(x==("__debug__":Str))=false:=by decide)
  (e:(x==("__classdict__":Str))=false:=by decide):PE X (.Name x a) (S9 i):=C6 b c d e
end
def cc{A B:Prop}(h:B):if false=true then A else B:=by
 rw[mo eD];exact h
def bL{A B:Prop}(h:A):if true=true then A else B:=by
 rw[tz rfl];exact h
def aJ(H a:Hp):Prop:=∀b o,H b=some o->a b=some o
def aJ.refl(H:Hp):aJ H H:=λ_ _ h=>h
def aJ.trans{H d e:Hp}(a:aJ H d)(b:aJ d e):aJ H e:=λc o h=>b c o (a c o h)
def aJ.free(e:aJ H a)(h:a l=Option.none):H l=Option.none:=by
 cases q:H l with
 |none=>rfl
 |some o=>
  rw[e l o q] at h;cases h
def je(env:Env):List (Str×NameKind)->List (Str×Addr)->List (Str×Addr)
 | [],a=>a
 | (n,k)::r,a=>if k==NameKind.free then je env r ((n,(env.cells.lookup n).getD 0)::a) else je env r a
def iA(h:∀x∈b.names,x.2= .free->∃c,env.cells.lookup x.1=some c):closureFor b env=pure (je env b.names []):=by
 simp only[closureFor]
 have j:∀(names:List (Str×NameKind))(d:List (Str×Addr)),(∀x∈names,x.2= .free->∃c,env.cells.lookup x.1=some c)->
   (forIn names d λx e=>if (x.snd==NameKind.free)=true then(do let a <-cellOf env x.fst;pure (ForInStep.yield ((x.fst,a)::e))) else pure (ForInStep.yield e))=(pure (je env names d):Sem _):=by
  intro names
  induction names with
  |nil=>intro d _;rfl
  |cons x r l=>
   obtain⟨n,k⟩:=x;intro d h;rw[List.forIn_cons,je];have f:=λd=>l d λy m=>h y (eJ _ m);cases g:k==NameKind.free with
   |false=>
    simp only[g,eZ,Os];exact f d
   |true=>
    have o:k= .free:=by simpa using g
    obtain⟨c,i⟩:=h (n,k) dq o;simp only at i;simp only[aax,cellOf,i];exact f _
 rw[j _ _ h];rfl
theorem fS:∀(names:List (Str×NameKind))(a:List (Str×Addr)),(∀x∈names,x.2= .free->∃c,env.cells.lookup x.1=some c)->(∀x c,a.lookup x=some c->env.cells.lookup x=some c)->
  ∀x c,(je env names a).lookup x=some c->env.cells.lookup x=some c
 | [],a,_,b=>b
 | (n,k)::r,a,h,b=>by
  rw[je]
  split
  .rename_i g
   refine fS r _ (λy d=>h y (eJ _ d)) λx c e=>?_;obtain⟨l,f⟩:=h (n,k) dq (by simpa using g)
   rw[tW] at e
   split at e
   .rename_i i
    have j:x=n:=by simpa using i
    subst j;simp only at f;rw[f] at e ⊢;exact e
   .exact b x c e
  .exact fS r a (λy d=>h y (eJ _ d)) b
theorem pk{env:Env}:∀(names:List (Str×NameKind))(a:List (Str×Addr))(x:Str),((x,NameKind.free)∈names\/∃c,a.lookup x=some c)->∃c,(je env names a).lookup x=some c
 | [],a,x,h=>by
  rcases h with h|h
  .cases h
  .exact h
 | (n,k)::r,a,x,h=>by
  rw[je]
  split
  .rename_i b
   refine pk r _ x ?_
   by_cases e:x=n
   .subst e;exact .inr #[(env.cells.lookup x).getD 0,by simp[tW]]
   .have ne:(x==n)=false:=by simpa using e
    rcases h with h| ⟨c,h⟩
    .rcases eF.mp h with z|z
     .cases z;exact absurd rfl e
     .exact .inl z
    .exact .inr #[c,by rw[tW,ne];exact h]
  .rename_i b
   refine pk r a x ?_
   rcases h with h|h
   .rcases eF.mp h with z|z
    .cases z;exact absurd rfl b
    .exact .inl z
   .exact .inr h
def mV(src:List (Option Nat))(a:St):St:=src.map λo=>o.bind λi=>(a[i]?).bind id
def dF(a:Scope)(b:List Str):List (Option Nat)->List Str->Prop
 | [],[]=>True
 |none::r,_::n=>dF a b r n
 |some i::r,x::n=>b[i]? =some x/\a.names.lookup x=some .free/\dF a b r n
 |_,_=>False
theorem dF.len:∀{src:List (Option Nat)}{NC:List Str},dF a b src NC->src.length=NC.length
 | [],[],_=>rfl
 |none::r,_::n,h=>by have:=dF.len (src:=r) (NC:=n) h;simp[this]
 |some i::r,_::n,h=>by have:=dF.len (src:=r) (NC:=n) h.2.2;simp[this]
 | [],_::_,h=>h.elim
 |none::_,[],h=>h.elim
 |some _::_,[],h=>h.elim
theorem dF.at{a:Scope}{d:List Str}:∀{src:List (Option Nat)}{NC:List Str}{j i:Nat}{x:Str},dF a d src NC->src[j]? =some (some i)->NC[j]? =some x->d[i]? =some x/\a.names.lookup x=some .free
 | [],[],_,_,_,_,h,_=>by simp at h
 |none::r,_::n,0,_,_,_,h,_=>by simp at h
 |none::r,_::n,j+1,i,x,h,b,c=>dF.at (src:=r) (NC:=n) (j:=j) h (by simpa using b) (by simpa using c)
 |some k::r,y::n,0,i,x,h,b,c=>by
  have e:k=i:=by simpa using b
  have f:y=x:=by simpa using c
  subst e f;exact#[h.1,h.2.1]
 |some k::r,_::n,j+1,i,x,h,b,c=>dF.at (src:=r) (NC:=n) (j:=j) h.2.2 (by simpa using b) (by simpa using c)
 | [],_::_,_,_,_,h,_,_=>h.elim
 |none::_,[],_,_,_,h,_,_=>h.elim
 |some _::_,[],_,_,_,h,_,_=>h.elim
structure cE (X:Cx) (scope:Scope):Prop where
 kind:scope.kind= .function
 names:∀x∈scope.names,x.2= .local->scope.names.lookup x.1=some .local
 nocell:∀x∈scope.names,x.2≠ .cell
 free:∀x∈scope.names,x.2= .free->X.env.kindOf x.1=some .cell\/X.env.kindOf x.1=some .free
theorem i8{env:Env}:∀(names:List (Str×NameKind))(x:Str),
  (names.map λ(n,k)=>if (k==NameKind.free&&env.scope.kind== .function&&env.kindOf n==some .cell) then(n,NameKind.cell) else(n,k)).lookup x=
   (names.lookup x).map λk=>if (k==NameKind.free&&env.scope.kind== .function&&env.kindOf x==some .cell) then NameKind.cell else k
 | [],_=>rfl
 | (n,k)::r,x=>by
  have c:=i8 (env:=env) r x;show aP x ((if (k==NameKind.free&&env.scope.kind== .function&&env.kindOf n==some .cell)=true then(n,NameKind.cell) else(n,k))::_)=_;cases b:x==n with
  |true=>
   have e:x=n:=by simpa using b
   subst e
   by_cases a:(k==NameKind.free&&env.scope.kind== .function&&env.kindOf x==some .cell)=true
   .rw[tz a,tW,tW]
    simp only[b];show some NameKind.cell=some (if _ then _ else _);rw[tz a]
   .rw[mo a,tW,tW]
    simp only[b];show some k=some (if _ then _ else _);rw[mo a]
  |false=>
   by_cases a:(k==NameKind.free&&env.scope.kind== .function&&env.kindOf n==some .cell)=true
   .rw[tz a];simp only[tW,b];exact c
   .rw[mo a];simp only[tW,b];exact c
def mem_lookup{names:List (Str×NameKind)}{x:Str}{k:NameKind}(h:names.lookup x=some k):(x,k)∈names:=aaw h
def dj(X:Cx)(a:Scope)(NC:List Str)(ex:List Addr)(s:Shared)(H:Hp):Cx:=
 {X with N:=NC,s₀:=s,H₀:=H,env:=compEnvC a (je X.env a.names []) s.heap.objs.size X.env,outer:=X.stack,stack:=X.stack,ex:=ex,fn:=λ_=>false,pn:= [],xe:=λ_ _=>False}
section
variable {X:Cx} {pins:List (Addr×Obj)} {σ:St} {H:Hp} {s:Shared} {scope:Scope} {NC:List Str} {ex:List Addr} {src:List (Option Nat)}
theorem cE.cells(c:cE X scope)(ok:X.Ok):∀x∈scope.names,x.2= .free->∃c,X.env.cells.lookup x.1=some c:=λx a e=>ok.has x.1 (c.free x a e)
def cE.U8(c:cE X scope)(h:(compEnvC scope (je X.env scope.names []) C X.env).kindOf x=some k)(i:k= .cell\/k= .free):scope.names.lookup x=some .free:=by
 have a:(relabel scope X.env).names.lookup x=some k:=h;unfold relabel at a;rw[i8] at a;cases e:scope.names.lookup x with
 |none=>rw[e] at a;cases a
 |some b=>
  have g:=c.nocell _ (mem_lookup e);rw[e] at a;have f:(if (b==NameKind.free&&X.env.scope.kind== .function&&X.env.kindOf x==some .cell) then NameKind.cell else b)=k:=Fk a
  by_cases d:b= .free
  .rw[d]
  .have j:(b==NameKind.free)=false:=by simpa using d
   rw[j,acD,acD,mo eD] at f
   rcases i with z|z
   .rw[f] at g;exact absurd z g
   .rw[f] at d;exact absurd z d
def L9(I:Inv X pins σ H s)(c:cE X scope)(f:∀b∈ex,f6 X pins H b)(g:∀b∈ex,b<s.heap.objs.size):(dj X scope NC ex s H).Ok where
 mod:=I.ok.mod
 kind:=c.kind
 glob:=I.ok.glob
 blt:=I.ok.blt
 above:=bJ _
 inj:=λx y d i j=>I.ok.inj x y d (fS _ _ (c.cells I.ok) (λ_ _ z=>by cases z) x d i) (fS _ _ (c.cells I.ok) (λ_ _ z=>by cases z) y d j)
 has:=λx k=>pk _ _ x (.inl (mem_lookup (by rcases k with h|h<;>exact c.U8 h (by simp))))
 cab:=λ_ _ z=>by cases z
 hd:=I.ok.hd
 frames:=I.ok.frames
 stk:= .inl rfl
 exf:=λb a=>#[bQ (g b a),λx d e=>(f b a).2.2.2.2.1 x d (fS _ _ (c.cells I.ok) (λ_ _ z=>by cases z) x d e)]
 bs:=I.bs
 bsz:=jm I.ok.bsz I.sz
 noex:=λb o e a=>by
  rcases(f b a).2.2.2.1 with z|z
  .exact I.ok.noex b o e z
  .exact absurd (fo (FB e) (jm I.ok.bsz z)) (j8 _)
 exfs:=λb a z=>(eF.mp (I.Dm b z)).elim (f b a).2.1 (f b a).2.2.1
 funs:=I.stack
 frf:=I.yI
theorem z9{tk:Nat}(I:Inv X pins σ H s)(c:cE X scope)(A:dF scope X.N src NC)(E:∀b∈ex,f6 X pins H b)(F:∀b∈ex,b<s.heap.objs.size)
  (G:h.Ns s.heap.objs.size (λ_=>none)) (J:Heap.SameBut s.heap.objs.size (s.heap.push C) h):
  Inv (dj X scope NC ex s H) [] (mV src σ) H {s with heap:=h,toks:=tk}:=by
 have f:∀b o,s.heap.get? b=some o->h.get? b=some o:=λb o e=>J.extBut b o (bQ (FB e)) (Da _ e);have t:∀x d,(je X.env scope.names []).lookup x=some d->X.env.cells.lookup x=some d:=λx d=>fS _ _ (c.cells I.ok) (λ_ _ z=>by cases z) x d
 have a:∀d v,s.heap.IsCell d v->h.IsCell d v:=λd v #[o,L,k]=>#[o,f d o L,k];refine#[L9 I c E F,rfl,I.bare,Un.kept f,#[_,G,λj x v M O U=>?_],λx d e=>?_,I.hok.fresh (bJ _),λx d e=>I.freeC x d (t x d e),λp P=>absurd (show p∈([]:List (Addr×Obj)) from P) (by simp),I.hok.kept f,?_]
 .have g:(mV src σ)[j]? =some (some v):=O
  unfold mV at g;rw[df] at g;cases w:src[j]? with
  |none=>rw[w] at g;cases g
  |some o=>
   rw[w] at g;cases o with
   |none=>cases g
   |some i=>
    have n:(σ[i]?).bind id=some v:=Fk g
    have Q:σ[i]? =some (some v):=by
     cases q:σ[i]? with
     |none=>rw[q] at n;cases n
     |some z=>rw[q] at n;exact GE some n
    rfl';obtain⟨S,y⟩:=A.at w M;have B:=c.free _ (mem_lookup y) rfl;obtain⟨m,Z,T⟩:=I.loc;obtain⟨u,r,l⟩:=T i x v S Q (B.elim (λz=> .inr (.inl z)) (λz=> .inr (.inr z)));ac_rfl;refine#[u,r, .inr #[?_,?_]]
    .show(relabel scope X.env).names.lookup x=_\/(relabel scope X.env).names.lookup x=_
     unfold relabel;rw[i8,y]
     by_cases z:(NameKind.free==NameKind.free&&X.env.scope.kind== .function&&X.env.kindOf x==some .cell)=true
     .left;simp only[Option.map_some,z,aax]
     .right;simp only[Option.map_some,z];rfl
    .obtain⟨d,k⟩:=pk (env:=X.env) scope.names [] x (.inl (mem_lookup y))
     exists d,k
     rcases l with ⟨l,_⟩ | ⟨_,d',e,z⟩
     .exfalso;rcases B with z|z<;>(rw[l] at z;cases z)
     .rw[t x d k] at e;cases e;exact a d _ z
 .obtain⟨v,z⟩:=I.cell x d (t x d e)
  exact#[v,a d v z]
 .show(mV src σ).length=NC.length
  unfold mV;rw[aL];exact A.len
def comp_back(I:Inv X pins σ H s)(p:∀b∈ex,f6 X pins H b)(J:Inv (dj X scope NC ex s H) m l g c)
  (r:Heap.SameBut s.heap.objs.size c.heap i):Inv X pins σ g {c with heap:=i}:=by
 have h:∀b o,b≠s.heap.objs.size->c.heap.get? b=some o->i.get? b=some o:=λb o a e=>r.extBut b o a e;have ne:∀b o,s.heap.get? b=some o->b≠s.heap.objs.size:=λb o e=>bQ (FB e);have u:=J.base;refine I.Gz (ch:=ex) (show c.os=s.os from J.os) #[λb o e n a f=>h b o (ne b o e) (u.keep b o e n a f),λb o e n a f=>?_,u.free,λb o e f=>?_,u.tups,u.frzs,u.tbls] ?_ J.bare λb a=>?_
 .obtain⟨t,q⟩:=u.slot b o e n a f
  exact#[t,h b _ (ne b o e) q]
 .obtain⟨j,q⟩:=u.there b o e f
  exact#[j,h b j (ne b o e) q]
 .intro b o e
  have k:∀b o,g b=some o->b≠s.heap.objs.size:=λb o e z=>by
   have:=J.free
   rw[z] at e;have w:g s.heap.objs.size=none:=this;rw[w] at e;cases e
  refine(J.hok b o e).oW (λd v x q=>h d v ?_ q) (λ_ q=>q) λ_ _ q=>q
  rcases x with z|z
  .rw[z];exact k b o e
  .exact k d _ z
 .obtain⟨_,y,_,A,B,C⟩:=p b a
  exact#[A,y,B,C]
end
def ng(X:Cx)(b:List Expr)(t:TT):Prop:=
 ∀(a:List (Addr×Obj))(s:Shared)(d:St)(H:Hp)(Q:Bool->Hp->Prop),Inv X a d H s->t d H Q->
  wpAny (model X.prog X.w) X.A (forIn b true λc r=>if r=true then do let ok <-isTrue c X.env (eval c X.env);pure (ForInStep.yield ok) else pure (ForInStep.yield r)) (TP X a d Q) X.xe s
def Pd:TT:=λ_ H Q=>Q true H
def Fy:ng X [] Pd:=λ_ _ _ H _ I h=>wpAny_tests_nil #[H,I,h]
def OL(h:PT X c t):ng X [c] t:=λa s b H Q I q=>wpAny_tests_one (h a s b H Q I q)
def ZY(J:It)(g:TG)(o:TT)(p:TE)(D:Addr)(Q:VK)(q:St)(H:Hp):Prop:=
 ∃W:Nat->Nat->St->Hp->Prop,(∃m,W 0 m q H)/\∀i m e a,W i m e a->
  (J.stop i a/\Q (.ref D) a)\/
  (J.go i a/\∃N:St->Hp->Prop,(∀f h,N f h->∃j,j<m/\W (i+1) j f h)/\∀x k,J.yld i a x k->g x e k λc r=>o c r λb l=>
   if b=true then p c l λv n=>∃d,n D=some (.lst d)/\d.length<sizeLine/\N c (upd n D (.lst (d++ [v]))) else N c l)
def O9(c:TI)(g:TG)(d:TT)(e:TE)(src:List (Option Nat)):TE:=λa H Q=>c a H λJ b=>∀D,b D=none->ZY J g d e D Q (mV src a) (upd b D (.lst []))
section
variable {X:Cx} {elt iter tg:Expr} {ifs:List Expr} {scope:Scope} {pos:Pos} {wi:TI} {g:TG} {tt:TT} {te:TE} {src:List (Option Nat)} {NC:List Str}
theorem uP{RR:Value->Addr->Result->Shared->Prop}{Q:VK}
  (hc:X.calm=true) (c:cE X scope) (fD:dF scope X.N src NC) (I2:Inv X j σ I B) (T:Turn X.prog X.w X.K tg J F it tn) (j4:tn 0 B.heap) (f2:∀b∈F,f6 X j I b)
  (hg:∀s H,PG (dj X scope NC F s H) tg g) (ht:∀s H,ng (dj X scope NC F s H) ifs tt) (he:∀s H,PE (dj X scope NC F s H) elt te)
  (hW:∀D,I D=none->∃W:Nat->Nat->St->Hp->Prop,(∃m,W 0 m (mV src σ) (upd I D (.lst [])))/\∀i m fA I,W i m fA I->
   (J.stop i I/\Q (.ref D) I)\/
   (J.go i I/\∃N:St->Hp->Prop,(∀G a,N G a->∃m',m'<m/\W (i+1) m' G a)/\∀x U,J.yld i I x U->g x fA U λfQ H4=>tt fQ H4 λb H5=>
    if b=true then te fQ H5 λv H6=>∃ys,H6 D=some (.lst ys)/\ys.length<sizeLine/\N fQ (upd H6 D (.lst (ys++ [v]))) else N fQ H5))
  (Uy:∀D C U G a M,Inv X j σ U C->(∀b∈F,f6 X j U b)->Inv (dj X scope NC F C U) [] G a M->Q (.ref D) a->RR (.ref D) C.heap.objs.size (.ok .next) M):
  wpAny (model X.prog X.w) X.A (newList []) (λacc FW=>wpAny (model X.prog X.w) X.A (newFunctionEnv scope X.env.globals (je X.env scope.names []) [] X.env.qual none .none (some X.env)) (λnu yK=>
   codeAny (model X.prog X.w) X.A (.compStart (.ListComp elt [#[tg,iter,ifs,0]] scope pos) 0 (.ref it) acc {nu with scope:=relabel scope X.env}) (RR acc nu.locals) yK) E FW) E B:=by
 rfl';obtain⟨W,⟨m0,w0⟩,turn⟩:=hW B.heap.objs.size I2.fresh;have I3:Inv X j σ (upd I B.heap.objs.size (.lst [])) {B with heap:=B.heap.push {cls:= .type "list",data:= .seq ([]:List Value).toArray}}:=I2.JD (its:= []) (t':=B.toks) .nil (fq _)
 ac_rfl
 have Va:∀b∈F,b<B.heap.objs.size:=λb l=>by
  obtain⟨o,e,_⟩:=T.obj _ _ j4 b l;exact FB e
 have f3:∀b∈F,f6 X j (upd I B.heap.objs.size (.lst [])) b:=λb l=>#[by rw[ax (bQ (Va b l))];exact(f2 b l).1,(f2 b l).2]
 refine Wp ?_
 suffices key:∀C:Shared,Inv X j σ (upd I B.heap.objs.size (.lst [])) C->(∀b o,B.heap.get? b=some o->C.heap.get? b=some o)->
   wpAny (model X.prog X.w) X.A (newFunctionEnv scope X.env.globals (je X.env scope.names []) [] X.env.qual none .none (some X.env)) (λnu yK=>
    codeAny (model X.prog X.w) X.A (.compStart (.ListComp elt [#[tg,iter,ifs,0]] scope pos) 0 (.ref it) (.ref B.heap.objs.size) {nu with scope:=relabel scope X.env}) (RR (.ref B.heap.objs.size) nu.locals) yK) E C from
  key _ I3 λb o e=>Da _ e
 intro C I3 VW;have vN:tn 0 C.heap:=T.keep _ _ _ j4 λb _ o e=>VW b o e
 have HJ:∀b∈F,b<C.heap.objs.size:=λb l=>by
  obtain⟨o,e,_⟩:=T.obj _ _ vN b l;exact FB e
 generalize hH3:upd I B.heap.objs.size (.lst [])=U at I3 f3 w0;refine wpAny_newFunctionEnv c.nocell (by intro y hy;simp at hy) (λh1 BZ B0=>?_) c.kind
 have I4:=z9 (src:=src) (NC:=NC) (ex:=F) (tk:=C.toks+([]:List (Str×Value)).length) I3 c fD f3 HJ BZ B0;have O5:tn 0 h1:=T.keep _ _ _ vN λb l o e=>B0.extBut b o (bQ (HJ b l)) (Da _ e);generalize L:dj X scope NC F C U=k at I4
 have R:∀{a:Hp},(∀b∈F,a b=none)->∀b∈F,f6 k [] a b:=λ {a} hn b l=>by
  subst L;refine#[hn b l,bQ (HJ b l),λz=>?_, .inl l,λx d e=>?_,λp hp=>absurd (show p∈([]:List (Addr×Obj)) from hp) (by simp)]
  .exact(I4.ok.exfs b l) z
  .exact(I4.ok.exf b l).2 x d e
 have Y:codeAny (model X.prog X.w) X.A (.compLoop (.ListComp elt [#[tg,iter,ifs,0]] scope pos) 0 (.ref it) (.ref B.heap.objs.size) k.env) (RR (.ref B.heap.objs.size) C.heap.objs.size)
   {C with heap:=h1,toks:=C.toks+([]:List (Str×Value)).length}:=by
  refine acJ rfl (λn M=>∃i G a,Inv k [] G a M/\tn i M.heap/\(∀b∈F,a b=none)/\W i n G a) (λn M hI=>?_) m0 #[0,_,_,I4,O5,λb l=>(f3 b l).1,w0];obtain⟨i,G,a,I5,vO,zC,w5⟩:=hI;show wpAny _ X.A ((compTurn (.ListComp elt [#[tg,iter,ifs,0]] scope pos) 0 (.ref it) (.ref B.heap.objs.size) k.env).onRaise (λx=>do noteFrame x k.env;theTreesLotGoes x)) _ _ M
  refine wpAny_noted ?_;rw[compTurn_list]
  have kR:∀{α:Type}{t:Sem α}{Q:α->Shared->Prop}{E:Value->Shared->Prop}{s:Shared},wpAny (model k.prog k.w) k.A t Q k.xe s->wpAny (model X.prog X.w) X.A t Q E s:=λ {α t Q E s} h=>by
   subst L;exact wpAny_mono h (λ_ _ q=>q) λ_ _ f=>f.elim
  have KA:k.calm=true:=by subst L;exact hc
  have eP:k.prog=X.prog:=by subst L;rfl
  have ew:k.w=X.w:=by subst L;rfl
  have eK:k.K=X.K:=by subst L;rfl
  have eA:k.A=X.A:=by subst L;rfl
  have UM:PG k tg g:=by subst L;exact hg _ _
  have UX:ng k ifs tt:=L▸ht _ _;have UJ:PE k elt te:=L▸he _ _;refine ir (aas (ir ?_))
  rcases turn i n G a w5 with ⟨stop,qn⟩ | ⟨go,N,hN,step⟩
  .have hd:=T.done k eP ew eK KA i [] M G a (notedBy (model X.prog X.w) X.A k.env λe M=>RR (.ref B.heap.objs.size) C.heap.objs.size (.error e) M) I5 (R zC) vO stop
   rw[eA] at hd;refine thn hd λr s6 O=>?_;obtain⟨hr,I6⟩:=O;subst hr;refine AC ?_;subst L;exact Uy _ C U G a s6 I3 f3 I6 qn
  .have hd:=T.item k eP ew eK KA i [] M G a (notedBy (model X.prog X.w) X.A k.env λe M=>RR (.ref B.heap.objs.size) C.heap.objs.size (.error e) M) I5 (R zC) vO go
   rw[eA] at hd;refine thn hd λr s6 O=>?_;rfl';obtain⟨u,hr,h6⟩:=O;ac_rfl;subst hr;refine ir (thn h6 λ_ s7 O=>?_);rfl';obtain⟨x,H7,I7,r7,y7,yF,M6⟩:=O;ac_rfl;have LJ:=I7.pinned (R M6) (T.obj _ _ yF)
   have again:∀{S:St}{Z:Hp}{s8:Shared},Inv k ([]++mw F s7.heap) S Z s8->N S Z->∃m,m<n/\∃i G a,Inv k [] G a s8/\tn i s8.heap/\(∀b∈F,a b=none)/\W i m G a:=λ {S Z s8} I8 n8=>by
    obtain⟨m',hm,w8⟩:=hN S Z n8;refine#[m',hm,i+1,S,Z,I8.jG,T.keep _ _ _ yF λb l o e=>(I8.pin (b,o) (gW _ (gW _ (eY l e)))).1,λb l=>?_,w8];obtain⟨o,e,d⟩:=T.obj _ _ yF b l;exact(I8.pin (b,o) (gW _ (gW _ (eY l e)))).2.1
   refine ir (kR (thn (UM _ s7 G H7 x u _ LJ r7 (step x H7 y7)) λ_ s8 O=>?_));rfl';obtain⟨S,Z,I8,q8⟩:=O;ac_rfl;refine ir (kR (thn (UX _ s8 S Z _ I8 q8) λb s9 O=>?_));obtain⟨H9,I9,q9⟩:=O;cases b with
   |false=>
    rw[mo eD] at q9;exact AC #[L▸rfl,again I9 q9]
   |true=>
    rw[tz rfl] at q9;refine ir (ir (kR (thn (UJ _ s9 S H9 _ I9 q9) λy Rr O=>?_)));rfl';obtain⟨v,LD,Tc,VA,ys,hD,hz,Vy⟩:=O;ac_rfl;refine ir (kR (thn (jS _ Rr S LD (.ref B.heap.objs.size) [v] _ [y] (λ_ a=>N S a) Tc rfl (.cons VA .nil) #[_,ys,v,rfl,rfl,hD,hz,Vy]) λ_ Rt O=>?_));rfl';obtain⟨_,LG,LI,_,Vz⟩:=O;ac_rfl;exact AC (AC #[L▸rfl,again LI Vz])
 subst L;exact acy Y (T.self _ 0 _ _ _ O5 Y)
def Oy(j:X.calm=true)(c:cE X scope)(k:dF scope X.N src NC)(l:PI X tg iter wi)
  (n:∀b s H,PG (dj X scope NC b s H) tg g) (o:∀b s H,ng (dj X scope NC b s H) ifs tt) (p:∀b s H,PE (dj X scope NC b s H) elt te)
  (r:∀x,foldedSetIterable iter X.env x=pure x:=by intro _;rfl):PE X (.ListComp elt [#[tg,iter,ifs,0]] scope pos) (O9 wi g tt te src):=by
 intro a s f H Q I h;rw[eval_ListComp];refine aaV (use:=none) rfl r (iA (c.cells I.ok)) c.kind c.names (thn (l a s f H _ I h) λv R t=>thn t λS U u=>?_);rfl';obtain⟨Z,d,tn,J,H2,rfl,z,T,B,E,F⟩:=u;ac_rfl;refine uP (RR:=λe C=>compPost (model X.prog X.w) X.A X.xe none (EP X a f Q) e C) (Q:=Q) j c k z T B E (n d) (o d) (p d) F ?_;intro D s3 H3 az G s' L M i q;obtain⟨m,O,_⟩:=i.loc;exact#[m,O,λh' P=>#[.ref D,G,comp_back L M i P,rfl,q]]
def RL(b:TI)(g:TG)(c:TT)(d:TE)(src:List (Option Nat))(i:Nat):TS:=λD a H=>O9 b g c d src a H λv e=>D.nx (a.set i (some v)) e
def uy(hc:X.calm=true)(hN:X.N.Nodup)(ic:X.N[i]? =some x)(hx:Loc X.env.scope x)(c:cE X scope)(fD:dF scope X.N src NC)(hi:PI X tg iter wi)
  (hg:∀t s H,PG (dj X scope NC t s H) tg g) (ht:∀t s H,ng (dj X scope NC t s H) ifs tt) (he:∀t s H,PE (dj X scope NC t s H) elt te)
  (kO:swapsWith (.ListComp elt [#[tg,iter,ifs,0]] scope pos) (some (.Name x r)) S.line X.env=pure true)
  (hf:X.fn x=true\/X.env.scope.names.lookup x=some .local:=by subst_eqs)
  (hs:∀x,foldedSetIterable iter X.env x=pure x:=by intro _;rfl):PS X (.Assign [.Name x r] (.ListComp elt [#[tg,iter,ifs,0]] scope pos) S) (RL wi g tt te src i):=by
 intro f s u H D I h;rw[exec_Assign_Name_used _ _ _ _ kO];refine ir (aas (ir ?_));show wpAny _ X.A (do let _ <-comprehension (.ListComp elt [#[tg,iter,ifs,0]] scope pos) scope X.env _ (newList []) false (eval iter X.env) (some (assign (.Name x r) X.env))) _ _ s
 refine ir (wpAny_mono (aaV (use:=some (assign (.Name x r) X.env)) (Q:=λ_ j=>SP X f D .next j) rfl hs (iA (c.cells I.ok)) c.kind c.names
  (thn (hi f s u H _ I h) λv s1 h1=>thn h1 λzM s2 h2=>?_)) (λ_ j hq=>AC (AC hq)) λ_ _ e=>e)
 rfl';obtain⟨it,F,tn,J,H2,rfl,I2,T,j4,f2,hW⟩:=h2;ac_rfl;refine uP (RR:=λG C=>compPost (model X.prog X.w) X.A X.xe (some (assign (.Name x r) X.env)) (λ_ j=>SP X f D .next j) G C) (Q:=λv k=>D.nx (u.set i (some v)) k) hc c fD I2 T j4 f2 (hg F) (ht F) (he F) hW ?_;intro a l H3 az k j n f3 L q;obtain⟨m,hn,_⟩:=L.loc;have U:Inv X f u k j:=comp_back n f3 L (.refl ..);have Y:l.heap.objs.size≠X.env.locals:=ab1 n.lt
 have nc:∀y d,X.env.cells.lookup y=some d->d≠l.heap.objs.size:=λy d e z=>by
  obtain⟨v,hv⟩:=n.cell y d e
  have:=hv.lt
  rw[z] at this;exact absurd this (j8 _)
 have np:∀p∈X.pn++f,p.1≠l.heap.objs.size:=λp B z=>by
  have:=FB (n.pin p B).1
  rw[z] at this;exact absurd this (j8 _)
 rfl';obtain⟨M,es,ep,O,Z,rC⟩:=id hn;have Xs:k l.heap.objs.size=none:=L.free;ac_rfl
 have IP:Inv X ((l.heap.objs.size,M)::f) u k j:=U.tj λp B=>by
  rcases eF.mp B with z|z
  .rw[z]
   exact#[O,Xs,Y,n.SQ (bJ _),λv w=>by rw[Z] at w;cases w]
  .exact U.pin p (gW _ z)
 refine wpAny_assign_Name (jF (x:=x) IP hN ic hx (v:= .ref a) rfl (λs5 P=>?_) hf);have R:=(P.pin (l.heap.objs.size,M) (gW _ dq)).1;refine#[m,#[M,es,ep,R,Z,rC],λh6 sb=>?_];have Td:Inv X f (u.set i (some (.ref a))) k s5:=P.tj λp B=>P.pin p (gW _ (eJ _ B));exact#[_,k,Td.turned (t':=s5.toks) (it:=l.heap.objs.size) (λb o hb e=>sb.extBut b o hb e) Xs Y (.inr n.sz) nc np,q]
end
section
variable {X:Cx} {pins:List (Addr×Obj)} {σ:St} {H:Hp} {s:Shared} {h':Heap} {fp:List Addr}
def Inv.F1{t':Nat}(I:Inv X pins σ H s)(d:∀b∈fp,f6 X pins H b)(k:∀b o,b∉fp->s.heap.get? b=some o->h'.get? b=some o):Inv X pins σ H {s with heap:=h',toks:=t'}:=by
 refine I.step (g':=s.gens) (d':=s.drawn) (ch:=fp) (λb g=>?_) (λb o _ _ a e _=>k b o a e) (λb o _ _ a e _=>#[o.slots,k b o a e]) (λ_ _ _ _ n=>n)
  (λb o a e=>#[o,k b o a e]) (λ_ _ e=>e) (λ_ _ _ e=>e) (λb y e=>#[#[],by rw[e];simp]) (λm h=>?_) (λb u e=>?_) I.bare
 .obtain⟨_,i,_,j,l,p⟩:=d b g
  exact#[j,i,l,p]
 .obtain⟨o,t,w,x,r⟩:=h
  exact#[o,t,w,k _ o (λz=>(d _ z).2.1 rfl) x,r]
 .have f:∀b u,H b=some u->b∉fp:=λb u e z=>by rw[(d b z).1] at e;cases e
  refine(I.hok b u e).oW (λc v a q=>k c v ?_ q) (λ_ q=>q) λ_ _ q=>q
  rcases a with z|z
  .rw[z];exact f b u e
  .exact f c _ z
def Inv.Pg(I:Inv X pins σ H s)(g:∀b∈fp,f6 X pins H b)(k:∀b o,b∉fp->s.heap.get? b=some o->h'.get? b=some o)(i:s.heap.objs.size<=t)
  (new:ck X.prog X.w (upd H t o) h' t o):Inv X pins σ (upd H t o) {s with heap:=h',toks:=t'}:=by
 have l:H t=none:=I.hok.fresh i;have d:∀b u,H b=some u->upd H t o b=some u:=λb u e=>by rw[ax (aD e l)];exact e
 refine I.step (g':=s.gens) (d':=s.drawn) (ch:=fp) (λb f=>?_) (λb o _ _ a e _=>k b o a e) (λb o _ _ a e _=>#[o.slots,k b o a e]) (λb o _ e n=>?_)
  (λb o a e=>#[o,k b o a e]) (λb G e=>d b _ e) (λb _ _ e=>d b _ e) (λb J e=>#[#[],by rw[d b _ e];simp]) (λm p=>?_) (λb u e=>?_) I.bare
 .obtain⟨_,x,_,y,A,B⟩:=g b f
  exact#[y,x,A,B]
 .rw[ax (bQ (fo (FB e) i))];exact n
 .obtain⟨o,C,E,F,r⟩:=p
  exact#[o,C,E,k _ o (λz=>(g _ z).2.1 rfl) F,r]
 .by_cases f:b=t
  .subst f
   rw[av] at e;cases Fk e;exact new
  .rw[ax f] at e
   have j:∀b u,H b=some u->b∉fp:=λb u e z=>by rw[(g b z).1] at e;cases e
   refine(I.hok b u e).oW (λc v a q=>k c v ?_ q) (λh q=>d h _ q) λh _ q=>d h _ q
   rcases a with z|z
   .rw[z];exact j b u e
   .exact j c _ z
end
def Te(K:ac)(a:Addr):It:=
 #[λi H=>∃b x,cy K H a b/\b[i]? =some x,λi H y c=>∃t x,y= .ref t/\H t=none/\c=upd H t (.tup [.int i,x])/\∀b,cy K H a b->b[i]? =some x,λi H=>∃b,cy K H a b/\b.length<=i]
def E6(e:h.get? t=some {cls:= .type "tuple",data:= .seq [u,v].toArray}):IsTup h t [u,v].toArray:=#[_,e,rfl,_,rfl]
def ID{P:Program}{w:World}{K:ac}{Y:List Expr}{k1}{Z:Pos}(a e l:Addr)(ne:e≠l):
  Turn P w K (.Tuple Y k1 Z) (Te K a) [e,l] e (λi h=>(∃g,IsEnum h e l i g)/\h.IsListIter l a i) where
 mem:=by simp
 obj:=λi h st b f=>by
  obtain⟨⟨g,m⟩,o,A,c,d⟩:=st
  rcases eF.mp f with z|z
  .subst z
   exact#[_,m,λv w=>by cases w]
  .have B:b=l:=by simpa using z
   subst B;exact#[o,A,λv z=>by rw[d] at z;cases z]
 keep:=λi h t st k=>by
  obtain⟨⟨g,m⟩,j4⟩:=st;exact#[#[g,k e (by simp) _ m],j4.at λo q=>k l (by simp) o q]
 item:=by
  intro X C hw F R i j s S H E I r st G;rfl';subst C hw F;obtain⟨xs,x,y,L⟩:=G;obtain⟨M,N,p,hz⟩:=I.list y;obtain⟨u,hu,ru⟩:=N.get L;obtain⟨⟨g,m⟩,n⟩:=st;ac_rfl;refine wpAny_pyNext_enum_item m n p.isList (x:=u) (by simpa using hu) ne λt xE XT O aak kk=>?_
  have k2:∀b o,b∉ [e,l]->s.heap.get? b=some o->t.get? b=some o:=λb o f q=>kk b o (λz=>f (by simp[z])) (λz=>f (by simp[z])) q
  have I1:Inv X j S (upd H s.heap.objs.size (.tup [.int i,x])) {s with heap:=t,toks:=s.toks+1}:=
   I.Pg r k2 (bJ _) #[by show 2<=sizeLine;decide,[.int i s.toks,u], .cons #[_,rfl] (.cons ru .nil),E6 O]
  refine#[_,rfl,wpAny_letOwnedTupleGo_enum xE λh2 Q T=>?_]
  have lt:∀b∈ [e,l],b<s.heap.objs.size:=λb f=>by
   rcases eF.mp f with z|z
   .rw[z];exact FB m
   .obtain⟨o,A,_⟩:=n
    have B:b=l:=by simpa using z
    rw[B];exact FB A
  have U:∀b∈ [e,l],f6 X j (upd H s.heap.objs.size (.tup [.int i,x])) b:=λb f=>#[by rw[ax (bQ (lt b f))];exact(r b f).1,(r b f).2]
  refine#[.ref s.heap.objs.size,_,I1.F1 (t':=s.toks+1) U (λb o f q=>T.extBut b o (λz=>f (by simp[z])) q),rfl,#[_,x,rfl,I.hok.fresh (bJ _),rfl,λys hy=>by rw[I.AE hy y];exact L],#[#[u,?_],XT.extBut T.extBut (Ne.symm ne)],λb f=>(U b f).1]
  have z:((i+1:Nat):Int)=(i:Int)+1:=by lia
  rw[z];exact Q
 done:=by
  intro X C hw F R i j s S H E I r st G;rfl';subst C hw F;obtain⟨xs,y,L⟩:=G;obtain⟨M,N,p,hz⟩:=I.list y;have hl:=N.length;obtain⟨⟨g,m⟩,n⟩:=st;ac_rfl;exact wpAny_pyNext_enum_end (I.ok.hd R) m n p.isList (by simp;lia) λt eb=>#[rfl,I.F1 (t':=s.toks) r λb o f q=>eb b o (λz=>f (by simp[z])) q]
 self:=λ_ _ _ _ _ st h=>by
  obtain⟨⟨g,m⟩,_⟩:=st;exact wpAny_pyIter_enum m h
section
variable {X:Cx}
def U3(K:ac)(c:TA):TI:=λd H R=>c d H λe b=>∃a,e= [.ref a]/\(∃f,b a=some (.lst f))/\R (Te K a) b
def OD{k1}(v:Gl X "enumerate")(w:X.mg "enumerate"=none)(x:PA X [a] j)(y:starEach [a] X.env= [(false,eval a X.env)]:=by rfl):
  PI X (.Tuple r k1 t) (.Call (.Name "enumerate" p) [a] [] d) (U3 X.K j):=by
 intro f s A H R I h;refine Call_ (pH I v w boot_enumerate (aaK (thn (x d f s A H _ I h) λQ c #[S,B,g,C,E]=>?_) y rfl));rfl';obtain⟨l,e,⟨U,G⟩,q⟩:=E;subst e;obtain⟨u,rfl,J⟩:=C.one;subst J;obtain⟨z,L,n,Y,k,e⟩:=g.qf G;ac_rfl;refine call_enumerate_1 e λZ m i fw M=>?_;refine wpAny_pyIter_enum m ?_;have N:c.heap.objs.size+1≠c.heap.objs.size:=Nat.succ_ne_self _;refine#[c.heap.objs.size+1,[c.heap.objs.size+1,c.heap.objs.size],_,_,B,rfl,g.kept (t':=c.toks) M,ID l _ _ N,#[#[_,m],i],λb O=>?_,q]
 have o:c.heap.objs.size<=b:=by
  rcases eF.mp O with z|z
  .rw[z];exact lQ _
  .have P:b=c.heap.objs.size:=by simpa using z
   rw[P];exact bJ _
 exact g.M5 o (g.hok.fresh o)
end
end L2
namespace Wb
abbrev W:=List (List Nat)
def row(w:W)(p:Nat):List Nat:=w.getD p []
inductive Reach (w:W):Nat->Nat->Prop
 |refl (p):Reach w p p
 |step {p q r}:Reach w p q->r∈row w q->Reach w p r
structure Good (w:W):Prop where
 rng:∀p q,q∈row w p->q<w.length
 irr:∀p,p∉row w p
 nod:∀p,(row w p).Nodup
 sym:∀p q,q∈row w p->p∈row w q
 con:∀p,p<w.length->Reach w 0 p
def cw(h:q∈row w p):p<w.length:=by
 apply Gc;intro a;unfold row at h;rw[fz,j7 (by lia)] at h
 simp at h
def FE(h:p<w.length):w[p]? =some (row w p):=by
 unfold row;rw[fz,eI h];rfl
def Rq(h:w[p]? =some r):row w p=r:=by
 unfold row;rw[fz,h];rfl
def OT(h:w.length<=p):row w p= []:=by
 unfold row;rw[fz,j7 h];rfl
def Reach.trans(h:Reach w p q)(a:Reach w q r):Reach w p r:=by
 induction a with
 |refl=>exact h
 |step _ b c=>exact .step c b
def Reach.symm{w:W}(a:∀p q,q∈row w p->p∈row w q){p q:Nat}(h:Reach w p q):Reach w q p:=by
 induction h with
 |refl=>exact .refl _
 |step _ b c=>exact(Reach.step (.refl _) (a _ _ b)).trans c
def Reach.mono{w a:W}(b:∀p q,q∈row w p->q∈row a p){p q:Nat}(h:Reach w p q):Reach a p q:=by
 induction h with
 |refl=>exact .refl _
 |step _ c d=>exact .step d (b _ _ c)
def ins{a:Type}(b:List a)(i:Nat)(x:a):List a:=b.take i++x::b.drop i
def lC(a:List b)(i:Nat)(x:b):(ins a i x).Perm (x::a):=by
 unfold ins;have h:= @List.perm_middle _ x (a.take i) (a.drop i);rw[lN] at h;exact h
def fi:a∈ins b i x↔a=x\/a∈b:=by
 rw[(lC b i x).mem_iff,eF]
def mh(h:a.Nodup)(c:x∉a):(ins a i x).Nodup:=by
 rw[(lC a i x).nodup_iff,lP];exact#[c,h]
def xN(a:List b)(i:Nat)(x:b):(ins a i x).length=a.length+1:=by
 rw[(lC a i x).length_eq];rfl
def jW{w:W}{p x:Nat}(h:p<w.length):row (w.set p r) x=if p=x then r else row w x:=by
 unfold row;rw[fz,mX]
 by_cases e:p=x
 .rw[tz e,tz e,tz h];rfl
 .rw[mo e,mo e,fz]
def tie(w:W)(p i u j:Nat):W:=(w.set p (ins (row w p) i u)).set u (ins (row w u) j p)
def iZ(w:W)(p i u j:Nat):(tie w p i u j).length=w.length:=by unfold tie;simp
def OU{p i u j x:Nat}(a:p<w.length)(b:u<w.length):row (tie w p i u j) x=if u=x then ins (row w u) j p else if p=x then ins (row w p) i u else row w x:=by
 unfold tie;rw[jW (by simpa using b),jW a]
def Ap{p i u j:Nat}(g:Good w)(l:p<w.length)(m:u<w.length)(ne:u≠p)(k:u∉row w p):Good (tie w p i u j):=by
 have b:=λx=>OU (i:=i) (j:=j) (x:=x) l m;have d:p∉row w u:=λh=>k (g.sym _ _ h)
 have mono:∀x q,q∈row w x->q∈row (tie w p i u j) x:=λx q f=>by
  rw[b]
  split
  .rename_i e;subst e;exact fi.mpr (.inr f)
  .split
   .rename_i e;subst e;exact fi.mpr (.inr f)
   .exact f
 refine#[λx q a=>?_,λx a=>?_,λx=>?_,λx q a=>?_,λx a=>?_]
 .rw[b] at a;rw[iZ]
  split at a
  .rcases fi.mp a with e|e
   .lia
   .exact g.rng _ _ e
  .split at a
   .rcases fi.mp a with e|e
    .lia
    .exact g.rng _ _ e
   .exact g.rng _ _ a
 .rw[b] at a
  split at a
  .rename_i c;subst c
   rcases fi.mp a with e|e
   .exact ne e
   .exact g.irr _ e
  .split at a
   .rename_i c;subst c
    rcases fi.mp a with e|e
    .exact ne e.symm
    .exact g.irr _ e
   .exact g.irr _ a
 .rw[b];split
  .exact mh (g.nod _) d
  .split
   .exact mh (g.nod _) k
   .exact g.nod _
 .rw[b] at a
  split at a
  .rename_i c;subst c
   rcases fi.mp a with e|e
   .subst e;rw[b,mo ne,tz rfl];exact fi.mpr (.inl rfl)
   .exact mono _ _ (g.sym _ _ e)
  .split at a
   .rename_i c;subst c
    rcases fi.mp a with e|e
    .subst e;rw[b,tz rfl];exact fi.mpr (.inl rfl)
    .exact mono _ _ (g.sym _ _ e)
   .exact mono _ _ (g.sym _ _ a)
 .rw[iZ] at a;exact(g.con x a).mono mono
theorem Kw(g:Good w)(k:i.length=w.length)(j:∀p,p<w.length->ord p<w.length)
  (inj:∀p q,p<w.length->q<w.length->ord p=ord q->p=q) (sur:∀y,y<w.length->∃p,p<w.length/\ord p=y)
  (l:∀p,p<w.length->(row i (ord p)).Perm ((row w p).map ord)):Good i:=by
 have mem:∀p q,p<w.length->(q∈row i (ord p)↔∃a,a∈row w p/\ord a=q):=λp q d=>by
  rw[(l p d).mem_iff,cz]
 have reach:∀{p q},Reach w p q->Reach i (ord p) (ord q):=λ {p q} h=>by
  induction h with
  |refl=>exact .refl _
  |step _ m o=>exact .step o ((mem _ _ (cw m)).mpr #[_,m,rfl])
 refine#[λy q c=>?_,λy c=>?_,λy=>?_,λy q c=>?_,λy c=>?_]
 .obtain⟨p,d,rfl⟩:=sur y (by have:=cw c;lia)
  obtain⟨a,f,rfl⟩:=(mem p q d).mp c;rw[k];exact j a (g.rng _ _ f)
 .obtain⟨p,d,rfl⟩:=sur y (by have:=cw c;lia)
  obtain⟨a,f,e⟩:=(mem p _ d).mp c
  have:=inj a p (g.rng _ _ f) d e
  subst this;exact g.irr _ f
 .by_cases c:y<w.length
  .obtain⟨p,d,rfl⟩:=sur y c
   rw[(l p d).nodup_iff];unfold cR;rw[i3];refine aaE ?_ (g.nod p);intro a b f r ne e;exact ne (inj a b (g.rng _ _ f) (g.rng _ _ r) e)
  .rw[OT (by lia)];exact gB
 .obtain⟨p,d,rfl⟩:=sur y (by have:=cw c;lia)
  obtain⟨a,f,rfl⟩:=(mem p q d).mp c;exact(mem a _ (g.rng _ _ f)).mpr #[p,g.sym _ _ f,rfl]
 .rw[k] at c
  obtain⟨p,d,rfl⟩:=sur y c;obtain⟨z,s,t⟩:=sur 0 (by lia)
  have n:=reach (((g.con z s).symm g.sym).trans (g.con p d));rw[t] at n;exact n
def j5(l:List Nat)(x:Nat):Nat:=l.getD ((l.idxOf x+1)%l.length) 0
def CT(w:W)(d:Nat×Nat):Nat×Nat:=(d.2,j5 (row w d.2) d.1)
def bK(w:W)(d:Nat×Nat):Prop:=d.2∈row w d.1
def qZ(h:x∈l):l[(l.idxOf x+1)%l.length]? =some (j5 l x):=by
 have a:0<l.length:=zb h;unfold j5;rw[fz,eI (tZ _ a)];rfl
def Iy(h:x∈l):j5 l x∈l:=fm (qZ h)
def N8(f:a<n)(g:b<n)(e:(a+1)%n=(b+1)%n):a=b:=by
 by_cases d:a+1=n
 .by_cases c:b+1=n
  .lia
  .rw[d,Nat.mod_self,vk (by lia)] at e;lia
 .by_cases c:b+1=n
  .rw[c,Nat.mod_self,vk (by lia)] at e;lia
  .rw[vk (by lia),vk (by lia)] at e;lia
def Iw(g:l.Nodup)(a:x∈l)(b:y∈l)(e:j5 l x=j5 l y):x=y:=by
 have o:0<l.length:=zb a;have c:=qZ a;have h:=qZ b;rw[e] at c;have d:=y9.mpr a;have f:=y9.mpr b;obtain⟨p,i⟩:=dm.mp c;obtain⟨r,j⟩:=dm.mp h;have q:=(List.getElem_inj g).mp (i.trans j.symm);have k:=N8 d f q;have m:=DY d;have n:=DY f;rw[<-m,<-n];simp only[k]
def K4(g:Good w)(h:bK w d):bK w (CT w d):=Iy (g.sym _ _ h)
def yb(g:Good w)(h:bK w d)(c:bK w e)(q:CT w d=CT w e):d=e:=by
 have a:d.2=e.2:=GE Prod.fst q;have b:j5 (row w d.2) d.1=j5 (row w e.2) e.1:=GE Prod.snd q;rw[<-a] at b;have f:d.1∈row w d.2:=g.sym _ _ h;have i:e.1∈row w d.2:=by rw[a];exact g.sym _ _ c
 exact aau (Iw (g.nod _) f i b) a
def bE(w:W):List (Nat×Nat):=(aM w.length).flatMap λp=>(row w p).map λq=>(p,q)
def bI:d∈bE w↔bK w d:=by
 unfold bE bK;rw[ab5]
 constructor
 .rintro⟨p,_,h⟩
  obtain⟨q,a,rfl⟩:=cz.mp h;exact a
 .intro h
  exact#[d.1,gD.mpr (cw h),cz.mpr #[d.2,h,rfl]]
theorem aZ [DecidableEq b]:∀{l m:List b},l.Nodup->(∀x∈l,x∈m)->l.length<=m.length
 | [],_,_,_=>fq _
 |a::r,m,g,h=>by
  have c:=lP.mp g;have d:=h a dq;have i:=aZ (l:=r) (m:=m.erase a) c.2 λx f=>(List.mem_erase_of_ne (λ(e:x=a)=>c.1 (by rw[<-e];exact f))).mpr (h x (eJ _ f))
  rw[List.length_erase_of_mem d] at i
  have:=zb d
  simp only[cU];lia
def eV(g:Good w)(p:Nat):(row w p).length<=w.length:=by
 have:=aZ (m:=aM w.length) (g.nod p) λx a=>gD.mpr (g.rng _ _ a)
 simpa using this
theorem Al{f:b->List c}{k:Nat}:∀{l:List b},(∀x∈l,(f x).length<=k)->(l.flatMap f).length<=l.length*k
 | [],_=>by simp
 |a::r,h=>by
  have e:=Al (f:=f) (k:=k) (l:=r) λx d=>h x (eJ _ d)
  have:=h a dq
  rw[A3,dB,cU,Nat.succ_mul];lia
def fL(g:Good w):(bE w).length<=w.length*w.length:=by
 have:=Al (f:=λp=>(row w p).map λq=>(p,q)) (k:=w.length) (l:=aM w.length) λx _=>by rw[aL];exact eV g x
 rw[yY] at this;exact this
def bh(w:W):Nat->Nat×Nat->Nat×Nat
 |0,d=>d
 |n+1,d=>CT w (bh w n d)
theorem cT(g:Good w)(h:bK w d):∀n,bK w (bh w n d)
 |0=>h
 |n+1=>K4 g (cT g h n)
theorem sI(m:Nat):∀n,bh w (n+m) d=bh w n (bh w m d)
 |0=>by rw[tY];rfl
 |n+1=>by rw[Nat.succ_add];show CT w (bh w (n+m) d)=CT w (bh w n (bh w m d));rw[sI m n]
theorem xP(g:Good w)(h:bK w d)(a:bK w e):∀n,bh w n d=bh w n e->d=e
 |0,q=>q
 |n+1,q=>xP g h a n (yb g (cT g h n) (cT g a n) q)
def walk(w:W)(d:Nat×Nat)(k:Nat):List (Nat×Nat):=(aM k).map λi=>bh w i d
def rh(w:W)(d:Nat×Nat)(k:Nat):walk w d (k+1)=walk w d k++ [bh w k d]:=by
 unfold walk;rw[acr,eE];rfl
def iL(w:W)(d:Nat×Nat)(k:Nat):(walk w d k).length=k:=by unfold walk;simp
def mH(g:Good w)(h:bK w d):∀e∈walk w d k,bK w e:=λe a=>by
 obtain⟨i,_,rfl⟩:=cz.mp a;exact cT g h i
def oZ(g:Good w)(h:bK w d)(a:∀j,0<j->j<k->bh w j d≠d):(walk w d k).Nodup:=by
 unfold walk cR;rw[i3];refine aaE ?_ aa6;intro i j f b lt e;have l:=gD.mp b;have c:bh w i d=bh w i (bh w (j-i) d):=by rw[<-sI (j-i) i,show i+(j-i)=j by lia];exact e
 exact a (j-i) (by lia) (by lia) (xP g h (cT g h _) i c).symm
def yL(g:Good w)(h:bK w d){k:Nat}(a:∀j,0<j->j<k->bh w j d≠d):k<=(bE w).length:=by
 have:=aZ (m:=bE w) (oZ g h a) λe b=>bI.mpr (mH g h e b)
 rwa [iL] at this
def uO(g:Good w){S:Nat->Prop}(c:S 0)(d:∀p q,S p->q∈row w p->S q):∀p,p<w.length->S p:=λp e=>by
 have:∀{a b},Reach w a b->S a->S b:=λ {a b} h f=>by
  induction h with
  |refl=>exact f
  |step _ i j=>exact d _ _ j i
 exact this (g.con p e) c
def lexLe(a b:Nat×Nat):Prop:=a.1<b.1\/(a.1=b.1/\a.2<=b.2)
def um(h:lexLe a b)(c:lexLe b a):a=b:=by
 unfold lexLe at h c;exact aau (by lia) (by lia)
def jy(a:Nat->List Nat)(n:Nat):List (Nat×Nat):=(aM n).flatMap λp=>((a p).filter λq=>decide (p<q)).map λq=>(p,q)
theorem oh{e c:Type}{R:c->c->Prop}{f:e->List c}:∀{l:List e},(∀x∈l,(f x).Pairwise R)->l.Pairwise (λa b=>∀x∈f a,∀y∈f b,R x y)->(l.flatMap f).Pairwise R
 | [],_,_=>List.Pairwise.nil
 |a::r,h,p=>by
  have g:=List.pairwise_cons.mp p;rw[A3,vg];refine#[h a dq,oh (λx d=>h x (eJ _ d)) g.2,λx d y i=>?_];obtain⟨b,j,k⟩:=ab5.mp i;exact g.1 b j x d y k
end Wb
namespace L2
open PySem PySem.Spec PyProof.Rows
section
variable {X:Cx}
theorem Vals.ins{x:V}{u:Value}(r:RelV x u){a:List V}{b:List Value}(i:Nat)(h:Vals a b):Vals (Wb.ins a i x) (Wb.ins b i u):=(h.take i).append (.cons r (h.drop i))
def OQ:V->List V->Hp->VK->Prop:=λx b H Q=>∃l a i y,x= .ref l/\b= [.int i,y]/\H l=some (.lst a)/\0<=i/\i<=a.length/\a.length<sizeLine/\Q .bb (upd H l (.lst (Wb.ins a i.toNat y)))
def xY:Pt X "list.insert" OQ:=by
 intro b s u H x w v A Q I f g h;rfl';obtain⟨l,C,i,y,rfl,rfl,c,E,G,J,q⟩:=h;subst f;obtain⟨L,d,rfl,⟨t,rfl⟩,k⟩:=g.two;obtain⟨z,a,n,r,M,e⟩:=I.qf c;have N:=kD;ac_rfl
 have m:¬(!Builtin.List.listFitsIndex i)=true:=by
  rw[fitsIndex_both (by lia) (by lia)]
  exact eD
 refine aaG F.slot_list_insert #[_,e,rfl] F.entry_list_insert (F.args_list_insert_3 _ _ _) (AutoSeq1.list_insert_list_int_val_1 l a.toArray n i t d m (by rw[cJ];lia)) #[e,?_]
 refine#[.bb,_,I.N5 (its':=Wb.ins a i.toNat d) c e ?_ (r.ins k i.toNat) ?_,rfl,q]
 .have o:¬i<0:=by lia
  have p:min i.toNat a.length=i.toNat:=by lia
  simp only[o,Os,cJ,p];apply ab6.mp;unfold Wb.ins;simp;exact vf (by rw[tV];lia)
 .rw[Wb.xN];lia
def Rm(K:ac):V->List V->Hp->VK->Prop:=λx b H Q=>∃(l:Addr)(a:List V)(y:V)(j:Nat)(z:V),x= .ref l/\b= [y]/\H l=some (.lst a)/\h7 y=true/\a.all h7=true/\a[j]? =some z/\xg z y=true/\
 (∀(m:Nat) z,m<j->a[m]? =some z->xg z y=false)/\Q (.int j) H
def K0:Pt X "list.index" (Rm X.K):=by
 intro A s U H x Y v Z Q I B C h;rfl';obtain⟨l,d,y,j,z,rfl,rfl,G,J,fs,f,L,M,q⟩:=h;subst B;obtain⟨u,rfl,N⟩:=C.one;obtain⟨fw,a,n,r,hl,e⟩:=I.qf G;obtain⟨w,hw,O⟩:=r.get f;ac_rfl
 have P:j<a.toArray.size:=by
  obtain⟨b,_⟩:=dm.mp hw;simpa using b
 have flat:∀(m:Nat) z,d[m]? =some z->h7 z=true:=λm z h=>(ab7.mp fs) z (fm h)
 have g:a.toArray[j]=w:=by
  obtain⟨b,i⟩:=dm.mp hw;simpa using i
 have bT:=kD
 have zH:j<d.length:=by
  obtain⟨b,_⟩:=dm.mp f;exact b
 refine aaG F.slot_list_index #[_,e,rfl] F.entry_list_index (F.args_list_index_2 _ _) (SeqAt.list_indexAt l a.toArray n none #[] u (pZ y) j P (by lia) ?_ ?_) #[e,λw hw=>jC N J r fs w (by simpa using hw),?_]
 .rw[g,vS O (flat j z f)];exact L
 .intro m R S
  have p8:m<a.length:=by simpa using R
  obtain⟨c,k⟩:∃c,d[m]? =some c:=#[_,eI (by lia)]
  obtain⟨T,o,p⟩:=r.get k
  have t:a.toArray[m]=T:=by
   obtain⟨b,i⟩:=dm.mp o;simpa using i
  rw[t,vS p (flat m c k)];exact M m c S k
 .exact#[.int j,H,I.tok _,#[_,rfl],q]
end
mutual
inductive Dp (K:ac) (H:Hp):V->PyData->Prop
 |bb:Dp K H .bb .none
 |bl (b:Bool):Dp K H (.bl b) (.bool b)
 |int (i:Int):Dp K H (.int i) (.int i)
 |str (x:Str) (h:PyData.strOk x=true):Dp K H (.str x) (.str x)
 |lst {a:Addr} {xs:List V} {ds:List PyData}:cy K H a xs->DpAll K H xs ds->Dp K H (.ref a) (.list ds)
 |tup {a:Addr} {xs:List V} {ds:List PyData}:gm K H a xs->DpAll K H xs ds->Dp K H (.ref a) (.tuple ds)
inductive DpAll (K:ac) (H:Hp):List V->List PyData->Prop
 |nil:DpAll K H [] []
 |cons {v:V} {vs:List V} {d:PyData} {ds:List PyData}:Dp K H v d->DpAll K H vs ds->DpAll K H (v::vs) (d::ds)
end
section
variable {X:Cx} {pins:List (Addr×Obj)} {σ:St} {H:Hp} {s:Shared}
mutual
theorem Dp.reads(I:Inv X pins σ H s):∀{v:V}{d:PyData}{u:Value},Dp X.K H v d->RelV v u->(∃as,Reads s.heap u d as)/\d.canLay0=true
 |_,_,_, .bb,r=>by cases r;exact#[#[_, .none],rfl]
 |_,_,_, .bl b,r=>by cases r;exact#[#[_, .bool b],rfl]
 |_,_,_, .int i,r=>by obtain⟨t,rfl⟩:=r;exact#[#[_, .int i t],rfl]
 |_,_,_, .str x h,r=>by obtain⟨t,rfl⟩:=r;exact#[#[_, .str x t],by simpa [PyData.canLay0] using h]
 |_,_,_, .lst h a,r=>by
  cases r;obtain⟨its,rv,pl,hz⟩:=I.list h;obtain⟨⟨as,ra⟩,c⟩:=DpAll.reads I a rv;obtain⟨o,ho,hc,n,hd⟩:=pl.isList;exact#[#[_, .list ho hc hd (by simpa using ra)],by simpa [PyData.canLay0] using c]
 |_,_,_, .tup h a,r=>by
  cases r;obtain⟨its,rv,pl,hz⟩:=I.tuple h;obtain⟨⟨as,ra⟩,c⟩:=DpAll.reads I a rv;obtain⟨o,ho,hc,n,hd⟩:=pl;exact#[#[_, .tuple ho hc hd (by simpa using ra)],by simpa [PyData.canLay0] using c]
theorem DpAll.reads(I:Inv X pins σ H s):∀{vs:List V}{ds:List PyData}{us:List Value},DpAll X.K H vs ds->Vals vs us->(∃as,ReadsAll s.heap us ds as)/\PyData.canLayAll0 ds=true
 |_,_,_, .nil, .nil=>#[#[_, .nil],by simp[PyData.canLayAll0]]
 |_,_,_, .cons a as, .cons r rs=>by
  obtain⟨⟨x,h1⟩,c1⟩:=Dp.reads I a r;obtain⟨⟨y,h2⟩,c2⟩:=DpAll.reads I as rs;exact#[#[_, .cons h1 h2],by simp[PyData.canLayAll0,c1,c2]]
end
end
section
variable {X:Cx}
def Y4(K:ac):R2:=λx y H Q=>∃d e,Dp K H x d/\Dp K H y e/\d.depth<=64/\Q (.bl (PyData.eqv d e)) H
def Y7(K:ac):R2:=λx y H Q=>∃d e,Dp K H x d/\Dp K H y e/\d.depth<=64/\Q (.bl (!PyData.eqv d e)) H
def QS(n:X.A.units+64<cLine):OpR X (compareOp .Eq) (Y4 X.K):=by
 intro a s o H x y v u Q I b c h;rfl';obtain⟨d,e,g,i,r,q⟩:=h;obtain⟨⟨t,j⟩,k⟩:=g.reads I b;obtain⟨⟨bs,l⟩,m⟩:=i.reads I c;ac_rfl;exact SeqAt.compareEq_reads j l k m (by have:=Nat.min_le_left d.depth e.depth;lia) #[.bl _,H,I,rfl,q]
def QW(n:X.A.units+64<cLine):OpR X (compareOp .NotEq) (Y7 X.K):=by
 intro a s o H x y v u Q I b c h;rfl';obtain⟨d,e,g,i,r,q⟩:=h;obtain⟨⟨t,j⟩,k⟩:=g.reads I b;obtain⟨⟨bs,l⟩,m⟩:=i.reads I c;ac_rfl;exact SeqAt.compareNe_reads j l k m (by have:=Nat.min_le_left d.depth e.depth;lia) #[.bl _,H,I,rfl,q]
end
def nD(n:Nat):PyData:= .int n
def kE(r:List Nat):PyData:= .list (r.map nD)
theorem uS{e:Type}{f:e->PyData}(g:∀a b,PyData.eqv (f a) (f b)=true↔a=b):∀c d:List e,PyData.eqvAll (c.map f) (d.map f)=true↔c=d
 | [],[]=>by simp[PyData.eqvAll]
 | [],_::_=>by simp[PyData.eqvAll]
 |_::_,[]=>by simp[PyData.eqvAll]
 |a::c,b::d=>by
  have h:=uS g c d;simp[PyData.eqvAll,g,h]
def P7(a b:Nat):PyData.eqv (nD a) (nD b)=true↔a=b:=by
 simp[nD,PyData.eqv];lia
def Ai(a b:List Nat):PyData.eqv (kE a) (kE b)=true↔a=b:=by
 unfold kE;rw[PyData.eqv];exact uS P7 a b
theorem qc{f:c->PyData}{k:Nat}(d:∀a,(f a).depth<=k):∀b:List c,PyData.depthAll (b.map f)<=k
 | []=>by simp[PyData.depthAll]
 |a::b=>by
  have:=d a
  have e:=qc d b;simp[PyData.depthAll];lia
def iR(a:List Nat):(kE a).depth<=2:=by
 unfold kE;rw[PyData.depth]
 have:=qc (f:=nD) (k:=1) (λn=>by simp[nD,PyData.depth]) a
 lia
end L2
namespace L2
open PySem PySem.Spec PyProof.Rows
section
variable {X:Cx}
def Bj:CallR X (.builtin "isinstance") (λa H Q=>∃(x:V)(n:String)(t:Value)(b:Bool),a= [x, .ty n]/\kn X.K H x t/\ad X.K t (.type n)=some b/\Q (.bl b) H):=by
 intro c s k H a l Q I d h;rfl';obtain⟨x,n,t,b,rfl,g,e,q⟩:=h;obtain⟨o,p,rfl,i,j⟩:=d.two;subst j;ac_rfl;exact Hv I i g e λr=>#[.bl b,H,I.tok _,rfl,q]
def zt:CallR X (.builtin "sorted") (λf H Q=>∃(p:Addr)(c:List Int),f= [.ref p]/\cy X.K H p (c.map V.int)/\c.length<64/\∀(q:Addr)(a:List Int),H q=none->a.Perm c->a.Pairwise (·<=·)->Q (.ref q) (upd H q (.lst (a.map V.int)))):=by
 intro g s z H f A Q I j h;rfl';obtain⟨p,c,rfl,l,C,q⟩:=h;obtain⟨u,rfl,m⟩:=j.one;subst m;obtain⟨d,r,pl,_⟩:=I.list l;have n:=r.length;rw[aL] at n;ac_rfl;refine sorted_ints pl.isList (intsAre_of r) (by lia) λout a t i v=>?_
 obtain⟨e,w⟩:=acK s.heap d out;have x:H (s.heap.objs.size+1)=none:=I.hok.fresh (lQ _);have E:=i.length_eq;have F:64<=sizeLine:=by decide
 refine#[.ref (s.heap.objs.size+1),_,I.laid (t':=s.toks) (λb o y=>acG y) (lQ _) (o:= .lst (a.map V.int)) #[by rw[aL];lia,out.toList,e,rf t,by simpa using w],rfl,q _ a x i v]
end
theorem wM(b g h k f:Expr)(i l:List Expr)(a:Scope)(d:Pos)(j e:Value)(env:Env):
  compTurn (.ListComp b [#[g,h,i,0],#[k,f,l,0]] a d) 0 j e env=(do
   standAt h.pos
   match <-pyNext j with
   |none=>pure (.done .next)
   |some v=>
    letOwnedTupleGo g j v
    assign g env v
    let ok <-forIn i true λc r=>if r=true then do let ok <-isTrue c env (eval c env);pure (ForInStep.yield ok) else pure (ForInStep.yield r)
    if ok=true then
     let x <-eval f env
     standAt f.pos
     let x <-foldedSetIterable f env x
     let m <-holding [x] (pyIter x)
     let _ <-runOwn (.compStart (.ListComp b [#[g,h,i,0],#[k,f,l,0]] a d) 1 m e env) env
     again (.compLoop (.ListComp b [#[g,h,i,0],#[k,f,l,0]] a d) 0 j e env)
    else again (.compLoop (.ListComp b [#[g,h,i,0],#[k,f,l,0]] a d) 0 j e env)):=by rfl
theorem wN(b j k f h:Expr)(l i:List Expr)(a:Scope)(e:Pos)(g d:Value)(env:Env):
  compTurn (.ListComp b [#[j,k,l,0],#[f,h,i,0]] a e) 1 g d env=(do
   standAt h.pos
   match <-pyNext g with
   |none=>pure (.done .next)
   |some v=>
    letOwnedTupleGo f g v
    assign f env v
    let ok <-forIn i true λc r=>if r=true then do let ok <-isTrue c env (eval c env);pure (ForInStep.yield ok) else pure (ForInStep.yield r)
    if ok=true then
     (do let _ <-call (.builtin "list.append") [d,<-eval b env])
     again (.compLoop (.ListComp b [#[j,k,l,0],#[f,h,i,0]] a e) 1 g d env)
    else again (.compLoop (.ListComp b [#[j,k,l,0],#[f,h,i,0]] a e) 1 g d env)):=by rfl
section
variable {X XC:Cx} {elt i0 t0 i1 t1:Expr} {f0 f1:List Expr} {scope:Scope} {pos:Pos} {wi gN:TI} {g g1:TG} {tt fk:TT} {te:TE} {src:List (Option Nat)} {NC:List Str}
theorem vx{b a:Value}{env:Env}{R:Result->Shared->Prop}{s:Shared}{A:Around}
  (c:codeAny (model X.prog X.w) A (.compLoop (.ListComp elt [#[t0,i0,f0,0],#[t1,i1,f1,0]] scope pos) 1 b a env) R s)
  (d:∀(Q:Value->Shared->Prop)(E:Value->Shared->Prop),Q b s->wpAny (model X.prog X.w) A (pyIter b) Q E s):
  codeAny (model X.prog X.w) A (.compStart (.ListComp elt [#[t0,i0,f0,0],#[t1,i1,f1,0]] scope pos) 1 b a env) R s:=by
 refine codeAny_of_tree ?_;refine wpAny_notedAt ?_;unfold compStart;refine wpAny_bind (wpAny_askSetting (wpAny_ite ?_))
 split
 .first
   |exact wpAny_bind (wpAny_pure (wpAny_pure #[rfl,c]))
   |exact wpAny_pure #[rfl,c]
 .refine wpAny_bind (wpAny_rule ?_)
  exact wpAny_bind (wpAny_standAt (wpAny_bind (d _ _ (wpAny_pure #[rfl,c]))))
theorem Et{a:List (Addr×Obj)}{s:Shared}{σ:St}{H:Hp}{g D:Addr}{F:List Addr}{tn:Nat->Heap->Prop}{J:It}{R:Result->Shared->Prop}{N:St->Hp->Prop}
  (Qo:XC.xe=λ_ _=>False) (hc:XC.calm=true) (I:Inv XC a σ H s) (T:Turn XC.prog XC.w XC.K t1 J F g tn) (st:tn 0 s.heap) (f2:∀b∈F,f6 XC a H b)
  (hg:PG XC t1 g1) (ht:ng XC f1 fk) (he:PE XC elt te)
  (hW:∃W:Nat->Nat->St->Hp->Prop,(∃m,W 0 m σ H)/\∀i m fA O,W i m fA O->(J.stop i O/\N fA O)\/
   (J.go i O/\∃L:St->Hp->Prop,(∀j c,L j c->∃m',m'<m/\W (i+1) m' j c)/\∀x H3,J.yld i O x H3->g1 x fA H3 λfQ H4=>fk fQ H4 λb H5=>
    if b=true then te fQ H5 λv H6=>∃P,H6 D=some (.lst P)/\P.length<sizeLine/\L fQ (upd H6 D (.lst (P++ [v]))) else L fQ H5))
  (hR:∀j c B,Inv XC a j c B->N j c->R (.ok .next) B):
  codeAny (model XC.prog XC.w) XC.A (.compStart (.ListComp elt [#[t0,i0,f0,0],#[t1,i1,f1,0]] scope pos) 1 (.ref g) (.ref D) XC.env) R s:=by
 obtain⟨W,⟨m0,w0⟩,S⟩:=hW
 have kR:∀{α:Type}{t:Sem α}{Q:α->Shared->Prop}{E:Value->Shared->Prop}{s:Shared},wpAny (model XC.prog XC.w) XC.A t Q XC.xe s->wpAny (model XC.prog XC.w) XC.A t Q E s:=λ {α t Q E s} h=>
  wpAny_mono h (λ_ _ q=>q) λ_ _ f=>by rw[Qo] at f;exact f.elim
 have l:∀{c:Hp},(∀b∈F,c b=none)->∀b∈F,f6 XC a c b:=λhn b C=>#[hn b C,(f2 b C).2]
 have U:codeAny (model XC.prog XC.w) XC.A (.compLoop (.ListComp elt [#[t0,i0,f0,0],#[t1,i1,f1,0]] scope pos) 1 (.ref g) (.ref D) XC.env) R s:=by
  refine acJ rfl (λn B=>∃i j c,Inv XC a j c B/\tn i B.heap/\(∀b∈F,c b=none)/\W i n j c) (λn B hI=>?_) m0 #[0,σ,H,I,st,λb C=>(f2 b C).1,w0];rfl';obtain⟨i,j,c,I5,vO,zC,w5⟩:=hI;ac_rfl;show wpAny _ XC.A ((compTurn (.ListComp elt [#[t0,i0,f0,0],#[t1,i1,f1,0]] scope pos) 1 (.ref g) (.ref D) XC.env).onRaise (λx=>do noteFrame x XC.env;theTreesLotGoes x)) _ _ B
  refine wpAny_noted ?_;rw[wN];refine ir (aas (ir ?_))
  rcases S i n j c w5 with ⟨stop,qn⟩ | ⟨go,L,hN,step⟩
  .refine thn (T.done XC rfl rfl rfl hc i a B j c _ I5 (l zC) vO stop) λr s6 k=>?_
   obtain⟨hr,I6⟩:=k;subst hr;exact AC (hR j c s6 I6 qn)
  .refine thn (T.item XC rfl rfl rfl hc i a B j c _ I5 (l zC) vO go) λr s6 k=>?_
   rfl';obtain⟨u,hr,h6⟩:=k;ac_rfl;subst hr;refine ir (thn h6 λ_ s7 k=>?_);rfl';obtain⟨x,H7,I7,r7,y7,yF,M6⟩:=k;ac_rfl;have LJ:=I7.pinned (l M6) (T.obj _ _ yF)
   have nextT:∀{z:St}{G:Hp}{M:Shared},Inv XC (a++mw F s7.heap) z G M->L z G->∃m,m<n/\∃i j c,Inv XC a j c M/\tn i M.heap/\(∀b∈F,c b=none)/\W i m j c:=λ {z G M} Z n8=>by
    obtain⟨m',hm,w8⟩:=hN z G n8;refine#[m',hm,i+1,z,G,Z.jG,T.keep _ _ _ yF λb C o e=>(Z.pin (b,o) (gW _ (gW _ (eY C e)))).1,λb C=>?_,w8];obtain⟨o,e,d⟩:=T.obj _ _ yF b C;exact(Z.pin (b,o) (gW _ (gW _ (eY C e)))).2.1
   refine ir (kR (thn (hg _ s7 j H7 x u _ LJ r7 (step x H7 y7)) λ_ M k=>?_));rfl';obtain⟨z,G,Z,q8⟩:=k;ac_rfl;refine ir (kR (thn (ht _ M z G _ Z q8) λb s9 k=>?_));obtain⟨H9,I9,q9⟩:=k;cases b with
   |false=>
    rw[mo eD] at q9;exact AC #[rfl,nextT I9 q9]
   |true=>
    rw[tz rfl] at q9;refine ir (ir (kR (thn (he _ s9 z H9 _ I9 q9) λy Rr k=>?_)));rfl';obtain⟨v,LD,Tc,VA,P,hD,hz,Vy⟩:=k;ac_rfl;refine ir (kR (thn (jS _ Rr z LD (.ref D) [v] _ [y] (λ_ c=>L z c) Tc rfl (.cons VA .nil) #[_,P,v,rfl,rfl,hD,hz,Vy]) λ_ Rt k=>?_));rfl';obtain⟨_,LG,LI,_,Vz⟩:=k;ac_rfl;exact AC (AC #[rfl,nextT LI Vz])
 exact vx (X:=XC) U λQ E q=>T.self _ 0 _ _ _ st q
def tIn(p:TG)(q:TT)(r:TE)(D:Addr)(J:It)(N:St->Hp->Prop):St->Hp->Prop:=λs H=>
 ∃W:Nat->Nat->St->Hp->Prop,(∃m,W 0 m s H)/\∀i m d a,W i m d a->(J.stop i a/\N d a)\/
  (J.go i a/\∃e:St->Hp->Prop,(∀h j,e h j->∃k,k<m/\W (i+1) k h j)/\∀x l,J.yld i a x l->p x d l λc t=>q c t λb n=>
   if b=true then r c n λv o=>∃f,o D=some (.lst f)/\f.length<sizeLine/\e c (upd o D (.lst (f++ [v]))) else e c n)
def S8(g:TG)(l:TT)(n:TI)(o:TG)(p:TT)(q:TE)(D:Addr)(J:It)(Q:VK)(r:St)(H:Hp):Prop:=
 ∃W:Nat->Nat->St->Hp->Prop,(∃m,W 0 m r H)/\∀i m d a,W i m d a->
  (J.stop i a/\Q (.ref D) a)\/
  (J.go i a/\∃N:St->Hp->Prop,(∀e f,N e f->∃h,h<m/\W (i+1) h e f)/\∀x j,J.yld i a x j->g x d j λc s=>l c s λb k=>
   if b=true then n c k λt u=>tIn o p q D t N c u else N c k)
def SY(c:TI)(g:TG)(d:TT)(e:TI)(f:TG)(h:TT)(i:TE)(src:List (Option Nat)):TE:=λa H Q=>c a H λJ b=>∀D,b D=none->S8 g d e f h i D J Q (mV src a) (upd b D (.lst []))
theorem Bp{j:List (Addr×Obj)}{σ:St}{l:Shared}{P:Hp}{it:Addr}{F:List Addr}{Z:Nat->Heap->Prop}{J:It}{RR:Value->Addr->Result->Shared->Prop}{E:Value->Shared->Prop}{Q:VK}
  (hc:X.calm=true) (c:cE X scope) (fD:dF scope X.N src NC) (I2:Inv X j σ P l) (T:Turn X.prog X.w X.K t0 J F it Z) (j4:Z 0 l.heap) (f2:∀b∈F,f6 X j P b)
  (hg:∀ex s H,PG (dj X scope NC ex s H) t0 g) (ht:∀ex s H,ng (dj X scope NC ex s H) f0 tt) (vA:∀ex s H,PI (dj X scope NC ex s H) t1 i1 gN) (Nv:∀ex s H,PG (dj X scope NC ex s H) t1 g1)
  (NM:∀ex s H,ng (dj X scope NC ex s H) f1 fk) (he:∀ex s H,PE (dj X scope NC ex s H) elt te) (nS:∀env x,foldedSetIterable i1 env x=pure x)
  (hW:∀D,P D=none->S8 g tt gN g1 fk te D J Q (mV src σ) (upd P D (.lst [])))
  (Uy:∀D B H3 G v I,Inv X j σ H3 B->(∀b∈F,f6 X j H3 b)->Inv (dj X scope NC F B H3) [] G v I->Q (.ref D) v->RR (.ref D) B.heap.objs.size (.ok .next) I):
  wpAny (model X.prog X.w) X.A (newList []) (λacc FW=>wpAny (model X.prog X.w) X.A (newFunctionEnv scope X.env.globals (je X.env scope.names []) [] X.env.qual none .none (some X.env)) (λnu yK=>
   codeAny (model X.prog X.w) X.A (.compStart (.ListComp elt [#[t0,i0,f0,0],#[t1,i1,f1,0]] scope pos) 0 (.ref it) acc {nu with scope:=relabel scope X.env}) (RR acc nu.locals) yK) E FW) E l:=by
 rfl';obtain⟨W,⟨m0,w0⟩,turn⟩:=hW l.heap.objs.size I2.fresh;have I3:Inv X j σ (upd P l.heap.objs.size (.lst [])) {l with heap:=l.heap.push {cls:= .type "list",data:= .seq ([]:List Value).toArray}}:=I2.JD (its:= []) (t':=l.toks) .nil (fq _)
 ac_rfl
 have Va:∀b∈F,b<l.heap.objs.size:=λb k=>by
  obtain⟨o,e,_⟩:=T.obj _ _ j4 b k;exact FB e
 have f3:∀b∈F,f6 X j (upd P l.heap.objs.size (.lst [])) b:=λb k=>#[by rw[ax (bQ (Va b k))];exact(f2 b k).1,(f2 b k).2]
 refine Wp ?_
 suffices key:∀B:Shared,Inv X j σ (upd P l.heap.objs.size (.lst [])) B->(∀b o,l.heap.get? b=some o->B.heap.get? b=some o)->
   wpAny (model X.prog X.w) X.A (newFunctionEnv scope X.env.globals (je X.env scope.names []) [] X.env.qual none .none (some X.env)) (λnu yK=>
    codeAny (model X.prog X.w) X.A (.compStart (.ListComp elt [#[t0,i0,f0,0],#[t1,i1,f1,0]] scope pos) 0 (.ref it) (.ref l.heap.objs.size) {nu with scope:=relabel scope X.env}) (RR (.ref l.heap.objs.size) nu.locals) yK) E B from
  key _ I3 λb o e=>Da _ e
 intro B I3 VW;have vN:Z 0 B.heap:=T.keep _ _ _ j4 λb _ o e=>VW b o e
 have HJ:∀b∈F,b<B.heap.objs.size:=λb k=>by
  obtain⟨o,e,_⟩:=T.obj _ _ vN b k;exact FB e
 generalize hH3:upd P l.heap.objs.size (.lst [])=H3 at I3 f3 w0;refine wpAny_newFunctionEnv c.nocell (by intro y hy;simp at hy) (λh1 BZ B0=>?_) c.kind
 have I4:=z9 (src:=src) (NC:=NC) (ex:=F) (tk:=B.toks+([]:List (Str×Value)).length) I3 c fD f3 HJ BZ B0;have O5:Z 0 h1:=T.keep _ _ _ vN λb k o e=>B0.extBut b o (bQ (HJ b k)) (Da _ e);generalize C:dj X scope NC F B H3=a at I4
 have L:∀{v:Hp},(∀b∈F,v b=none)->∀b∈F,f6 a [] v b:=λ {v} hn b k=>by
  subst C;refine#[hn b k,bQ (HJ b k),λz=>?_, .inl k,λx d e=>?_,λp hp=>absurd (show p∈([]:List (Addr×Obj)) from hp) (by simp)]
  .exact(I4.ok.exfs b k) z
  .exact(I4.ok.exf b k).2 x d e
 have KA:a.calm=true:=by subst C;exact hc
 have eP:a.prog=X.prog:=by subst C;rfl
 have ew:a.w=X.w:=by subst C;rfl
 have eK:a.K=X.K:=by subst C;rfl
 have eA:a.A=X.A:=by subst C;rfl
 have Qo:a.xe=λ_ _=>False:=by subst C;rfl
 have UM:PG a t0 g:=by subst C;exact hg _ _ _
 have UX:ng a f0 tt:=C▸ht _ _ _;have hiC:PI a t1 i1 gN:=C▸vA _ _ _;have XQ:PG a t1 g1:=C▸Nv _ _ _;have Ym:ng a f1 fk:=C▸NM _ _ _;have UJ:PE a elt te:=C▸he _ _ _
 have kR:∀{α:Type}{t:Sem α}{Q:α->Shared->Prop}{E:Value->Shared->Prop}{s:Shared},wpAny (model a.prog a.w) a.A t Q a.xe s->wpAny (model X.prog X.w) X.A t Q E s:=λ {α t Q E s} h=>by
  rw[<-eP,<-ew,<-eA];exact wpAny_mono h (λ_ _ q=>q) λ_ _ f=>by rw[Qo] at f;exact f.elim
 have S:codeAny (model X.prog X.w) X.A (.compLoop (.ListComp elt [#[t0,i0,f0,0],#[t1,i1,f1,0]] scope pos) 0 (.ref it) (.ref l.heap.objs.size) a.env) (RR (.ref l.heap.objs.size) B.heap.objs.size)
   {B with heap:=h1,toks:=B.toks+([]:List (Str×Value)).length}:=by
  refine acJ rfl (λn I=>∃i G v,Inv a [] G v I/\Z i I.heap/\(∀b∈F,v b=none)/\W i n G v) (λn I hI=>?_) m0 #[0,_,_,I4,O5,λb k=>(f3 b k).1,w0];rfl';obtain⟨i,G,v,I5,vO,zC,w5⟩:=hI;ac_rfl;show wpAny _ X.A ((compTurn (.ListComp elt [#[t0,i0,f0,0],#[t1,i1,f1,0]] scope pos) 0 (.ref it) (.ref l.heap.objs.size) a.env).onRaise (λx=>do noteFrame x a.env;theTreesLotGoes x)) _ _ I
  refine wpAny_noted ?_;rw[wM];refine ir (aas (ir ?_))
  rcases turn i n G v w5 with ⟨stop,qn⟩ | ⟨go,N,hN,step⟩
  .have hd:=T.done a eP ew eK KA i [] I G v (notedBy (model X.prog X.w) X.A a.env λe I=>RR (.ref l.heap.objs.size) B.heap.objs.size (.error e) I) I5 (L zC) vO stop
   rw[eA] at hd;refine thn hd λr s6 O=>?_;obtain⟨hr,I6⟩:=O;subst hr;refine AC ?_;subst C;exact Uy _ B _ G v s6 I3 f3 I6 qn
  .have hd:=T.item a eP ew eK KA i [] I G v (notedBy (model X.prog X.w) X.A a.env λe I=>RR (.ref l.heap.objs.size) B.heap.objs.size (.error e) I) I5 (L zC) vO go
   rw[eA] at hd;refine thn hd λr s6 O=>?_;obtain⟨u,hr,h6⟩:=O;subst hr;refine ir (thn h6 λ_ s7 O=>?_);rfl';obtain⟨x,H7,I7,r7,y7,yF,M6⟩:=O;ac_rfl;have LJ:=I7.pinned (L M6) (T.obj _ _ yF)
   have nextT:∀{U:St}{Y:Hp}{s8:Shared},Inv a ([]++mw F s7.heap) U Y s8->N U Y->∃m,m<n/\∃i G v,Inv a [] G v s8/\Z i s8.heap/\(∀b∈F,v b=none)/\W i m G v:=λ {U Y s8} I8 n8=>by
    obtain⟨m',hm,w8⟩:=hN U Y n8;refine#[m',hm,i+1,U,Y,I8.jG,T.keep _ _ _ yF λb k o e=>(I8.pin (b,o) (gW _ (gW _ (eY k e)))).1,λb k=>?_,w8];obtain⟨o,e,d⟩:=T.obj _ _ yF b k;exact(I8.pin (b,o) (gW _ (gW _ (eY k e)))).2.1
   refine ir (kR (thn (UM _ s7 G H7 x u _ LJ r7 (step x H7 y7)) λ_ s8 O=>?_));rfl';obtain⟨U,Y,I8,q8⟩:=O;ac_rfl;refine ir (kR (thn (UX _ s8 U Y _ I8 q8) λb s9 O=>?_));obtain⟨H9,I9,q9⟩:=O;cases b with
   |false=>
    rw[mo eD] at q9;exact AC #[C▸rfl,nextT I9 q9]
   |true=>
    rw[tz rfl] at q9;refine ir (kR (thn (hiC _ s9 U H9 _ I9 q9) λv1 Rr h10=>?_));refine ir (aas (ir (abK (nS _ v1) (ir (On (kR (thn h10 λzM Rt h11=>?_)))))));rfl';obtain⟨NP,fp1,tn1,J1,LG,rfl,LI,T1,Zm,f11,hin⟩:=h11;ac_rfl;refine ir (wpAny_runOwn ?_);have tr:∀(cd:Code)(R:Result->Shared->Prop),codeAny (model a.prog a.w) a.A cd R Rt->codeAny (model X.prog X.w) X.A cd R Rt:=λcd R h=>by rw[eP,ew,eA] at h;exact h
    exact tr _ _ (Et Qo KA LI T1 Zm f11 XQ Ym UJ hin λG v I ZW n12=>AC #[C▸rfl,nextT ZW n12])
 subst C;exact acy S (T.self _ 0 _ _ _ O5 S)
def Q5(e:X.calm=true)(c:cE X scope)(f:dF scope X.N src NC)(i:PI X t0 i0 wi)
  (j:∀a s H,PG (dj X scope NC a s H) t0 g) (k:∀a s H,ng (dj X scope NC a s H) f0 tt) (l:∀a s H,PI (dj X scope NC a s H) t1 i1 gN) (n:∀a s H,PG (dj X scope NC a s H) t1 g1)
  (o:∀a s H,ng (dj X scope NC a s H) f1 fk) (p:∀a s H,PE (dj X scope NC a s H) elt te)
  (q:∀x,foldedSetIterable i0 X.env x=pure x:=by intro _;rfl) (r:∀env x,foldedSetIterable i1 env x=pure x:=by intro _ _;rfl):
  PE X (.ListComp elt [#[t0,i0,f0,0],#[t1,i1,f1,0]] scope pos) (SY wi g tt gN g1 fk te src):=by
 intro b s t H Q I h;rw[eval_ListComp];refine aaV (use:=none) rfl q (iA (c.cells I.ok)) c.kind c.names (thn (i b s t H _ I h) λv O u=>thn u λP R w=>?_);obtain⟨S,U,Y,J,Z,rfl,y,T,z,A,B⟩:=w
 exact Bp e c f y T z A j k l n o p r B λD s3 H3 az C s' E F d G=>by
  obtain⟨m,L,_⟩:=d.loc;exact#[m,L,λh' M=>#[.ref D,C,comp_back E F d M,rfl,G]]
end
end L2
namespace KS
open PySem PySem.W PyProof.Rows
section
variable {prog:Program} {w:World} {A:Around} {E:Value->Shared->Prop} {s:Shared}
def u6(c:s.heap.get? a=some (seqObj "list" b.toArray n))(j:b.length<2)
  (h:G (.done (.ret .none)) {s with heap:=sortedHeap s.heap a b b.toArray}):wpAny (model prog w) A (Builtin.«list.sort» #[[.ref a],[]]) G E s:=by
 rw[list_sort_plain];have m:a<s.heap.objs.size:=FB c;refine ir (listItems_at c rfl (ir (abR c rfl ?_)));obtain⟨l,d⟩:∃k,(s.heap.update a (Obj.mapSeq λ_=> #[])).get? a=some (seqObj "list" #[] k):=#[_,get?_update_seq c (λ_=> #[])];refine ir (acz d rfl (ir (wpAny_newTuple (ir (aa8 (On ?_))))));have e:(((s.heap.update a (Obj.mapSeq λ_=> #[])).push (seqObj "tuple" b.toArray 0)).push (seqObj "list" #[] 0)).get? a=some (seqObj "list" #[] l):=Da _ (Da _ d);show wpAny (model prog w) A _ G E {s with heap:=((s.heap.update a (Obj.mapSeq λ_=> #[])).push (seqObj "tuple" b.toArray 0)).push (seqObj "list" #[] 0)}
 dsimp only;have f:b.toArray.size<2:=j;rw[tz f,tz f];refine ir (AC ?_);rw[StateT.run_pure];refine ir (AC ?_);dsimp only
 have g:(arrOf (SortSt.mk' general' (b.toArray.zip b.toArray) #[] 7 none)).map (·.2)=b.toArray:=by
  show(b.toArray.zip b.toArray).map (·.2)=b.toArray;apply ab6.mp;simp[List.map_snd_zip]
 refine ir (acz e rfl (ir (abR e rfl ?_ (hsz2:=by rw[g];rw[aaH];lia))))
 simp only[abW,eZ,Os];have i:=h;unfold sortedHeap at i;rw[g];exact AC i
def zV(e:s.heap.IsList l a.toArray)(f:a.length<2)(h:G (.ref (s.heap.objs.size+1)) {s with heap:=sortedAll s.heap a a.toArray}):
  wpAny (model prog w) A (call (.builtin "sorted") [.ref l]) G E s:=by
 refine aaT kind_sorted acL acM (acN (.ref l)) ?_;unfold Builtin.«sorted»;have b:a.length<=sizeLine:=by rw[aaH];lia
 refine ir (m:=checkCount "sorted" 1 1 _) (AC (ir (acO e (ir (aa8 ?_ b)) b)));have c:((s.heap.push (seqObj "list" #[] 0)).update s.heap.objs.size (Obj.mapSeq (·++a.toArray))).objs.size=s.heap.objs.size+1:=by rw[aaM,abr]
 have d:(((s.heap.push (seqObj "list" #[] 0)).update s.heap.objs.size (Obj.mapSeq (·++a.toArray))).push (seqObj "list" a.toArray 0)).get? (s.heap.objs.size+1)=some (seqObj "list" a.toArray 0):=by
  rw[<-c];exact GM _ rfl
 show wpAny (model prog w) _ _ _ E {s with heap:=((s.heap.push (seqObj "list" #[] 0)).update s.heap.objs.size (Obj.mapSeq (·++a.toArray))).push (seqObj "list" a.toArray 0)}
 rw[c];exact ir (On (aav abE #[_,d,rfl] abt (u6 d f #[_,rfl,AC #[_,rfl,h]]) (abF _)))
end
end KS
namespace L2
open PySem PySem.Spec PyProof.Rows
section
variable {X:Cx} {pins:List (Addr×Obj)} {σ:St} {H:Hp} {s:Shared} {h':Heap}
end
def ux(k:Nat×Nat):List V:= [.int (k.1:Nat), .int (k.2:Nat)]
def D7(H:Hp)(L:List (Addr×(Nat×Nat))):Prop:=∀p∈L,H p.1=some (.tup (ux p.2))
def jR(a b:Nat×Nat):Bool:=if a.1=b.1 then decide (a.2<b.2) else decide (a.1<b.1)
def uk(x y:Nat×Nat):jR x y=true↔x.1<y.1\/(x.1=y.1/\x.2<y.2):=by
 unfold jR
 by_cases e:x.1=y.1
 .rw[tz e,decide_eq_true_iff]
  lia
 .rw[mo e,decide_eq_true_iff]
  lia
def KU(x y z:Nat×Nat)(h:jR x z=true):jR x y=true\/jR y z=true:=by
 rw[uk] at*;rw[uk];lia
def NY(x y z:Nat×Nat)(h:jR x y=true)(a:jR y z=true):jR x z=true:=by
 rw[uk] at*;lia
def xS(h:jR b a=false):Wb.lexLe a b:=by
 unfold jR at h;unfold Wb.lexLe
 by_cases e:b.1=a.1
 .rw[tz e] at h
  have:=M2 h
  right;lia
 .rw[mo e] at h
  have:=M2 h
  left;lia
def Qv 
  (n:IsTup s.heap x [.int a i, .int b j].toArray) (o:IsTup s.heap y [.int c k, .int d l].toArray)
  (h:C (if a=c then decide (b<d) else decide (a<c)) s):wpAny (model prog w) A (keyLt' (tuples' true) (.ref x) (.ref y)) C E s:=by
 rfl';obtain⟨u,f,_,v,q⟩:=n;obtain⟨z,g,_,B,r⟩:=o;ac_rfl;refine PySem.W.kat_lt f q g r ?_;refine PySem.W.kat_cons (aaU a i c k prog w _ _ ?_)
 by_cases e:a=c
 .rw[tz e] at h
  rw[show(a==c)=true by simpa using e]
  refine PySem.W.kat_yes (PySem.W.kat_cons (aaU b j d l prog w _ _ ?_))
  by_cases m:b=d
  .rw[show(b==d)=true by simpa using m]
   refine PySem.W.kat_yes (PySem.W.kat_nil ?_);rw[show decide (b<d)=false by simp;lia] at h
   simpa using h
  .rw[show(b==d)=false by simpa using m]
   refine PySem.W.kat_no (PySem.W.kat_one _ _ ?_);exact lt_int h
 .rw[mo e] at h
  rw[show(a==c)=false by simpa using e]
  exact PySem.W.kat_no (oneLt_int h)
section
variable {X:Cx}
theorem rg:∀{as:List Addr}{us:List Value},Vals (as.map V.ref) us->us=as.map Value.ref
 | [],_, .nil=>rfl
 |a::as,_, .cons r t=>by cases r;rw[rg t];rfl
theorem qT:∀b:List Addr,Vals (b.map V.ref) (b.map Value.ref)
 | []=> .nil
 |a::b=> .cons rfl (qT b)
def K5(I:Inv X b c H s)(h:H a=some (.tup (ux k))):
  ∃t u,IsTup s.heap a [.int (k.1:Nat) t, .int (k.2:Nat) u].toArray:=by
 rfl';obtain⟨e,r,p,_⟩:=I.tuple (gm.of h);obtain⟨g,i,rfl,⟨t,rfl⟩,⟨u,rfl⟩⟩:=Vals.two r;ac_rfl;exact#[t,u,p]
end
end L2
set_option maxHeartbeats 4000000
namespace L2
open PySem PySem.Spec PySem.Calls PyProof.Rows PySem.W Builtin Builtin.ObjectAttr
def zL(s:String):Value->Bool
 | .type a=>a==s
 |_=>false
def Jz(l:List Value):Bool:=match l with
 |a::b::c::d::r=>zL "ValueError" a&&zL "Exception" b&&zL "BaseException" c&&zL "object" d&&r.isEmpty
 |_=>false
def isRef:Value->Bool
 | .ref _=>true
 |_=>false
def pM:List Value->Bool
 | []=>false
 |v::r=>if isRef v then pM r else Jz (v::r)
def vT(h:zL s v=true):v= .type s:=by
 unfold zL at h
 split at h
 .rw[aat.mp h]
 .cases h
def xO(h:Jz l=true):l= [.type "ValueError", .type "Exception", .type "BaseException", .type "object"]:=by
 cases l with
 |nil=>cases h
 |cons a l=>cases l with
  |nil=>cases h
  |cons b l=>cases l with
   |nil=>cases h
   |cons c l=>cases l with
    |nil=>cases h
    |cons d r=>
     have h:(zL "ValueError" a&&zL "Exception" b&&zL "BaseException" c&&zL "object" d&&r.isEmpty)=true:=h;simp only[vj] at h;rw[vT h.1.1.1.1,vT h.1.1.1.2,vT h.1.1.2,vT h.1.2,List.isEmpty_iff.mp h.2]
def C4(K:Frag)(C:Addr):Bool:=(clsIn K C).any λa=>pM a.mro
structure ko (K:Frag) (C:Addr):Prop where
 hd:hasDictIn K C=true
 ga:findIn K (.ref C) "__getattribute__"=some (some (.builtin "BaseException.__getattribute__"))
 gh:findIn K (.ref C) "__getattr__"=some none
 sa:findIn K (.ref C) "__setattr__"=some (some (.builtin "object.__setattr__"))
 ov:C4 K C=true
 cl:findIn K (.ref C) "__class__"=some (some (.builtin "object.__class__"))
 be:mroIn K C (.type "BaseException")=some true
 ob:mroIn K C (.type "object")=some true
section
variable {prog:Program} {w:World} {A:Around} {E:Value->Shared->Prop} {s:Shared} {K:Frag} {x C:Addr} {ox:Obj} {od:Option Obj} {name:Str}
def AZ{fill a:Bool}{b:Tok}{Q:Value->Shared->Prop}(X:K.In s.heap)(I:InstAt s.heap x ox C od)(c:ko K C)
  (h:wpAny (model prog w) A.in1 (Builtin.«object.__getattribute__» #[[.ref x, .str name b],[]]) (λfin d=>match fin with| .done (.ret v)=>wpAny (model prog w) A (handedOut v) Q E d|_=>False) (λ_ _=>False) s):
  wpAny (model prog w) A (getAttrBy (.ref x) (.str name b) fill a) Q E s:=by
 unfold getAttrBy;refine On (ir (I.type _ _ _ _ (λ_ _ e=>e) (ir (looks_findIn X c.ga _ _ _ _ (λ_ _ e=>e) ?_))));dsimp only;rw[show(onTheHeap (.ref C)&&Value.builtin "BaseException.__getattribute__"==Value.builtin "object.__getattribute__")=false from by rw[show(Value.builtin "BaseException.__getattribute__"==Value.builtin "object.__getattribute__")=false from by decide+kernel,acE],mo (by decide)]
 unfold getAttrByItsOwn;refine ir (looks_hook (mc:= .ref C) (r:=none) X c.gh _ _ _ _ (λ_ _ e=>e) (ir (abS (On ?_))));unfold callGetattribute;rw[show(a&&onTheHeap (Value.builtin "BaseException.__getattribute__"))=false from acE _,mo (by decide)]
 unfold boundAndCalled;rw[F.excAttr_ValueError.ga.bind];refine ir (AC ?_);show wpAny _ _ (call (.builtin "BaseException.__getattribute__") [.ref x, .str name b]) _ _ _;refine aay ?_;refine aaN F.excAttr_ValueError.ga.plain F.entry_bexc_ga ?_;refine @check_slot (model prog w) _ _ s "BaseException.__getattribute__" "BaseException" "__getattribute__" (.ref x) [.str name b] [] _ (by decide+kernel) (by decide+kernel) (I.type.andThen (looks_mroIn X c.be)) (F.args_bexc_ga (.ref x) (.str name b)) ?_
 refine wpAny_mono h (λfin d z=>?_) λ_ _ z=>z.elim
 rcases fin with (_|_|_|_) |_<;>first|exact z|exact z.elim
def IT(X:K.In s.heap)(I:InstAt s.heap x ox C od)(b:findObj K C od name=some (.value v))(h:Q (.done (.ret v)) s):
  wpAny (model prog w) A (Builtin.«object.__getattribute__» #[[.ref x, .str name a],[]]) Q E s:=by
 obtain⟨c,g,d,t,os⟩:=s;have e:=I.type (M:=model prog w);have f:=looks_find (M:=model prog w) X I b;unfold Builtin.«object.__getattribute__»;refine ir (AC (ir (AC (ir (e.at (ir (f.at ?_)))))));exact AC h
def LC{P:Value->Shared->Prop}(X:K.In s.heap)(I:InstAt s.heap x ox C od)(e:findObj K C od name=some (.bind g a))
  (h:wpAny (model prog w) A (call g [a, .ref x, .ref C]) P E s):
  wpAny (model prog w) A (Builtin.«object.__getattribute__» #[[.ref x, .str name c],[]]) (λfin b=>match fin with| .done (.ret v)=>P v b|_=>False) E s:=by
 obtain⟨f,k,d,t,os⟩:=s;have i:=I.type (M:=model prog w);have j:=looks_find (M:=model prog w) X I e;unfold Builtin.«object.__getattribute__»;refine ir (AC (ir (AC (ir (i.at (ir (j.at ?_)))))));exact ir (On (wpAny_mono h (λv b z=>AC z) λ_ _ z=>z))
def F7(X:K.In s.heap)(I:InstAt s.heap x ox C od)(c:ko K C)(b:findObj K C od name=some (.value v))(d:handedIn v=true)(h:Q v {s with toks:=s.toks+1}):
  wpAny (model prog w) A (getAttr (.ref x) name a) Q E s:=by
 unfold getAttr;refine ir (wpAny_mkText ?_);refine AZ (s:={s with toks:=s.toks+1}) X I c (IT (s:={s with toks:=s.toks+1}) X I b ?_)
 show wpAny _ _ (handedOut v) _ _ _;rw[handedOut_of d];exact AC h
def F8(X:K.In s.heap)(I:InstAt s.heap x ox C od)(c:ko K C)(b:specialIn K (.builtin "object.__class__") "__get__"=some (some (.builtin "getset_descriptor.__get__")))(htk:takesIn K (.builtin "object.__class__")=some true)
  (h:Q (some (.ref C)) {s with toks:=s.toks+1}):wpAny (model prog w) A (getAttr? (.ref x) "__class__") Q E s:=by
 have d:findObj K C od "__class__"=some (.bind (.builtin "getset_descriptor.__get__") (.builtin "object.__class__")):=by
  obtain⟨f,e,_⟩:=ab8 c.hd;unfold findObj;rw[e,y3,c.cl,y3];dsimp only;rw[b,y3];dsimp only;rw[htk];rfl
 unfold getAttr? getAttrBy?;refine ir (wpAny_mkText (ir (abS ?_)))
 have key:wpAny (model prog w) A.in1 (Builtin.«object.__getattribute__» #[[.ref x, .str "__class__" s.toks],[]]) (λfin a=>match fin with| .done (.ret v)=>v= .ref C/\a={s with toks:=s.toks+1} |_=>False) (λ_ _=>False) {s with toks:=s.toks+1}:=by
  refine LC (P:=λv a=>v= .ref C/\a={s with toks:=s.toks+1}) (s:={s with toks:=s.toks+1}) X I d (aay (class_get (s:={s with toks:=s.toks+1}) (ox:=ox) (od:=od) X I c.ob ?_))
  exact#[rfl,rfl]
 refine AZ (s:={s with toks:=s.toks+1}) X I c (wpAny_mono key (λfin a z=>?_) λ_ _ z=>z.elim)
 rcases fin with (_|_|_|_) |_<;>first|exact z.elim|skip
 obtain⟨rfl,rfl⟩:=z;exact AC (AC h)
def KQ(c:ko K C)(i:specialIn K (.builtin "object.__class__") "__get__"=some (some (.builtin "getset_descriptor.__get__")))(htk:takesIn K (.builtin "object.__class__")=some true):
  KitX K (.ref x) (.ref C) (λh=>InstAt h x ox C od) where
 ty:=λ_ _ _ I=>I.type
 it:=λ_ _ X _=>by
  obtain⟨b,a,_⟩:=ab8 c.hd;unfold clsIn at a
  split at a
  .rename_i j l d m f
   intro r t u v k q;unfold isType loadHead;exact ir (abD (k _ _ (X _ _ f)) (AC q))
  .cases a
 ne:=λh o y p n B X g=>by
  obtain⟨b,a,_⟩:=ab8 c.hd;refine vh.mpr λq=>?_;have e:C=o:=Value.ref.inj (aat.mp q);subst e;unfold clsIn at a
  split at a
  .rename_i j l d m f
   have z:=(X _ _ f).symm.trans g;cases z
  .cases a
 ca:=λX I k=>F8 X I c i htk k
end
def Ii(self:Value)(e:pM l=true):refuseLoop self "__setattr__" l=pure ():=by
 induction l with
 |nil=>cases e
 |cons v r b=>
  rw[pM] at e;cases a:isRef v with
  |true=>
   rw[tz a] at e;cases v with
   |ref c=>rw[refuseLoop_ref];exact b e
   |_=>cases a
  |false=>
   rw[mo (by rw[a];exact eD)] at e
   rw[xO e];exact F.store_ValueError.passes self
abbrev b8(C t:Addr)(d:Option Addr):Obj:={cls:= .ref C,dict:=d,data:= .fields [.ref t, .none, .none, .none, .bool false, .none].toArray}
section
variable {prog:Program} {w:World} {A:Around} {E:Value->Shared->Prop} {s:Shared} {K:Frag} {x C:Addr} {ox:Obj} {od:Option Obj} {name:Str} {R:Result->Shared->Prop}
theorem yW(X:K.In s.heap)(I:InstAt s.heap x ox C od)(c:ko K C)(l:takerIn K C name=some none)
  (h:∀b,wpAny (model prog w) A.in1 (storeInOwnDict (.ref x) (.ref C) (.str name i) name v b)
   (λfin j=>match fin with| .done f=>R (.ok f) j| .again k=>k.quiet=true/\codeAny (model prog w) A k R j) (λe j=>R (.error e) j) s):
  codeAny (model prog w) A (.call (.builtin "object.__setattr__") #[[.ref x, .str name i,v],[]]) R s:=by
 rfl';have g:=PySem.F.store_object;obtain⟨n,o,p⟩:=ab8 c.ov;have sub:Looks (model prog w) s.heap (isInstance (.ref x) (.type "object")) true:=I.type.andThen (looks_mroIn X c.ob);obtain⟨d,r,t⟩:=Option.bind_eq_some_iff.mp l;ac_rfl;refine aaN g.slot.plain g.entry (@check_slot (model prog w) _ _ s "object.__setattr__" "object" "__setattr__" (.ref x) [.str name i,v] [] _ g.kind g.split sub (g.args (.ref x) (.str name i) v) ?_);have u:Looks (model prog w) s.heap (mroOf (.ref C)) n.mro:=(looks_clsIn X o).andThen .now
 have y:Looks (model prog w) s.heap (storeTaker? d) none:=by
  cases d with
  |none=>exact .now
  |some a=>
   obtain⟨b,z,q⟩:=Option.map_eq_some_iff.mp t;refine(looks_takesIn X z).andThen ?_;cases b with
   |true=>cases q
   |false=>exact .now
 rw[osa_eq,refuse_eq];refine ir (ir (I.type.here (ir (u.here ?_))));rw[Ii _ p];refine AC (ir (I.type.here (ir ((looks_findIn X r).here (ir (y.here ?_))))));exact h _
def V1(X:K.In s.heap)(c:ko K C)(j:s.heap.get? x=some (b8 C t (some d)))(k:s.heap.Ns1 d f)(ne:d≠x)(m:takerIn K C name=some none)
  (hw:cb f i) (G:i.length<=sizeLine)
  (h:∀e,e.Ns1 d (λy=>if y=name then some v else f y)->Heap.SameBut d s.heap e->Q () {s with heap:=e,toks:=s.toks+2}):
  wpAny (model prog w) A (setAttr (.ref x) name v) Q E s:=by
 rfl';obtain⟨o,p,_⟩:=qL k;have J:InstAt s.heap x (b8 C t (some d)) C (some o):=#[j,rfl,rfl,p];obtain⟨H,q,r⟩:=ab8 c.hd;ac_rfl;refine set_plain X J c.sa (yW (s:={s with toks:=s.toks+1}) X J c m λb=>?_)
 refine ir (AC (ir (ir (abD j (ir (Looks.here (s:={s with toks:=s.toks+1}) (looks_clsIn X q) ?_))))))
 rw[r];refine AC (a:=some d) (ir (AC (ir ?_)));refine acI (s:={s with toks:=s.toks+1}) k λe l u=>?_
 rfl';obtain⟨I,L,M,z,B,F⟩:=l.count (PySem.Within.cons name v hw);ac_rfl;refine ir (ab2 z (by rw[B];exact ab3 (jm F (by rw[cU];lia))) ?_)
 exact AC (h _ l u)
def V0(X:K.In s.heap)(c:ko K C)(i:s.heap.get? x=some (b8 C t none))(u:takerIn K C name=some none)
  (h:∀f,f.Ns1 s.heap.objs.size (λy=>if y=name then some v else none)->f.get? x=some (b8 C t (some s.heap.objs.size))->(∀b o,b≠x->s.heap.get? b=some o->f.get? b=some o)->Q () {s with heap:=f,toks:=s.toks+2}):
  wpAny (model prog w) A (setAttr (.ref x) name v) Q E s:=by
 have J:InstAt s.heap x (b8 C t none) C none:=#[i,rfl,rfl,trivial];obtain⟨M,z,B⟩:=ab8 c.hd;refine set_plain X J c.sa (yW (s:={s with toks:=s.toks+1}) X J c u λb=>?_)
 obtain⟨a,g,d,l,os⟩:=s;dsimp only at*;have m:(a.push {cls:= .type "dict",data:= .dict #[]}).get? x=some (b8 C t none):=Da _ i;have n:x≠a.objs.size:=bQ (FB i);refine ir (AC (ir (ir (abD i (ir (Looks.here (s:=#[a,g,d,l+1,os]) (looks_clsIn X z) ?_))))));rw[B];refine ir (wpAny_alloc' ?_);refine ir (wpAny_update' m ?_);refine AC ?_
 have j:((a.push {cls:= .type "dict",data:= .dict #[]}).update x λo=>{cls:=o.cls,dict:=some a.objs.size,data:=o.data,slots:=o.slots}).get? a.objs.size=some {cls:= .type "dict",data:= .dict #[]}:=
  (aaF _ _ _ _ n.symm).trans (Heap.get?_push_at rfl rfl)
 have xG:((a.push {cls:= .type "dict",data:= .dict #[]}).update x λo=>{cls:=o.cls,dict:=some a.objs.size,data:=o.data,slots:=o.slots}).Ns a.objs.size (λ_=>none):=
  #[_, #[],_,j,rfl,λe F=>absurd F (by simp),λ_=>rfl]
 show wpAny _ _ (storeInDict a.objs.size (.str name l) name v) _ _ _;unfold storeInDict newKeyGuard;refine ir (AC (ir (acI (Heap.Ns1.of_empty xG) λf p q=>?_)));rfl';obtain⟨O,P,S,H,I,L⟩:=p.count (Within.cons name v Within.nil);ac_rfl;refine ir (ab2 H (by rw[I];exact ab3 (jm L (by rw[cU,lO,aaH];lia))) ?_)
 refine AC (h f p ?_ λb T k r=>?_)
 .exact(q.2 x n).trans (SZ _ m rfl)
 .exact(q.2 b (bQ (FB r))).trans ((aaF _ _ _ _ k).trans (Da _ r))
end
section
variable {M:Model} {A:Around} {E:Value->Shared->Prop} {h:Heap} {g:Array GenState} {d:Drawn} {t:Nat} {os:OsState}
variable {nm q:Str} {C N:Addr} {bs bm Kb:List Value} {h8:Bool} {sn:List Str} {sub:List Value} {ab:Bool} {col:Option Bool} {dd:Option Addr} {k0 k1 k2 k3 k5:Option Value} {B newId kB:String}
def Bm(F:ExcBaseFacts B newId kB Kb)(UH:(Value.ref C::bm).contains (.type B)=true){rest:List Value}{Q:Unit->Shared->Prop}(hC:h.get? C=some (excClassObj nm q C N bs bm h8 sn sub ab col dd k0 k1 k2 k3 k5 newId))
  (hq:Q () #[h,g,d,t,os]):wpAny M A (checkBuiltinCall newId #[.ref C::rest,[]]) Q E #[h,g,d,t,os]:=by
 have aad:=F.noStar;simp only[checkBuiltinCall,F.newKind,F.newSplit,F.newRow]
 repeat (first|refine wpAny_loadPart_at hC ?_| (refine wpAny_isSubtype_exc hC ?_;rw[UH]) |refine wpAny_staticBase_exc hC ?_|refine wpAny_madeBy_exc hC ?_|simp only[bne_self_eq_false,eZ,if_false]|wp_step)
 exact hq
def zv(F:ExcBaseFacts B newId kB Kb)(zF:(Value.ref C::bm).contains (.type B)=true){e:Addr}{oe:Obj}{rest:List Value}{Q:Unit->Shared->Prop}
  (hC:h.get? C=some (excClassObj nm q C N bs bm h8 sn sub ab col dd k0 k1 k2 k3 k5 newId)) (he:h.get? e=some oe) (EM:oe.cls= .ref C) (hq:Q () #[h,g,d,t,os]):
  wpAny M A (checkBuiltinCall kB #[.ref e::rest,[]]) Q E #[h,g,d,t,os]:=by
 have ZT:=F.noStar;simp only[checkBuiltinCall,F.initKind,F.initSplit,F.initRow]
 repeat (first| (with_reducible refine wpAny_loadPart_at he ?_;rw[EM]) |with_reducible refine wpAny_loadPart_at hC ?_| (with_reducible refine wpAny_isSubtype_exc hC ?_;rw[zF]) |wp_step)
 refine wpAny_onRaise ?_
 rw[show ∀(a b:String)(n:Nat),Bind.check #[.positional,"*",B, .self,[#["args", .varPos,false]]] a b n (List.map (λx=>x.fst) ({pos:=Value.ref e::rest}:Args).kw)=pure () from
  λa b n=>check_star_args _ _ _ _ _ _]
 exact wpAny_pure hq
end
section
variable {prog:Program} {w:World} {A:Around} {R:Result->Shared->Prop} {h:Heap} {g:Array GenState} {d:Drawn} {t:Nat} {os:OsState}
variable {nm q:Str} {C N:Addr} {bs bm Kb:List Value} {h8:Bool} {sn:List Str} {sub:List Value} {ab:Bool} {col:Option Bool} {dd:Option Addr} {k0 k1 k2 k3 k5:Option Value} {B newId kB:String}
def GU(F:ExcBaseFacts B newId kB Kb)(zF:(Value.ref C::bm).contains (.type B)=true)(UE:(Value.ref C::bm).contains (.type "AttributeError")=false)(UG:(Value.ref C::bm).contains (.type "NameError")=false)
  {rest:List Value} (hC:h.get? C=some (excClassObj nm q C N bs bm h8 sn sub ab col dd k0 k1 k2 k3 k5 newId))
  (hq:R (.ok (.ret (.ref (h.objs.size+1)))) #[(h.push {cls:= .type "tuple",data:= .seq rest.toArray}).push (b8 C h.objs.size none),g,d,t,os]) (Hl:rest.length<=sizeLine):
  codeAny (model prog w) A (.builtin newId #[.ref C::rest,[]]) R #[h,g,d,t,os]:=by
 have aab:=F.ends;refine codeAny_builtinAt F.entry ?_;unfold Builtin.«BaseException.__new__»;refine PySem.wpAt_bind ?_;show PySem.wpAt _ _ _ (stack>>=_) _ _ _;refine PySem.wpAt_bind (PySem.wpAt_stack λp below=>PySem.wpAt_of_wpAny ?_)
 wp_walk
 refine PySem.wpAt_of_wpAny ?_;rw[F.owner]
 repeat (first|with_reducible refine wpAny_madeHere_exc F.canon hC ?_|with_reducible refine wpAny_loadPart_at hC ?_| (with_reducible refine wpAny_isSubtype_exc hC ?_;first|rw[zF]|rw[UE]|rw[UG]) |wp_step)
 show R _ _;rw[Heap.size_push];exact hq
def uT(F:ExcBaseFacts B newId kB Kb)(zF:(Value.ref C::bm).contains (.type B)=true){e t0:Addr}{od:Option Addr}{rest:List Value}(hC:h.get? C=some (excClassObj nm q C N bs bm h8 sn sub ab col dd k0 k1 k2 k3 k5 newId))(he:h.get? e=some (b8 C t0 od))
  (hq:∀h' t',h'.get? e=some (b8 C t' od)->(∀b o,b≠e->h.get? b=some o->h'.get? b=some o)->R (.ok (.ret .none)) #[h',g,d,t,os]) (Hl:rest.length<=sizeLine):
  codeAny (model prog w) A (.call (.builtin kB) #[.ref e::rest,[]]) R #[h,g,d,t,os]:=by
 refine codeAny_call_builtin F.init.plain F.initEntry (zv F zF hC he rfl ?_)
 wp_walk
 have sF:e≠h.objs.size:=bQ (Heap.lt_size he);refine hq _ h.objs.size ?_ λb o hb ho=>?_
 .rw[Heap.get?_update_self _ (Heap.get?_push_of_some _ he) rfl]
  rfl
 .rw[Heap.get?_update_other _ _ (Ne.symm hb)]
  exact Heap.get?_push_of_some _ ho
def vc(F:ExcBaseFacts B newId kB Kb)(zF:(Value.ref C::bm).contains (.type B)=true)(UE:(Value.ref C::bm).contains (.type "AttributeError")=false)(UG:(Value.ref C::bm).contains (.type "NameError")=false)
  {rest:List Value} {init:Value} (hC:h.get? C=some (excClassObj nm q C N bs bm h8 sn sub ab col dd k0 k1 k2 k3 k5 newId)) (call:Looks (model prog w) h (specialOf (.ref C) "__call__") (some (.builtin "type.__call__"))) (typ:Looks (model prog w) h (isInstance (.ref C) (.type "type")) true)
  (hi:Looks (model prog w) h (typeLookup (.ref C) "__init__") (some init)) (hb:∀self,Looks (model prog w) h (bindSpecial init self) (init,[self])) (Hl:rest.length<=sizeLine)
  (hq:codeAny (model prog w) (A.under (.builtin "type.__call__" #[.ref C::rest,[]])) (.call init #[.ref (h.objs.size+1)::rest,[]]) (InitBack (h.objs.size+1) R) #[(h.push {cls:= .type "tuple",data:= .seq rest.toArray}).push (b8 C h.objs.size none),g,d,t,os]):
  codeAny (model prog w) A (.call (.ref C) #[rest,[]]) R #[h,g,d,t,os]:=by
 refine codeAny_of_tree ?_;show wpAny _ _ (callAny (.ref C) _) _ _ _;refine nd_load hC ?_;show wpAny _ _ (callAny.viaDunder (.ref C) _) _ _ _;unfold callAny.viaDunder;refine wpAny_bind (call.at ?_);dsimp only;rw[tc_bind];refine wpAny_bind (wpAny_pure (wpAny_bind (wpAny_pure ?_)));refine wpAny_pure (a:=Fin.again (.call (.builtin "type.__call__") #[.ref C::rest,[]])) (And.intro rfl ?_);refine codeAny_call_builtin_at (Code.quiet_builtin _ (by decide+kernel)) entry_typeCall (check_slot tc_kind tc_split typ (tc_args _ _ _) ?_)
 have hm:Looks (model prog w) h (mroOf (.ref C)) (.ref C::bm):=((Looks.ld (part:=none) hC).andThen .now).andThen .now
 have made:Looks (model prog w) h (Bind.madeBy (.ref C)) (some newId):=by
  intro A Q E s k q;obtain⟨h2,g2,d2,t2,os2⟩:=s;exact wpAny_madeBy_exc (k _ _ hC) q
 unfold Builtin.«type.__call__»
 repeat (first|simp only[List.isEmpty_cons,eZ,if_false]|with_reducible refine wpAny_call ?_|lk)
 refine codeAny_call_builtin_code (Code.quiet_builtin _ F.quiet) (Bm F zF hC ?_);refine GU F zF UE UG hC ?_ Hl;have k:∀b o,h.get? b=some o->((h.push {cls:= .type "tuple",data:= .seq rest.toArray}).push (b8 C h.objs.size none)).get? b=some o:=λb o e=>Heap.get?_push_of_some _ (Heap.get?_push_of_some _ e);have hx:((h.push {cls:= .type "tuple",data:= .seq rest.toArray}).push (b8 C h.objs.size none)).get? (h.objs.size+1)=some (b8 C h.objs.size none):=by heap_get
 have t1:Looks (model prog w) ((h.push {cls:= .type "tuple",data:= .seq rest.toArray}).push (b8 C h.objs.size none)) (typeOf (.ref (h.objs.size+1))) (.ref C):=(Looks.ld hx).andThen .now
 have s0:Looks (model prog w) h (isSubtype (.ref C) (.ref C)) true:=by
  intro A Q E s k q;obtain⟨h2,g2,d2,t2,os2⟩:=s;refine wpAny_isSubtype_exc (k _ _ hC) ?_;rw[show(Value.ref C::bm).contains (.ref C)=true by simp]
  exact q
 have s1:=s0.keeps k;have i1:=hi.keeps k;have b1:=(hb (.ref (h.objs.size+1))).keeps k;unfold isInstance callSpecial? specialOf
 repeat (first|with_reducible refine wpAny_call ?_|lk)
 refine codeAny_mono hq λr s' z=>?_
 rcases r with e| (v|_|_|_)<;>first|exact z|exact z.elim|skip
 obtain⟨rfl,z⟩:=z;exact wpAny_pure (wpAny_pure z)
end
def pY(C a:Addr)(d:Option Addr):HO:= .ext λh=>∃t,h.get? a=some (b8 C t d)
def zo(a:Addr)(fs:List (Str×V)):HO:= .ext λh=>fs.length<=1000/\∃mA,h.Ns1 a mA/\(∀f,km (fs.lookup f) (mA f))/\cb mA (fs.map (·.1))
section
variable {P:Program} {w:World} {H:Hp} {h:Heap} {a C:Addr} {d:Option Addr} {fs:List (Str×V)}
def DP{t:Addr}(e:h.get? a=some (b8 C t d)):ck P w H h a (pY C a d):=#[#[t,e],#[_,e],λh1 h2 #[t,p] k=>#[t,k _ p]]
def Pk{mA:Str->Option Value}(hl:fs.length<=1000)(n:h.Ns1 a mA)(r:∀f,km (fs.lookup f) (mA f))(q:cb mA (fs.map (·.1))):ck P w H h a (zo a fs):=
 #[#[hl,mA,n,r,q],let #[o,_,_,e,_]:=n;#[o,e],λh1 h2 #[hl,mA,#[o,es,ep,e,c],r,q] k=>#[hl,mA,#[o,es,ep,k _ e,c],r,q]]
def wa(hok:gI P w H h)(e:H a=some (pY C a d)):∃t,h.get? a=some (b8 C t d):=(hok a _ e).1
def DQ(hok:gI P w H h)(e:H a=some (zo a fs)):fs.length<=1000/\∃mA,h.Ns1 a mA/\(∀f,km (fs.lookup f) (mA f))/\cb mA (fs.map (·.1)):=(hok a _ e).1
end
section
variable {X:Cx} {pins:List (Addr×Obj)} {σ:St} {H:Hp} {s:Shared}
theorem Inv.RZ{a dx:Addr}{o1 o2:HO}{h':Heap}{t':Nat}(I:Inv X pins σ H s)(mu:LM (H a))(BR:s.heap.objs.size<=dx)(k:∀b u,b≠a->s.heap.get? b=some u->h'.get? b=some u)(EN:∃u,h'.get? a=some u)
  (YJ:ck X.prog X.w (upd (upd H a o1) dx o2) h' a o1) (YK:ck X.prog X.w (upd (upd H a o1) dx o2) h' dx o2):Inv X pins σ (upd (upd H a o1) dx o2) {s with heap:=h',toks:=t'}:=by
 have nd:H dx=none:=I.hok.fresh BR
 obtain⟨oa,ha⟩:∃o,H a=some o:=by
  cases q:H a with
  |none=>rw[q] at mu;exact mu.elim
  |some o=>exact#[o,rfl]
 have YF:a≠dx:=aD ha nd;have Fj:∀c y,H c=some (.own y)->c≠a:=λc y r z=>by subst z;rw[r] at mu;exact mu
 have JF:∀c xs,H c=some (.tup xs)->c≠a:=λc xs r z=>by subst z;rw[r] at mu;exact mu
 have YL:∀c o u,H c=some (.qB o u)->c≠a:=λc o u r z=>by subst z;rw[r] at mu;exact mu
 have YQ:∀c ps,H c=some (.FX ps)->c≠a:=λc ps r z=>by subst z;rw[r] at mu;exact mu
 have up:∀b u,b≠a->H b=some u->upd (upd H a o1) dx o2 b=some u:=λb u hb e=>by rw[ax (aD e nd),ax hb];exact e
 refine I.un (h':=h') (t':=t') #[λb o e n _ _=>?_,λb o e n _ _=>#[o.slots,?_],λb o e n _=>?_,λb o e _=>?_,λb xs e=>up b _ (JF b xs e) e,λb o u e=>up b _ (YL b o u e) e,λb ps e=>#[#[],by rw[up b _ (YQ b ps e) e];simp]] λb u e=>?_
 .exact k b o (λz=>by rw[z,ha] at n;cases n) e
 .exact k b o (λz=>by rw[z,ha] at n;cases n) e
 .rw[ax (λz=>by rw[z] at e;exact absurd (Heap.lt_size e) (Nat.not_lt.mpr BR)),ax (λz=>by rw[z,ha] at n;cases n)];exact n
 .by_cases z:b=a
  .rw[z];exact EN
  .exact#[o,k b o z e]
 .by_cases z:b=dx
  .subst z;rw[av] at e;cases e;exact YK
  .rw[ax z] at e
   by_cases z2:b=a
   .subst z2;rw[av] at e;cases e;exact YJ
   .rw[ax z2] at e
    refine(I.hok b u e).oW (λc v hc q=>k c v ?_ q) (λc q=>up c _ (Fj c b q) q) λc xs q=>up c _ (JF c xs q) q
    rcases hc with y|y
    .rw[y];exact z2
    .exact Fj c b y
variable {a C:Addr} {fs:List (Str×V)} {f:Str} {v:V} {A:Around} {E:Value->Shared->Prop}
def Si(H:Hp)(C a:Addr)(f:Str)(y:V)(fs:List (Str×V))(Q:Hp->Prop):Prop:=
 (fs= []/\H a=some (pY C a none)/\∀dx,H dx=none->Q (upd (upd H a (pY C a (some dx))) dx (zo dx [(f,y)])))\/
 (∃dx,H a=some (pY C a (some dx))/\H dx=some (zo dx fs)/\fs.length<1000/\Q (upd H dx (zo dx (iY f y fs))))
def DR{y:V}{u:Value}{Q:Unit->Shared->Prop}{R:Hp->Prop}(I:Inv X pins σ H s)(c:ko X.K C)(n:gE X.K C f)(ry:RelV y u)(p:Si H C a f y fs R)
  (h:∀H' s',Inv X pins σ H' s'->R H'->Q () s'):wpAny (model X.prog X.w) A (setAttr (.ref a) f u) Q E s:=by
 rcases p with ⟨rfl,e,q⟩ | ⟨dx,e,ed,hl,q⟩
 .obtain⟨t,et⟩:=wa I.hok e
  refine V0 I.c7 c et n.IB λh' hn hx k=>?_;refine h _ _ (I.RZ (by rw[e];exact True.intro) (bJ _) k #[_,hx] (DP hx) ?_) (q s.heap.objs.size I.fresh)
  refine Pk (by simp) hn (λg=>?_) (λg hg=>?_)
  .by_cases z:g=f
   .rw[if_pos z,z];simp only[aP,beq_self_eq_true];exact ry
   .rw[if_neg z]
    have hb:(g==f)=false:=beq_eq_false_iff_ne.mpr z;simp only[aP,hb];exact True.intro
  .by_cases z:g=f
   .rw[z];simp
   .rw[if_neg z] at hg;exact absurd rfl hg
 .obtain⟨t,et⟩:=wa I.hok e
  obtain⟨_,mA,hn,r,wi⟩:=DQ I.hok ed
  have ne:dx≠a:=by
   rintro rfl;obtain⟨o,es,ep,eo,hd,_⟩:=hn;rw[et] at eo;cases eo;cases hd
  have hz:(fs.map (·.1)).length<=sizeLine:=by rw[aL,sizeLine_eq];lia
  refine V1 I.c7 c et hn ne n.IB wi hz λh' BX sb=>h _ _ (I.write (x:=dx) (e:=dx) (by rw[ed];exact True.intro) (.inl rfl) (λb q hb z=>(sb.2 b hb).trans z) (let #[o,_,_,e',_]:=BX;#[o,e']) ?_) q
  refine Pk (by have:=l6 f y fs;lia) BX (λg=>?_) (λg hg=>?_)
  .rw[l8]
   by_cases q:g=f
   .rw[if_pos q,if_pos q];exact ry
   .rw[if_neg q,if_neg q];exact r g
  .by_cases q:g=f
   .rw[q];exact(jQ f y fs).1
   .refine(jQ f y fs).2 g (wi g λz=>hg ?_)
    show(if g=f then some u else mA g)=none;rw[if_neg q];exact z
end
def VG(K:ac)(ta tv:TE)(f:Str):TS:=λD σ H=>tv σ H λy H1=>ta σ H1 λx H2=>∃a C fs,x= .ref a/\ko K C/\gE K C f/\Si H2 C a f y fs λH3=>D.nx σ H3
section
variable {X:Cx} {o e value:Expr} {f:Str} {pos pos' ZF:Pos} {ta tv:TE}
def OJ(ha:PE X o ta)(hv:PE X value tv)(hs:swapsWith value (some (.Attribute o f pos')) pos.line X.env=pure false):PS X (.Assign [.Attribute o f pos'] value pos) (VG X.K ta tv f):=by
 intro pins s σ H D I h;refine plainObj_wpAny_Assign_Attribute (thn (hv pins s σ H _ I h) λu s1 #[y,H1,I1,ry,q]=>thn (ha pins s1 σ H1 _ I1 q) λov s2 #[x,H2,I2,rx,a,C,fs,ex,c,n,p]=>?_) hs;subst ex;obtain rfl:ov=Value.ref a:=rx;exact DR I2 c n ry p λH3 s3 I3 q=>#[σ,_,I3,q]
inductive I0:V->Value->Prop where
 |own (D:Addr):I0 (.ref D) (.ref D)
 |blt (n:String):I0 (.ty n) (.type n)
end
structure qa (K:ac) (C:Addr):Prop where
 obj:∃nm q N bs bm h8 sn sub ab col dd k0 k1 k2 k3 k5,K.lookup C=some (excClassObj nm q C N bs bm h8 sn sub ab col dd k0 k1 k2 k3 k5 "ValueError.__new__")/\(Value.ref C::bm).contains (.type "ValueError")=true/\
  (Value.ref C::bm).contains (.type "AttributeError")=false/\(Value.ref C::bm).contains (.type "NameError")=false
structure Eb (K:ac) (C:Addr) (init:Value):Prop extends qa K C where
 call:aW K (.ref C) "__call__"=some (some (.builtin "type.__call__"))
 typ:cu K (.ref C) (.type "type")=some true
 ini:ak K (.ref C) "__init__"=some (some init)
 kp:aA K (.ref C)=true
def RW{H:Hp}{a:Addr}{o:HO}(e:H a=some o):upd H a o=H:=by
 funext b
 by_cases h:b=a
 .rw[h,av,e]
 .rw[ax h]
def RQ(C:Addr)(sp:Sp)(E:XK)(t:TA):TE:=λσ H Q=>t σ H λvs H1=>∀e,H1 e=none->sp (.ref e::vs) (upd H1 e (pY C e none)) (λv H2=>v= .bb/\Q (.ref e) H2) E
def RP(K:ac)(t:TA):TE:=λσ H Q=>t σ H λvs H1=>∃a C d y,vs= [.ref a,y]/\H1 a=some (pY C a d)/\qa K C/\Q .bb H1
section
variable {X:Cx} {CX:pV} {k:Nat} {f C:Addr} {fd:FuncData} {ps:List Str} {sp:Sp} {E:XK} {x m:Str} {p pos apos:Pos} {e o:Expr} {es:List Expr} {ta:TE} {t:TA}
theorem Ik{pins:List (Addr×Obj)}{σ:St}{H:Hp}{s:Shared}{Q:VK}{us:List Value}{vs:List V}(M:Eb X.K C (.ref f))(hf:bw X.K (.ref f)=true)(F:FnOk X.prog X.w X.K X.mg X.base CX k f fd ps sp)(hr:bN (k+1) X.A)(hb:Binds X.K fd ps [])
  (NL:ps.length<=1000) (hx:Passes CX X E) (I:Inv X pins σ H s) (r:Vals vs us)
  (h:∀e,H e=none->sp (.ref e::vs) (upd H e (pY C e none)) (λv H2=>v= .bb/\Q (.ref e) H2) E):
  wpAny (model X.prog X.w) X.A (call (.ref C) us) (EP X pins σ Q) X.xe s:=by
 obtain⟨nm,q,N,bs,bm,h8,sn,sub,ab,col,dd,k0,k1,k2,k3,k5,hC,cB,cA,cN⟩:=M.obj;have hq:=h (s.heap.objs.size+1) (I.hok.fresh (lQ _))
 have U0:((s.heap.push {cls:= .type "tuple",data:= .seq us.toArray}).push (b8 C s.heap.objs.size none)).get? (s.heap.objs.size+1)=some (b8 C s.heap.objs.size none):=by
  have:=Heap.get?_push_size (s.heap.push {cls:= .type "tuple",data:= .seq us.toArray}) (o:=b8 C s.heap.objs.size none) rfl
  rwa [Heap.size_push] at this
 have I2:Inv X pins σ (upd H (s.heap.objs.size+1) (pY C (s.heap.objs.size+1) none)) {s with heap:=(s.heap.push {cls:= .type "tuple",data:= .seq us.toArray}).push (b8 C s.heap.objs.size none)}:=
  I.laid (t':=s.toks) (λb u q=>Heap.get?_push_of_some _ (Heap.get?_push_of_some _ q)) (lQ _) (DP U0)
 have r2:Vals (V.ref (s.heap.objs.size+1)::vs) (Value.ref (s.heap.objs.size+1)::us):= .cons rfl r
 have hl:((Value.ref (s.heap.objs.size+1)::us)++ []).length=ps.length:=by
  have e:=r2.length;rw[F.len _ _ _ _ hq] at e;rw[fI];exact e.symm
 have hlen:us.length<=sizeLine:=by
  rw[fI,cU] at hl;exact uJ (eu (by lia))
 have Hd:=hb _ (Value.ref (s.heap.objs.size+1)::us) I2.c7 hl;rw[fI] at Hd;obtain⟨hh,g,d,tk,os⟩:=s
 refine wpAny_call (vc (init:= .ref f) PySem.F.excBase_ValueError cB cA cN (I.c7 _ _ hC) (PySem.W.looks_specialIn I.c7 M.call) (PySem.W.looks_instIn I.c7 M.typ) (PySem.W.looks_findIn I.c7 M.ini) (λself=>PySem.W.bind_fn I.c7 self (beq_iff_eq.mp hf)) hlen
  (codeAny_mono (F.run _ X.stack _ _ #[Value.ref (hh.objs.size+1)::us,[]] (Value.ref (hh.objs.size+1)::us) _ _ E (hr.make C us []) (I2.fC.make C us []) Hd r2 hq) λr s' uf=>?_))
 cases r with
 |error e=>exact hx pins σ _ _ e s' I2 uf
 |ok fl=>
  cases fl with
  |ret u=>
   refine ah λG0 k0=>?_;obtain⟨v,H',I3,rv,ev,q3⟩:=I2.after uf;subst ev;refine k0 ?_;exact#[rv,#[V.ref (hh.objs.size+1),H',I3,rfl,q3]]
  |next=>exact False.elim uf
  |brk=>exact False.elim uf
  |cont=>exact False.elim uf
def Lb(M:Eb X.K C (.ref f))(hf:bw X.K (.ref f)=true)(F:FnOk X.prog X.w X.K X.mg X.base CX k f fd ps sp)(hr:bN (k+1) X.A)(hg:Gl X x)(hm:X.mg x=some (.ref C))(hb:Binds X.K fd ps [])(NL:ps.length<=1000)(hx:Passes CX X E)
  (ha:PA X (e::es) t) (dG:(x==("__debug__":Str))=false:=by decide) (he:starEach (e::es) X.env=(false,eval e X.env)::starEach es X.env:=by rfl) (hpl:(backTo pos (starEach es X.env)).any (·.1)=false:=by rfl):
  PE X (.Call (.Name x p) (e::es) [] pos) (RQ C sp E t):=by
 intro pins s σ H Q I h;refine wpAny_Call_Name_kw (iV I hg hm ?_ dG);refine PySem.W.callWith_K (h₀:=X.base) I.ok.mod.kin M.kp (thn (ha pos pins s σ H _ I h) λus s1 #[vs,H1,I1,r,q]=>#[I1.c7,?_]) he hpl;exact Ik M hf F hr hb NL hx I1 r q
def La{C0:Addr}{pl:Sem Bool}(hg:Gl X x)(hm:X.mg x=some (.ref C0))(sg:aW X.K (.ref C0) "__getattribute__"=some (some (.builtin "type.__getattribute__")))(rd:da X.K C0 (.type "type")=true)
  (fc:dc X.K (.ref C0) (.type "type") "__init__"=some (.val (.builtin "ValueError.__init__"))) (ha:PA X (e::es) t) (dG:(x==("__debug__":Str))=false:=by decide)
  (he:starEach (e::es) X.env=(false,eval e X.env)::starEach es X.env:=by rfl) (hpl:(backTo pos (starEach es X.env)).any (·.1)=false:=by rfl)
  (ht:eval (.Call (.Attribute (.Name x p) "__init__" apos) (e::es) [] pos) X.env=(do
   let ov <-eval (.Name x p) X.env
   standAt apos.atName
   let (f,first) <-holding [ov] (getMethod ov "__init__" pl)
   callWith pos f first (backTo pos (starEach (e::es) X.env)) (backToKw pos (keywordEach [] X.env))):=by rfl):
  PE X (.Call (.Attribute (.Name x p) "__init__" apos) (e::es) [] pos) (RP X.K t):=by
 intro pins s σ H Q I h;refine PySem.W.methodCall_KW (pl:=pl) (iV I hg hm ?_ dG) ht;refine PySem.W.method_cls I.c7 sg (PySem.W.cls_value I.c7 rd fc (by decide+kernel) ?_)
 refine PyProof.Rows.callWith_builtin1 (thn (ha pos pins _ σ H _ (I.tok _) h) λus s1 #[vs,H1,I1,r1,a,C,d,y,ev,ea,xo,q1]=>?_) he hpl;refine ah λG0 k0=>?_;subst ev;obtain⟨u1,u2,rfl,ra,ry⟩:=r1.two;subst ra;obtain⟨nm,q,N,bs,bm,h8,sn,sub,ab,col,dd,k0,k1,k2,k3,k5,hC,cB,cA,cN⟩:=xo.obj;obtain⟨t0,et⟩:=wa I1.hok ea;obtain⟨hh,g,dr,tk,os⟩:=s1;refine k0 ?_;refine wpAny_call (uT PySem.F.excBase_ValueError cB (I1.c7 _ _ hC) et (λh' t' Qn kk=>?_) (by show 1<=sizeLine;decide))
 have I2:=I1.write (x:=a) (e:=a) (o:=pY C a d) (t':=tk) (by rw[ea];exact True.intro) (.inl rfl) (λb u hb q=>kk b u hb q) #[_,Qn] (DP Qn)
 rw[RW ea] at I2;exact#[.bb,H1,I2,rfl,q1]
end
section
variable {X:Cx} {pins:List (Addr×Obj)} {σ:St} {H:Hp} {s:Shared} {A:Around} {E:Value->Shared->Prop} {Q:Value->Shared->Prop} {b:Bool}
end
def cE.of(f:Scope)(e:X.env.scope=f)(k:d.kind= .function)(a:∀x∈d.names,x.2= .local->d.names.lookup x.1=some .local)(b:∀x∈d.names,x.2≠ .cell)
  (c:∀x∈d.names,x.2= .free->f.names.lookup x.1=some .cell\/f.names.lookup x.1=some .free):cE X d:=#[k,a,b,λx g h=>by rw[<-e] at c;exact c x g h]
structure dQ (K:ac) (mg:Str->Option Value) (x:Str) (st:Stmt) (ps:List Str) where
 f:Addr
 fd:FuncData
 F:rA K x x st f fd
 b:Binds K fd ps []
 m:mg x=some (.ref f)
def aO(h:H p=none)(o:HO):aJ H (upd H p o):=λb u q=>by rw[ax (aD q h)];exact q
def small(h:n<=1000):n<=sizeLine:=uJ (eu h)
abbrev iS(C t:Addr)(a:Value)(d:Option Addr):Obj:={cls:= .ref C,dict:=d,data:= .fields [.ref t,a, .none, .none, .bool false, .none].toArray}
def kN(C a:Addr)(d:Option Addr):HO:= .ext λh=>∃t b,h.get? a=some (iS C t b d)
section
variable {P:Program} {w:World} {H:Hp} {h:Heap} {a C:Addr} {d:Option Addr}
def M0{tb:Value}(e:h.get? a=some (iS C t tb d)):ck P w H h a (kN C a d):=#[#[t,tb,e],#[_,e],λb c #[t,tb,p] k=>#[t,tb,k _ p]]
def Ju(hok:gI P w H h)(e:H a=some (kN C a d)):∃t b,h.get? a=some (iS C t b d):=(hok a _ e).1
end
def D9(h:Heap)(T:Addr):Prop:=∃o a,h.get? T=some o/\o.data= .fields a/\a[3]? =some .none
section
variable {M:Model} {A:Around} {E:Value->Shared->Prop} {s:Shared}
def xZ 
  (N:A.frames=some (env::outer)) (w:s.heap.FunFrames base (env::outer)) (O:env.frame=some L)
  (y:s.heap.get? e=some (iS C t j d))
  (h:∀k T,s.heap.objs.size<=T->k.get? e=some (iS C t (.ref T) d)->D9 k T->(∀b o,s.heap.get? b=some o->b≠e->∃q,k.get? b=some {o with slots:=q})->
   (∀b o,s.heap.get? b=some o->b≠e->b∉r8 (env::outer)->k.get? b=some o)->Q () {s with heap:=k}):
  wpAny M A (do let a <-frameOf env;let pl <-entryPlaceOf L J;let b <-EntryCells.newEntry g a .none (rawInt L) .none pl;setField (.ref e) 1 b) (λ_ P=>wpAny M A (setFlight (.ref e) none) Q E P) E s:=by
 have r:(iS C t j d).data= .fields [.ref t,j, .none, .none, .bool false, .none].toArray:=rfl;have R:1<([.ref t,j, .none, .none, .bool false, .none].toArray:Array Value).size:=by simp
 have S:e∉(env::outer).filterMap (·.frame):=λU=>by
  obtain⟨_,o,n,X⟩:=w.mem U;rw[y] at n;injection n with n;subst n;exact X _ r
 refine ir (wpAny_frameOf_fun N w O λc p=>?_);refine ir (wpAny_entryPlaceOf λpl l=>?_);unfold EntryCells.newEntry newFields;refine ir (Wp ?_ (l.sizeOk5 _ _ _ _ _));have z:c.get? e=some (iS C t j d):=(p.2.1 e S).trans y;have B:=Da (h:=c) {cls:= .type "traceback",dict:=none,data:= .fields ([g, .ref L, .none,rawInt L, .none]++(if pl.isEmpty then am 6 Value.none else pl)).toArray} z;refine acF B r R ?_;have F:c.objs.size≠e:=ab1 (FB z);have G:=aaW r (·.setIfInBounds 1 (Value.ref c.objs.size));have H:=SZ (Obj.mapFields (·.setIfInBounds 1 (Value.ref c.objs.size))) B (abg G)
 have I:=(SC (c.push {cls:= .type "traceback",dict:=none,data:= .fields ([g, .ref L, .none,rawInt L, .none]++(if pl.isEmpty then am 6 Value.none else pl)).toArray})
  (Obj.mapFields (·.setIfInBounds 1 (Value.ref c.objs.size))) (Ne.symm F)).trans (GM c rfl)
 unfold setFlight;refine ir (aaP H G (x:= .ref c.objs.size) (by simp) ?_)
 rw[tz (show(Value.ref c.objs.size !=Value.none)=true from by simp)]
 refine acF I rfl (by simp only[cJ,dB,cU,lO]<;>lia) ?_
 have keep:∀b o,b≠e->c.get? b=some o->
   (((c.push {cls:= .type "traceback",dict:=none,data:= .fields ([g, .ref L, .none,rawInt L, .none]++(if pl.isEmpty then am 6 Value.none else pl)).toArray}).update e (Obj.mapFields (·.setIfInBounds 1 (Value.ref c.objs.size)))).update c.objs.size
     (Obj.mapFields (·.setIfInBounds 3 ((none:Option Addr).elim Value.none λf=>rawInt f)))).get? b=some o:=λb o m i=>by
  have u:c.objs.size≠b:=ab1 (FB i);rw[SC _ _ u,SC _ _ (Ne.symm m)];exact Da _ i
 refine h _ c.objs.size (by rw[p.1];exact bJ _) ?_ #[_,_,SZ _ I (abg (aaW rfl _)),aaW rfl _,by first| (simp;done) | (rcases l with rfl| ⟨_,_,_,_,_,_,_,rfl⟩<;>simp)] (λb o i m=>?_) (λb o i m v=>?_)
 .rw[SC _ _ F];exact H
 .obtain⟨q,Y⟩:=p.2.2 b o i
  exact#[q,keep b _ m Y]
 .exact keep b o m ((p.2.1 b v).trans i)
def HE{base:Heap} 
  (G:A.frames=some (env::outer)) (H:s.heap.FunFrames base (env::outer)) (r:env.frame=some L)
  (u:s.heap.get? e=some (iS C t g d)) (I:g= .none\/∃T,g= .ref T/\T≠e/\D9 s.heap T)
  (h:∀c T,s.heap.objs.size<=T->c.get? e=some (iS C t (.ref T) d)->D9 c T->(∀b o,s.heap.get? b=some o->b≠e->∃J,c.get? b=some J)->(∀b o,s.heap.get? b=some o->b≠e->g≠ .ref b->∃k,c.get? b=some {o with slots:=k})->
   (∀b o,s.heap.get? b=some o->b≠e->g≠ .ref b->b∉r8 (env::outer)->c.get? b=some o)->Q () {s with heap:=c}):
  wpAny M A (noteFrame (.ref e) env) (λ_ N=>wpAny M A (setFlight (.ref e) none) Q E N) E s:=by
 have O:(iS C t g d).data= .fields [.ref t,g, .none, .none, .bool false, .none].toArray:=rfl;unfold noteFrame;simp only[r];refine ir (aaP (x:=g) u O rfl ?_)
 rcases I with rfl| ⟨T,rfl,P,Y,R,l,m,i⟩
 .rw[mo (by decide)]
  exact xZ G H r u λc T p v i j y=>h c T p v i (λb o q n=>let #[k,z]:=j b o q n;#[_,z]) (λb o q n _=>j b o q n) λb o q n _=>y b o q n
 .rw[tz (show(Value.ref T !=Value.none)=true from by simp)]
  refine ir (aaP l m i ?_);rw[mo (show ¬((Value.none==rawInt L)=true) from by simp[rawInt])]
  refine ir (acF l m (y6.mp i).1 ?_);have a:∀b,b≠T->(s.heap.update T (Obj.mapFields (·.setIfInBounds 3 Value.none))).get? b=s.heap.get? b:=λb f=>SC _ _ (Ne.symm f)
  have S:∀b o,s.heap.get? b=some o->(∀U,o.data≠ .fields U)->b≠T:=λb o f B q=>by
   rw[q,l] at f;injection f with f;subst f;exact B R m
  have F:=SZ (Obj.mapFields (·.setIfInBounds 3 Value.none)) l (abg (aaW m _));refine xZ (s:={s with heap:=s.heap.update T (Obj.mapFields (·.setIfInBounds 3 Value.none))}) G (H.of_keeps λb o f B=>#[o,(a b (S b o f B)).trans f,rfl]) r ((a e (Ne.symm P)).trans u) λc X p v i j y=>?_
  refine h c X (by rw[Heap.size_after_update] at p;exact p) v i (λb o q n=>?_) (λb o q n z=>j b o ((a b λw=>z (by rw[w])).trans q) n) λb o q n z=>y b o ((a b λw=>z (by rw[w])).trans q) n
  by_cases z:b=T
  .subst z
   obtain⟨k,z⟩:=j b _ F n;exact#[_,z]
  .obtain⟨k,z⟩:=j b o ((a b z).trans q) n
   exact#[_,z]
end
def Wi(X:Cx)(H:Hp)(h:Heap)(a:Value):Prop:=a= .none\/∃T,a= .ref T/\X.s₀.heap.objs.size<=T/\T≠X.env.locals/\(∀x c,X.env.cells.lookup x=some c->c≠T)/\(∀p∈X.pn,p.1≠T)/\H T=none/\D9 h T
def wc(X:Cx)(H:Hp)(s:Shared)(a:Addr):Prop:=∃C t b d,H a=some (kN C a d)/\s.heap.get? a=some (iS C t b d)/\Wi X H s.heap b
structure Wc (P:Program) (w:World) (outer:List Env) (H:Hp) (s:Shared) (a:Addr) (H':Hp) (s':Shared):Prop where
 os:s'.os=s.os
 bare:AllBare s'.gens
 un:Un (r8 outer) [] H H' s.heap s'.heap
 hok:gI P w H' s'.heap
 obj:∃C t tb d,H' a=some (kN C a d)/\s'.heap.get? a=some (iS C t tb d)/\(tb= .none\/∃T,tb= .ref T/\s.heap.objs.size<=T/\H' T=none/\D9 s'.heap T)
def rm(P:Program)(w:World):pV:=λouter H s E e c=>∃a b,e= .ref a/\Wc P w outer H s a b c/\E e none b
section
variable {X:Cx} {pins:List (Addr×Obj)} {σ:St} {H H':Hp} {s s':Shared} {a:Addr}
def Inv.LX(I:Inv X pins σ H s):Inv X [] σ H s:=#[I.ok,I.os,I.bare,I.base,I.loc,I.cell,I.free,I.freeC,λp b=>I.pin p (by rw[fI] at b;exact iu _ b),I.hok,I.len]
def P9(I:Inv X pins σ H s)(f:Wc X.prog X.w X.stack H s a H' s'):Inv X [] σ H' s'/\wc X H' s' a:=by
 rfl';obtain⟨os,bare,un,hok,C,t,h,d,i,j,k⟩:=f;have l:Inv X pins σ H' s':=I.Gz (ch:= []) os un hok bare (λb z=>absurd z (by simp))
 ac_rfl;refine#[l.LX,C,t,h,d,i,j,k.imp id λ#[T,m,e,n,q]=>#[T,m,jm I.sz e,?_,λx c r z=>?_,λp u z=>?_,n,q]]
 .exact λz=>absurd (fo I.lt e) (by rw[z];exact j8 _)
 .obtain⟨v,o,y,_⟩:=I.cell x c r
  exact absurd (fo (FB y) e) (by rw[z];exact j8 _)
 .have:=(I.pin p (iu _ u)).1
  exact absurd (fo (FB this) e) (by rw[z];exact j8 _)
def Az(r:X.stack=X.env::X.outer)(Y:X.env.frame=some X.env.locals)(I:Inv X [] σ H s)(f:wc X H s a)
  (h:∀s',Inv X [] σ H s'->wc X H s' a->Q () s'):
  wpAny M X.A (noteFrame (.ref a) X.env) (λ_ s'=>wpAny M X.A (setFlight (.ref a) none) Q E s') E s:=by
 obtain⟨C,t,Z,d,j,h2,B⟩:=f;have fr:s.heap.FunFrames X.base (X.env::X.outer):=by rw[<-r];exact I.stack
 refine HE (base:=X.base) (by rw[I.ok.frames,r]) fr Y h2 (B.imp id λ#[T,e1,_,_,_,_,P,e7]=>#[T,e1,(λz=>by rw[z,j] at P;cases P),e7]) λk T F G J k0 k1 R=>?_
 have tr:∀b u,H b=some u->b≠a->∀o,s.heap.get? b=some o->k.get? b=some o:=λb u i sF o l=>by
  refine R b o l sF (λz=>?_) λz=>?_
  .rcases B with q| ⟨T,q,_,_,_,_,L,_⟩
   .rw[q] at z;cases z
   .rw[q] at z;cases z;rw[i] at L;cases L
  .have:=I.yI b (by rw[r];exact z)
   rw[i] at this;cases this
 have hok:gI X.prog X.w H k:=λb u i=>by
  by_cases z:b=a
  .subst z;rw[j] at i;cases i;exact M0 G
  .refine(I.hok b u i).oW (λc v g q=>?_) (λ_ q=>q) λ_ _ q=>q
   rcases g with rfl|g
   .exact tr c u i z v q
   .exact tr c _ g (λw=>by rw[w,j] at g;cases g) v q
 have N:H T=none:=I.hok.fresh F;have O:∀c o,s.heap.get? c=some o->c≠T:=λc o g z=>absurd (fo (FB g) F) (by rw[z];exact j8 _)
 have fin:∀ch:List Addr,(∀b,Z= .ref b->b∈ch)->(∀b∈ch,(b∈X.ex\/X.s₀.heap.objs.size<=b)/\b≠X.env.locals/\(∀x c,X.env.cells.lookup x=some c->c≠b)/\∀p∈X.pn++ [],p.1≠b)->Inv X [] σ H {s with heap:=k}:=λch S h6=>by
  refine I.Gz (s':={s with heap:=k}) (ch:=ch) rfl #[λb o e n i g=>?_,λb o e n _ g=>?_,λb o _ n _=>n,λb o e _=>?_,λ_ _ q=>q,λ_ _ _ q=>q,λ_ ps q=>#[#[],by rw[q];simp]] hok I.bare h6
  .exact R b o e (λz=>by rw[z,j] at n;cases n) (λz=>g (S b z)) (by rw[<-r];exact i)
  .exact k1 b o e (λz=>by rw[z,j] at n;cases n) (λz=>g (S b z))
  .by_cases z:b=a
   .exact#[_,by rw[z];exact G]
   .exact k0 b o e z
 have I':Inv X [] σ H {s with heap:=k}:=by
  rcases B with q| ⟨U,q,q2,q3,q4,q5,L,q7⟩
  .exact fin [] (λb z=>by rw[q] at z;cases z) λb z=>absurd z (by simp)
  .refine fin [U] (λb z=>by rw[q] at z;cases z;exact dq ..) λb z=>?_
   have:b=U:=by simpa using z
   subst this;exact#[.inr q2,q3,q4,λp y=>q5 p (by rw[fI] at y;exact y)]
 refine h _ I' #[C,t, .ref T,d,j,G, .inr #[T,rfl,jm I.sz F,?_,λx c g=>?_,λp y=>?_,N,J]]
 .obtain⟨m,⟨o,_,_,l,_⟩,_⟩:=I.loc
  exact(O _ _ l).symm
 .obtain⟨v,o,l,_⟩:=I.cell x c g
  exact O _ _ l
 .exact O _ _ (I.pin p (iu _ y)).1
end
def Ec(X:Cx)(b:St)(H:Hp)(a:Addr):Prop:=∀s,Inv X [] b H s->wc X H s a->X.xe (.ref a) s
def M1{P:Program}{w:World}{K:ac}{e:Str->Option Value}{base:Heap}{N:List Str}{c:Str}{b:Scope}{f:Addr}{g:Value}{A:Around}{outer:List Env}{s k:Shared}{H i:Hp}{E:XK}{l:St}{a:Addr}
  (I:Inv (kv (rm P w) P w K e base N c b f g A outer s H E) [] l i k) (m:wc (kv (rm P w) P w K e base N c b f g A outer s H E) i k a) (h:E (.ref a) none i):(kv (rm P w) P w K e base N c b f g A outer s H E).xe (.ref a) k:=by
 show wpAny _ _ (leaving _ _) _ _ _;unfold leaving;refine ir (Az (X:=kv (rm P w) P w K e base N c b f g A outer s H E) rfl rfl I m λB j n=>?_);rfl';obtain⟨C,t,p,d,q,r,u⟩:=n;ac_rfl;exact#[a,i,rfl,#[j.os,j.bare,j.base,j.hok,C,t,p,d,q,r,u.imp id λ#[T,v,x,_,_,_,y,z]=>#[T,v,x,y,z]],h]
end L2
namespace TS
open PySem PyProof.Rows
def fe:Bool->Keyed->Array Keyed->Nat->Nat->Nat->StateT SortSt Sem (Option Nat):=sortPriv%PySem.Builtin.gallop
def pJ:Array Keyed->Array Keyed->StateT SortSt Sem (Array Keyed):=sortPriv%PySem.Builtin.mergeLo
def pI:Array Keyed->Array Keyed->StateT SortSt Sem (Array Keyed):=sortPriv%PySem.Builtin.mergeHi
def setMinGallop':Nat->StateT SortSt Sem Unit:=sortPriv%PySem.Builtin.setMinGallop
def jJ(left:Bool)(key:Keyed)(arr:Array Keyed)(base i:Nat):StateT SortSt Sem (Option Bool):=do
 let x <-elem' arr (base+i)
 if left then lt' x key else return (<-lt' key x).map (!·)
def EH(left:Bool)(key:Keyed)(arr:Array Keyed)(base n a:Nat):fe left key arr base n a=(do
 let mut lastofs:=0
 let mut ofs:=1
 let mut lo:=0
 let mut hi:=0
 let some right <-jJ left key arr base a|return none
 if right then
  let b:=n-a
  for _ in [0:n] do
   if ofs>=b then break
   let some more <-jJ left key arr base (a+ofs) |return none
   if !more then break
   lastofs:=ofs
   ofs:=2*ofs+1
  lo:=a+lastofs+1
  hi:=a+min ofs b
 else
  let b:=a+1
  for _ in [0:n] do
   if ofs>=b then break
   let some found <-jJ left key arr base (a-ofs) |return none
   if found then break
   lastofs:=ofs
   ofs:=2*ofs+1
  lo:=a+1-min ofs b
  hi:=a-lastofs
 for _ in [0:n] do
  if lo>=hi then break
  let m:=lo+(hi-lo) / 2
  let some more <-jJ left key arr base m|return none
  if more then lo:=m+1 else hi:=m
 return some hi):=rfl
def gS(O:KeyOrd)(key:Keyed->O.α)(S:Keyed->Prop)(a:SortKind)(M:Model)(A:Around)(E:Value->Shared->Prop)(s:Shared):Prop:=
 ∀(x y:Keyed)(st:SortSt)(Q:Option Bool->SortSt->Prop),S x->S y->kindOf st=a->Q (some (O.blt (key x) (key y))) st->wpS M A E s (lt' x y) Q st
section
variable {O:KeyOrd} {key:Keyed->O.α} {S:Keyed->Prop} {k0:SortKind} {M:Model} {A:Around} {E:Value->Shared->Prop} {s:Shared} {st:SortSt}
def dS(O:KeyOrd)(key:Keyed->O.α)(left:Bool)(k x:Keyed):Bool:=if left then O.blt (key x) (key k) else !O.blt (key k) (key x)
def bA{i:Nat}(h:arr[i]? =some x)(q:Q x st):wpS M A E s (elem' arr i) Q st:=by
 rw[elem'_eq,h];exact FM q
theorem kK(C:gS O key S k0 M A E s)(d:arr[base+i]? =some x)(a:S k)(b:S x)(c:kindOf st=k0)
  (q:Q (some (dS O key left k x)) st):wpS M A E s (jJ left k arr base i) Q st:=by
 unfold jJ;refine Do (bA d ?_);unfold dS at q;cases left with
 |true=>exact C _ _ _ _ b a c q
 |false=>exact Do (C _ _ _ _ a b c (FM q))
structure Seg (S:Keyed->Prop) (arr:Array Keyed) (base n:Nat) (g:Nat->Keyed):Prop where
 at_:∀i,i<n->arr[base+i]? =some (g i)
 mem:∀i,i<n->S (g i)
theorem gR(C:gS O key S k0 M A E s){base n a:Nat}(G:Seg S arr base n g)(H:S k)(J:kindOf st=k0)(X:a<n)
  (mono:∀i j,i<=j->j<n->dS O key left k (g j)=true->dS O key left k (g i)=true)
  (q:∀p,p<=n->(∀i,i<p->dS O key left k (g i)=true)->(∀i,p<=i->i<n->dS O key left k (g i)=false)->Q (some p) st):wpS M A E s (fe left k arr base n a) Q st:=by
 rw[EH];refine Do (kK C (G.at_ _ X) H (G.mem _ X) J ?_)
 have P:∀i j,i<=j->j<n->dS O key left k (g i)=false->dS O key left k (g j)=false:=λi j dX hj h=>by
  cases e:dS O key left k (g j) with
  |false=>rfl
  |true=>rw[mono i j dX hj e] at h;cases h
 have fin:∀lo b,lo<=b->b<=n->(∀i,i<lo->dS O key left k (g i)=true)->(∀i,b<=i->i<n->dS O key left k (g i)=false)->
   wpS M A E s (do
    let mut lo:=lo
    let mut b:=b
    for _ in [0:n] do
     if lo>=b then break
     let m:=lo+(b-lo) / 2
     let some more <-jJ left k arr base m|return none
     if more then lo:=m+1 else b:=m
    return some b) Q st:=by
  intro lo b R hn B y;dsimp only
  refine Do (PP (P3 (I:=λx c f=>f=st/\∃lo b,c=(none,lo,b)/\lo<=b/\b<=n/\b-lo<=n-x/\(∀i,i<lo->dS O key left k (g i)=true)/\(∀i,b<=i->i<n->dS O key left k (g i)=false))
   (Q:=λc f=>f=st/\∃b,c=(none,b,b)/\b<=n/\(∀i,i<b->dS O key left k (g i)=true)/\(∀i,b<=i->i<n->dS O key left k (g i)=false)) ?step ?fin #[rfl,lo,b,rfl,R,hn,by lia,B,y]) ?post)
  case fin=>
   rintro c f ⟨rfl,lo,b,rfl,r,w,t,l,L⟩
   have:lo=b:=by lia
   subst this;exact#[rfl,lo,rfl,w,l,L]
  case step=>
   rintro x c f _ Y ⟨rfl,lo,b,rfl,r,w,t,l,L⟩;dsimp only
   by_cases v:lo>=b
   .rw[tz v]
    have:lo=b:=by lia
    subst this;exact FM #[rfl,lo,rfl,w,l,L]
   .rw[mo v]
    have u:lo+(b-lo) / 2<n:=by lia
    refine Do (kK C (G.at_ _ u) H (G.mem _ u) J ?_);cases e:dS O key left k (g (lo+(b-lo) / 2)) with
    |true=>
     dsimp only;rw[tz rfl];exact FM #[rfl,_,_,rfl,by lia,w,by lia,λi b=>mono _ _ (by lia) u e,L]
    |false=>
     dsimp only;rw[mo (by decide)]
     exact FM #[rfl,_,_,rfl,by lia,by lia,by lia,l,λi B y=>P _ _ B y e]
  case post=>
   rintro c f ⟨rfl,b,rfl,T,N,F⟩;exact FM (q _ T N F)
 dsimp only;cases Z:dS O key left k (g a) with
 |true=>
  rw[tz rfl]
  refine Do (PP (P3 (I:=λx c f=>f=st/\∃d o,c=(none,d,o)/\d<o/\x<o/\a+d<n/\dS O key left k (g (a+d))=true)
   (Q:=λc f=>f=st/\∃d o,c=(none,d,o)/\d<o/\a+d<n/\dS O key left k (g (a+d))=true/\(n-a<=o\/(a+o<n/\dS O key left k (g (a+o))=false))) ?step ?fin2 #[rfl,0,1,rfl,by lia,by lia,by lia,Z]) ?post)
  case fin2=>
   rintro c f ⟨rfl,d,o,rfl,r,w,t,l⟩;exact#[rfl,d,o,rfl,r,t,l, .inl (by lia)]
  case step=>
   rintro x c f _ Y ⟨rfl,d,o,rfl,r,w,t,l⟩;dsimp only
   by_cases v:o>=n-a
   .rw[tz v]
    exact FM #[rfl,d,o,rfl,r,t,l, .inl v]
   .rw[mo v]
    have u:a+o<n:=by lia
    refine Do (kK C (G.at_ _ u) H (G.mem _ u) J ?_);cases e:dS O key left k (g (a+o)) with
    |true=>
     dsimp only;rw[mo (by decide)]
     exact FM #[rfl,_,_,rfl,by lia,by lia,u,e]
    |false=>
     dsimp only;rw[tz (by decide)]
     exact FM #[rfl,d,o,rfl,r,t,l, .inr #[u,e]]
  case post=>
   rintro c f ⟨rfl,d,o,rfl,T,N,F,z⟩;refine fin (a+d+1) (a+min o (n-a)) (by lia) (by lia) (λi b=>mono _ _ (by lia) N F) (λi B y=>?_)
   rcases z with z| ⟨z,U⟩
   .lia
   .exact P _ _ (by lia) y U
 |false=>
  rw[mo (by decide)]
  refine Do (PP (P3 (I:=λx c f=>f=st/\∃d o,c=(none,d,o)/\d<o/\x<o/\d<=a/\dS O key left k (g (a-d))=false)
   (Q:=λc f=>f=st/\∃d o,c=(none,d,o)/\d<o/\d<=a/\dS O key left k (g (a-d))=false/\(a+1<=o\/(o<=a/\dS O key left k (g (a-o))=true))) ?step ?fin2 #[rfl,0,1,rfl,by lia,by lia,by lia,Z]) ?post)
  case fin2=>
   rintro c f ⟨rfl,d,o,rfl,r,w,t,l⟩;exact#[rfl,d,o,rfl,r,t,l, .inl (by lia)]
  case step=>
   rintro x c f _ Y ⟨rfl,d,o,rfl,r,w,t,l⟩;dsimp only
   by_cases v:o>=a+1
   .rw[tz v]
    exact FM #[rfl,d,o,rfl,r,t,l, .inl v]
   .rw[mo v]
    have u:a-o<n:=by lia
    refine Do (kK C (G.at_ _ u) H (G.mem _ u) J ?_);cases e:dS O key left k (g (a-o)) with
    |true=>
     dsimp only;rw[tz rfl];exact FM #[rfl,d,o,rfl,r,t,l, .inr #[by lia,e]]
    |false=>
     dsimp only;rw[mo (by decide)]
     exact FM #[rfl,_,_,rfl,by lia,by lia,by lia,e]
  case post=>
   rintro c f ⟨rfl,d,o,rfl,T,N,F,z⟩;refine fin (a+1-min o (a+1)) (a-d) (by lia) (by lia) (λi b=>?_) (λi B y=>P _ _ B y F)
   rcases z with z| ⟨z,U⟩
   .lia
   .exact mono _ _ (by lia) (by lia) U
end
section
variable {O:KeyOrd} {key:Keyed->O.α} {S:Keyed->Prop} {k0:SortKind} {M:Model} {A:Around} {E:Value->Shared->Prop} {s:Shared} {st bO:SortSt}
def ky(O:KeyOrd)(key:Keyed->O.α)(a:Array Keyed)(i:Nat):O.α:=key (a[i]?.getD (.none, .none))
def iE(h:a[i]? =b[j]?):ky O key a i=ky O key b j:=by unfold ky;rw[h]
def jo(O:KeyOrd)(key:Keyed->O.α)(xs:Array Keyed)(a b:Nat):Prop:=∀i j,a<=i->i<=j->j<b->O.kle (ky O key xs i) (ky O key xs j)
def J3(O:KeyOrd)(key:Keyed->O.α)(c:Array Keyed)(a b:Nat):Prop:=∀i j,a<=i->i<=j->j<b->O.kle (ky O key c j) (ky O key c i)
structure gT (bO st:SortSt) (lo hi:Nat):Prop where
 perm:(arrOf st).Perm (arrOf bO)
 kind:kindOf st=kindOf bO
 failed:failedOf st=failedOf bO
 pend:pendingOf st=pendingOf bO
 out:∀i,i<lo\/hi<=i->(arrOf st)[i]? =(arrOf bO)[i]?
theorem gT.refl(st:SortSt)(lo a:Nat):gT st st lo a:=#[.refl _,rfl,rfl,rfl,λ_ _=>rfl]
theorem gT.trans{d e:SortSt}{lo c:Nat}(a:gT bO d lo c)(b:gT d e lo c):gT bO e lo c:=
 #[b.perm.trans a.perm,b.kind.trans a.kind,b.failed.trans a.failed,b.pend.trans a.pend,λi h=>(b.out i h).trans (a.out i h)]
theorem gT.size{lo b:Nat}(a:gT bO st lo b):(arrOf st).size=(arrOf bO).size:=a.perm.size_eq
theorem gT.mirror{lo a i j:Nat}(c:lo<=i)(d:j<=a)(b:j<=(arrOf st).size):gT st (setArr st (mirror (arrOf st) i j ((j-i) / 2))) lo a:=
 #[mirror_perm _ _ _ _,rfl,rfl,rfl,λk h=>by
  show(PyProof.Rows.mirror (arrOf st) i j ((j-i) / 2))[k]? =_;rw[getElem?_mirror_all b,mo (by lia)]]
theorem gT.bubble{lo a src d:Nat}(b:d<=src)(e:lo<=src-d)(f:src<a)(c:src<(arrOf st).size):gT st (setArr st (bubble (arrOf st) src d)) lo a:=
 #[bubble_perm _ _ _,rfl,rfl,rfl,λk h=>by
  show(PyProof.Rows.bubble (arrOf st) src d)[k]? =_;rw[getElem?_bubble c d b,mo (by lia),mo (by lia)]]
def qI{i j:Nat}(c:j<=a.size)(k:Nat):ky O key (mirror a i j ((j-i) / 2)) k=if i<=k/\k<j then ky O key a (i+j-1-k) else ky O key a k:=by
 have e:=getElem?_mirror_all (i:=i) c k
 by_cases b:i<=k/\k<j
 .rw[tz b] at e ⊢;exact iE e
 .rw[mo b] at e ⊢;exact iE e
def gu(c:j<=a.size)(b:∀k,i<=k->k<j->ky O key a k=ky O key a (j-1))(k:Nat):ky O key (mirror a i j ((j-i) / 2)) k=ky O key a k:=by
 rw[qI c]
 split
 .rw[b _ (by lia) (by lia),b k (by lia) (by lia)]
 .rfl
def xQ(f:src<a.size)(g:d<=src)(k:Nat):
  ky O key (bubble a src d) k=if k=src-d then ky O key a src else if src-d<k/\k<=src then ky O key a (k-1) else ky O key a k:=by
 have e:=getElem?_bubble f d g k
 by_cases b:k=src-d
 .rw[tz b] at e ⊢;exact iE e
 .rw[mo b] at e ⊢
  by_cases c:src-d<k/\k<=src
  .rw[tz c] at e ⊢;exact iE e
  .rw[mo c] at e ⊢;exact iE e
structure Ok (S:Keyed->Prop) (k0:SortKind) (st:SortSt):Prop where
 mem:∀p,p∈(arrOf st).toList->S p
 kind:kindOf st=k0
def Ok.step{lo b:Nat}(o:Ok S k0 bO)(a:gT bO st lo b):Ok S k0 st:=
 #[λp c=>o.mem p ((JV.mp a.perm).mem_iff.mp c),a.kind.trans o.kind]
def Ok.at{i:Nat}(o:Ok S k0 st)(a:i<(arrOf st).size):(arrOf st)[i]? =some ((arrOf st)[i]?.getD (.none, .none))/\S ((arrOf st)[i]?.getD (.none, .none)):=by
 have e:(arrOf st)[i]? =some (arrOf st)[i]:=aaJ _ i a;rw[e];exact#[rfl,o.mem _ (by simp)]
def ph(C:gS O key S k0 M A E s)(o:Ok S k0 st)(a:i<(arrOf st).size)(b:j<(arrOf st).size)
  (q:Q (some (O.blt (ky O key (arrOf st) i) (ky O key (arrOf st) j))) st):wpS M A E s (ltAt' i j) Q st:=by
 rw[ltAt'_eq];obtain⟨c,d⟩:=o.at a;obtain⟨e,f⟩:=o.at b;refine Do (aaQ (Do (bA c (Do (bA e (C _ _ _ _ d f o.kind q))))))
theorem wpS_binarySort(C:gS O key S k0 M A E s){lo n ok:Nat}{Q:Bool->SortSt->Prop}(o:Ok S k0 st)(X:lo+n<=(arrOf st).size)(hok:ok<=n)(F:jo O key (arrOf st) lo (lo+ok))
  (h:∀b,gT st b lo (lo+n)->jo O key (arrOf b) lo (lo+n)->Q true b):wpS M A E s (binarySort' lo n ok) Q st:=by
 rw[binarySort'_eq]
 refine wpS_bind (wpS_mono (wpS_forRange (I:=λk c b=>c=(none,())/\gT st b lo (lo+n)/\jo O key (arrOf b) lo (lo+min k n))
  (Q:=λc b=>c=(none,())/\gT st b lo (lo+n)/\jo O key (arrOf b) lo (lo+n)) ?step ?fin ?init) ?post)
 case post=>
  rintro c b ⟨rfl,f,e⟩;exact wpS_pure (h b f e)
 case init=>
  refine#[rfl, .refl _ _ _,λi j t y G=>?_]
  by_cases p:ok=0
  .have:i=j:=by lia
   subst this;exact KeyOrd.kle_refl _
  .exact F i j t y (by lia)
 case fin=>
  rintro c b ⟨H,f,e⟩;exists H,f
  rwa [show min (max (max ok 1) n) n=n by lia] at e
 case step=>
  rintro k c b J Y ⟨rfl,f,e⟩;rw[show min k n=k by lia] at e
  have L:=o.step f;have Z:=f.size;have q:lo+k<(arrOf b).size:=by lia
  refine wpS_bind (wpS_mono (wpS_forRange (I:=λx c d=>d=b/\∃l r,c=(none,l,r)/\l<=r/\r<=k/\r-l<=k-x/\
    (∀i,i<l->O.kle (ky O key (arrOf b) (lo+i)) (ky O key (arrOf b) (lo+k)))/\(∀i,r<=i->i<k->O.klt (ky O key (arrOf b) (lo+k)) (ky O key (arrOf b) (lo+i))))
   (Q:=λc d=>d=b/\∃l r,c=(none,l,r)/\l<=k/\
    (∀i,i<l->O.kle (ky O key (arrOf b) (lo+i)) (ky O key (arrOf b) (lo+k)))/\(∀i,l<=i->i<k->O.klt (ky O key (arrOf b) (lo+k)) (ky O key (arrOf b) (lo+i)))) ?istep ?ifin ?iinit) ?ipost)
  case iinit=>exact#[rfl,0,k,rfl,by lia,by lia,by lia,λi t=>by lia,λi p u=>by lia]
  case ifin=>
   rintro c d ⟨rfl,l,r,rfl,v,w,N,g,m⟩
   have:l=r:=by lia
   subst this;exact#[rfl,l,l,rfl,w,g,m]
  case istep=>
   rintro x c d _ P ⟨rfl,l,r,rfl,v,w,N,g,m⟩;dsimp only
   by_cases z:l>=r
   .rw[if_pos z]
    have:l=r:=by lia
    subst this;exact wpS_pure #[rfl,l,l,rfl,w,g,m]
   .rw[if_neg z]
    refine wpS_bind (ph C L q (by lia) ?_)
    cases B:O.blt (ky O key (arrOf d) (lo+k)) (ky O key (arrOf d) (lo+(l+r) / 2))
    case true=>
     simp only[if_true];refine wpS_pure #[rfl,l,(l+r) / 2,rfl,by lia,by lia,by lia,g,λi p u=>?_]
     exact KeyOrd.klt_of_klt_of_kle B (e _ _ (by lia) (by lia) (by lia))
    case false=>
     simp only[eZ,if_false];refine wpS_pure #[rfl,(l+r) / 2+1,r,rfl,by lia,by lia,by lia,λi p=>?_,m]
     exact KeyOrd.kle_trans (e (lo+i) (lo+(l+r) / 2) (by lia) (by lia) (by lia)) (show O.kle _ _ from B)
  case ipost=>
   rintro c d ⟨rfl,l,r,rfl,R,g,m⟩;show wpS _ _ _ _ (do moveDown' (lo+k) (lo+l);pure (ForInStep.yield (none,()))) _ _
   rw[moveDown'_eq];have ed:lo+k-(lo+l)=k-l:=by lia
   refine wpS_bind (wpS_modify (wpS_pure #[rfl,f.trans (gT.bubble (by lia) (by lia) (by lia) q),?_]))
   rw[show min (k+1) n=k+1 by lia]
   intro i j t y G;show O.kle (ky O key (bubble (arrOf d) (lo+k) (lo+k-(lo+l))) i) (ky O key (bubble (arrOf d) (lo+k) (lo+k-(lo+l))) j);rw[xQ q (by lia),xQ q (by lia),show lo+k-(lo+k-(lo+l))=lo+l by lia]
   have T:∀a,lo<=a->a<lo+l->O.kle (ky O key (arrOf d) a) (ky O key (arrOf d) (lo+k)):=λa p u=>by
    have:=g (a-lo) (by lia);rwa [show lo+(a-lo)=a by lia] at this
   have U:∀a,lo+l<=a->a<lo+k->O.klt (ky O key (arrOf d) (lo+k)) (ky O key (arrOf d) a):=λa p u=>by
    have:=m (a-lo) (by lia) (by lia);rwa [show lo+(a-lo)=a by lia] at this
   repeat' split
   all_goals first
    | (exfalso;lia)
    |exact KeyOrd.kle_refl _
    |exact T _ (by lia) (by lia)
    |exact KeyOrd.kle_of_klt (U _ (by lia) (by lia))
    |exact e _ _ (by lia) (by lia) (by lia)
end
def Ef(lo a d:Nat):StateT SortSt Sem AscSt:=
 forIn [a:d] ((none,a):AscSt) λ_ b=>do
  let c <-ltAt' (lo+b.snd) (lo+b.snd-1)
  match c with
  |some e=>if e=true then pure (ForInStep.done (none,b.snd)) else pure (ForInStep.yield (none,b.snd+1))
  |_=>pure (ForInStep.done (some none,b.snd))
def tailL(lo n b:Nat):StateT SortSt Sem (Option Nat):=do
 reverseSlice' lo (lo+n)
 let a <-Ef lo n b
 match a.fst with
 |some r=>pure r
 |none=>pure (some a.snd)
def BB(lo n c:Nat):StateT SortSt Sem DescSt:=
 forIn [n:c] ((none,n,0):DescSt) λ_ a=>do
  let b <-ltAt' (lo+a.snd.fst) (lo+a.snd.fst-1)
  match b with
  |some d=>
   if d=true then
    if a.snd.snd>0 then do
     reverseSlice' (lo+a.snd.fst-(a.snd.snd+1)) (lo+a.snd.fst)
     pure (ForInStep.yield (none,a.snd.fst+1,0))
    else pure (ForInStep.yield (none,a.snd.fst+1,0))
   else do
    let b <-ltAt' (lo+a.snd.fst-1) (lo+a.snd.fst)
    match b with
    |some e=>
     if e=true then pure (ForInStep.done (none,a.snd.fst,a.snd.snd))
     else pure (ForInStep.yield (none,a.snd.fst+1,a.snd.snd+1))
    |_=>pure (ForInStep.done (some none,a.snd.fst,a.snd.snd))
  |_=>pure (ForInStep.done (some none,a.snd.fst,a.snd.snd))
def descP(lo n b:Nat):StateT SortSt Sem (Option Nat):=do
 liftM (rule "list.sort.descending-run")
 let a <-BB lo (n+1) b
 match a.fst with
 |some r=>pure r
 |none=>
  if a.snd.snd>0 then do
   reverseSlice' (lo+a.snd.fst-(a.snd.snd+1)) (lo+a.snd.fst)
   tailL lo a.snd.fst b
  else tailL lo a.snd.fst b
theorem zA(lo c:Nat):countRun' lo c=(do
  let a <-Ef lo 1 c
  match a.fst with
  |some r=>pure r
  |none=>
   if (a.snd==c)=true then pure (some a.snd)
   else if a.snd>1 then do
    let e <-ltAt' lo (lo+a.snd-1)
    match e with
    |some g=>if g=true then pure (some a.snd) else do
      reverseSlice' lo (lo+a.snd)
      descP lo a.snd c
    |_=>pure none
   else descP lo a.snd c):=by
 rw[countRun'_eq];dsimp only;unfold descP tailL BB Ef
 congr 1
 funext a
 obtain⟨r,n⟩:=a;cases r with
 |some r=>rfl
 |none=>
  dsimp only
  split
  .rfl
  .split
   .congr 1
    funext x
    cases x with
    |none=>rfl
    |some g=>
     dsimp only
     split
     .rfl
     .congr 1
      funext _r
      (congr 1;funext _u;congr 1;congr 1;funext s2;obtain⟨d,h,i⟩:=s2;cases d with
 |some d=>rfl
 |none=>(dsimp only;split;(congr 1;funext _v;(congr 1;funext _w;congr 1;(funext s3;obtain⟨b,f⟩:=s3;cases b<;>rfl)));(congr 1;funext _w;congr 1;(funext s3;obtain⟨b,f⟩:=s3;cases b<;>rfl))))
   ·(congr 1;funext _u;congr 1;congr 1;funext s2;obtain⟨d,h,i⟩:=s2;cases d with
 |some d=>rfl
 |none=>(dsimp only;split;(congr 1;funext _v;(congr 1;funext _w;congr 1;(funext s3;obtain⟨b,f⟩:=s3;cases b<;>rfl)));(congr 1;funext _w;congr 1;(funext s3;obtain⟨b,f⟩:=s3;cases b<;>rfl))))
section
variable {O:KeyOrd} {key:Keyed->O.α} {S:Keyed->Prop} {k0:SortKind} {prog:Program} {w:World} {A:Around} {E:Value->Shared->Prop} {s:Shared} {st bO:SortSt}
def AY(C:gS O key S k0 (model prog w) A E s){lo a b:Nat}{Q:AscSt->SortSt->Prop}(o:Ok S k0 st)(v:lo+b<=(arrOf st).size)(y:1<=a)(f:a<=b)(l:jo O key (arrOf st) lo (lo+a))
  (h:∀n,a<=n->n<=b->jo O key (arrOf st) lo (lo+n)->(n=b\/O.klt (ky O key (arrOf st) (lo+n)) (ky O key (arrOf st) (lo+n-1)))->Q (none,n) st):
  wpS (model prog w) A E s (Ef lo a b) Q st:=by
 unfold Ef;refine P3 (I:=λx c e=>e=st/\c=(none,x)/\jo O key (arrOf st) lo (lo+x)) ?step ?fin #[rfl,rfl,l]
 case fin=>
  rintro c e ⟨rfl,rfl,d⟩;rw[show max a b=b by lia] at d ⊢
  exact h b f (bJ _) d (.inl rfl)
 case step=>
  rintro x c e m p ⟨rfl,rfl,d⟩;dsimp only;refine Do (ph C o (by lia) (by lia) ?_)
  cases g:O.blt (ky O key (arrOf e) (lo+x)) (ky O key (arrOf e) (lo+x-1))
  case true=>
   simp only[aax];exact FM (h x m (by lia) d (.inr g))
  case false=>
   simp only[eZ,Os];refine FM #[rfl,rfl,λi j k q z=>?_]
   by_cases r:j<lo+x
   .exact d i j k q r
   .have t:j=lo+x:=by lia
    subst t
    by_cases u:i=lo+x
    .subst u;exact UF _
    .exact KF (d i (lo+x-1) k (by lia) (by lia)) g
def tT(h:Q () (setArr st (mirror (arrOf st) i j ((j-i) / 2)))):wpS (model prog w) A E s (reverseSlice' i j) Q st:=by
 rw[reverseSlice'_eq];exact aa2 h
def yU(C:gS O key S k0 (model prog w) A E s){lo n a:Nat}{Q:Option Nat->SortSt->Prop}(o:Ok S k0 st)(f:lo+a<=(arrOf st).size)(g:1<=n)(k:n<=a)(l:J3 O key (arrOf st) lo (lo+n))
  (h:∀m b,gT st b lo (lo+a)->1<=m->m<=a->jo O key (arrOf b) lo (lo+m)->Q (some m) b):wpS (model prog w) A E s (tailL lo n a) Q st:=by
 unfold tailL;have c:lo+n<=(arrOf st).size:=by lia
 refine Do (tT ?_);have d:gT st (setArr st (mirror (arrOf st) lo (lo+n) ((lo+n-lo) / 2))) lo (lo+a):=gT.mirror (bJ _) (by lia) c
 refine Do (AY C (o.step d) (by rw[d.size];exact f) g k ?_ λm q p e _=>FM (h m _ d (by lia) p e))
 intro i j r t u;show O.kle (ky O key (mirror (arrOf st) lo (lo+n) ((lo+n-lo) / 2)) i) (ky O key (mirror (arrOf st) lo (lo+n) ((lo+n-lo) / 2)) j);rw[qI c,qI c,tz (by lia),tz (by lia)]
 exact l _ _ (by lia) (by lia) (by lia)
def II(C:gS O key S k0 (model prog w) A E s){lo n d:Nat}{Q:DescSt->SortSt->Prop}(o:Ok S k0 st)(Y:lo+d<=(arrOf st).size)(p:1<=n)(P:n<=d)(R:J3 O key (arrOf st) lo (lo+n))
  (h:∀m b a,gT st a lo (lo+d)->n<=m->m<=d->J3 O key (arrOf a) lo (lo+m)->b+1<=m->(∀i,lo+m-(b+1)<=i->i<lo+m->ky O key (arrOf a) i=ky O key (arrOf a) (lo+m-1))->Q (none,m,b) a):
  wpS (model prog w) A E s (BB lo n d) Q st:=by
 unfold BB
 refine P3 (I:=λx c a=>∃b,c=(none,x,b)/\gT st a lo (lo+d)/\J3 O key (arrOf a) lo (lo+x)/\b+1<=x/\
   (∀i,lo+x-(b+1)<=i->i<lo+x->ky O key (arrOf a) i=ky O key (arrOf a) (lo+x-1))) ?step ?fin #[0,rfl, .refl _ _ _,R,by lia,λi p r=>by congr 1;lia]
 case fin=>
  rintro c a ⟨b,rfl,e,f,q,g⟩;rw[show max n d=d by lia] at f q g ⊢
  exact h d b a e P (bJ _) f q g
 case step=>
  rintro x c a Z T ⟨b,rfl,e,f,q,g⟩;dsimp only;have F:=o.step e;have hz:=e.size;have G:lo+x<=(arrOf a).size:=by lia
  refine Do (ph C F (by lia) (by lia) ?_)
  cases H:O.blt (ky O key (arrOf a) (lo+x)) (ky O key (arrOf a) (lo+x-1))
  case true=>
   simp only[aax]
   have J:∀t:Array Keyed,(∀k,ky O key t k=ky O key (arrOf a) k)->J3 O key t lo (lo+(x+1)):=by
    intro t L i j l u U;rw[L,L]
    by_cases v:j<lo+x
    .exact f i j l u v
    .have y:j=lo+x:=by lia
     subst y
     by_cases z:i=lo+x
     .subst z;exact UF _
     .exact KF (Pv H) (f i (lo+x-1) l (by lia) (by lia))
   by_cases M:b>0
   .rw[tz M]
    refine Do (tT (FM #[0,rfl,e.trans (gT.mirror (by lia) (by lia) G),J _ (gu G g),by lia,λi p r=>by congr 1;lia]))
   .rw[mo M]
    exact FM #[0,rfl,e,J _ (λ_=>rfl),by lia,λi p r=>by congr 1;lia]
  case false=>
   simp only[eZ,Os];refine Do (ph C F (by lia) (by lia) ?_)
   cases X:O.blt (ky O key (arrOf a) (lo+x-1)) (ky O key (arrOf a) (lo+x))
   case true=>
    simp only[aax];exact FM (h x b a e (by lia) (by lia) f q g)
   case false=>
    simp only[eZ,Os];have N:ky O key (arrOf a) (lo+x)=ky O key (arrOf a) (lo+x-1):=O.total _ _ H X;refine FM #[b+1,rfl,e,λi j l u U=>?_,by lia,λi p r=>?_]
    .by_cases v:j<lo+x
     .exact f i j l u v
     .have y:j=lo+x:=by lia
      subst y
      by_cases z:i=lo+x
      .subst z;exact UF _
      .rw[N];exact f i (lo+x-1) l (by lia) (by lia)
    .rw[show lo+(x+1)-1=lo+x by lia]
     by_cases B:i=lo+x
     .subst B;rfl
     .rw[N];exact g i (by lia) (by lia)
def yN(C:gS O key S k0 (model prog w) A E s){lo n b:Nat}{Q:Option Nat->SortSt->Prop}(o:Ok S k0 st)(u:lo+b<=(arrOf st).size)(v:n+1<=b)(x:J3 O key (arrOf st) lo (lo+(n+1)))
  (h:∀m a,gT st a lo (lo+b)->1<=m->m<=b->jo O key (arrOf a) lo (lo+m)->Q (some m) a):wpS (model prog w) A E s (descP lo n b) Q st:=by
 unfold descP;refine Do (aba (aaL #[rfl,?_]));refine Do (II C o u (by lia) v x λm d a c F p q G r=>?_)
 dsimp only;have H:=c.size;have e:lo+m<=(arrOf a).size:=by lia
 by_cases t:d>0
 .rw[tz t]
  have f:gT a (setArr a (mirror (arrOf a) (lo+m-(d+1)) (lo+m) ((lo+m-(lo+m-(d+1))) / 2))) lo (lo+b):=gT.mirror (by lia) (by lia) e
  refine Do (tT (yU C (o.step (c.trans f)) (by rw[f.size];lia) (by lia) p ?_ λg k l=>h g k ((c.trans f).trans l)))
  intro i j y z B;show O.kle (ky O key (mirror (arrOf a) _ _ _) j) (ky O key (mirror (arrOf a) _ _ _) i);rw[gu e r,gu e r];exact q i j y z B
 .rw[mo t]
  exact yU C (o.step c) (by lia) (by lia) p q λg k l=>h g k (c.trans l)
def wpS_countRun(C:gS O key S k0 (model prog w) A E s){lo a:Nat}{Q:Option Nat->SortSt->Prop}(o:Ok S k0 st)(v:lo+a<=(arrOf st).size)(I:1<=a)
  (h:∀m e,gT st e lo (lo+a)->1<=m->m<=a->jo O key (arrOf e) lo (lo+m)->Q (some m) e):wpS (model prog w) A E s (countRun' lo a) Q st:=by
 rw[zA];refine Do (AY C o v (bJ 1) I (λi j c x y=>by have:i=j:=(by lia);subst this;exact UF _) λn z B d f=>?_)
 dsimp only
 by_cases g:n=a
 .rw[tz (by simpa using g)]
  exact FM (h n st (.refl _ _ _) z B d)
 .rw[mo (by simpa using g)]
  have F:O.klt (ky O key (arrOf st) (lo+n)) (ky O key (arrOf st) (lo+n-1)):=f.resolve_left g
  by_cases G:n>1
  .rw[tz G]
   refine Do (ph C o (by lia) (by lia) ?_)
   cases J:O.blt (ky O key (arrOf st) lo) (ky O key (arrOf st) (lo+n-1))
   case true=>
    simp only[aax];exact FM (h n st (.refl _ _ _) z B d)
   case false=>
    simp only[eZ,Os];have l:lo+n<=(arrOf st).size:=by lia
    have b:∀k,lo<=k->k<lo+n->ky O key (arrOf st) k=ky O key (arrOf st) (lo+n-1):=by
     intro k H L;have M:=d lo k (by lia) H L
     have N:=d k (lo+n-1) H (by lia) (by lia)
     exact KeyOrd.kle_antisymm N (KF J M)
    have p:gT st (setArr st (mirror (arrOf st) lo (lo+n) ((lo+n-lo) / 2))) lo (lo+a):=gT.mirror (bJ _) (by lia) l
    refine Do (tT (yN C (o.step p) (by rw[p.size];lia) (by lia) ?_ λP R T=>h P R (p.trans T)))
    intro i j c x y;show O.kle (ky O key (mirror (arrOf st) _ _ _) j) (ky O key (mirror (arrOf st) _ _ _) i);rw[gu l b,gu l b]
    by_cases q:j<lo+n
    .rw[b i c (by lia),b j (by lia) q];exact UF _
    .have U:j=lo+n:=by lia
     subst U
     by_cases r:i=lo+n
     .subst r;exact UF _
     .rw[b i c (by lia)];exact Pv F
  .rw[mo G]
   have X:n=1:=by lia
   subst X;refine yN C o v (by lia) ?_ h
   intro i j c x y
   by_cases r:i=j
   .subst r;exact UF _
   .have t:i=lo:=by lia
    have u:j=lo+1:=by lia
    subst t;subst u;exact Pv F
end
section lists
variable (O:KeyOrd) (key:Keyed->O.α)
def LE(x y:Keyed):Prop:=O.kle (key x) (key y)
structure MI (l o ra rb:List Keyed):Prop where
 perm:(o++(ra++rb)).Perm l
 so:o.Pairwise (LE O key)
 sa:ra.Pairwise (LE O key)
 sb:rb.Pairwise (LE O key)
 le:∀x∈o,∀y∈ra++rb,LE O key x y
def Res(l r:List Keyed):Prop:=r.Perm l/\r.Pairwise (LE O key)
variable {O key}
def MI.l9{l o xs e b:List Keyed}(m:MI O key l o (xs++e) b)(h:∀x∈xs,∀y∈b,LE O key x y):MI O key l (o++xs) e b:=by
 obtain⟨f,g,c⟩:=vg.mp m.sa;refine#[by simpa [kM] using m.perm,vg.mpr #[m.so,f,λx d y a=>m.le x d y (by simp[a])],g,m.sb,λx d y a=>?_]
 rcases dh.mp d with z|z
 .refine m.le x z y ?_
  rcases dh.mp a with u|u<;>simp[u]
 .rcases dh.mp a with u|u
  .exact c x z y u
  .exact h x z y u
def MI.swap(m:MI O key l o a b):MI O key l o b a:=
 #[(List.Perm.append_left o List.perm_append_comm).trans m.perm,m.so,m.sb,m.sa,λx c y d=>m.le x c y (by rcases dh.mp d with u|u<;>simp[u])]
def MI.me{l o xs a b:List Keyed}(m:MI O key l o a (xs++b))(h:∀x∈xs,∀y∈a,LE O key x y):MI O key l (o++xs) a b:=(m.swap.l9 h).swap
def MI.EE(m:MI O key l o a []):Res O key l (o++a):=
 #[by simpa using m.perm,vg.mpr #[m.so,m.sa,λx b y c=>m.le x b y (by simp[c])]]
def MI.CA(m:MI O key l o a b)(h:∀y∈b,∀x∈a,LE O key y x):Res O key l (o++b++a):=by
 have c:MI O key l o a (b++ []):=by rw[fI];exact m
 exact(c.me h).EE
end lists
def CG(a b:Array Keyed)(h e f d:Nat)(out:Array Keyed)(g:Nat):StateT SortSt Sem (ForInStep (Option (Array Keyed)×Array Keyed×Nat×Nat×Nat×Nat×Nat)):=do
 let c <-elem' a d
 let out:Array Keyed:=out.push c
 let d:Nat:=d+1
 if (d+1==a.size)=true then pure (ForInStep.done (some (out++b.extract g b.size++a.extract d a.size),out,d,g,h,e,f))
 else if (decide (e<7)&&decide (f<7))=true then pure (ForInStep.done (none,out,d,g,h,e,f))
 else pure (ForInStep.yield (none,out,d,g,h,e,f))
def uu(a b:Array Keyed)(f g i d:Nat)(out:Array Keyed)(e:Nat):StateT SortSt Sem (ForInStep (Option (Array Keyed)×Array Keyed×Nat×Nat×Nat×Nat×Nat)):=do
 let c <-elem' b d
 let out:Array Keyed:=out.push c
 let d:Nat:=d+1
 if (d==b.size)=true then pure (ForInStep.done (some (out++a.extract e a.size++b.extract d b.size),out,e,d,f,g,i))
 else do
  let c <-elem' a e
  let h <-fe true c b d (b.size-d) 0
  match h with
  |some k=>
   if k>0 then
    if (d+k==b.size)=true then pure (ForInStep.done (some (out++b.extract d (d+k)++a.extract e a.size++b.extract (d+k) b.size),out++b.extract d (d+k),e,d+k,f,g,k))
    else CG a b f g k e (out++b.extract d (d+k)) (d+k)
   else CG a b f g k e out d
  |_=>pure (ForInStep.done (some (out++a.extract e a.size++b.extract d b.size),out,e,d,f,g,i))
def qK(a b:Array Keyed)(g i c e:Nat)(out:Array Keyed)(f:Nat):StateT SortSt Sem (ForInStep (Option (Array Keyed)×Array Keyed×Nat×Nat×Nat×Nat×Nat)):=do
 setMinGallop' f
 let d <-elem' b e
 let h <-fe false d a c (a.size-c) 0
 match h with
 |some k=>
  if k>0 then
   if (c+k+1==a.size)=true then pure (ForInStep.done (some (out++a.extract c (c+k)++b.extract e b.size++a.extract (c+k) a.size),out++a.extract c (c+k),c+k,e,f,k,g))
   else if (c+k==a.size)=true then pure (ForInStep.done (some (out++a.extract c (c+k)++a.extract (c+k) a.size++b.extract e b.size),out++a.extract c (c+k),c+k,e,f,k,g))
   else uu a b f k g e (out++a.extract c (c+k)) (c+k)
  else uu a b f k g e out c
 |_=>pure (ForInStep.done (some (out++a.extract c a.size++b.extract e b.size),out,c,e,f,i,g))
def CI(a b:Array Keyed)(c:Option (Array Keyed)×Array Keyed×Nat×Nat×Nat×Nat×Nat):StateT SortSt Sem (ForInStep (Option (Array Keyed)×Array Keyed×Nat×Nat×Nat×Nat×Nat)):=
 if c.2.2.2.2.1>1 then qK a b c.2.2.2.2.2.2 c.2.2.2.2.2.1 c.2.2.1 c.2.2.2.1 c.2.1 (c.2.2.2.2.1-1) else qK a b c.2.2.2.2.2.2 c.2.2.2.2.2.1 c.2.2.1 c.2.2.2.1 c.2.1 c.2.2.2.2.1
def CH(a b:Array Keyed)(e:Nat)(c:Option (Array Keyed)×Array Keyed×Nat×Nat×Nat×Nat):StateT SortSt Sem (ForInStep (Option (Array Keyed)×Array Keyed×Nat×Nat×Nat×Nat)):=do
 let y <-elem' b c.2.2.2.1
 let x <-elem' a c.2.2.1
 let d <-lt' y x
 match d with
 |some f=>
  if f=true then do
   let y <-elem' b c.2.2.2.1
   if (c.2.2.2.1+1==b.size)=true then pure (ForInStep.done (some (c.2.1.push y++a.extract c.2.2.1 a.size++b.extract (c.2.2.2.1+1) b.size),c.2.1.push y,c.2.2.1,c.2.2.2.1+1,0,c.2.2.2.2.2+1))
   else if c.2.2.2.2.2+1>=e then pure (ForInStep.done (none,c.2.1.push y,c.2.2.1,c.2.2.2.1+1,0,c.2.2.2.2.2+1))
   else pure (ForInStep.yield (none,c.2.1.push y,c.2.2.1,c.2.2.2.1+1,0,c.2.2.2.2.2+1))
  else do
   let x <-elem' a c.2.2.1
   if (c.2.2.1+1+1==a.size)=true then pure (ForInStep.done (some (c.2.1.push x++b.extract c.2.2.2.1 b.size++a.extract (c.2.2.1+1) a.size),c.2.1.push x,c.2.2.1+1,c.2.2.2.1,c.2.2.2.2.1+1,0))
   else if c.2.2.2.2.1+1>=e then pure (ForInStep.done (none,c.2.1.push x,c.2.2.1+1,c.2.2.2.1,c.2.2.2.2.1+1,0))
   else pure (ForInStep.yield (none,c.2.1.push x,c.2.2.1+1,c.2.2.2.1,c.2.2.2.2.1+1,0))
 |_=>pure (ForInStep.done (some (c.2.1++a.extract c.2.2.1 a.size++b.extract c.2.2.2.1 b.size),c.2.1,c.2.2.1,c.2.2.2.1,c.2.2.2.2.1,c.2.2.2.2.2))
def sT(a b:Array Keyed)(f:Option (Array Keyed)×Array Keyed×Nat×Nat×Nat):StateT SortSt Sem (ForInStep (Option (Array Keyed)×Array Keyed×Nat×Nat×Nat)):=do
 let e <-forIn [0:a.size+b.size] (none,f.2.1,f.2.2.1,f.2.2.2.1,0,0) λ_ c=>CH a b f.2.2.2.2 c
 match e.1 with
 |some r=>pure (ForInStep.done (some r,e.2.1,e.2.2.1,e.2.2.2.1,f.2.2.2.2))
 |none=>do
  liftM (rule "list.sort.gallop")
  let d <-forIn [0:a.size+b.size] (none,e.2.1,e.2.2.1,e.2.2.2.1,f.2.2.2.2+1,e.2.2.2.2.1,e.2.2.2.2.2) λ_ c=>CI a b c
  match d.1 with
  |some r=>pure (ForInStep.done (some r,d.2.1,d.2.2.1,d.2.2.2.1,d.2.2.2.2.1))
  |none=>do
   setMinGallop' (d.2.2.2.2.1+1)
   pure (ForInStep.yield (none,d.2.1,d.2.2.1,d.2.2.2.1,d.2.2.2.2.1+1))
def dz{b d:Type}{m c:StateT SortSt Sem b}{f a:b->StateT SortSt Sem d}(h:m=c)(g:∀x,f x=a x):m>>=f=c>>=a:=by rw[h,show f=a from funext g]
def BJ{a:Type}{n:Nat}{d:a}{f b:Nat->a->StateT SortSt Sem (ForInStep a)}(h:∀i c,f i c=b i c):forIn [0:n] d f=forIn [0:n] d b:=by rw[show f=b from funext λi=>funext (h i)]
def fE [Decidable c] (h:c->x=a) (g:¬c->y=b):(if c then x else y)=if c then a else b:=by
 by_cases e:c
 .rw[tz e,tz e];exact h e
 .rw[mo e,mo e];exact g e
def zP(a b:Array Keyed):pJ a b=(do
 rule "list.sort.merge-lo"
 let total:=a.size+b.size
 let done (out:Array Keyed) (c d:Nat):=out++a.extract c a.size++b.extract d b.size
 let e (out:Array Keyed) (c d:Nat):=out++b.extract d b.size++a.extract c a.size
 let mut out:Array Keyed:= [<-elem' b 0].toArray
 let mut c:=0
 let mut d:=1
 if d==b.size then return done out c d
 if c+1==a.size then return e out c d
 let mut minGallop:=gallopOf (<-get)
 for _ in [0:total] do
  let mut acount:=0
  let mut bcount:=0
  for _ in [0:total] do
   let some Gw <-lt' (<-elem' b d) (<-elem' a c) |return done out c d
   if Gw then
    out:=out.push (<-elem' b d);d:=d+1;bcount:=bcount+1;acount:=0
    if d==b.size then return done out c d
    if bcount>=minGallop then break
   else
    out:=out.push (<-elem' a c);c:=c+1;acount:=acount+1;bcount:=0
    if c+1==a.size then return e out c d
    if acount>=minGallop then break
  rule "list.sort.gallop"
  minGallop:=minGallop+1
  for _ in [0:total] do
   if minGallop>1 then minGallop:=minGallop-1
   setMinGallop' minGallop
   let some k <-fe false (<-elem' b d) a c (a.size-c) 0|return done out c d
   acount:=k
   if k>0 then
    out:=out++a.extract c (c+k);c:=c+k
    if c+1==a.size then return e out c d
    if c==a.size then return done out c d
   out:=out.push (<-elem' b d);d:=d+1
   if d==b.size then return done out c d
   let some k <-fe true (<-elem' a c) b d (b.size-d) 0|return done out c d
   bcount:=k
   if k>0 then
    out:=out++b.extract d (d+k);d:=d+k
    if d==b.size then return done out c d
   out:=out.push (<-elem' a c);c:=c+1
   if c+1==a.size then return e out c d
   if acount<7&&bcount<7 then break
  minGallop:=minGallop+1
  setMinGallop' minGallop
 unsupported "internal:list.sort.merge-bound"):=rfl
theorem CN(a b:Array Keyed):pJ a b=(do
 liftM (rule "list.sort.merge-lo")
 let y <-elem' b 0
 if (1==b.size)=true then pure ([y].toArray++a.extract 0 a.size++b.extract 1 b.size)
 else if (0+1==a.size)=true then pure ([y].toArray++b.extract 1 b.size++a.extract 0 a.size)
 else do
  let d <-get
  let e <-forIn [0:a.size+b.size] (none, [y].toArray,0,1,gallopOf d) λ_ c=>sT a b c
  match e.1 with
  |some r=>pure r
  |none=>liftM (unsupported (α:=Array Keyed) "internal:list.sort.merge-bound")):=by
 rw[zP];dsimp only;refine dz rfl λ_=>dz rfl λy=>?_;refine GE (ite _ _) (GE (ite _ _) ?_);refine dz rfl λg=>dz (BJ λ_ c=>?_) λu=>?_
 .unfold sT
  refine dz (BJ λ_ t=>?_) λt=>?_
  .unfold CH
   refine dz rfl λ_=>dz rfl λ_=>dz rfl λz=>?_;cases z<;>rfl
  .obtain⟨i,l⟩:=t
   cases i with
   |some r=>rfl
   |none=>
    dsimp only;refine dz rfl λ_=>dz (BJ λ_ u=>?_) λu=>?_
    .unfold CI
     have m:∀h,qK a b u.2.2.2.2.2.2 u.2.2.2.2.2.1 u.2.2.1 u.2.2.2.1 u.2.1 h=qK a b u.2.2.2.2.2.2 u.2.2.2.2.2.1 u.2.2.1 u.2.2.2.1 u.2.1 h:=λ_=>rfl;refine fE (λ_=>?_) (λ_=>?_)
     all_goals
      unfold qK;refine dz rfl λ_=>dz rfl λ_=>dz rfl λz=>?_;cases z with
      |none=>rfl
      |some k=>
       dsimp only;refine fE (λ_=>?_) (λ_=>?_)
       .refine fE (λ_=>rfl) (λ_=>fE (λ_=>rfl) (λ_=>?_))
        unfold uu;refine dz rfl λ_=>fE (λ_=>rfl) (λ_=>dz rfl λ_=>dz rfl λz=>?_);cases z with
        |none=>rfl
        |some k=>rfl
       .unfold uu
        refine dz rfl λ_=>fE (λ_=>rfl) (λ_=>dz rfl λ_=>dz rfl λz=>?_);cases z with
        |none=>rfl
        |some k=>rfl
    .obtain⟨f,j⟩:=u
     cases f<;>rfl
 .obtain⟨f,j⟩:=u
  cases f<;>rfl
structure GS (st au:SortSt):Prop where
 arr:arrOf au=arrOf st
 kind:kindOf au=kindOf st
 failed:failedOf au=failedOf st
 pend:pendingOf au=pendingOf st
def GS.refl(st:SortSt):GS st st:=#[rfl,rfl,rfl,rfl]
theorem GS.trans(x:GS a b)(y:GS b c):GS a c:=#[y.arr.trans x.arr,y.kind.trans x.kind,y.failed.trans x.failed,y.pend.trans x.pend]
def tM(g:Nat):setMinGallop' g=modify λs=>SortSt.mk' (kindOf s) (arrOf s) (pendingOf s) g (failedOf s):=rfl
def ext_toList(a:Array Keyed)(i j:Nat):(a.extract i j).toList=(a.toList.drop i).take (j-i):=by
 rw[Array.toList_extract]
def lB(a:Array Keyed)(i:Nat):(a.extract i a.size).toList=a.toList.drop i:=by
 rw[ext_toList,vf (by simp)]
def drop_cons{xs:Array Keyed}(h:xs[i]? =some x):xs.toList.drop i=x::xs.toList.drop (i+1):=by
 have a:xs.toList[i]? =some x:=by rw[<-h];simp
 obtain⟨b,e⟩:=dm.mp a;rw[qm b,e]
def nB(l:List Keyed)(i k:Nat):l.drop i=(l.drop i).take k++l.drop (i+k):=by
 rw[<-List.drop_drop,lN]
def eQ{l:List Keyed}{i k:Nat}{x:Keyed}(h:x∈(l.drop i).take k):∃j,j<k/\i+j<l.length/\l[i+j]? =some x:=by
 obtain⟨j,a⟩:=tU h;rw[List.getElem?_take] at a
 split at a
 .rename_i c
  rw[yX] at a;exact#[j,c,(dm.mp a).1,a]
 .cases a
def gL{l:List Keyed}{i:Nat}{x:Keyed}(h:x∈l.drop i):∃j,i+j<l.length/\l[i+j]? =some x:=by
 obtain⟨j,a⟩:=tU h;rw[yX] at a;exact#[j,(dm.mp a).1,a]
section
variable {O:KeyOrd} {key:Keyed->O.α} {S:Keyed->Prop} {k0:SortKind} {M:Model} {A:Around} {E:Value->Shared->Prop} {s:Shared} {st bO:SortSt}
def pU(h:∀a,GS st a->Q () a):wpS M A E s (setMinGallop' g) Q st:=by
 rw[tM];exact aa2 (h _ #[rfl,rfl,rfl,rfl])
structure mY (O:KeyOrd) (key:Keyed->O.α) (S:Keyed->Prop) (a b:Array Keyed):Prop where
 ma:∀x∈a.toList,S x
 mb:∀x∈b.toList,S x
 sa:a.toList.Pairwise (LE O key)
 sb:b.toList.Pairwise (LE O key)
 na:1<=a.size
 nb:1<=b.size
 first:∀y,b[0]? =some y->∀x∈a.toList,LE O key y x
 last:∀x,a[a.size-1]? =some x->∀y∈b.toList,LE O key y x
def mY.CA(T:mY O key S a b)(h:c+1=a.size):∀y∈b.toList.drop d,∀x∈a.toList.drop c,LE O key y x:=λy f x g=>by
 obtain⟨j,i,e⟩:=gL g;rw[fZ] at i
 have:c+j=a.size-1:=by lia
 rw[this] at e;exact T.last x (by rw[<-e];simp) y (List.mem_of_mem_drop f)
def fX{l:List Keyed}(h:l.Pairwise (LE O key)){i j:Nat}{x y:Keyed}(k:i<=j)(b:l[i]? =some x)(a:l[j]? =some y):LE O key x y:=by
 by_cases e:i=j
 .subst e
  rw[b] at a;cases a;exact UF _
 .obtain⟨c,d⟩:=dm.mp b
  obtain⟨f,g⟩:=dm.mp a;rw[<-d,<-g];exact Gd.mp h i j c f (by lia)
def pS{xs:Array Keyed}(m:∀x∈xs.toList,S x){i n:Nat}(h:i+n<=xs.size):Seg S xs i n (λj=>xs[i+j]?.getD (.none, .none)):=
 #[λj a=>by
  have:i+j<xs.size:=by lia
  rw[aaJ xs (i+j) this];rfl,λj a=>by
  have:i+j<xs.size:=by lia
  rw[aaJ xs (i+j) this];exact m _ (by simp)]
def bF{xs:Array Keyed}{i:Nat}(h:i<xs.size):∃x,xs[i]? =some x/\x∈xs.toList/\xs.toList[i]? =some x:=by
 refine#[xs[i],aaJ xs i h,by simp,?_]
 rw[f9];exact aaJ xs i h
def lF{a:Array Keyed}{i:Nat}{x:Keyed}(h:a[i]? =some x):a.toList[i]? =some x:=by rw[f9];exact h
def kr{a:Array Keyed}{i:Nat}{x:Keyed}(h:a.toList[i]? =some x):a[i]? =some x:=by rw[<-f9];exact h
structure IV (O:KeyOrd) (key:Keyed->O.α) (a b out:Array Keyed) (ia ib:Nat):Prop where
 mi:MI O key (a.toList++b.toList) out.toList (a.toList.drop ia) (b.toList.drop ib)
 ha:ia<a.size
 hb:ib<b.size
def IV.uB{a b out:Array Keyed}(v:MI O key (a.toList++b.toList) out.toList (a.toList.drop c) (b.toList.drop d))(e:b[d]? =some y)(h:∀x∈a.toList.drop c,LE O key y x):
  MI O key (a.toList++b.toList) (out.push y).toList (a.toList.drop c) (b.toList.drop (d+1)):=by
 rw[drop_cons e] at v;rw[A4];exact MI.me (xs:= [y]) v λx f=>by rw[dD.mp f];exact h
def IV.uA{a b out:Array Keyed}(v:MI O key (a.toList++b.toList) out.toList (a.toList.drop c) (b.toList.drop d))(e:a[c]? =some x)(h:∀y∈b.toList.drop d,LE O key x y):
  MI O key (a.toList++b.toList) (out.push x).toList (a.toList.drop (c+1)) (b.toList.drop d):=by
 rw[drop_cons e] at v;rw[A4];exact MI.l9 (xs:= [x]) v λx e=>by rw[dD.mp e];exact h
theorem IV.me{a b out:Array Keyed}(v:MI O key (a.toList++b.toList) out.toList (a.toList.drop d) (b.toList.drop c))(h:∀y∈(b.toList.drop c).take k,∀x∈a.toList.drop d,LE O key y x):
  MI O key (a.toList++b.toList) (out++b.extract c (c+k)).toList (a.toList.drop d) (b.toList.drop (c+k)):=by
 rw[nB b.toList c k] at v;rw[jk,ext_toList,show c+k-c=k by lia]
 exact MI.me v h
theorem IV.l9{a b out:Array Keyed}(v:MI O key (a.toList++b.toList) out.toList (a.toList.drop c) (b.toList.drop d))(h:∀x∈(a.toList.drop c).take k,∀y∈b.toList.drop d,LE O key x y):
  MI O key (a.toList++b.toList) (out++a.extract c (c+k)).toList (a.toList.drop (c+k)) (b.toList.drop d):=by
 rw[nB a.toList c k] at v;rw[jk,ext_toList,show c+k-c=k by lia]
 exact MI.l9 v h
def IV.ua{a b out:Array Keyed}(v:MI O key (a.toList++b.toList) out.toList (a.toList.drop d) (b.toList.drop c))(h:c=b.size):Res O key (a.toList++b.toList) (out++a.extract d a.size++b.extract c b.size).toList:=by
 have e:b.toList.drop c= []:=Ge (by rw[fZ];lia)
 rw[jk,jk,lB,lB,e,fI];rw[e] at v;exact v.EE
def IV.t9{a b out:Array Keyed}(v:MI O key (a.toList++b.toList) out.toList (a.toList.drop c) (b.toList.drop d))(h:c=a.size):Res O key (a.toList++b.toList) (out++a.extract c a.size++b.extract d b.size).toList:=by
 have e:a.toList.drop c= []:=Ge (by rw[fZ];lia)
 rw[jk,jk,lB,lB,e,fI];rw[e] at v;exact v.swap.EE
def IV.last(T:mY O key S a b)(v:MI O key (a.toList++b.toList) out.toList (a.toList.drop c) (b.toList.drop d))(h:c+1=a.size):Res O key (a.toList++b.toList) (out++b.extract d b.size++a.extract c a.size).toList:=by
 rw[jk,jk,lB,lB];exact v.CA (T.CA h)
end
section
variable {O:KeyOrd} {key:Keyed->O.α} {S:Keyed->Prop} {k0:SortKind} {M:Model} {A:Around} {E:Value->Shared->Prop} {s:Shared} {st bO:SortSt} {a b:Array Keyed}
def Inv(O:KeyOrd)(key:Keyed->O.α)(a b:Array Keyed)(n:Nat)(out:Array Keyed)(c d:Nat):Prop:=MI O key (a.toList++b.toList) out.toList (a.toList.drop c) (b.toList.drop d)/\c+1<a.size/\d<b.size/\n<=c+d
def Fin{d:Type}(O:KeyOrd)(key:Keyed->O.α)(a b:Array Keyed)(n:Nat)(c:Option (Array Keyed)×Array Keyed×Nat×Nat×d):Prop:=
 (∃r,c.1=some r/\Res O key (a.toList++b.toList) r.toList)\/(c.1=none/\Inv O key a b n c.2.1 c.2.2.1 c.2.2.2.1)
def Out{d:Type}(O:KeyOrd)(key:Keyed->O.α)(a b:Array Keyed)(n:Nat)(r:ForInStep (Option (Array Keyed)×Array Keyed×Nat×Nat×d)):Prop:=match r with
 | .done c=>Fin O key a b n c
 | .yield c=>c.1=none/\Inv O key a b n c.2.1 c.2.2.1 c.2.2.2.1
def Wg{d:Type}(O:KeyOrd)(key:Keyed->O.α)(a b:Array Keyed)(n:Nat)(r:ForInStep (Option (Array Keyed)×Array Keyed×Nat×Nat×d)):Prop:=match r with
 | .done c=>∃r,c.1=some r/\Res O key (a.toList++b.toList) r.toList
 | .yield c=>c.1=none/\Inv O key a b n c.2.1 c.2.2.1 c.2.2.2.1
def yT(T:mY O key S a b)(g:GS bO st)(v:MI O key (a.toList++b.toList) out.toList (a.toList.drop c) (b.toList.drop d))(u:c+1<a.size)(p:d<b.size)(w:n<=c+d)
  (q:∀x,a[c]? =some x->∀y∈b.toList.drop d,LE O key x y):wpS M A E s (CG a b o h j c out d) (λr t=>GS bO t/\Out O key a b n r) st:=by
 unfold CG;obtain⟨x,e,z,_⟩:=bF (xs:=a) (i:=c) (by lia)
 refine Do (bA e ?_);have k:=IV.uA v e (q x e);dsimp only
 by_cases f:c+1+1=a.size
 .rw[tz (by simpa using f)]
  exact FM #[g, .inl #[_,rfl,IV.last T k f]]
 .rw[mo (by simpa using f)]
  have l:Inv O key a b n (out.push x) (c+1) d:=#[k,by lia,p,by lia]
  by_cases m:(decide (h<7)&&decide (j<7))=true
  .rw[tz m]
   exact FM #[g, .inr #[rfl,l]]
  .rw[mo m]
   exact FM #[g,rfl,l]
def yS(C:gS O key S k0 M A E s)(Q:kindOf st=k0)(T:mY O key S a b)(g:GS bO st)(v:MI O key (a.toList++b.toList) out.toList (a.toList.drop d) (b.toList.drop c))(G:d+1<a.size)(Y:c<b.size)(hn:n<=d+c)
  (Z:∀y,b[c]? =some y->∀x∈a.toList.drop d,LE O key y x):wpS M A E s (uu a b R U X c out d) (λr au=>GS bO au/\Out O key a b n r) st:=by
 unfold uu;obtain⟨y,m,my,_⟩:=bF (xs:=b) (i:=c) Y;refine Do (bA m ?_);have o:=IV.uB v m (Z y m);dsimp only
 by_cases q:c+1=b.size
 .rw[tz (by simpa using q)]
  exact FM #[g, .inl #[_,rfl,IV.ua o q]]
 .rw[mo (by simpa using q)]
  obtain⟨x,H,mx,lx⟩:=bF (xs:=a) (i:=d) (by lia)
  refine Do (bA H ?_)
  have t:∀z∈a.toList.drop d,LE O key x z:=λz f=>by
   obtain⟨j,_,k⟩:=gL f;exact fX T.sa (by lia) lx k
  have I:∀j z,c+1+j<b.size->b.toList[c+1+j]? =some z->b[c+1+j]?.getD (Value.none,Value.none)=z:=λj z w e=>by rw[kr e];rfl
  refine Do (gR C (pS T.mb (i:=c+1) (n:=b.size-(c+1)) (by lia)) (T.ma x mx) Q (by lia) (λi j dX w h=>?_) λp hp pt pf=>?_)
  .obtain⟨yi,e1,_,l1⟩:=bF (xs:=b) (i:=c+1+i) (by lia)
   obtain⟨yj,e2,_,l2⟩:=bF (xs:=b) (i:=c+1+j) (by lia)
   unfold dS at h ⊢;rw[tz rfl] at h ⊢;rw[e2] at h;rw[e1];exact aaX (fX T.sb (by lia) l1 l2) h
  .have lo:∀y∈(b.toList.drop (c+1)).take p,∀x∈a.toList.drop d,LE O key y x:=λz f u hu=>by
    obtain⟨j,w,l,k⟩:=eQ f;rw[fZ] at l
    have:=pt j w
    unfold dS at this;rw[tz rfl,I j z l k] at this;exact KF (Pv this) (t u hu)
   have J:∀B,a[d]? =some B->∀y∈b.toList.drop (c+1+p),LE O key B y:=λB L z f=>by
    rw[H] at L;cases L;obtain⟨j,l,k⟩:=gL f;rw[fZ] at l
    have:=pf (p+j) (by lia) (by lia)
    unfold dS at this;rw[tz rfl,I (p+j) z (by lia) (by rw[<-k];congr 1;lia)] at this
    exact this
   dsimp only
   by_cases N:p>0
   .rw[tz N]
    have P:=IV.me o lo
    by_cases F:c+1+p=b.size
    .rw[tz (by simpa using F)]
     exact FM #[g, .inl #[_,rfl,IV.ua P F]]
    .rw[mo (by simpa using F)]
     exact yT T g P G (by lia) (by lia) J
   .rw[mo N]
    have:p=0:=by lia
    subst this;exact yT T g o G (by lia) (by lia) J
def yR(C:gS O key S k0 M A E s)(U:kindOf st=k0)(T:mY O key S a b)(g:GS bO st)(iv:Inv O key a b n out c d):wpS M A E s (qK a b Z Y c d out X) (λr au=>GS bO au/\Out O key a b n r) st:=by
 obtain⟨v,ha,o,hn⟩:=iv;unfold qK;refine Do (pU λDl J=>?_);have q:kindOf Dl=k0:=J.kind.trans U;have l:=g.trans J;obtain⟨y,L,my,ly⟩:=bF (xs:=b) (i:=d) o;refine Do (bA L ?_)
 have t:∀z∈b.toList.drop d,LE O key y z:=λz f=>by
  obtain⟨j,_,k⟩:=gL f;exact fX T.sb (by lia) ly k
 have N:∀j z,c+j<a.size->a.toList[c+j]? =some z->a[c+j]?.getD (Value.none,Value.none)=z:=λj z w e=>by rw[kr e];rfl
 refine Do (gR C (pS T.ma (i:=c) (n:=a.size-c) (by lia)) (T.mb y my) q (by lia) (λi j dX w h=>?_) λp hp pt pf=>?_)
 .obtain⟨xi,e1,_,l1⟩:=bF (xs:=a) (i:=c+i) (by lia)
  obtain⟨xj,e2,_,l2⟩:=bF (xs:=a) (i:=c+j) (by lia)
  unfold dS at h ⊢;rw[mo (by decide)] at h ⊢
  rw[e2] at h;rw[e1];have B:O.kle (key xj) (key y):=by unfold KeyOrd.kle;simpa using h
  have:=KF (fX T.sa (by lia) l1 l2) B
  unfold KeyOrd.kle at this;simpa using this
 .have lo:∀x∈(a.toList.drop c).take p,∀y∈b.toList.drop d,LE O key x y:=λz f u hu=>by
   obtain⟨j,w,m,k⟩:=eQ f;rw[fZ] at m
   have:=pt j w
   unfold dS at this;rw[mo (by decide),N j z m k] at this
   have B:O.kle (key z) (key y):=by unfold KeyOrd.kle;simpa using this
   exact KF B (t u hu)
  have P:∀F,b[d]? =some F->∀x∈a.toList.drop (c+p),LE O key F x:=λF Q z f=>by
   rw[L] at Q;cases Q;obtain⟨j,m,k⟩:=gL f;rw[fZ] at m
   have:=pf (p+j) (by lia) (by lia)
   unfold dS at this;rw[mo (by decide),N (p+j) z (by lia) (by rw[<-k];congr 1;lia)] at this
   exact Pv (show O.blt _ _=true by simpa using this)
  dsimp only
  by_cases R:p>0
  .rw[tz R]
   have G:=IV.l9 v lo
   by_cases H:c+p+1=a.size
   .rw[tz (by simpa using H)]
    exact FM #[l, .inl #[_,rfl,IV.last T G H]]
   .rw[mo (by simpa using H)]
    by_cases I:c+p=a.size
    .rw[tz (by simpa using I)]
     exact FM #[l, .inl #[_,rfl,IV.t9 G I]]
    .rw[mo (by simpa using I)]
     exact yS C q T l G (by lia) o (by lia) P
  .rw[mo R]
   have:p=0:=by lia
   subst this;exact yS C q T l v ha o hn P
def IM(C:gS O key S k0 M A E s)(d:kindOf st=k0)(T:mY O key S a b)(g:GS bO st)(c:Option (Array Keyed)×Array Keyed×Nat×Nat×Nat×Nat×Nat)(e:Inv O key a b n c.2.1 c.2.2.1 c.2.2.2.1):
  wpS M A E s (CI a b c) (λr f=>GS bO f/\Out O key a b n r) st:=by
 unfold CI
 by_cases h:c.2.2.2.2.1>1
 .rw[tz h];exact yR C d T g e
 .rw[mo h];exact yR C d T g e
theorem IL(C:gS O key S k0 M A E s)(B:kindOf st=k0)(T:mY O key S a b)(g:GS bO st)(c:Option (Array Keyed)×Array Keyed×Nat×Nat×Nat×Nat)(d:Inv O key a b n c.2.1 c.2.2.1 c.2.2.2.1):
  wpS M A E s (CH a b o c) (λr F=>GS bO F/\Out O key a b (n+1) r) st:=by
 obtain⟨R,out,l,m,G,H⟩:=c;obtain⟨v,I,w,J⟩:=d;dsimp only at v I w J;unfold CH;dsimp only;obtain⟨y,p,L,N⟩:=bF (xs:=b) (i:=m) w;obtain⟨x,q,P,Q⟩:=bF (xs:=a) (i:=l) (by lia)
 refine Do (bA p (Do (bA q (Do (C _ _ _ _ (T.mb y L) (T.ma x P) B ?_)))));cases e:O.blt (key y) (key x) with
 |true=>
  dsimp only;rw[tz rfl];refine Do (bA p ?_)
  have h:=IV.uB v p λz t=>by
   obtain⟨j,_,u⟩:=gL t;exact KF (Pv e) (fX T.sa (by lia) Q u)
  by_cases f:m+1=b.size
  .rw[tz (by simpa using f)]
   exact FM #[g, .inl #[_,rfl,IV.ua h f]]
  .rw[mo (by simpa using f)]
   have d:Inv O key a b (n+1) (out.push y) l (m+1):=#[h,by lia,by lia,by lia]
   by_cases k:H+1>=o
   .rw[tz k];exact FM #[g, .inr #[rfl,d]]
   .rw[mo k];exact FM #[g,rfl,d]
 |false=>
  dsimp only;rw[mo (by decide)]
  refine Do (bA q ?_)
  have h:=IV.uA v q λz t=>by
   obtain⟨j,_,u⟩:=gL t;exact KF e (fX T.sb (by lia) N u)
  by_cases f:l+1+1=a.size
  .rw[tz (by simpa using f)]
   exact FM #[g, .inl #[_,rfl,IV.last T h f]]
  .rw[mo (by simpa using f)]
   have d:Inv O key a b (n+1) (out.push x) (l+1) m:=#[h,by lia,by lia,by lia]
   by_cases k:G+1>=o
   .rw[tz k];exact FM #[g, .inr #[rfl,d]]
   .rw[mo k];exact FM #[g,rfl,d]
def Inv.le(h:Inv O key a b n out c d)(e:m<=n):Inv O key a b m out c d:=#[h.1,h.2.1,h.2.2.1,jm e h.2.2.2]
theorem DH(C:gS O key S k0 M A E s)(B:kindOf st=k0)(T:mY O key S a b)(g:GS bO st)(p:kindOf bO=k0)(c:Option (Array Keyed)×Array Keyed×Nat×Nat×Nat)(q:Inv O key a b n c.2.1 c.2.2.1 c.2.2.2.1):
  wpS M A E s (sT a b c) (λr h=>GS bO h/\Wg O key a b (n+1) r) st:=by
 have F:0<a.size+b.size:=by have:=T.na;lia
 unfold sT;refine Do (PP (P3 (I:=λ(x:Nat)(f:Option (Array Keyed)×Array Keyed×Nat×Nat×Nat×Nat)(h:SortSt)=>GS bO h/\f.1=none/\Inv O key a b (n+min x 1) f.2.1 f.2.2.1 f.2.2.2.1) (Q:=λf h=>GS bO h/\Fin O key a b (n+1) f) ?step ?fin #[g,rfl,q.le (by lia)]) ?post)
 case fin=>
  rintro f h ⟨i,l,j⟩;exact#[i, .inr #[l,j.le (by lia)]]
 case step=>
  rintro x f h _ _ ⟨i,l,j⟩;refine PP (IL C (i.kind.trans p) T i f j) λr t #[m,o]=>?_;cases r with
  |done d=>
   exists m
   rcases o with o| ⟨u,v⟩
   .exact .inl o
   .exact .inr #[u,v.le (by lia)]
  |yield d=>exact#[m,o.1,o.2.le (by lia)]
 case post=>
  rintro⟨G,H⟩ h ⟨i,o⟩
  rcases o with ⟨r,e,k⟩ | ⟨e,w⟩
  .dsimp only at e
   subst e;exact FM #[i,r,rfl,k]
  .dsimp only at e
   subst e;dsimp only;refine Do (aba (aaL #[rfl,?_]));refine Do (PP (P3 (I:=λ(x:Nat)(f:Option (Array Keyed)×Array Keyed×Nat×Nat×Nat×Nat×Nat)(h:SortSt)=>GS bO h/\f.1=none/\Inv O key a b (n+1) f.2.1 f.2.2.1 f.2.2.2.1) (Q:=λf h=>GS bO h/\Fin O key a b (n+1) f) ?step2 ?fin2 #[i,rfl,w]) ?post2)
   case fin2=>
    rintro f h ⟨i,l,j⟩;exact#[i, .inr #[l,j]]
   case step2=>
    rintro x f h _ _ ⟨i,l,j⟩;refine PP (IM C (i.kind.trans p) T i f j) λr t #[m,o]=>?_;cases r with
    |done d=>exact#[m,o]
    |yield d=>exact#[m,o]
   case post2=>
    rintro⟨J,L⟩ h ⟨i,o⟩
    rcases o with ⟨r,e,k⟩ | ⟨e,y⟩
    .dsimp only at e
     subst e;exact FM #[i,r,rfl,k]
    .dsimp only at e
     subst e;refine Do (pU λN z=>FM #[i.trans z,rfl,y])
def DL(C:gS O key S k0 M A E s)(n:kindOf st=k0)(T:mY O key S a b)(q:∀r c,GS st c->Res O key (a.toList++b.toList) r.toList->Q r c):wpS M A E s (pJ a b) Q st:=by
 rw[CN];refine Do (aba (aaL #[rfl,?_]));obtain⟨y,l,v,w⟩:=bF (xs:=b) (i:=0) T.nb;refine Do (bA l ?_);have t:MI O key (a.toList++b.toList) (#[]:Array Keyed).toList (a.toList.drop 0) (b.toList.drop 0):=#[by simp,by simp,by simpa using T.sa,by simpa using T.sb,by simp]
 have k:=IV.uB t l (by simpa using T.first y l)
 have u:(#[]:Array Keyed).push y= [y].toArray:=rfl;rw[u] at k
 by_cases h:1=b.size
 .rw[tz (by simpa using h)]
  exact FM (q _ _ (GS.refl _) (IV.ua k h))
 .rw[mo (by simpa using h)]
  by_cases f:0+1=a.size
  .rw[tz (by simpa using f)]
   exact FM (q _ _ (GS.refl _) (IV.last T k f))
  .rw[mo (by simpa using f)]
   refine Do (aaQ ?_);have z:=T.na;have B:=T.nb;refine Do (PP (P3 (I:=λ(x:Nat)(g:Option (Array Keyed)×Array Keyed×Nat×Nat×Nat)(c:SortSt)=>GS st c/\g.1=none/\Inv O key a b (x+1) g.2.1 g.2.2.1 g.2.2.2.1) (Q:=λg c=>GS st c/\∃r,g.1=some r/\Res O key (a.toList++b.toList) r.toList) ?step ?fin #[GS.refl _,rfl,k,by show 0+1<a.size;lia,by show 1<b.size;lia,by show 0+1<=0+1;lia]) ?post)
   case fin=>
    rintro g c ⟨j,h,f⟩
    have:=f.2.2.2
    have:=f.2.1
    have:=f.2.2.1
    lia
   case step=>
    rintro x g c _ _ ⟨j,h,f⟩;refine PP (DH C (j.kind.trans n) T j n g f) λr F #[p,o]=>?_;cases r with
    |done d=>exact#[p,o]
    |yield d=>exact#[p,o]
   case post=>
    rintro⟨G,H⟩ c ⟨j,r,e,m⟩;dsimp only at e;subst e;exact FM (q r c j m)
end
def zO(a b:Array Keyed):pI a b=(do
 rule "list.sort.merge-hi"
 let total:=a.size+b.size
 let done (out:Array Keyed) (na nb:Nat):=a.extract 0 na++b.extract 0 nb++out.reverse
 let c (out:Array Keyed) (na nb:Nat):=b.extract 0 nb++a.extract 0 na++out.reverse
 let mut na:=a.size-1
 let mut nb:=b.size
 let mut out:Array Keyed:= [<-elem' a na].toArray
 if na==0 then return done out na nb
 if nb==1 then return c out na nb
 let mut minGallop:=gallopOf (<-get)
 for _ in [0:total] do
  let mut acount:=0
  let mut bcount:=0
  for _ in [0:total] do
   let some Gu <-lt' (<-elem' b (nb-1)) (<-elem' a (na-1)) |return done out na nb
   if Gu then
    na:=na-1;out:=out.push (<-elem' a na);acount:=acount+1;bcount:=0
    if na==0 then return done out na nb
    if acount>=minGallop then break
   else
    nb:=nb-1;out:=out.push (<-elem' b nb);bcount:=bcount+1;acount:=0
    if nb==1 then return c out na nb
    if bcount>=minGallop then break
  rule "list.sort.gallop"
  minGallop:=minGallop+1
  for _ in [0:total] do
   if minGallop>1 then minGallop:=minGallop-1
   setMinGallop' minGallop
   let some at_ <-fe false (<-elem' b (nb-1)) a 0 na (na-1) |return done out na nb
   let k:=na-at_
   acount:=k
   if k>0 then
    out:=out++(a.extract at_ na).reverse;na:=at_
    if na==0 then return done out na nb
   nb:=nb-1;out:=out.push (<-elem' b nb)
   if nb==1 then return c out na nb
   let some at_ <-fe true (<-elem' a (na-1)) b 0 nb (nb-1) |return done out na nb
   let k:=nb-at_
   bcount:=k
   if k>0 then
    out:=out++(b.extract at_ nb).reverse;nb:=at_
    if nb==1 then return c out na nb
    if nb==0 then return done out na nb
   na:=na-1;out:=out.push (<-elem' a na)
   if na==0 then return done out na nb
   if acount<7&&bcount<7 then break
  minGallop:=minGallop+1
  setMinGallop' minGallop
 unsupported "internal:list.sort.merge-bound"):=rfl
abbrev S7:=Option (Array Keyed)×Nat×Nat×Array Keyed×Nat×Nat×Nat
abbrev S6:=Option (Array Keyed)×Nat×Nat×Array Keyed×Nat×Nat
abbrev S5:=Option (Array Keyed)×Nat×Nat×Array Keyed×Nat
def i6(a b out:Array Keyed)(c d:Nat):Array Keyed:=a.extract 0 c++b.extract 0 d++out.reverse
def pE(a b out:Array Keyed)(c d:Nat):Array Keyed:=b.extract 0 d++a.extract 0 c++out.reverse
def BU(a b:Array Keyed)(g d e c:Nat)(out:Array Keyed)(f:Nat):StateT SortSt Sem (ForInStep S7):=do
 let x <-elem' a (c-1)
 if (c-1==0)=true then pure (ForInStep.done (some (i6 a b (out.push x) (c-1) f),c-1,f,out.push x,g,d,e))
 else if (decide (d<7)&&decide (e<7))=true then pure (ForInStep.done (none,c-1,f,out.push x,g,d,e))
 else pure (ForInStep.yield (none,c-1,f,out.push x,g,d,e))
def ue(a b:Array Keyed)(e f h c:Nat)(out:Array Keyed)(d:Nat):StateT SortSt Sem (ForInStep S7):=do
 let y <-elem' b (c-1)
 if (c-1==1)=true then pure (ForInStep.done (some (pE a b (out.push y) d (c-1)),d,c-1,out.push y,e,f,h))
 else do
  let x <-elem' a (d-1)
  let g <-fe true x b 0 (c-1) (c-1-1)
  match g with
  |some p=>
   if c-1-p>0 then
    if (p==1)=true then pure (ForInStep.done (some (pE a b (out.push y++(b.extract p (c-1)).reverse) d p),d,p,out.push y++(b.extract p (c-1)).reverse,e,f,c-1-p))
    else if (p==0)=true then pure (ForInStep.done (some (i6 a b (out.push y++(b.extract p (c-1)).reverse) d p),d,p,out.push y++(b.extract p (c-1)).reverse,e,f,c-1-p))
    else BU a b e f (c-1-p) d (out.push y++(b.extract p (c-1)).reverse) p
   else BU a b e f (c-1-p) d (out.push y) (c-1)
  |_=>pure (ForInStep.done (some (i6 a b (out.push y) d (c-1)),d,c-1,out.push y,e,f,h))
def xF(a b:Array Keyed)(f h c d:Nat)(out:Array Keyed)(e:Nat):StateT SortSt Sem (ForInStep S7):=do
 setMinGallop' e
 let y <-elem' b (d-1)
 let g <-fe false y a 0 c (c-1)
 match g with
 |some p=>
  if c-p>0 then
   if (p==0)=true then pure (ForInStep.done (some (i6 a b (out++(a.extract p c).reverse) p d),p,d,out++(a.extract p c).reverse,e,c-p,f))
   else ue a b e (c-p) f d (out++(a.extract p c).reverse) p
  else ue a b e (c-p) f d out c
 |_=>pure (ForInStep.done (some (i6 a b out c d),c,d,out,e,h,f))
def BW(a b:Array Keyed)(c:S7):StateT SortSt Sem (ForInStep S7):=
 if c.2.2.2.2.1>1 then xF a b c.2.2.2.2.2.2 c.2.2.2.2.2.1 c.2.1 c.2.2.1 c.2.2.2.1 (c.2.2.2.2.1-1) else xF a b c.2.2.2.2.2.2 c.2.2.2.2.2.1 c.2.1 c.2.2.1 c.2.2.2.1 c.2.2.2.2.1
def BV(a b:Array Keyed)(e:Nat)(c:S6):StateT SortSt Sem (ForInStep S6):=do
 let y <-elem' b (c.2.2.1-1)
 let x <-elem' a (c.2.1-1)
 let d <-lt' y x
 match d with
 |some f=>
  if f=true then do
   let x <-elem' a (c.2.1-1)
   if (c.2.1-1==0)=true then pure (ForInStep.done (some (i6 a b (c.2.2.2.1.push x) (c.2.1-1) c.2.2.1),c.2.1-1,c.2.2.1,c.2.2.2.1.push x,c.2.2.2.2.1+1,0))
   else if c.2.2.2.2.1+1>=e then pure (ForInStep.done (none,c.2.1-1,c.2.2.1,c.2.2.2.1.push x,c.2.2.2.2.1+1,0))
   else pure (ForInStep.yield (none,c.2.1-1,c.2.2.1,c.2.2.2.1.push x,c.2.2.2.2.1+1,0))
  else do
   let y <-elem' b (c.2.2.1-1)
   if (c.2.2.1-1==1)=true then pure (ForInStep.done (some (pE a b (c.2.2.2.1.push y) c.2.1 (c.2.2.1-1)),c.2.1,c.2.2.1-1,c.2.2.2.1.push y,0,c.2.2.2.2.2+1))
   else if c.2.2.2.2.2+1>=e then pure (ForInStep.done (none,c.2.1,c.2.2.1-1,c.2.2.2.1.push y,0,c.2.2.2.2.2+1))
   else pure (ForInStep.yield (none,c.2.1,c.2.2.1-1,c.2.2.2.1.push y,0,c.2.2.2.2.2+1))
 |_=>pure (ForInStep.done (some (i6 a b c.2.2.2.1 c.2.1 c.2.2.1),c.2.1,c.2.2.1,c.2.2.2.1,c.2.2.2.2.1,c.2.2.2.2.2))
def sD(a b:Array Keyed)(f:S5):StateT SortSt Sem (ForInStep S5):=do
 let e <-forIn [0:a.size+b.size] ((none,f.2.1,f.2.2.1,f.2.2.2.1,0,0):S6) λ_ c=>BV a b f.2.2.2.2 c
 match e.1 with
 |some r=>pure (ForInStep.done (some r,e.2.1,e.2.2.1,e.2.2.2.1,f.2.2.2.2))
 |none=>do
  liftM (rule "list.sort.gallop")
  let d <-forIn [0:a.size+b.size] ((none,e.2.1,e.2.2.1,e.2.2.2.1,f.2.2.2.2+1,e.2.2.2.2.1,e.2.2.2.2.2):S7) λ_ c=>BW a b c
  match d.1 with
  |some r=>pure (ForInStep.done (some r,d.2.1,d.2.2.1,d.2.2.2.1,d.2.2.2.2.1))
  |none=>do
   setMinGallop' (d.2.2.2.2.1+1)
   pure (ForInStep.yield (none,d.2.1,d.2.2.1,d.2.2.2.1,d.2.2.2.2.1+1))
theorem CM(a b:Array Keyed):pI a b=(do
 liftM (rule "list.sort.merge-hi")
 let x <-elem' a (a.size-1)
 if (a.size-1==0)=true then pure (i6 a b [x].toArray (a.size-1) b.size)
 else if (b.size==1)=true then pure (pE a b [x].toArray (a.size-1) b.size)
 else do
  let d <-get
  let e <-forIn [0:a.size+b.size] ((none,a.size-1,b.size, [x].toArray,gallopOf d):S5) λ_ c=>sD a b c
  match e.1 with
  |some r=>pure r
  |none=>liftM (unsupported (α:=Array Keyed) "internal:list.sort.merge-bound")):=by
 rw[zO];dsimp only;refine dz rfl λ_=>dz rfl λy=>?_;refine GE (ite _ _) (GE (ite _ _) ?_);refine dz rfl λg=>dz (BJ λ_ c=>?_) λu=>?_
 .unfold sD
  refine dz (BJ λ_ t=>?_) λt=>?_
  .unfold BV
   refine dz rfl λ_=>dz rfl λ_=>dz rfl λz=>?_;cases z<;>rfl
  .obtain⟨h,j⟩:=t
   cases h with
   |some r=>rfl
   |none=>
    dsimp only;refine dz rfl λ_=>dz (BJ λ_ u=>?_) λu=>?_
    .unfold BW
     refine fE (λ_=>?_) (λ_=>?_)
     all_goals
      unfold xF;refine dz rfl λ_=>dz rfl λ_=>dz rfl λz=>?_;cases z with
      |none=>rfl
      |some k=>
       dsimp only;refine fE (λ_=>?_) (λ_=>?_)
       .refine fE (λ_=>rfl) (λ_=>?_)
        unfold ue;refine dz rfl λ_=>fE (λ_=>rfl) (λ_=>dz rfl λ_=>dz rfl λz=>?_);cases z with
        |none=>rfl
        |some k=>rfl
       .unfold ue
        refine dz rfl λ_=>fE (λ_=>rfl) (λ_=>dz rfl λ_=>dz rfl λz=>?_);cases z with
        |none=>rfl
        |some k=>rfl
    .obtain⟨f,i⟩:=u
     cases f<;>rfl
 .obtain⟨f,i⟩:=u
  cases f<;>rfl
def Ss(O:KeyOrd):KeyOrd:={α:=O.α,blt:=λa b=>O.blt b a,irrefl:=O.irrefl,trans:=λa b c d e=>O.trans _ _ _ e d,negTrans:=λa b c h=>(O.negTrans c b a h).symm,total:=λa b d e=>O.total a b e d}
section
variable {O:KeyOrd} {key:Keyed->O.α} {S:Keyed->Prop} {k0:SortKind} {M:Model} {A:Around} {E:Value->Shared->Prop} {s:Shared} {st bO:SortSt} {a b:Array Keyed}
abbrev MJ(O:KeyOrd)(key:Keyed->O.α)(a b out:Array Keyed)(c d:Nat):Prop:=MI (Ss O) key (a.toList++b.toList) out.toList (a.toList.take c).reverse (b.toList.take d).reverse
def uC(h:Res (Ss O) key l r.reverse):Res O key l r:=
 #[(abX r).symm.trans h.1,by
   have:=abh.mp h.2
   exact this.imp λh=>h]
def Ak(c:Array Keyed)(n:Nat):(c.extract 0 n).toList=c.toList.take n:=by rw[ext_toList];simp
def AX{xs:Array Keyed}(f:1<=n)(h:xs[n-1]? =some x):(xs.toList.take n).reverse=x::(xs.toList.take (n-1)).reverse:=by
 have c:=lF h;obtain⟨d,e⟩:=dm.mp c
 have:xs.toList.take n=xs.toList.take (n-1)++ [x]:=by
  have:=abb d
  rw[show n-1+1=n by lia,e] at this
  exact this
 rw[this,zf];rfl
def oX(l:List Keyed)(h:p<=n):l.take n=l.take p++(l.drop p).take (n-p):=by
 conv=>lhs;rw[<-lN p (l.take n)]
 rw[List.take_take,show min p n=p by lia,List.drop_take]
def gM{l:List Keyed}{x:Keyed}(h:x∈l.take n):∃j,j<n/\j<l.length/\l[j]? =some x:=by
 have:=eQ (l:=l) (i:=0) (k:=n) (x:=x) (by simpa using h)
 obtain⟨j,c,d,e⟩:=this;exact#[j,c,by simpa using d,by simpa using e]
def MJ.uA(v:MJ O key a b out c d)(e:1<=c)(f:a[c-1]? =some x)(h:∀y∈b.toList.take d,LE O key y x):MJ O key a b (out.push x) (c-1) d:=by
 unfold MJ at v ⊢;rw[AX e f] at v;rw[A4];exact MI.l9 (xs:= [x]) v λz g y i=>by rw[dD.mp g];exact h y (vm.mp i)
def MJ.uB(v:MJ O key a b out d c)(e:1<=c)(f:b[c-1]? =some y)(h:∀x∈a.toList.take d,LE O key x y):MJ O key a b (out.push y) d (c-1):=by
 unfold MJ at v ⊢;rw[AX e f] at v;rw[A4];exact MI.me (xs:= [y]) v λz g x i=>by rw[dD.mp g];exact h x (vm.mp i)
theorem MJ.l9(v:MJ O key a b out c d)(e:p<=c)(h:∀x∈(a.toList.drop p).take (c-p),∀y∈b.toList.take d,LE O key y x):MJ O key a b (out++(a.extract p c).reverse) p d:=by
 unfold MJ at v ⊢;rw[oX a.toList e,zf] at v;rw[jk,Gh,ext_toList];exact MI.l9 v λx f y g=>h x (vm.mp f) y (vm.mp g)
theorem MJ.me(v:MJ O key a b out d c)(e:p<=c)(h:∀y∈(b.toList.drop p).take (c-p),∀x∈a.toList.take d,LE O key x y):MJ O key a b (out++(b.extract p c).reverse) d p:=by
 unfold MJ at v ⊢;rw[oX b.toList e,zf] at v;rw[jk,Gh,ext_toList];exact MI.me v λx f y g=>h x (vm.mp f) y (vm.mp g)
def MJ.t9(v:MJ O key a b out 0 c):Res O key (a.toList++b.toList) (i6 a b out 0 c).toList:=by
 refine uC ?_;unfold i6 MJ at*;rw[jk,jk,Ak,Ak,Gh,zh,vn,zf,abu];rw[zh,List.reverse_nil] at v;exact v.swap.EE
def MJ.ua(v:MJ O key a b out c 0):Res O key (a.toList++b.toList) (i6 a b out c 0).toList:=by
 refine uC ?_;unfold i6 MJ at*;rw[jk,jk,Ak,Ak,Gh,zh,fI,zf,abu];rw[zh,List.reverse_nil] at v;exact v.EE
theorem MJ.first(T:mY O key S a b)(v:MJ O key a b out c 1):Res O key (a.toList++b.toList) (pE a b out c 1).toList:=by
 refine uC ?_;have h:=v.swap.CA λx d y f=>?_
 .unfold pE
  rw[jk,jk,Ak,Ak,Gh,zf,abu,zf,<-kM];exact h
 .obtain⟨j,g,_,e⟩:=gM (vm.mp f)
  have:j=0:=by lia
  subst this;exact T.first y (kr e) x (abv (vm.mp d))
def pW(O:KeyOrd)(key:Keyed->O.α)(a b:Array Keyed)(n:Nat)(c d:Nat)(out:Array Keyed):Prop:=MJ O key a b out c d/\1<=c/\c<=a.size/\2<=d/\d<=b.size/\n+c+d<=a.size+b.size
def Tg{d:Type}(O:KeyOrd)(key:Keyed->O.α)(a b:Array Keyed)(n:Nat)(c:Option (Array Keyed)×Nat×Nat×Array Keyed×d):Prop:=
 (∃r,c.1=some r/\Res O key (a.toList++b.toList) r.toList)\/(c.1=none/\pW O key a b n c.2.1 c.2.2.1 c.2.2.2.1)
def LK{d:Type}(O:KeyOrd)(key:Keyed->O.α)(a b:Array Keyed)(n:Nat)(r:ForInStep (Option (Array Keyed)×Nat×Nat×Array Keyed×d)):Prop:=match r with
 | .done c=>Tg O key a b n c
 | .yield c=>c.1=none/\pW O key a b n c.2.1 c.2.2.1 c.2.2.2.1
def Wf{d:Type}(O:KeyOrd)(key:Keyed->O.α)(a b:Array Keyed)(n:Nat)(r:ForInStep (Option (Array Keyed)×Nat×Nat×Array Keyed×d)):Prop:=match r with
 | .done c=>∃r,c.1=some r/\Res O key (a.toList++b.toList) r.toList
 | .yield c=>c.1=none/\pW O key a b n c.2.1 c.2.2.1 c.2.2.2.1
def yQ(g:GS bO st)(v:MJ O key a b out c d)(p:1<=c)(f:c<=a.size)(q:2<=d)(t:d<=b.size)(z:n+c+d<=a.size+b.size)
  (u:∀x,a[c-1]? =some x->∀y∈b.toList.take d,LE O key y x):wpS M A E s (BU a b o k l c out d) (λr w=>GS bO w/\LK O key a b n r) st:=by
 unfold BU;obtain⟨x,h,B,_⟩:=bF (xs:=a) (i:=c-1) (by lia)
 refine Do (bA h ?_);have j:=MJ.uA v p h (u x h)
 by_cases e:c-1=0
 .rw[tz (by simpa using e)]
  rw[e] at j ⊢;exact FM #[g, .inl #[_,rfl,j.t9]]
 .rw[mo (by simpa using e)]
  have m:pW O key a b n (c-1) d (out.push x):=#[j,by lia,by lia,q,t,by lia]
  by_cases f:(decide (k<7)&&decide (l<7))=true
  .rw[tz f]
   exact FM #[g, .inr #[rfl,m]]
  .rw[mo f]
   exact FM #[g,rfl,m]
def yP(C:gS O key S k0 M A E s)(P:kindOf st=k0)(T:mY O key S a b)(g:GS bO st)(v:MJ O key a b out d c)(G:1<=d)(H:d<=a.size)(h3:2<=c)(h4:c<=b.size)(hn:n+d+c<=a.size+b.size)
  (X:∀y,b[c-1]? =some y->∀x∈a.toList.take d,LE O key x y):wpS M A E s (ue a b Q R U c out d) (λr Y=>GS bO Y/\LK O key a b n r) st:=by
 unfold ue;obtain⟨y,t,my,_⟩:=bF (xs:=b) (i:=c-1) (by lia)
 refine Do (bA t ?_);have o:=MJ.uB v (by lia) t (X y t)
 by_cases e:c-1=1
 .rw[tz (by simpa using e)]
  rw[e] at o ⊢;exact FM #[g, .inl #[_,rfl,MJ.first T o]]
 .rw[mo (by simpa using e)]
  obtain⟨x,I,Z,lx⟩:=bF (xs:=a) (i:=d-1) (by lia)
  refine Do (bA I ?_)
  have w:∀z∈a.toList.take d,LE O key z x:=λz f=>by
   obtain⟨j,q,_,k⟩:=gM f;exact fX T.sa (by lia) k lx
  have J:∀j z,b.toList[j]? =some z->b[0+j]?.getD (Value.none,Value.none)=z:=λj z e=>by rw[tY,kr e];rfl
  refine Do (gR C (pS T.mb (i:=0) (n:=c-1) (by lia)) (T.ma x Z) P (by lia) (λi j dX q h=>?_) λp hp pt pf=>?_)
  .obtain⟨yi,l,_,l1⟩:=bF (xs:=b) (i:=0+i) (by lia)
   obtain⟨yj,m,_,l2⟩:=bF (xs:=b) (i:=0+j) (by lia)
   unfold dS at h ⊢;rw[tz rfl] at h ⊢;rw[m] at h;rw[l];exact aaX (fX T.sb (by lia) l1 l2) h
  .have hi:∀y∈(b.toList.drop p).take (c-1-p),∀x∈a.toList.take d,LE O key x y:=λz f u hu=>by
    obtain⟨j,q,hl,k⟩:=eQ f
    have:=pf (p+j) (by lia) (by lia)
    unfold dS at this;rw[tz rfl,J (p+j) z k] at this;exact KF (w u hu) this
   have lo:∀B,a[d-1]? =some B->∀y∈b.toList.take p,LE O key y B:=λB L z f=>by
    rw[I] at L;cases L;obtain⟨j,q,_,k⟩:=gM f
    have:=pt j q
    unfold dS at this;rw[tz rfl,J j z k] at this;exact Pv this
   dsimp only
   by_cases N:c-1-p>0
   .rw[tz N]
    have F:=MJ.me o hp hi
    by_cases l:p=1
    .rw[tz (by simpa using l)]
     subst l;exact FM #[g, .inl #[_,rfl,MJ.first T F]]
    .rw[mo (by simpa using l)]
     by_cases m:p=0
     .rw[tz (by simpa using m)]
      subst m;exact FM #[g, .inl #[_,rfl,F.ua]]
     .rw[mo (by simpa using m)]
      exact yQ g F G H (by lia) (by lia) (by lia) lo
   .rw[mo N]
    have:p=c-1:=by lia
    subst this;exact yQ g o G H (by lia) (by lia) (by lia) lo
def yO(C:gS O key S k0 M A E s)(P:kindOf st=k0)(T:mY O key S a b)(g:GS bO st)(X:pW O key a b n c d out):wpS M A E s (xF a b U R c d out Q) (λr Y=>GS bO Y/\LK O key a b n r) st:=by
 obtain⟨v,Z,h2,B,F,hn⟩:=X;unfold xF;refine Do (pU λDl G=>?_);have o:kindOf Dl=k0:=G.kind.trans P;have q:=g.trans G;obtain⟨y,H,my,ly⟩:=bF (xs:=b) (i:=d-1) (by lia)
 refine Do (bA H ?_)
 have t:∀z∈b.toList.take d,LE O key z y:=λz f=>by
  obtain⟨j,m,_,k⟩:=gM f;exact fX T.sb (by lia) k ly
 have I:∀j z,a.toList[j]? =some z->a[0+j]?.getD (Value.none,Value.none)=z:=λj z e=>by rw[tY,kr e];rfl
 refine Do (gR C (pS T.ma (i:=0) (n:=c) (by lia)) (T.mb y my) o (by lia) (λi j dX m h=>?_) λp hp pt pf=>?_)
 .obtain⟨xi,l,_,l1⟩:=bF (xs:=a) (i:=0+i) (by lia)
  obtain⟨xj,e2,_,l2⟩:=bF (xs:=a) (i:=0+j) (by lia)
  unfold dS at h ⊢;rw[mo (by decide)] at h ⊢
  rw[e2] at h;rw[l];have h':O.kle (key xj) (key y):=by unfold KeyOrd.kle;simpa using h
  have:=KF (fX T.sa (by lia) l1 l2) h'
  unfold KeyOrd.kle at this;simpa using this
 .have hi:∀x∈(a.toList.drop p).take (c-p),∀y∈b.toList.take d,LE O key y x:=λz f u hu=>by
   obtain⟨j,m,hl,k⟩:=eQ f
   have:=pf (p+j) (by lia) (by lia)
   unfold dS at this;rw[mo (by decide),I (p+j) z k] at this
   exact KF (t u hu) (Pv (show O.blt _ _=true by simpa using this))
  have lo:∀w,b[d-1]? =some w->∀x∈a.toList.take p,LE O key x w:=λw J z f=>by
   rw[H] at J;cases J;obtain⟨j,m,_,k⟩:=gM f
   have:=pt j m
   unfold dS at this;rw[mo (by decide),I j z k] at this
   show O.blt _ _=false;simpa using this
  dsimp only
  by_cases L:c-p>0
  .rw[tz L]
   have N:=MJ.l9 v hp hi
   by_cases l:p=0
   .rw[tz (by simpa using l)]
    subst l;exact FM #[q, .inl #[_,rfl,N.t9]]
   .rw[mo (by simpa using l)]
    exact yP C o T q N (by lia) (by lia) B F (by lia) lo
  .rw[mo L]
   have:p=c:=by lia
   subst this;exact yP C o T q v Z h2 B F hn lo
def IK(C:gS O key S k0 M A E s)(d:kindOf st=k0)(T:mY O key S a b)(g:GS bO st)(c:S7)(e:pW O key a b n c.2.1 c.2.2.1 c.2.2.2.1):
  wpS M A E s (BW a b c) (λr f=>GS bO f/\LK O key a b n r) st:=by
 unfold BW
 by_cases h:c.2.2.2.2.1>1
 .rw[tz h];exact yO C d T g e
 .rw[mo h];exact yO C d T g e
theorem IJ(C:gS O key S k0 M A E s)(G:kindOf st=k0)(T:mY O key S a b)(g:GS bO st)(c:S6)(d:pW O key a b n c.2.1 c.2.2.1 c.2.2.2.1):
  wpS M A E s (BV a b o c) (λr H=>GS bO H/\LK O key a b (n+1) r) st:=by
 obtain⟨X,l,m,out,I,J⟩:=c;obtain⟨v,w,f,B,F,L⟩:=d;dsimp only at v w f B F L;unfold BV;dsimp only;obtain⟨y,p,N,P⟩:=bF (xs:=b) (i:=m-1) (by lia)
 obtain⟨x,q,Q,R⟩:=bF (xs:=a) (i:=l-1) (by lia)
 refine Do (bA p (Do (bA q (Do (C _ _ _ _ (T.mb y N) (T.ma x Q) G ?_)))));cases e:O.blt (key y) (key x) with
 |true=>
  dsimp only;rw[tz rfl];refine Do (bA q ?_)
  have h:=MJ.uA v w q λz t=>by
   obtain⟨j,U,_,u⟩:=gM t;exact KF (fX T.sb (by lia) u P) (Pv e)
  by_cases k:l-1=0
  .rw[tz (by simpa using k)]
   rw[k] at h ⊢;exact FM #[g, .inl #[_,rfl,h.t9]]
  .rw[mo (by simpa using k)]
   have d:pW O key a b (n+1) (l-1) m (out.push x):=#[h,by lia,by lia,B,F,by lia]
   by_cases f:I+1>=o
   .rw[tz f];exact FM #[g, .inr #[rfl,d]]
   .rw[mo f];exact FM #[g,rfl,d]
 |false=>
  dsimp only;rw[mo (by decide)]
  refine Do (bA p ?_)
  have h:=MJ.uB v (by lia) p λz t=>by
   obtain⟨j,U,_,u⟩:=gM t;exact KF (fX T.sa (by lia) u R) e
  by_cases k:m-1=1
  .rw[tz (by simpa using k)]
   rw[k] at h ⊢;exact FM #[g, .inl #[_,rfl,MJ.first T h]]
  .rw[mo (by simpa using k)]
   have d:pW O key a b (n+1) l (m-1) (out.push y):=#[h,by lia,by lia,by lia,by lia,by lia]
   by_cases f:J+1>=o
   .rw[tz f];exact FM #[g, .inr #[rfl,d]]
   .rw[mo f];exact FM #[g,rfl,d]
def pW.le(h:pW O key a b n c d out)(e:m<=n):pW O key a b m c d out:=#[h.1,h.2.1,h.2.2.1,h.2.2.2.1,h.2.2.2.2.1,by have:=h.2.2.2.2.2;lia]
theorem DD(C:gS O key S k0 M A E s)(T:mY O key S a b)(g:GS bO st)(p:kindOf bO=k0)(c:S5)(q:pW O key a b n c.2.1 c.2.2.1 c.2.2.2.1):
  wpS M A E s (sD a b c) (λr h=>GS bO h/\Wf O key a b (n+1) r) st:=by
 have B:0<a.size+b.size:=by have:=T.na;lia
 unfold sD;refine Do (PP (P3 (I:=λ(x:Nat)(f:S6)(h:SortSt)=>GS bO h/\f.1=none/\pW O key a b (n+min x 1) f.2.1 f.2.2.1 f.2.2.2.1) (Q:=λf h=>GS bO h/\Tg O key a b (n+1) f) ?step ?fin #[g,rfl,q.le (by lia)]) ?post)
 case fin=>
  rintro f h ⟨i,l,j⟩;exact#[i, .inr #[l,j.le (by lia)]]
 case step=>
  rintro x f h _ _ ⟨i,l,j⟩;refine PP (IJ C (i.kind.trans p) T i f j) λr t #[m,o]=>?_;cases r with
  |done d=>
   exists m
   rcases o with o| ⟨u,v⟩
   .exact .inl o
   .exact .inr #[u,v.le (by lia)]
  |yield d=>exact#[m,o.1,o.2.le (by lia)]
 case post=>
  rintro⟨F,G⟩ h ⟨i,o⟩
  rcases o with ⟨r,e,k⟩ | ⟨e,w⟩
  .dsimp only at e
   subst e;exact FM #[i,r,rfl,k]
  .dsimp only at e
   subst e;dsimp only;refine Do (aba (aaL #[rfl,?_]));refine Do (PP (P3 (I:=λ(x:Nat)(f:S7)(h:SortSt)=>GS bO h/\f.1=none/\pW O key a b (n+1) f.2.1 f.2.2.1 f.2.2.2.1) (Q:=λf h=>GS bO h/\Tg O key a b (n+1) f) ?step2 ?fin2 #[i,rfl,w]) ?post2)
   case fin2=>
    rintro f h ⟨i,l,j⟩;exact#[i, .inr #[l,j]]
   case step2=>
    rintro x f h _ _ ⟨i,l,j⟩;refine PP (IK C (i.kind.trans p) T i f j) λr t #[m,o]=>?_;cases r with
    |done d=>exact#[m,o]
    |yield d=>exact#[m,o]
   case post2=>
    rintro⟨H,J⟩ h ⟨i,o⟩
    rcases o with ⟨r,e,k⟩ | ⟨e,y⟩
    .dsimp only at e
     subst e;exact FM #[i,r,rfl,k]
    .dsimp only at e
     subst e;refine Do (pU λL z=>FM #[i.trans z,rfl,y])
def DK(C:gS O key S k0 M A E s)(t:kindOf st=k0)(T:mY O key S a b)(q:∀r c,GS st c->Res O key (a.toList++b.toList) r.toList->Q r c):wpS M A E s (pI a b) Q st:=by
 rw[CM];refine Do (aba (aaL #[rfl,?_]));have u:=T.na;have B:=T.nb;obtain⟨x,m,F,G⟩:=bF (xs:=a) (i:=a.size-1) (by lia)
 refine Do (bA m ?_)
 have v:MJ O key a b #[] a.size b.size:=by
  refine#[?_,by simp,?_,?_,by simp]
  .rw[vf (by simp),vf (by simp)]
   simpa using(abX a.toList).append (abX b.toList)
  .rw[vf (by simp)]
   exact abh.mpr (T.sa.imp λh=>h)
  .rw[vf (by simp)]
   exact abh.mpr (T.sb.imp λh=>h)
 have j:=MJ.uA v u m λy w=>T.last x m y (abv w);have z:(#[]:Array Keyed).push x= [x].toArray:=rfl;rw[z] at j
 by_cases k:a.size-1=0
 .rw[tz (by simpa using k)]
  rw[k] at j ⊢;exact FM (q _ _ (GS.refl _) j.t9)
 .rw[mo (by simpa using k)]
  by_cases g:b.size=1
  .rw[tz (by simpa using g)]
   rw[g] at j ⊢;exact FM (q _ _ (GS.refl _) (MJ.first T j))
  .rw[mo (by simpa using g)]
   refine Do (aaQ ?_);refine Do (PP (P3 (I:=λ(x:Nat)(f:S5)(c:SortSt)=>GS st c/\f.1=none/\pW O key a b (x+1) f.2.1 f.2.2.1 f.2.2.2.1) (Q:=λf c=>GS st c/\∃r,f.1=some r/\Res O key (a.toList++b.toList) r.toList) ?step ?fin #[GS.refl _,rfl,j,by show 1<=a.size-1;lia,by show a.size-1<=a.size;lia,by show 2<=b.size;lia,bJ _,by show 0+1+(a.size-1)+b.size<=a.size+b.size;lia]) ?post)
   case fin=>
    rintro f c ⟨l,k,g⟩
    have:=g.2.2.2.2.2
    have:=g.2.1
    lia
   case step=>
    rintro x f c _ _ ⟨l,k,g⟩;refine PP (DD C T l t f g) λr H #[p,o]=>?_;cases r with
    |done d=>exact#[p,o]
    |yield d=>exact#[p,o]
   case post=>
    rintro⟨J,L⟩ c ⟨l,r,e,n⟩;dsimp only at e;subst e;exact FM (q r c l n)
end
def CL(i:Nat):mergeAt' i=(do
 let s <-get
 let (some (sa,na,power),some (sb,nb,_)):=((pendingOf s)[i]?,(pendingOf s)[i+1]?) |unsupported "internal:list.sort.pending"
 set (setPending s (((pendingOf s).setIfInBounds i (sa,na+nb,power)).eraseIdxIfInBounds (i+1)))
 let some k <-fe false (<-elem' (arrOf s) sb) (arrOf s) sa na 0|return false
 let (sa,na):=(sa+k,na-k)
 if na==0 then return true
 let some nb <-fe true (<-elem' (arrOf s) (sa+na-1)) (arrOf s) sb nb (nb-1) |return false
 if nb==0 then return true
 let x:=(arrOf s).extract sa sb
 let y:=(arrOf s).extract sb (sb+nb)
 let merged <-if na<=nb then pJ x y else pI x y
 modify λs=>setArr s (merged.toList.zipIdx.foldl (λa (p,j)=>a.setIfInBounds (sa+j) p) (arrOf s))
 return (failedOf (<-get)).isNone):=rfl
theorem qz:∀(m:List Keyed)(off b:Nat)(c:Array Keyed),b+off+m.length<=c.size->
  ((m.zipIdx off).foldl (λa (p:Keyed×Nat)=>a.setIfInBounds (b+p.2) p.1) c).size=c.size/\∀i,((m.zipIdx off).foldl (λa (p:Keyed×Nat)=>a.setIfInBounds (b+p.2) p.1) c)[i]? =if b+off<=i/\i<b+off+m.length then m[i-(b+off)]? else c[i]?
 | [],off,b,c,_=>#[rfl,λi=>by rw[mo (by simp)];rfl]
 |x::m,off,b,c,h=>by
  rw[cU] at h;have e:=qz m (off+1) b (c.setIfInBounds (b+off) x) (by rw[aaY];lia)
  rw[List.zipIdx_cons,abp];refine#[by rw[e.1,aaY],λi=>?_]
  rw[e.2 i]
  by_cases f:b+(off+1)<=i/\i<b+(off+1)+m.length
  .rw[tz f,tz (by rw[cU];lia),show i-(b+off)=(i-(b+(off+1)))+1 by lia,ve]
  .rw[mo f,abG]
   by_cases d:b+off=i
   .rw[tz d,tz (by lia),tz (by rw[cU];lia),<-d,qr];rfl
   .rw[mo d,mo (by rw[cU];lia)]
def putAt(c m:Array Keyed)(b:Nat):Array Keyed:=m.toList.zipIdx.foldl (λa (p:Keyed×Nat)=>a.setIfInBounds (b+p.2) p.1) c
def ym(h:b+m.size<=a.size)(i:Nat):(putAt a m b)[i]? =if b<=i/\i<b+m.size then m[i-b]? else a[i]? :=by
 have:=(qz m.toList 0 b a (by simpa using h)).2 i
 unfold putAt;rw[this];simp
def FA(h:b+m.size<=a.size):(putAt a m b).size=a.size:=(qz m.toList 0 b a (by simpa using h)).1
def Fz(h:b+m.size<=a.size)(p:m.toList.Perm ((a.toList.drop b).take m.size)):(putAt a m b).Perm a:=by
 rw[JV]
 have e:(putAt a m b).toList=a.toList.take b++(m.toList++a.toList.drop (b+m.size)):=by
  apply yZ;intro i;rw[f9,ym h,List.getElem?_append,List.getElem?_append,iw,fZ,fZ,List.getElem?_take,yX,f9,f9,f9]
  repeat' split
  all_goals first|rfl| (exfalso;lia) | (congr 1;lia)
 have c:a.toList=a.toList.take b++((a.toList.drop b).take m.size++a.toList.drop (b+m.size)):=by
  conv=>lhs;rw[<-lN b a.toList,nB a.toList b m.size]
 rw[e]
 conv=>rhs;rw[c]
 exact List.Perm.append_left _ (p.append_right _)
section
variable {O:KeyOrd} {key:Keyed->O.α} {S:Keyed->Prop} {k0:SortKind} {prog:Program} {w:World} {A:Around} {E:Value->Shared->Prop} {s:Shared} {st bO:SortSt}
def Pj(h:Q ⟨⟩ a):wpS M A E s (set a:StateT SortSt Sem PUnit) Q st:=by
 unfold wpS;rw[StateT.run_set];exact AC #[rfl,h]
def fH{xs:Array Keyed}{a b:Nat}(h:jo O key xs a b){i j:Nat}(c:a<=i)(d:i<=j)(e:j<b)(f:xs[i]? =some x)(g:xs[j]? =some y):LE O key x y:=by
 have:=h i j c d e
 unfold ky at this;rw[f,g] at this;exact this
def Dk{xs:Array Keyed}(k:b<=xs.size)(h:∀i j x y,a<=i->i<=j->j<b->xs[i]? =some x->xs[j]? =some y->LE O key x y):jo O key xs a b:=λi j e f g=>by
 obtain⟨x,c,_,_⟩:=bF (xs:=xs) (i:=i) (by lia)
 obtain⟨y,d,_,_⟩:=bF (xs:=xs) (i:=j) (by lia)
 unfold ky;rw[c,d];exact h i j x y e f g c d
def ext_get{xs:Array Keyed}{a b i:Nat}(c:b<=xs.size)(d:i<b-a):(xs.extract a b)[i]? =xs[a+i]? :=by
 rw[Array.getElem?_extract,tz (by lia)]
def ext_mem{c:Array Keyed}{a b:Nat}{x:Keyed}(h:x∈(c.extract a b).toList):∃i,a<=i/\i<b/\i<c.size/\c[i]? =some x:=by
 rw[ext_toList] at h;obtain⟨j,f,d,e⟩:=eQ h;rw[fZ] at d;exact#[a+j,by lia,by lia,d,kr e]
def Js(h:jo O key xs a b)(c:b<=xs.size):(xs.extract a b).toList.Pairwise (LE O key):=by
 rw[Gd];intro i j d e l;have f:(xs.extract a b).toList.length=b-a:=by rw[fZ,A1];lia
 rw[f] at d e;have g:=ext_get (xs:=xs) (a:=a) c d;have k:=ext_get (xs:=xs) (a:=a) c e;refine fH h (i:=a+i) (j:=a+j) (by lia) (by lia) (by lia) ?_ ?_
 .rw[<-g,<-f9];exact eI _
 .rw[<-k,<-f9];exact eI _
def DJ(C:gS O key S k0 (model prog w) A E s)(o:Ok S k0 st)(hf:failedOf st=none)(p1:(pendingOf st)[i]? =some (b,d,pw))(p2:(pendingOf st)[i+1]? =some (b+d,v,Y2))(hna:1<=d)(Qk:1<=v)(fw:b+d+v<=(arrOf st).size)
  (N:jo O key (arrOf st) b (b+d)) (P:jo O key (arrOf st) (b+d) (b+d+v))
  (q:∀l,(arrOf l).Perm (arrOf st)->kindOf l=kindOf st->failedOf l=none->pendingOf l=((pendingOf st).setIfInBounds i (b,d+v,pw)).eraseIdxIfInBounds (i+1)->(∀j,j<b\/b+d+v<=j->(arrOf l)[j]? =(arrOf st)[j]?)->jo O key (arrOf l) b (b+(d+v))->Q true l):
  wpS (model prog w) A E s (mergeAt' i) Q st:=by
 rw[CL];refine Do (aaQ ?_);rw[p1,p2];dsimp only;refine Do (Pj ?_);generalize ((pendingOf st).setIfInBounds i (b,d+v,pw)).eraseIdxIfInBounds (i+1)=pn at q;have o':Ok S k0 (setPending st pn):=#[o.mem,o.kind];have mem:∀x∈(arrOf st).toList,S x:=o.mem;obtain⟨X,Uj,mb0,lb0⟩:=bF (xs:=arrOf st) (i:=b+d) (by lia)
 refine Do (bA Uj ?_);have qb:∀(j:Nat)(z:Keyed),(arrOf st)[j]? =some z->(arrOf st)[j]?.getD (Value.none,Value.none)=z:=λj z e=>by rw[e];rfl
 refine Do (gR C (pS mem (i:=b) (n:=d) (by lia)) (mem X mb0) o'.kind (by lia) (λi j G Y h=>?_) λk hk kt kf=>?_)
 .obtain⟨xi,M,_,_⟩:=bF (xs:=arrOf st) (i:=b+i) (by lia)
  obtain⟨xj,Z,_,_⟩:=bF (xs:=arrOf st) (i:=b+j) (by lia)
  unfold dS at h ⊢;rw[mo (by decide)] at h ⊢
  rw[Z] at h;rw[M];have h':O.kle (key xj) (key X):=by unfold KeyOrd.kle;simpa using h
  have:=KF (fH N (by lia) (by lia) (by lia) M Z) h'
  unfold KeyOrd.kle at this;simpa using this
 have Yz:∀j x,b<=j->j<b+k->(arrOf st)[j]? =some x->LE O key x X:=λj x f B e=>by
  have:=kt (j-b) (by lia)
  unfold dS at this;rw[mo (by decide),show b+(j-b)=j by lia,qb j x e] at this
  show O.blt _ _=false;simpa using this
 have khi:∀j x,b+k<=j->j<b+d->(arrOf st)[j]? =some x->LE O key X x:=λj x f B e=>by
  have:=kf (j-b) (by lia) (by lia)
  unfold dS at this;rw[mo (by decide),show b+(j-b)=j by lia,qb j x e] at this
  exact Pv (show O.blt _ _=true by simpa using this)
 dsimp only;have Sj:∀j y,b+d<=j->j<b+d+v->(arrOf st)[j]? =some y->LE O key X y:=λj y f B e=>fH P (by lia) f B Uj e
 by_cases e0:d-k=0
 .rw[tz (by simpa using e0)]
  refine FM (q _ (.refl _) rfl hf rfl (λ_ _=>rfl) ?_);refine Dk (by show b+(d+v)<=(arrOf st).size;lia) λi j x y f G Y H I=>?_
  by_cases c1:j<b+d
  .exact fH N f G c1 H I
  .by_cases c2:i<b+d
   .exact KF (Yz i x f (by lia) H) (Sj j y (by lia) (by lia) I)
   .exact fH P (by lia) G (by lia) H I
 rw[mo (by simpa using e0)]
 have W7:b+k+(d-k)-1=b+d-1:=by lia
 obtain⟨al,P2,mal,lal⟩:=bF (xs:=arrOf st) (i:=b+k+(d-k)-1) (by lia)
 refine Do (bA P2 ?_);rw[W7] at P2;refine Do (gR C (pS mem (i:=b+d) (n:=v) (by lia)) (mem al mal) o'.kind (by lia) (λi j G Y h=>?_) λm hm mt mf=>?_)
 .obtain⟨yi,M,_,_⟩:=bF (xs:=arrOf st) (i:=b+d+i) (by lia)
  obtain⟨yj,Z,_,_⟩:=bF (xs:=arrOf st) (i:=b+d+j) (by lia)
  unfold dS at h ⊢;rw[tz rfl] at h ⊢;rw[Z] at h;rw[M];exact aaX (fH P (by lia) (by lia) (by lia) M Z) h
 have mlo:∀j y,b+d<=j->j<b+d+m->(arrOf st)[j]? =some y->LE O key y al:=λj y f B e=>by
  have:=mt (j-(b+d)) (by lia)
  unfold dS at this;rw[tz rfl,show b+d+(j-(b+d))=j by lia,qb j y e] at this
  exact Pv this
 have YE:∀j y,b+d+m<=j->j<b+d+v->(arrOf st)[j]? =some y->LE O key al y:=λj y f B e=>by
  have:=mf (j-(b+d)) (by lia) (by lia)
  unfold dS at this;rw[tz rfl,show b+d+(j-(b+d))=j by lia,qb j y e] at this
  exact this
 have ZH:∀j x,b<=j->j<b+d->(arrOf st)[j]? =some x->LE O key x al:=λj x f B e=>fH N f (by lia) (by lia) e P2
 dsimp only
 by_cases M:m=0
 .rw[tz (by simpa using M)]
  refine FM (q _ (.refl _) rfl hf rfl (λ_ _=>rfl) ?_);refine Dk (by show b+(d+v)<=(arrOf st).size;lia) λi j x y f G Y H I=>?_
  by_cases c1:j<b+d
  .exact fH N f G c1 H I
  .by_cases c2:i<b+d
   .exact KF (ZH i x f c2 H) (YE j y (by lia) (by lia) I)
   .exact fH P (by lia) G (by lia) H I
 rw[mo (by simpa using M)]
 have T:mY O key S ((arrOf st).extract (b+k) (b+d)) ((arrOf st).extract (b+d) (b+d+m)):=by
  refine#[λx J=>?_,λx J=>?_,Js (λi j f B h3=>N i j (by lia) B h3) (by lia),Js (λi j f B h3=>P i j f B (by lia)) (by lia),by rw[A1];lia,by rw[A1];lia,λy hy x J=>?_,λx J y hy=>?_]
  .obtain⟨i,_,_,_,e⟩:=ext_mem J
   exact mem x (fm (lF e))
  .obtain⟨i,_,_,_,e⟩:=ext_mem J
   exact mem x (fm (lF e))
  .rw[ext_get (by lia) (by lia)] at hy
   have KI:(arrOf st)[b+d]? =some y:=hy;rw[Uj] at KI;cases KI;obtain⟨i,f,B,_,e⟩:=ext_mem J;exact khi i x f B e
  .have hsz2:((arrOf st).extract (b+k) (b+d)).size=d-k:=by rw[A1];lia
   rw[hsz2,ext_get (by lia) (by lia)] at J
   rw[show b+k+(d-k-1)=b+d-1 by lia,P2] at J;cases J
   obtain⟨i,f,B,_,e⟩:=ext_mem hy;exact mlo i y f B e
 have szx:((arrOf st).extract (b+k) (b+d)).size=d-k:=by rw[A1];lia
 have szy:((arrOf st).extract (b+d) (b+d+m)).size=m:=by rw[A1];lia
 have fin:∀(r:Array Keyed)(l:SortSt),GS (setPending st pn) l->Res O key (((arrOf st).extract (b+k) (b+d)).toList++((arrOf st).extract (b+d) (b+d+m)).toList) r.toList->
   wpS (model prog w) A E s (do
    modify λs=>setArr s (r.toList.zipIdx.foldl (λa (p,j)=>a.setIfInBounds (b+k+j) p) (arrOf s))
    return (failedOf (<-get)).isNone) Q l:=by
  intro r l g u;refine Do (aa2 (Do (aaQ ?_)));have KC:failedOf l=none:=g.failed.trans hf
  have hr:r.size=d-k+m:=by
   have:=u.1.length_eq
   rw[dB,fZ,fZ,fZ,szx,szy] at this;exact this
  have hb:b+k+r.size<=(arrOf l).size:=by rw[g.arr];show _<=(arrOf st).size;lia
  have aah:(r.toList.zipIdx.foldl (λa (x:Keyed×Nat)=>match x with| (p,j)=>a.setIfInBounds (b+k+j) p) (arrOf l))=putAt (arrOf l) r (b+k):=rfl
  show wpS _ _ _ _ (pure (failedOf l).isNone) Q (setArr l (putAt (arrOf l) r (b+k)));rw[KC];have ga:arrOf l=arrOf st:=g.arr;rw[ga] at hb ⊢;have Jw:=λi=>ym hb i;rw[hr] at Jw
  have SO:∀j x,b+k<=j->j<b+d+m->(putAt (arrOf st) r (b+k))[j]? =some x->∃i,b+k<=i/\i<b+d+m/\(arrOf st)[i]? =some x:=λj x f B e=>by
   rw[Jw,tz (by lia)] at e
   have hm:=u.1.mem_iff.mp (fm (lF e))
   rcases dh.mp hm with z|z
   .obtain⟨i,R,a2,_,U⟩:=ext_mem z
    exact#[i,R,by lia,U]
   .obtain⟨i,R,a2,_,U⟩:=ext_mem z
    exact#[i,by lia,a2,U]
  have t:∀j,j<b+k\/b+d+m<=j->(putAt (arrOf st) r (b+k))[j]? =(arrOf st)[j]? :=λj h=>by rw[Jw,mo (by lia)]
  have N4:∀i x j y,b<=i->i<b+k->(arrOf st)[i]? =some x->b+k<=j->j<b+d+v->(arrOf st)[j]? =some y->LE O key x y:=λi x j y R a2 a3 U a5 a6=>by
   by_cases c:j<b+d
   .exact fH N R (by lia) c a3 a6
   .exact KF (Yz i x R a2 a3) (Sj j y (by lia) a5 a6)
  have Qh:∀i x j y,b<=i->i<b+d+m->(arrOf st)[i]? =some x->b+d+m<=j->j<b+d+v->(arrOf st)[j]? =some y->LE O key x y:=λi x j y R a2 a3 U a5 a6=>by
   by_cases c:i<b+d
   .exact KF (ZH i x R c a3) (YE j y U a5 a6)
   .exact fH P (by lia) (by lia) a5 a3 a6
  refine FM (q _ ?_ g.kind KC g.pend (λj Y=>t j (by lia)) ?_)
  .refine Fz hb ?_
   rw[hr];refine u.1.trans ?_;rw[ext_toList,ext_toList,show b+d-(b+k)=d-k by lia,show b+d+m-(b+d)=m by lia]
   have:((arrOf st).toList.drop (b+k)).take (d-k+m)=((arrOf st).toList.drop (b+k)).take (d-k)++((arrOf st).toList.drop (b+d)).take m:=by
    rw[oX _ (show d-k<=d-k+m by lia),List.drop_drop,show b+k+(d-k)=b+d by lia,show d-k+m-(d-k)=m by lia]
   rw[this]
  .refine Dk (by show b+(d+v)<=(putAt (arrOf st) r (b+k)).size;rw[FA hb];lia) λi j x y f G Y H I=>?_
   have L:(putAt (arrOf st) r (b+k))[i]? =some x:=H;have F:(putAt (arrOf st) r (b+k))[j]? =some y:=I
   by_cases ci:i<b+k
   .rw[t i (.inl ci)] at L
    by_cases cj:j<b+k
    .rw[t j (.inl cj)] at F
     exact fH N f G (by lia) L F
    .by_cases Ww:j<b+d+m
     .obtain⟨j',b1,b2,b3⟩:=SO j y (by lia) Ww F
      exact N4 i x j' y f ci L b1 (by lia) b3
     .rw[t j (.inr (by lia))] at F
      exact N4 i x j y f ci L (by lia) (by lia) F
   .by_cases ci2:i<b+d+m
    .by_cases Ww:j<b+d+m
     .rw[Jw,tz (by lia)] at L F
      exact fX u.2 (by lia) (lF L) (lF F)
     .obtain⟨i',b1,b2,b3⟩:=SO i x (by lia) ci2 L
      rw[t j (.inr (by lia))] at F
      exact Qh i' x j y (by lia) b2 b3 (by lia) (by lia) F
    .rw[t i (.inr (by lia))] at L
     rw[t j (.inr (by lia))] at F
     exact fH P (by lia) G (by lia) L F
 by_cases c:d-k<=m
 .rw[tz c]
  exact Do (DL C o'.kind T λr l g u=>fin r l g u)
 .rw[mo c]
  exact Do (DK C o'.kind T λr l g u=>fin r l g u)
end
abbrev U1:=Option Unit×Unit
def JP(a:Nat):StateT SortSt Sem (ForInStep U1):=do
 let st <-get
 match (if (pendingOf st).size>1 then(pendingOf st)[(pendingOf st).size-2]? else none) with
 |some (_,_,b)=>
  if b<=a then pure (ForInStep.done (none,()))
  else do
   let ok <-mergeAt' ((pendingOf st).size-2)
   if (!ok)=true then pure (ForInStep.done (some (),())) else pure (ForInStep.yield (none,()))
 |_=>pure (ForInStep.done (none,()))
def mE(size lo n:Nat):StateT SortSt Sem (ForInStep (Option Unit×Nat)):=do
 let st <-get
 match (pendingOf st).back? with
 |some (b,a,_)=>do
  let t <-forIn [0:size] ((none,()):U1) λ_ _=>JP (power' size (2*b+a) (2*b+a+a+n) size)
  match t.1 with
  |some r=>pure (ForInStep.done (some r,lo))
  |none=>do
   modify λs=>setPending s ((pendingOf s).modify ((pendingOf s).size-1) λx=>(x.1,x.2.1,power' size (2*b+a) (2*b+a+a+n) size))
   modify λs=>setPending s ((pendingOf s).push (lo,n,0))
   pure (ForInStep.yield (none,lo+n))
 |_=>do
  modify λs=>setPending s ((pendingOf s).push (lo,n,0))
  pure (ForInStep.yield (none,lo+n))
def Dj(size lo:Nat):StateT SortSt Sem (ForInStep (Option Unit×Nat)):=
 if lo>=size then pure (ForInStep.done (none,lo))
 else do
  let x <-countRun' lo (size-lo)
  match x with
  |some a=>
   if a<minRun' size size 0 then do
    liftM (rule "list.sort.binary-insertion")
    let ok <-binarySort' lo (min (size-lo) (minRun' size size 0)) a
    if (!ok)=true then pure (ForInStep.done (some (),lo)) else mE size lo (min (size-lo) (minRun' size size 0))
   else mE size lo a
  |_=>pure (ForInStep.done (some (),lo))
def Iu:StateT SortSt Sem (ForInStep U1):=do
 let st <-get
 if (pendingOf st).size<=1 then pure (ForInStep.done (none,()))
 else do
  let ok <-mergeAt' (if (if (pendingOf st).size-2>0 then(pendingOf st)[(pendingOf st).size-2-1]?.map (·.2.1) else none).any (·<((pendingOf st)[(pendingOf st).size-2+1]?.elim 0 (·.2.1))) then(pendingOf st).size-2-1 else(pendingOf st).size-2)
  if (!ok)=true then pure (ForInStep.done (some (),())) else pure (ForInStep.yield (none,()))
theorem yB:sortRuns'=(do
 let st <-get
 let c <-forIn [0:(arrOf st).size] ((none,0):Option Unit×Nat) λ_ c=>Dj (arrOf st).size c.2
 match c.1 with
 |some r=>pure r
 |none=>do
  let t <-forIn [0:(arrOf st).size] ((none,()):U1) λ_ _=>Iu
  match t.1 with
  |some r=>pure r
  |none=>pure ()):=by
 rw[sortRuns'_eq];dsimp only;refine dz rfl λst=>dz (BJ λ_ c=>?_) λc=>?_
 .unfold Dj
  refine fE (λ_=>rfl) (λ_=>dz rfl λx=>?_);cases x with
  |none=>rfl
  |some f=>
   dsimp only;have i:∀n:Nat,mE (arrOf st).size c.2 n=mE (arrOf st).size c.2 n:=λ_=>rfl;refine fE (λ_=>dz rfl λ_=>dz rfl λok=>fE (λ_=>rfl) (λ_=>?_)) (λ_=>?_)
   all_goals
    unfold mE;refine dz rfl λd=>?_;cases(pendingOf d).back? with
    |none=>rfl
    |some e=>
     obtain⟨j,k,l⟩:=e;dsimp only;refine dz (BJ λ_ c=>?_) λt=>?_
     .unfold JP
      refine dz rfl λa=>?_;cases(if (pendingOf a).size>1 then(pendingOf a)[(pendingOf a).size-2]? else none) with
      |none=>rfl
      |some e=>rfl
     .obtain⟨b,g⟩:=t
      cases b<;>rfl
 .obtain⟨h,m⟩:=c
  cases h with
  |some r=>rfl
  |none=>
   dsimp only;refine dz (BJ λ_ c=>?_) λt=>?_
   .rfl
   .obtain⟨b,g⟩:=t
    cases b<;>rfl
section
variable {O:KeyOrd} {key:Keyed->O.α} {S:Keyed->Prop} {k0:SortKind} {prog:Program} {w:World} {A:Around} {E:Value->Shared->Prop} {s:Shared} {st bO:SortSt}
def jH(O:KeyOrd)(key:Keyed->O.α)(c:Array Keyed):Nat->List (Nat×Nat)->Nat->Prop
 |a,[],b=>a=b
 |a,e::r,b=>e.1=a/\1<=e.2/\jo O key c a (a+e.2)/\jH O key c (a+e.2) r b
theorem jH.app:∀{j g:List (Nat×Nat)}{a b:Nat},jH O key i a (j++g) b↔∃c,jH O key i a j c/\jH O key i c g b
 | [],g,a,b=>#[λh=>#[a,rfl,h],λ#[c,d,f]=>by cases d;exact f]
 |e::j,g,a,b=>by
  constructor
  .rintro⟨d,f,k,n⟩
   obtain⟨c,l,m⟩:=jH.app.mp n;exact#[c,#[d,f,k,l],m]
  .rintro⟨c,⟨d,f,k,l⟩,m⟩
   exact#[d,f,k,jH.app.mpr #[c,l,m]]
theorem jH.le:∀{l:List (Nat×Nat)}{a b:Nat},jH O key c a l b->a+l.length<=b
 | [],a,b,h=>by cases h;simp
 |e::l,a,b,#[_,f,_,d]=>by
  have:=jH.le d
  rw[cU];lia
def yE(h:∀i,a<=i->i<b->d[i]? =c[i]?)(g:jo O key c a b):jo O key d a b:=λi j e k f=>by
 rw[iE (h i e (by lia)),iE (h j (by lia) f)];exact g i j e k f
theorem jH.congr:∀{l:List (Nat×Nat)}{a b:Nat},(∀i,a<=i->i<b->d[i]? =c[i]?)->jH O key c a l b->jH O key d a l b
 | [],a,b,_,h=>h
 |e::l,a,b,f,#[m,n,o,g]=>by
  have:=jH.le g
  exact#[m,n,yE (λi j k=>f i j (by lia)) o,jH.congr (λi j k=>f i (by lia) k) g]
def pl(st:SortSt):List (Nat×Nat):=(pendingOf st).toList.map λe=>(e.1,e.2.1)
structure SI (O:KeyOrd) (key:Keyed->O.α) (S:Keyed->Prop) (k0:SortKind) (a0:Array Keyed) (st:SortSt) (lo:Nat):Prop where
 ok:Ok S k0 st
 failed:failedOf st=none
 perm:(arrOf st).Perm a0
 cov:jH O key (arrOf st) 0 (pl st) lo
 le:lo<=a0.size
theorem SI.size{a:Array Keyed}{lo:Nat}(h:SI O key S k0 a st lo):(arrOf st).size=a.size:=h.perm.size_eq
def F6(C:gS O key S k0 (model prog w) A E s){n:Array Keyed}{lo i:Nat}{Q:Bool->SortSt->Prop}(h:SI O key S k0 n st lo)(I:i+1<(pendingOf st).size)
  (q:∀a,SI O key S k0 n a lo->(pendingOf a).size=(pendingOf st).size-1->(∀j,lo<=j->(arrOf a)[j]? =(arrOf st)[j]?)->Q true a):wpS (model prog w) A E s (mergeAt' i) Q st:=by
 have J:(pendingOf st)[i]? =some (pendingOf st)[i]:=aaJ _ i (by lia)
 have L:(pendingOf st)[i+1]? =some (pendingOf st)[i+1]:=aaJ _ (i+1) I
 have o:(pendingOf st).toList=(pendingOf st).toList.take i++((pendingOf st)[i]::(pendingOf st)[i+1]::(pendingOf st).toList.drop (i+2)):=by
  conv=>lhs;rw[<-lN i (pendingOf st).toList]
  congr 1
  rw[qm (by rw[fZ];lia),qm (by rw[fZ];lia)]
  rfl
 generalize hx:(pendingOf st)[i]=x at*;generalize hy:(pendingOf st)[i+1]=y at*;obtain⟨e,f,M⟩:=x;obtain⟨sb,g,Y2⟩:=y;have k:=h.cov;unfold pl at k;rw[o,eE,cf,cf] at k;obtain⟨c,N,P⟩:=jH.app.mp k;obtain⟨r,t,u,v,z,B,l⟩:=P;dsimp only at r t u v z B l;subst r;subst v;have R:=l.le;have fw:=h.size;have EV:=h.le;refine DJ C h.ok h.failed J L t z (by lia) u B λa F T U X m Y=>?_
 have b:(pendingOf a).toList=(pendingOf st).toList.take i++((e,f+g,M)::(pendingOf st).toList.drop (i+2)):=by
  rw[X,Array.toList_eraseIdxIfInBounds,Array.toList_setIfInBounds]
  conv=>lhs;rw[o]
  have d:((pendingOf st).toList.take i).length=i:=by rw[iw,fZ];lia
  rw[List.set_append_right _ _ (by lia),List.eraseIdx_append_of_length_le (by lia),d,qr,show i+1-i=1 by lia]
  rfl
 refine q a #[#[λp Z=>h.ok.mem p ((JV.mp F).mem_iff.mp Z),T.trans h.ok.kind],U,F.trans h.perm,?_,h.le] ?_ λj hj=>m j (.inr (by lia))
 .unfold pl
  rw[b,eE,cf];refine jH.app.mpr #[e,jH.congr (λj G H=>m j (.inl H)) N,rfl,?_,Y,?_]
  .show 1<=f+g;lia
  .show jH O key (arrOf a) (e+(f+g)) _ lo
   rw[<-Nat.add_assoc];exact jH.congr (λj G H=>m j (.inr G)) l
 .rw[<-fZ,b,dB,cU,iw,tV,fZ];lia
def Kp(bO st:SortSt)(lo:Nat):Prop:=∀j,lo<=j->(arrOf st)[j]? =(arrOf bO)[j]?
def LB(C:gS O key S k0 (model prog w) A E s){f:Array Keyed}{lo g:Nat}(h:SI O key S k0 f st lo)(d:Kp bO st lo):wpS (model prog w) A E s (JP g) (λr a=>match r with| .done c=>c=(none,())/\SI O key S k0 f a lo/\Kp bO a lo| .yield c=>c=(none,())/\SI O key S k0 f a lo/\Kp bO a lo) st:=by
 unfold JP;refine Do (aaQ ?_)
 by_cases i:(pendingOf st).size>1
 .rw[tz i]
  cases e:(pendingOf st)[(pendingOf st).size-2]? with
  |none=>exact FM #[rfl,h,d]
  |some x=>
   obtain⟨o,p,l⟩:=x;dsimp only
   by_cases b:l<=g
   .rw[tz b];exact FM #[rfl,h,d]
   .rw[mo b]
    refine Do (F6 C h (by lia) λa m _ n=>?_)
    exact FM #[rfl,m,λj k=>(n j k).trans (d j k)]
 .rw[mo i]
  exact FM #[rfl,h,d]
def OF{lo n:Nat}:pl (setPending st ((pendingOf st).push (lo,n,0)))=pl st++ [(lo,n)]:=by
 unfold pl;show((pendingOf st).push (lo,n,0)).toList.map _=_;rw[A4,eE];rfl
def Ic:pl (setPending st ((pendingOf st).modify i λx=>(x.1,x.2.1,a)))=pl st:=by
 unfold pl;show((pendingOf st).modify i λx=>(x.1,x.2.1,a)).toList.map _=_;apply yZ;intro j;rw[df,df,f9,f9,Array.getElem?_modify]
 by_cases e:i=j
 .rw[tz e]
  cases(pendingOf st)[j]? <;>rfl
 .rw[mo e]
def SI.JK{a:Array Keyed}{lo n:Nat}(h:SI O key S k0 a st lo)(b:1<=n)(c:lo+n<=a.size)(d:jo O key (arrOf st) lo (lo+n)):SI O key S k0 a (setPending st ((pendingOf st).push (lo,n,0))) (lo+n):=by
 refine#[#[h.ok.mem,h.ok.kind],h.failed,h.perm,?_,c];rw[OF];exact jH.app.mpr #[lo,h.cov,rfl,b,d,rfl]
theorem u9(C:gS O key S k0 (model prog w) A E s){b:Array Keyed}{lo n:Nat}(h:SI O key S k0 b st lo)(k:1<=n)(l:lo+n<=b.size)(m:jo O key (arrOf st) lo (lo+n)):
  wpS (model prog w) A E s (mE b.size lo n) (λr a=>match r with| .done c=>False| .yield c=>c=(none,lo+n)/\SI O key S k0 b a (lo+n)) st:=by
 unfold mE;refine Do (aaQ ?_);cases(pendingOf st).back? with
 |none=>exact Do (aa2 (FM #[rfl,h.JK k l m]))
 |some e=>
  obtain⟨p,j,v⟩:=e;dsimp only;refine Do (PP (P3 (I:=λ(x:Nat)(c:U1)(a:SortSt)=>c=(none,())/\SI O key S k0 b a lo/\Kp st a lo) (Q:=λc a=>c=(none,())/\SI O key S k0 b a lo/\Kp st a lo) (λx c a _ _ g=>?_) (λc a g=>g) #[rfl,h,λ_ _=>rfl]) ?_)
  .refine PP (LB C g.2.1 g.2.2) λr y o=>?_
   cases r with
   |done d=>exact o
   |yield d=>exact o
  .rintro c a ⟨rfl,f,q⟩
   dsimp only;refine Do (aa2 (Do (aa2 (FM #[rfl,?_]))))
   have t:SI O key S k0 b (setPending a ((pendingOf a).modify ((pendingOf a).size-1) λx=>(x.1,x.2.1,power' b.size (2*p+j) (2*p+j+j+n) b.size))) lo:=
    #[#[f.ok.mem,f.ok.kind],f.failed,f.perm,by rw[Ic];exact f.cov,f.le]
   exact t.JK k l (yE (λi u z=>q i u) m)
def SI.Zn{b:Array Keyed}{lo c:Nat}{a:SortSt}(h:SI O key S k0 b st lo)(t:gT st a lo c):SI O key S k0 b a lo:=
 #[h.ok.step t,t.failed.trans h.failed,t.perm.trans h.perm,by
  have:pl a=pl st:=by unfold pl;rw[t.pend]
  rw[this];exact jH.congr (λi _ d=>t.out i (.inl d)) h.cov,h.le]
theorem IS(C:gS O key S k0 (model prog w) A E s){a:Array Keyed}{lo:Nat}(h:SI O key S k0 a st lo):
  wpS (model prog w) A E s (Dj a.size lo) (λr b=>match r with| .done c=>c=(none,lo)/\a.size<=lo/\SI O key S k0 a b lo| .yield c=>∃n,1<=n/\c=(none,lo+n)/\SI O key S k0 a b (lo+n)) st:=by
 unfold Dj;have u:=h.size;have k:=h.le
 by_cases f:lo>=a.size
 .rw[tz f];exact FM #[rfl,f,h]
 .rw[mo f]
  refine Do (wpS_countRun C h.ok (by lia) (by lia) λm v l g x i=>?_)
  dsimp only;have e:=h.Zn l;have p:=e.size
  by_cases j:m<minRun' a.size a.size 0
  .rw[tz j]
   refine Do (aba (aaL #[rfl,?_]));refine Do (wpS_binarySort C e.ok (by lia) (by lia) i λy q t=>?_)
   rw[mo (by decide)]
   refine PP (u9 C (e.Zn q) (by lia) (by lia) t) λr b o=>?_
   cases r with
   |done d=>exact o.elim
   |yield d=>exact#[_,by lia,o.1,o.2]
  .rw[mo j]
   refine PP (u9 C e g (by lia) i) λr b o=>?_
   cases r with
   |done d=>exact o.elim
   |yield d=>exact#[_,g,o.1,o.2]
def ite_le [Decidable c]:(if c then p-1 else p)<=p:=by split<;>lia
def IQ(C:gS O key S k0 (model prog w) A E s)(h:SI O key S k0 a st a.size)(g:(pendingOf st).size<=max 1 (a.size-x)):
  wpS (model prog w) A E s Iu (λr b=>match r with| .done c=>c=(none,())/\SI O key S k0 a b a.size/\(pendingOf b).size<=1| .yield c=>c=(none,())/\SI O key S k0 a b a.size/\(pendingOf b).size<=max 1 (a.size-(x+1))) st:=by
 unfold Iu;refine Do (aaQ ?_)
 by_cases d:(pendingOf st).size<=1
 .rw[tz d];exact FM #[rfl,h,d]
 .rw[mo d]
  refine Do (F6 C h (DX (Nat.succ_le_succ ite_le) (by lia)) λb f e _=>?_)
  exact FM #[rfl,f,by lia]
theorem wpS_sortRuns(C:gS O key S k0 (model prog w) A E s){Q:Unit->SortSt->Prop}(o:Ok S k0 st)(p:failedOf st=none)(t:pendingOf st= #[])(F:1<=(arrOf st).size)
  (q:∀a,(arrOf a).Perm (arrOf st)->failedOf a=none->jo O key (arrOf a) 0 (arrOf st).size->Q () a):wpS (model prog w) A E s sortRuns' Q st:=by
 rw[yB];refine Do (aaQ ?_);have u:SI O key S k0 (arrOf st) st 0:=#[o,p, .refl _,by unfold pl;rw[t];rfl,fq _]
 refine Do (PP (P3 (I:=λ(x:Nat)(c:Option Unit×Nat)(a:SortSt)=>∃lo,c=(none,lo)/\min x (arrOf st).size<=lo/\SI O key S k0 (arrOf st) a lo) (Q:=λc a=>c=(none,(arrOf st).size)/\SI O key S k0 (arrOf st) a (arrOf st).size) (λx c a _ _ b=>?_) (λc a b=>?_) #[0,rfl,by lia,u]) ?_)
 .obtain⟨lo,rfl,v,f⟩:=b
  refine PP (IS C f) λr g o=>?_;cases r with
  |done d=>
   obtain⟨e,G,h⟩:=o
   have:=h.le
   have j:lo=(arrOf st).size:=by lia
   rw[j] at e h;exact#[e,h]
  |yield d=>
   obtain⟨n,H,e,h⟩:=o;exact#[lo+n,e,by lia,h]
 .obtain⟨lo,rfl,v,f⟩:=b
  have:=f.le
  have j:lo=(arrOf st).size:=by lia
  rw[j] at f ⊢;exact#[rfl,f]
 .rintro c a ⟨rfl,f⟩
  dsimp only
  have m:(pendingOf a).size<=(arrOf st).size:=by
   have:=f.cov.le
   unfold pl at this;rw[aL,fZ] at this;lia
  refine Do (PP (P3 (I:=λ(x:Nat)(c:U1)(a:SortSt)=>c=(none,())/\SI O key S k0 (arrOf st) a (arrOf st).size/\(pendingOf a).size<=max 1 ((arrOf st).size-x)) (Q:=λc a=>c=(none,())/\SI O key S k0 (arrOf st) a (arrOf st).size/\(pendingOf a).size<=1) (λx c a _ _ b=>?_) (λc a b=>?_) #[rfl,f,by lia]) ?_)
  .refine PP (IQ C b.2.1 b.2.2) λr g o=>?_
   cases r with
   |done d=>exact o
   |yield d=>exact o
  .exact#[b.1,b.2.1,by have:=b.2.2;lia]
  .rintro c g ⟨rfl,k,y⟩
   refine FM (q g k.perm k.failed ?_);have i:=k.cov;have l:(pl g).length<=1:=by unfold pl;rw[aL,fZ];exact y
   match hpl:pl g,l with
   | [],_=>rw[hpl] at i;exact absurd i (by show ¬(0=(arrOf st).size);lia)
   | [e],_=>
    rw[hpl] at i;obtain⟨J,L,z,B⟩:=i
    have:0+e.2=(arrOf st).size:=B
    rw[<-this];exact z
end
section
variable {O:KeyOrd} {key:Keyed->O.α} {S:Keyed->Prop} {k0:SortKind} {prog:Program} {w:World} {A:Around} {E:Value->Shared->Prop} {s:Shared}
def Keeps(s a:Shared):Prop:=∀b o,s.heap.get? b=some o->a.heap.get? b=some o
def uH(a:List Value):(a.toArray.zip a.toArray).toList=a.map λv=>(v,v):=by
 rw[Array.toList_zip];show List.zip a a=_
 induction a with
 |nil=>rfl
 |cons v r b=>rw[List.zip_cons_cons,cf,b]
def RJ(h:jo O key a 0 a.size):a.toList.Pairwise (LE O key):=by
 rw[Gd];intro i j c b d;rw[fZ] at c b;exact fH h (fq _) (uJ d) b (kr (eI _)) (kr (eI _))
def nW(j:s.heap.get? a=some (seqObj "list" c.toArray n))(N:2<=c.length)(R:c.length<=1000)(ne:∀b o,s.heap.get? b=some o->b≠a->True)
  {s0:Shared} (k:∀b o,s0.heap.get? b=some o->b≠a/\s.heap.get? b=some o)
  (z:∀(E:Value->Shared->Prop)(d:Shared)(m:SortKind->Shared->Prop),Keeps s0 d->m k0 d->wpAny (model prog w) A (keyKind' c.toArray) m E d)
  (C:∀(E:Value->Shared->Prop)(d:Shared),Keeps s0 d->gS O key S k0 (model prog w) A E d) (mem:∀v∈c,S (v,v))
  (h:∀out:Array Keyed,out.toList.Perm (c.map λv=>(v,v))->out.toList.Pairwise (LE O key)->P (.done (.ret .none)) {s with heap:=sortedHeap s.heap a c (out.map (·.2))}):
  wpAny (model prog w) A (Builtin.«list.sort» #[[.ref a],[]]) P E s:=by
 rw[list_sort_plain];have q:a<s.heap.objs.size:=FB j;have T:1000<sizeLine:=by decide
 refine ir (listItems_at j rfl ?_);refine ir (abR j rfl ?_ (by rw[cJ];lia) (fq _))
 obtain⟨l,r⟩:∃l,(s.heap.update a (Obj.mapSeq λ_=> #[])).get? a=some (seqObj "list" #[] l):=#[_,get?_update_seq j (λ_=> #[])];refine ir (acz r rfl ?_);refine ir (wpAny_newTuple ?_ (by show c.length<=_;lia))
 refine ir (aa8 ?_ (fq _));refine On ?_
 have t:(((s.heap.update a (Obj.mapSeq λ_=> #[])).push (seqObj "tuple" c.toArray 0)).push (seqObj "list" #[] 0)).get? a=some (seqObj "list" #[] l):=by
  rw[aa4 _ _ _ (by rw[abr,aaM];exact bQ (zg q)),aa4 _ _ _ (by rw[aaM];exact bQ q)]
  exact r
 show wpAny (model prog w) A _ P E {s with heap:=((s.heap.update a (Obj.mapSeq λ_=> #[])).push (seqObj "tuple" c.toArray 0)).push (seqObj "list" #[] 0)}
 have u:Keeps s0 {s with heap:=((s.heap.update a (Obj.mapSeq λ_=> #[])).push (seqObj "tuple" c.toArray 0)).push (seqObj "list" #[] 0)}:=λb o e=>by
  obtain⟨B,F⟩:=k b o e;refine Da _ (Da _ ?_);rw[aaF _ _ _ _ B];exact F
 dsimp only;have U:c.toArray.size=c.length:=by simp
 have x:¬c.toArray.size<2:=by lia
 rw[mo x,mo x];refine ir (z _ _ _ u ?_);have g:(c.toArray.zip c.toArray).size=c.length:=by rw[<-fZ,uH,aL]
 refine ir (wpAny_mono (wpS_sortRuns (C _ _ u) (st:=SortSt.mk' k0 (c.toArray.zip c.toArray) #[] 7 none)
   (Q:=λ_ f=>(arrOf f).Perm (c.toArray.zip c.toArray)/\failedOf f=none/\jo O key (arrOf f) 0 (c.toArray.zip c.toArray).size)
   #[λp i=>?_,rfl] rfl rfl (by show 1<=(c.toArray.zip c.toArray).size;lia) λf G H I=>#[G,H,I]) ?_ λ_ _ e=>e)
 .have y:p∈(c.toArray.zip c.toArray).toList:=i
  rw[uH] at y;obtain⟨v,J,rfl⟩:=cz.mp y;exact mem v J
 rintro⟨⟨⟩,f⟩ d ⟨rfl,i,L,M⟩;dsimp only;have X:(arrOf f).size=c.length:=by rw[i.size_eq,g]
 refine ir (acz t rfl ?_);refine ir (abR t rfl ?_ (fq _) (by rw[Array.size_map];lia))
 rw[L];simp only[abW,eZ,Os];refine AC (h (arrOf f) ?_ ?_)
 .rw[<-uH];exact JV.mp i
 .refine RJ ?_
  rw[i.size_eq];exact M
def FK(j:s.heap.IsList l a.toArray)(k:2<=a.length)(n:a.length<=1000)
  (p:∀(E:Value->Shared->Prop)(c:Shared)(g:SortKind->Shared->Prop),Keeps s c->g k0 c->wpAny (model prog w) A.in1.in1 (keyKind' a.toArray) g E c)
  (C:∀(E:Value->Shared->Prop)(c:Shared),Keeps s c->gS O key S k0 (model prog w) A.in1.in1 E c) (mem:∀v∈a,S (v,v))
  (h:∀out:Array Keyed,out.toList.Perm (a.map λv=>(v,v))->out.toList.Pairwise (LE O key)->Q (.ref (s.heap.objs.size+1)) {s with heap:=sortedAll s.heap a (out.map (·.2))}):
  wpAny (model prog w) A (call (.builtin "sorted") [.ref l]) Q E s:=by
 have u:1000<sizeLine:=by decide
 refine aaT kind_sorted acL acM (acN _) ?_;unfold Builtin.«sorted»;refine ir (m:=checkCount "sorted" 1 1 _) (AC ?_);refine ir (acO j ?_ (by lia))
 refine ir (aa8 ?_ (by show a.length<=_;lia))
 have d:((s.heap.push (seqObj "list" #[] 0)).update s.heap.objs.size (Obj.mapSeq (·++a.toArray))).objs.size=s.heap.objs.size+1:=by
  rw[aaM,abr]
 have i:(((s.heap.push (seqObj "list" #[] 0)).update s.heap.objs.size (Obj.mapSeq (·++a.toArray))).push (seqObj "list" a.toArray 0)).get? (s.heap.objs.size+1)=some (seqObj "list" a.toArray 0):=by
  rw[<-d];exact GM _ rfl
 have keep:∀b o,s.heap.get? b=some o->(((s.heap.push (seqObj "list" #[] 0)).update s.heap.objs.size (Obj.mapSeq (·++a.toArray))).push (seqObj "list" a.toArray 0)).get? b=some o:=λb o q=>by
  have f:b<s.heap.objs.size:=FB q;rw[aa4 _ _ _ (by rw[d];exact bQ (zg f)),aaF _ _ _ _ (bQ f),aa4 _ _ _ (bQ f)]
  exact q
 show wpAny _ _ _ _ _ {s with heap:=((s.heap.push (seqObj "list" #[] 0)).update s.heap.objs.size (Obj.mapSeq (·++a.toArray))).push (seqObj "list" a.toArray 0)}
 rw[d];refine ir (On (aav abE #[_,i,rfl] abt (nW (s0:=s) i k n (λ_ _ _ _=>trivial) (λb o e=>#[bQ (zg (FB e)),keep b o e]) p C mem λout r t=>#[_,rfl,?_]) (abF _)));exact AC #[_,rfl,h out r t]
end
end TS
namespace L2
open PySem PySem.Spec PyProof.Rows
def lexOrd:KeyOrd where
 α:=Nat×Nat
 blt:=jR
 irrefl:=λa=>by unfold jR;rw[tz rfl];simp
 trans:=λa b c d e=>NY _ _ _ d e
 negTrans:=λa b c h=>KU _ _ _ h
 total:=λa b d e=>Wb.um (xS e) (xS d)
def keyOf(L:List (Addr×(Nat×Nat)))(v:Keyed):Nat×Nat:=match v.1 with
 | .ref a=>((L.find? λe=>e.1==a).map (·.2)).getD (0,0)
 |_=>(0,0)
def H0(h:ux k=ux b):k=b:=by
 unfold ux at h
 injection h with c a
 injection a with a _
 injection c with c
 injection a with a
 exact aau (by lia) (by lia)
def l0(c:D7 H L)(d:e∈L)(v:Value):keyOf L (.ref e.1,v)=e.2:=by
 unfold keyOf;dsimp only;cases b:L.find? λx=>x.1==e.1 with
 |none=>exact absurd (abO.mp b e d) (by simp)
 |some x=>
  have f:=abZ b;have g:=List.find?_some b;have h:x.1=e.1:=by simpa using g
  have a:=c x f;have i:=c e d;rw[h,i] at a
  injection a with a
  injection a with a
  exact(H0 a).symm
theorem jt [DecidableEq a] (f:a->b):∀(l:List b)(L:List a),l.Perm (L.map f)->∃M:List a,M.Perm L/\l=M.map f
 | [],L,h=>by
  have:=h.length_eq
  rw[aL] at this
  have:L= []:=JY.mp this.symm
  subst this;exact#[[], .refl _,rfl]
 |x::r,L,h=>by
  obtain⟨e,d,rfl⟩:=cz.mp (h.mem_iff.mp dq);have c:=List.perm_cons_erase d;have g:(f e::r).Perm (f e::(L.erase e).map f):=h.trans (c.map f);obtain⟨M,i,rfl⟩:=jt f r (L.erase e) ((List.perm_cons _).mp g);exact#[e::M,(i.cons e).trans c.symm,rfl]
section
variable {X:Cx}
theorem FL(I:Inv X d U H s)(E:D7 H L)(hz:L.length<=1000)
  (Y:∀(N:List Value->Shared->Prop),(∀Z tk,s.heap.objs.size<=Z.objs.size->(∀b o,s.heap.get? b=some o->Z.get? b=some o)->N (L.map λe=>Value.ref e.1) {s with heap:=Z,toks:=tk})->wpAny (model X.prog X.w) X.A.in1 (collect v) N X.xe s)
  (q:∀(q:Addr)(M:List (Addr×(Nat×Nat))),H q=none->M.Perm L->(M.map (·.2)).Pairwise Wb.lexLe->Q (.ref q) (upd H q (.lst (M.map λe=>V.ref e.1)))):
  wpAny (model X.prog X.w) X.A (call (.builtin "sorted") [v]) (EP X d U Q) X.xe s:=by
 have bW:1000<sizeLine:=by decide
 refine aaT kind_sorted acL acM (acN _) ?_;unfold Builtin.«sorted»;refine ir (m:=checkCount "sorted" 1 1 _) (AC (ir (Y _ λk Pe YA Oj=>ir (aa8 ?_ (by rw[aL];lia)))))
 have F:(k.push (seqObj "list" (L.map λe=>Value.ref e.1).toArray 0)).get? k.objs.size=some (seqObj "list" (L.map λe=>Value.ref e.1).toArray 0):=GM _ rfl;have HI:∀b o,s.heap.get? b=some o->b<k.objs.size:=λb o e=>FB (Oj b o e)
 have fin:∀(M:List (Addr×(Nat×Nat)))(out:Array Value),M.Perm L->(M.map (·.2)).Pairwise Wb.lexLe->out.toList=M.map (λe=>Value.ref e.1)->EP X d U Q (.ref k.objs.size) {s with heap:=sortedHeap (k.push (seqObj "list" (L.map λe=>Value.ref e.1).toArray 0)) k.objs.size (L.map λe=>Value.ref e.1) out,toks:=Pe}:=λM out B ms G=>by
  obtain⟨c,J⟩:=sortedHeap_at (out:=out) F;refine#[.ref k.objs.size,_,I.laid (t':=Pe) (λb o e=>?_) YA (o:= .lst (M.map λe=>V.ref e.1)) #[by rw[aL,B.length_eq];lia,out.toList,c,?_,by rw[Array.toArray_toList];exact J],rfl,q _ M (I.hok.fresh YA) B ms]
  .rw[sortedHeap_old (bQ (HI b o e)) (by rw[abr];exact zg (HI b o e))]
   exact Da _ (Oj b o e)
  .rw[G,show(λe:Addr×(Nat×Nat)=>V.ref e.1)=V.ref∘(·.1) from rfl,show(λe:Addr×(Nat×Nat)=>Value.ref e.1)=Value.ref∘(·.1) from rfl,<-eG,<-eG]
   exact qT _
 by_cases h2:L.length<2
 .refine ir (On (aav abE #[_,F,rfl] abt (KS.u6 F (by rw[aL];exact h2) #[_,rfl,AC #[_,rfl,fin L _ (.refl _) ?_ rfl]]) (abF _)))
  match L,h2 with
  | [],_=>exact .nil
  | [_],_=>exact aa3 _ _
 .have l:∀e∈L,∀j:Shared,TS.Keeps s j->∃t u,IsTup j.heap e.1 [.int (e.2.1:Nat) t, .int (e.2.2:Nat) u].toArray:=λe he j C=>by
   refine ah λG0 k0=>?_;obtain⟨t,u,o,G,J,n,hd⟩:=K5 I (E e he);refine k0 ?_;exact#[t,u,o,C _ _ G,J,n,hd]
  refine ir (On (aav abE #[_,F,rfl] abt (TS.nW (s0:=s) (O:=lexOrd) (key:=keyOf L) (S:=λp=>∃e∈L,p=(Value.ref e.1,Value.ref e.1)) (k0:=tuples' true) F (by rw[aL];lia) (by rw[aL];lia) (λ_ _ _ _=>trivial) (λb o e=>#[bQ (HI b o e),Da _ (Oj b o e)]) (λE' j N C hq=>?_) (λE' j C x y st N sx sy hk hq=>?_) (λv r=>?_) λout nQ Hj=>#[_,rfl,AC #[_,rfl,?_]]) (abF _)))
  .have go:∀(M:List (Addr×(Nat×Nat))),(∀e∈M,e∈L)->∃fs:List Value,PySem.W.KatTups j.heap (M.map λe=>Value.ref e.1) fs/\fs.length=M.length/\∀v∈fs,∃i t,v= .int i t:=by
    intro M
    induction M with
    |nil=>exact λ_=>#[[],PySem.W.KatTups.nil,rfl,λv r=>by cases r]
    |cons e M ih=>
     intro hM;refine ah λG0 k0=>?_;obtain⟨fs,a,b,c⟩:=ih λx hx=>hM x (eJ _ hx);obtain⟨t,u,o,G,J,n,hd⟩:=l e (hM e dq) j C;refine k0 ?_;refine#[.int (e.2.1:Nat) t::fs,PySem.W.KatTups.cons G J hd rfl a,by simp[b],λv r=>?_]
     rcases eF.mp r with z|z
     .exact#[_,_,z]
     .exact c v z
   obtain⟨fs,kt,kl,ki⟩:=go L λ_ h=>h;refine PySem.W.kat_kind (T:= .type "int") kt (by lia) (λv r=>by obtain⟨i,t,rfl⟩:=ki v r;exact .now) (by decide) ?_
   have hb:(Value.type "int" !=Value.type "tuple")=true:=by decide
   rw[hb];exact hq
  .obtain⟨f,P,rfl⟩:=sx
   obtain⟨g,R,rfl⟩:=sy;rw[lt'_eq];refine Do (aaQ ?_);rw[hk];refine ah λG0 k0=>?_;obtain⟨t1,t2,k1⟩:=l f P j C;obtain⟨u1,u2,k2⟩:=l g R j C;refine k0 ?_;refine Do (aba (abS (Qv k1 k2 #[rfl,?_])))
   have eb:(if ((f.2.1:Nat):Int)=((g.2.1:Nat):Int) then decide (((f.2.2:Nat):Int)<((g.2.2:Nat):Int)) else decide (((f.2.1:Nat):Int)<((g.2.1:Nat):Int)))=lexOrd.blt (keyOf L (.ref f.1, .ref f.1)) (keyOf L (.ref g.1, .ref g.1)):=by
    rw[l0 E P,l0 E R];show _=jR f.2 g.2;unfold jR;simp only[Int.ofNat_inj,Int.ofNat_lt]
   rw[eb];exact FM hq
  .obtain⟨e,he,rfl⟩:=cz.mp r
   exact#[e,he,rfl]
  .rw[eG] at nQ
   obtain⟨M,B,em⟩:=jt (λe:Addr×(Nat×Nat)=>((Value.ref e.1,Value.ref e.1):Keyed)) out.toList L nQ;refine fin M _ B ?_ (by rw[Array.toList_map,em,eG];rfl)
   rw[em,i3] at Hj;rw[i3];refine aaE ?_ Hj;intro f g P R hle;have EU:jR (keyOf L (.ref g.1, .ref g.1)) (keyOf L (.ref f.1, .ref f.1))=false:=hle;rw[l0 E (B.mem_iff.mp P),l0 E (B.mem_iff.mp R)] at EU;exact xS EU
def zu:CallR X (.builtin "sorted") (λc H Q=>∃(p:Addr)(L:List (Addr×(Nat×Nat))),c= [.ref p]/\cy X.K H p (L.map λe=>V.ref e.1)/\D7 H L/\L.length<=1000/\
  ∀(q:Addr)(M:List (Addr×(Nat×Nat))),H q=none->M.Perm L->(M.map (·.2)).Pairwise Wb.lexLe->Q (.ref q) (upd H q (.lst (M.map λe=>V.ref e.1)))):=by
 intro d s n H c us Q I f h;rfl';obtain⟨p,L,rfl,i,j,k,q⟩:=h;obtain⟨u,rfl,l⟩:=f.one;subst l;obtain⟨a,r,pl,_⟩:=I.list i
 have m:a=L.map λe=>Value.ref e.1:=by
  have:=rg (as:=L.map (·.1)) (us:=a) (by rw[eG];exact r)
  rw[this,eG];rfl
 have v:1000<sizeLine:=by decide
 ac_rfl;subst m;refine FL I j k (λw h=>acO pl.isList (h _ _ ?_ λb o e=>?_) (by rw[aL];lia)) q
 .rw[aaM,abr];exact lQ _
 .rw[aaF _ _ _ _ (bQ (FB e))];exact Da _ e
end
section
open PySem.SeqAt
open PySem.AutoSeq1 (wpAny_loadPart')
open PySem.MeetsSeq PySem.MeetsSeq2 PySem.MeetsSeq3
def E4{c:List Value}{d:List Int}(h:IntsAre c d){i:Nat}{a:Int}(e:d[i]? =some a):∃t,c[i]? =some (.int a t):=by
 induction h generalizing i with
 |nil=>simp at e
 |cons b t _ f=>
  cases i with
  |zero=>simp at e;subst e;exact#[t,rfl]
  |succ i=>simp at e;obtain⟨u,g⟩:=f e;exact#[u,by simpa using g]
theorem N7(l b:Addr)(a j:Array Value)(n G:Nat)(H I:Option Addr)(J L:Array (Option Value))(m f:List Int)(C:IntsAre a.toList m)(E:IntsAre j.toList f)(k:Nat):
  ∀i:Nat,a.size-i=k->i<=a.size->i<=j.size->Meets (Builtin.«list.__eq__.loop» #[[.ref l, .ref b,rawInt i,rawInt 0],[]])
   (λA R s=>s.heap.get? l=some {cls:= .type "list",dict:=H,data:= .seq a n,slots:=J}/\s.heap.get? b=some {cls:= .type "list",dict:=I,data:= .seq j G,slots:=L}/\
    R (.ok (.ret (.bool (HT.lexLt (m.drop i) (f.drop i))))) s):=by
 have Z:a.size=m.length:=by rw[<-C.length];simp
 have z2:j.size=f.length:=by rw[<-E.length];simp
 induction k with
 |zero=>
  intro i M N O prog w A R s h;obtain⟨x,g,d,y,os⟩:=s;obtain⟨o,p,h⟩:=h
  wp_walk using wpAny_loadPart' o,wpAny_loadPart' p
  have r:a[((i:Nat):Int).toNat]? =none:=by simp;lia
  rw[r];have P:m.drop i= []:=Ge (by lia)
  rw[P] at h
  have Q:HT.lexLt [] (f.drop i)=decide (a.size<j.size):=by
   by_cases c:i<f.length
   .rw[qm c,HT.vD]
    exact(IR (by lia)).symm
   .rw[Ge (by lia),HT.xT]
    exact(GT (by lia)).symm
  rw[Q] at h
  wp_walk using wpAny_loadPart' o,wpAny_loadPart' p
  exact h
 |succ k S=>
  intro i M N O prog w A R s h;obtain⟨x,g,d,y,os⟩:=s;obtain⟨o,p,h⟩:=h
  wp_walk using wpAny_loadPart' o,wpAny_loadPart' p
  have z:i<m.length:=by lia
  obtain⟨t,T⟩:=E4 C (eI z);have r:a[((i:Nat):Int).toNat]? =some (.int m[i] t):=by rw[abY,<-f9];exact T
  have U:((i:Int)+1)=((i+1:Nat):Int):=by push_cast;rfl
  rw[r]
  by_cases c:i<f.length
  .obtain⟨u,X⟩:=E4 E (eI c)
   have v:j[((i:Nat):Int).toNat]? =some (.int f[i] u):=by rw[abY,<-f9];exact X
   rw[v];rw[qm z,qm c,HT.gQ] at h;obtain⟨e,Y,F⟩:=HT.Ks A.in1 #[x,g,d,y,os] m[i] t f[i] u;refine ir (Y prog w _ _ ?_);cases e with
   |true=>
    rw[tz (F.mp rfl)] at h
    wp_walk
    rw[U]
    exact#[acH abT _,abw entry_eq_loop (by
     rw[abx abT _];exact S (i+1) (by lia) (by lia) (by lia) prog w A R _ #[o,p,h])]
   |false=>
    rw[mo (λq=>absurd (F.mpr q) eD)] at h
    wp_walk using wpAny_loadPart' o,wpAny_loadPart' p
    rw[r,v];have B:=HT.AN A.in1 #[x,g,d,y,os] m[i] t f[i] u prog w
    wp_walk using B
    exact h
  .have v:j[((i:Nat):Int).toNat]? =none:=by simp;lia
   rw[v];rw[qm z,Ge (show f.length<=i by lia),HT.vC] at h
   wp_walk using wpAny_loadPart' o,wpAny_loadPart' p
   show R (.ok (.ret (.bool (decide (a.size<j.size))))) _;rw[GT (by lia)]
   exact h
end
section
open PySem.SeqAt
open PySem.AutoSeq1 (wpAny_loadPart')
open PySem.MeetsSeq PySem.MeetsSeq2 PySem.MeetsSeq3
def zN(l b:Addr)(a c:Array Value)(n i:Nat)(j k:Option Addr)(m o:Array (Option Value))(e f:List Int)(r:IntsAre a.toList e)(t:IntsAre c.toList f):
  Meets (Builtin.«list.__lt__» #[[.ref l, .ref b],[]])
   (λ_ R s=>s.heap.get? l=some {cls:= .type "list",dict:=j,data:= .seq a n,slots:=m}/\s.heap.get? b=some {cls:= .type "list",dict:=k,data:= .seq c i,slots:=o}/\
    R (.ok (.ret (.bool (HT.lexLt e f)))) s):=by
 intro prog w A R s h;obtain⟨u,g,d,v,os⟩:=s;obtain⟨p,q,h⟩:=h;have x:=AutoSeq1.sub_list_list
 wp_walk using wpAny_loadPart' p,wpAny_loadPart' q
 exact#[acH abT _,abw entry_eq_loop (by
  rw[abx abT _];exact N7 l b a c n i j k m o e f r t _ 0 rfl (fq _) (fq _) prog w A R _ #[p,q,h])]
end
section
variable {prog:Program} {w:World} {A:Around} {E:Value->Shared->Prop} {s:Shared}
def Fp(o:s.heap.IsList l a)(p:s.heap.IsList b d)(q:IntsAre a.toList e)(r:IntsAre d.toList f)(t:A.units<cLine)
  (h:Q (HT.lexLt e f) s):wpAny (model prog w) A (oneLt' true (.ref l) (.ref b)) Q E s:=by
 rfl';obtain⟨⟨cls,v,i,x⟩,g,j,n,k⟩:=id o;obtain⟨⟨H,y,data2,z⟩,B,m,C,c⟩:=id p;ac_rfl;simp only at j k m c;subst j k m c;rw[oneLt'_eq];simp only[aax];refine ir (wpAny_cRoomFor t ?_);refine ir (wpAny_callSpecialIfBound?_slot #[_,g,rfl] PySem.F.slot_list_lt (aaG PySem.F.slot_list_lt #[_,g,rfl] PySem.F.entry_list_lt (PySem.F.args_list_lt_2 _ _) (zN l b a d n C v y x z e f q r) #[g,B,?_]));exact SL h
end
theorem xU:∀a:List Int,HT.lexLt a a=false
 | []=>rfl
 |x::b=>by rw[HT.gQ,tz rfl];exact xU b
theorem CC:∀a b c:List Int,HT.lexLt a b=true->HT.lexLt b c=true->HT.lexLt a c=true
 | [],[],_,h,_=>by cases h
 | [],_::_,[],_,h=>by cases h
 | [],_::_,_::_,_,_=>rfl
 |_::_,[],_,h,_=>by cases h
 |_::_,_::_,[],_,h=>by cases h
 |x::i,y::j,z::k,g,e=>by
  rw[HT.gQ] at*
  by_cases f:x=y
  .rw[tz f] at g
   by_cases d:y=z
   .rw[tz d] at e
    rw[tz (f.trans d)];exact CC i j k g e
   .rw[mo d] at e
    rw[mo (by rw[f];exact d),f];exact e
  .rw[mo f] at g
   have l:=KM g
   by_cases d:y=z
   .rw[mo (by rw[<-d];exact f),<-d];exact g
   .rw[mo d] at e
    have m:=KM e;rw[mo (by lia)]
    exact IR (by lia)
theorem sR:∀a b:List Int,HT.lexLt a b=false->HT.lexLt b a=false->a=b
 | [],[],_,_=>rfl
 | [],_::_,h,_=>by cases h
 |_::_,[],_,h=>by cases h
 |x::f,y::g,c,d=>by
  rw[HT.gQ] at*
  by_cases e:x=y
  .rw[tz e] at c
   rw[tz e.symm] at d;rw[e,sR f g c d]
  .rw[mo e] at c
   rw[mo (λz=>e z.symm)] at d
   have:=M2 c
   have:=M2 d
   lia
def NZ(a b c:List Int)(h:HT.lexLt a c=true):HT.lexLt a b=true\/HT.lexLt b c=true:=by
 cases e:HT.lexLt a b with
 |true=>exact .inl rfl
 |false=>
  right
  cases d:HT.lexLt b a with
  |true=>exact CC _ _ _ d h
  |false=>rw[<-sR a b e d];exact h
def N3:KeyOrd where
 α:=List Int
 blt:=HT.lexLt
 irrefl:=xU
 trans:=CC
 negTrans:=NZ
 total:=sR
def jb(r:List Nat):List Int:=r.map λ(n:Nat)=>(n:Int)
def nX(a b:List Nat):Prop:=HT.lexLt (jb b) (jb a)=false
def Gq(H:Hp)(L:List (Addr×List Nat)):Prop:=∀p∈L,H p.1=some (.lst ((jb p.2).map V.int))
def FY(h:(jb a).map V.int=(jb b).map V.int):a=b:=by
 unfold jb at h;rw[eG,eG] at h
 induction a generalizing b with
 |nil=>cases b with
  |nil=>rfl
  |cons y b=>simp at h
 |cons x a d=>
  cases b with
  |nil=>simp at h
  |cons y b=>
   rw[cf,cf] at h
   injection h with e f
   have c:V.int (x:Int)=V.int (y:Int):=e
   injection c with c
   rw[d f,show x=y by lia]
def qH(L:List (Addr×List Nat))(v:Keyed):List Int:=match v.1 with
 | .ref a=>((L.find? λe=>e.1==a).map λe=>jb e.2).getD []
 |_=> []
def lZ(c:Gq H L)(d:e∈L)(v:Value):qH L (.ref e.1,v)=jb e.2:=by
 unfold qH;dsimp only;cases b:L.find? λx=>x.1==e.1 with
 |none=>exact absurd (abO.mp b e d) (by simp)
 |some x=>
  have f:=abZ b;have g:=List.find?_some b;have h:x.1=e.1:=by simpa using g
  have a:=c x f;have i:=c e d;rw[h,i] at a
  injection a with a
  injection a with a
  show jb x.2=jb e.2;rw[FY a]
section
variable {X:Cx}
theorem wF(hu:X.A.units+64<cLine):CallR X (.builtin "sorted") (λP H Q=>∃(p:Addr)(L:List (Addr×List Nat)),P= [.ref p]/\cy X.K H p (L.map λe=>V.ref e.1)/\Gq H L/\L.length<=1000/\
  ∀(q:Addr)(M:List (Addr×List Nat)),H q=none->M.Perm L->(M.map (·.2)).Pairwise nX->Q (.ref q) (upd H q (.lst (M.map λe=>V.ref e.1)))):=by
 intro R s σ H P us Q I rv h;refine ah λU k0=>?_;obtain⟨p,L,rfl,hp,l,hz,q⟩:=h;obtain⟨u,rfl,ru⟩:=rv.one;subst ru;obtain⟨d,r,pl,_⟩:=I.list hp;have hl:=r.length;rw[aL] at hl;have bW:1000<sizeLine:=by decide
 refine k0 ?_
 have C:d=L.map λe=>Value.ref e.1:=by
  have:=rg (as:=L.map (·.1)) (us:=d) (by rw[eG];exact r)
  rw[this,eG];rfl
 by_cases h2:L.length<2
 .refine KS.zV pl.isList (by lia) ?_
  obtain⟨e,g⟩:=acK s.heap d d.toArray;have E:H (s.heap.objs.size+1)=none:=I.hok.fresh (lQ _);refine#[.ref (s.heap.objs.size+1),_,I.laid (t':=s.toks) (λb o F=>acG F) (lQ _) (o:= .lst (L.map λe=>V.ref e.1)) #[by rw[aL];lia,d,e,r,g],rfl,q _ L E (.refl _) ?_]
  match L,h2 with
  | [],_=>exact .nil
  | [_],_=>exact aa3 _ _
 .have lst:∀e∈L,∀f:Shared,TS.Keeps s f->∃a:Array Value,f.heap.IsList e.1 a/\IntsAre a.toList (jb e.2):=λe g f k=>by
   refine ah λU k0=>?_;obtain⟨U6,r2,p2,_⟩:=I.list (cy.of (l e g));obtain⟨o,G,m,n,hd⟩:=p2.isList;refine k0 ?_;exact#[U6.toArray,#[o,k _ _ G,m,n,hd],by simpa using intsAre_of r2]
  refine TS.FK (O:=N3) (key:=qH L) (S:=λp=>∃e∈L,p=(Value.ref e.1,Value.ref e.1)) (k0:=oneType') pl.isList (by lia) (by lia) (λE' f Q' k J=>?_) (λE' f k x y st Q' sx sy hk J=>?_) (λv t=>?_) λout Y Z=>?_
  .refine PySem.W.kas_kind (T:= .type "list") (by lia) (λv t=>?_) (by decide) (by decide) J
   rw[C] at t;obtain⟨e,g,rfl⟩:=cz.mp t;obtain⟨a,⟨o,G,m,_⟩,_⟩:=lst e g f k;rw[<-m];exact(PySem.W.Looks.ld G).andThen .now
  .obtain⟨i,w,rfl⟩:=sx
   obtain⟨j,z,rfl⟩:=sy;rw[lt'_eq];refine Do (aaQ ?_);rw[hk,keyLt'_oneType];refine ah λU k0=>?_;obtain⟨i1,l1,n1⟩:=lst i w f k;obtain⟨i2,l2,n2⟩:=lst j z f k;refine k0 ?_;refine Do (aba (abS (Fp l1 l2 n1 n2 ?_ #[rfl,?_])))
   .rw[ab9,ab9];lia
   .have eb:HT.lexLt (jb i.2) (jb j.2)=N3.blt (qH L (.ref i.1, .ref i.1)) (qH L (.ref j.1, .ref j.1)):=by
     rw[lZ l w,lZ l z];rfl
    rw[eb];exact FM J
  .rw[C] at t
   obtain⟨e,g,rfl⟩:=cz.mp t;exact#[e,g,rfl]
  .rw[C,eG] at Y
   obtain⟨M,B,em⟩:=jt (λe:Addr×List Nat=>((Value.ref e.1,Value.ref e.1):Keyed)) out.toList L Y
   have Yi:(out.map (·.2)).toList=M.map λe=>Value.ref e.1:=by
    rw[Array.toList_map,em,eG];rfl
   obtain⟨c,m⟩:=acK s.heap d (out.map (·.2));have E:H (s.heap.objs.size+1)=none:=I.hok.fresh (lQ _);have US:=B.length_eq;refine#[.ref (s.heap.objs.size+1),_,I.laid (t':=s.toks) (λb o F=>acG F) (lQ _) (o:= .lst (M.map λe=>V.ref e.1)) #[by rw[aL];lia,(out.map (·.2)).toList,c,?_,by rw[Array.toArray_toList];exact m],rfl,q _ M E B ?_]
   .rw[Yi,show(λe:Addr×List Nat=>V.ref e.1)=V.ref∘(·.1) from rfl,show(λe:Addr×List Nat=>Value.ref e.1)=Value.ref∘(·.1) from rfl,<-eG,<-eG]
    exact qT _
   .rw[em,i3] at Z
    rw[i3];refine aaE ?_ Z;intro i j w z N;have EU:HT.lexLt (qH L (.ref j.1, .ref j.1)) (qH L (.ref i.1, .ref i.1))=false:=N;rw[lZ l (B.mem_iff.mp w),lZ l (B.mem_iff.mp z)] at EU;exact EU
end
end L2
namespace PySem.SetTable
def nh(xs:Array Nat):Prop:=∀i j (a:j<xs.size),i<j->xs[i]! <xs[j]!
def M9{a:Array Nat}{i d:Nat}(h:i<a.size):a.getD i d=a[i]! :=by
 simp[Array.getD,h]
theorem xu(R:nh h)(j:Nat):∀(f lo g:Nat),g-lo<=f->lo<=g->g<=h.size->(∀i,i<lo->h[i]! <j)->(∀i,g<=i->i<h.size->j<=h[i]!)->
  lo<=below.go h j f lo g/\below.go h j f lo g<=g/\(∀i,i<below.go h j f lo g->h[i]! <j)/\∀i,below.go h j f lo g<=i->i<h.size->j<=h[i]!
 |0,lo,g,m,n,k,a,b=>by
  have:lo=g:=by lia
  subst this;rw[below.go];exact#[bJ _,bJ _,a,b]
 |f+1,lo,g,m,n,k,a,b=>by
  rw[below.go]
  by_cases c:lo<g
  .rw[tz c]
   have l:(lo+g) / 2<h.size:=by lia
   dsimp only;rw[M9 l]
   by_cases d:h[(lo+g) / 2]! <j
   .rw[tz d]
    have:=xu R j f ((lo+g) / 2+1) g (by lia) (by lia) k (λi p=>by
     by_cases e:i=(lo+g) / 2
     .rw[e];exact d
     .have:=R i ((lo+g) / 2) l (by lia);lia) b
    exact#[by lia,this.2.1,this.2.2]
   .rw[mo d]
    have:=xu R j f lo ((lo+g) / 2) (by lia) (by lia) (by lia) a (λi q o=>by
     by_cases e:i=(lo+g) / 2
     .rw[e];lia
     .have:=R ((lo+g) / 2) i o (by lia);lia)
    exact#[this.1,by lia,this.2.2]
  .rw[mo c]
   have:lo=g:=by lia
   subst this;exact#[bJ _,bJ _,a,b]
def ku{xs:Array Nat}(R:nh xs)(j:Nat):below xs j<=xs.size/\(∀i,i<below xs j->xs[i]! <j)/\∀i,below xs j<=i->i<xs.size->j<=xs[i]! :=by
 have:=xu R j xs.size 0 xs.size (by lia) (fq _) (bJ _) (λi h=>by lia) (λi a b=>by lia)
 exact#[this.2.1,this.2.2]
def below_at(R:nh a)(h:a[i]? =some j):below a j=i:=by
 obtain⟨b,e⟩:=y6.mp h;have g:a[i]! =j:=by simp[b,e]
 obtain⟨k,d,f⟩:=ku R j;apply Nat.le_antisymm
 .apply Gc
  intro c
  have:=d i (by lia)
  lia
 .apply Gc
  intro c;have l:=f (below a j) (bJ _) (by lia)
  have m:=R (below a j) i b (by lia)
  lia
def qX{t:SetTable}(R:nh t.place)(h:t.place[i]? =some j):t.slot j= .live i:=by
 unfold slot;rw[below_at R h];simp[h]
def FJ{t:SetTable}(R:nh t.place)(a:t.dummies= #[])(h:∀i:Nat,t.place[i]? ≠some j):t.slot j= .empty:=by
 unfold slot
 have b:(t.place[below t.place j]? ==some j)=false:=by
  rw[aaq];exact h _
 dsimp only;rw[mo (by rw[b];exact eD)]
 unfold has;rw[a];rfl
def mZ(mask:Nat)(p:Probe):Probe:=
 if p.more>0 then {p with j:=p.j+1,more:=p.more-1} else
 let (i,perturb):=leap mask p.i p.perturb
 {p with j:=i,more:=runEnd mask i-i,i,perturb}
def bO(mask:Nat)(h:Int):Probe:={j:=bits h%(mask+1),more:=runEnd mask (bits h%(mask+1))-bits h%(mask+1),i:=bits h%(mask+1),perturb:=bits h,dummy:=none}
def qY(mask:Nat)(h:Int):Nat->Probe
 |0=>bO mask h
 |k+1=>mZ mask (qY mask h k)
def bV(mask:Nat)(h:Int)(k:Nat):Nat:=(qY mask h k).j
def L4(h:Int):bits h<2^64:=by
 unfold bits;have a:0<=h%(2^64:Int):=acs _ (by decide)
 have b:h%(2^64:Int)<2^64:=abP _ (by decide)
 lia
def eB(mask:Nat)(i p:Nat):Nat->Nat×Nat
 |0=>(i,p)
 |r+1=>leap mask (eB mask i p r).1 (eB mask i p r).2
theorem kT(mask i p:Nat):∀r,(eB mask i p r).2=p / 32^r
 |0=>by simp[eB]
 |r+1=>by
  show(eB mask i p r).2 / 32=_;rw[kT mask i p r,Nat.div_div_eq_div_mul,Nat.pow_succ]
def QB(mask:Nat)(i:Nat):Nat:=(i*5+1)%(mask+1)
def kC(mask:Nat)(i:Nat):Nat->Nat
 |0=>i
 |r+1=>QB mask (kC mask i r)
theorem lE(mask i:Nat)(a:Nat):∀b,kC mask i (a+b)=kC mask (kC mask i a) b
 |0=>rfl
 |b+1=>by
  show QB mask (kC mask i (a+b))=_;rw[lE mask i a b];rfl
theorem uD{mask i p a:Nat}(h:(eB mask i p a).2=0):∀r,eB mask i p (a+r)=(kC mask (eB mask i p a).1 r,0)
 |0=>by rw[Nat.add_zero,kC];exact aau rfl h
 |r+1=>by
  show leap mask (eB mask i p (a+r)).1 (eB mask i p (a+r)).2=_;rw[uD h r];unfold leap;simp[kC,QB]
def vq(mask:Nat):Prop:=mask=7\/mask=31\/mask=127\/mask=511
def Vp(mask:Nat):Nat->Nat->List Nat
 |_,0=> []
 |i,n+1=>i::Vp mask (QB mask i) n
theorem Fi{mask s:Nat}:∀{i n:Nat},s∈Vp mask i n->∃r,r<n/\kC mask i r=s
 |i,0,h=>by cases h
 |i,n+1,h=>by
  rcases eF.mp h with rfl|h
  .exact#[0,by lia,rfl]
  .obtain⟨r,a,e⟩:=Fi h
   refine#[r+1,by lia,?_]
   have:=lE mask i 1 r
   rw[show 1+r=r+1 by lia] at this
   rw[this];exact e
def Vq{mask:Nat}(h:vq mask):(∀s,s<=mask->∃r,r<=mask/\kC mask 0 r=s)/\kC mask 0 (mask+1)=0:=by
 have key:∀m,(aM (m+1)).all (λs=>(Vp m 0 (m+1)).contains s)=true->∀s,s<=m->∃r,r<=m/\kC m 0 r=s:=λm a s b=>by
  have:=ab7.mp a s (gD.mpr (by lia))
  obtain⟨r,c,e⟩:=Fi (List.contains_iff_mem.mp this);exact#[r,by lia,e]
 rcases h with rfl|rfl|rfl|rfl
 .exact#[key 7 (by decide+kernel),by decide+kernel]
 .exact#[key 31 (by decide+kernel),by decide+kernel]
 .exact#[key 127 (by decide+kernel),by decide+kernel]
 .exact#[key 511 (by decide+kernel),by decide+kernel]
def cover{mask:Nat}(h:vq mask){i s:Nat}(d:i<=mask)(e:s<=mask):∃r,r<=mask/\kC mask i r=s:=by
 obtain⟨o,per⟩:=Vq h;obtain⟨a,f,rfl⟩:=o i d;obtain⟨b,g,rfl⟩:=o s e
 by_cases c:a<=b
 .refine#[b-a,by lia,?_]
  rw[<-lE,show a+(b-a)=b by lia]
 .refine#[mask+1-a+b,by lia,?_]
  rw[<-lE,show a+(mask+1-a+b)=mask+1+b by lia,lE,per]
def cI(mask:Nat)(p:Probe):Nat->Probe
 |0=>p
 |k+1=>mZ mask (cI mask p k)
theorem lg(mask:Nat)(p:Probe)(a:Nat):∀b,cI mask p (a+b)=cI mask (cI mask p a) b
 |0=>rfl
 |b+1=>by
  show mZ mask (cI mask p (a+b))=_;rw[lg mask p a b];rfl
theorem mF(mask:Nat)(h:Int):∀k,qY mask h k=cI mask (bO mask h) k
 |0=>rfl
 |k+1=>by
  show mZ mask _=mZ mask _;rw[mF mask h k]
theorem t7(mask:Nat)(p:Probe):∀c,c<=p.more->cI mask p c={p with j:=p.j+c,more:=p.more-c}
 |0,_=>rfl
 |c+1,a=>by
  show mZ mask (cI mask p c)=_;rw[t7 mask p c (by lia)]
  unfold mZ;rw[tz (by show p.more-c>0;lia)]
  show({p with j:=p.j+c+1,more:=p.more-c-1}:Probe)={p with j:=p.j+(c+1),more:=p.more-(c+1)}
  rw[show p.more-c-1=p.more-(c+1) by lia,show p.j+c+1=p.j+(c+1) by lia]
def RK(mask:Nat)(p:Probe)(a:Nat×Nat):Probe:={p with j:=a.1,more:=runEnd mask a.1-a.1,i:=a.1,perturb:=a.2}
def more_le(mask i:Nat):runEnd mask i-i<=9:=by
 unfold runEnd
 split<;>lia
def qs(mask:Nat)(p:Probe):cI mask p (p.more+1)=RK mask p (leap mask p.i p.perturb):=by
 show mZ mask (cI mask p p.more)=_;rw[t7 mask p p.more (bJ _)];unfold mZ;rw[mo (by show ¬p.more-p.more>0;lia)]
 rfl
theorem wu(mask:Nat)(p:Probe):∀r,∃k,k<=p.more+1+10*r/\cI mask p k=RK mask p (eB mask p.i p.perturb (r+1))
 |0=>#[p.more+1,by lia,qs mask p]
 |r+1=>by
  obtain⟨k,a,e⟩:=wu mask p r;have b:=more_le mask (eB mask p.i p.perturb (r+1)).1;refine#[k+((runEnd mask (eB mask p.i p.perturb (r+1)).1-(eB mask p.i p.perturb (r+1)).1)+1),by lia,?_]
  rw[lg,e];exact qs mask (RK mask p (eB mask p.i p.perturb (r+1)))
def FF(mask i p:Nat)(r:Nat):(eB mask i p (r+1)).1<=mask:=by
 show(((eB mask i p r).1*5+1+(eB mask i p r).2 / 32)%(mask+1))<=mask
 have:=tZ ((eB mask i p r).1*5+1+(eB mask i p r).2 / 32) (show 0<mask+1 by lia)
 lia
def JM{mask i:Nat}(h:i<=mask):i+(runEnd mask i-i)<=mask:=by
 unfold runEnd
 split<;>lia
structure t6 (mask:Nat) (p:Probe):Prop where
 le:p.j+p.more<=mask
 more:p.more<=9
 per:p.perturb<2^64
 dum:p.dummy=none
theorem t6.mZ{mask:Nat}{p:Probe}(o:t6 mask p):t6 mask (mZ mask p):=by
 unfold SetTable.mZ
 split
 .next h=>exact#[by show p.j+1+(p.more-1)<=mask;have:=o.le;lia,by show p.more-1<=9;have:=o.more;lia,o.per,o.dum]
 .refine#[JM (by have:=tZ (p.i*5+1+p.perturb / 32) (show 0<mask+1 by lia);show(p.i*5+1+p.perturb / 32)%(mask+1)<=mask;lia),more_le _ _,?_,o.dum]
  show p.perturb / 32<2^64
  have:=o.per
  lia
def t6.start(mask:Nat)(h:Int):t6 mask (bO mask h):=#[JM (mask:=mask) (i:=bits h%(mask+1)) (by have:=tZ (bits h) (show 0<mask+1 by lia);lia),more_le _ _,L4 h,rfl]
theorem t6.cI{mask:Nat}{p:Probe}(o:t6 mask p):∀k,t6 mask (cI mask p k)
 |0=>o
 |k+1=>(o.cI k).mZ
def meets{mask:Nat}(f:vq mask){p:Probe}(o:t6 mask p){s:Nat}(a:s<=mask):∃k,k<10*turns mask/\(cI mask p k).j=s:=by
 have z:(eB mask p.i p.perturb 13).2=0:=by
  rw[kT];exact Nat.div_eq_of_lt (fo o.per (by decide))
 obtain⟨r,c,e⟩:=cover f (FF mask p.i p.perturb 12) a;obtain⟨k,d,b⟩:=wu mask p (12+r);refine#[k,?_,?_]
 .have:=o.more
  unfold turns;lia
 .rw[b]
  show(eB mask p.i p.perturb (12+r+1)).1=s;rw[show 12+r+1=13+r by lia,uD z]
  exact e
theorem AL(R:nh t.place)(o:t.dummies= #[])(hashAt:Nat->Int)(h:Int):∀(K d:Nat)(p:Probe),p.dummy=none->K<d->(∀i:Nat,t.place[i]? ≠some (cI t.mask p K).j)->
  ∃e,e<=K/\(∀f,f<e->∃i:Nat,t.place[i]? =some (cI t.mask p f).j/\hashAt i≠h)/\
   (((∀i:Nat,t.place[i]? ≠some (cI t.mask p e).j)/\probe.go t hashAt h d p=some (.empty (cI t.mask p e).j none))\/
    (∃i:Nat,t.place[i]? =some (cI t.mask p e).j/\hashAt i=h/\probe.go t hashAt h d p=some (.candidate (cI t.mask p e).j i (cI t.mask p (e+1)))))
 |K,0,p,_,v,_=>by lia
 |K,d+1,p,q,v,r=>by
  by_cases c:∃i:Nat,t.place[i]? =some p.j
  .obtain⟨i,g⟩:=c
   have s:=qX R g
   by_cases l:hashAt i=h
   .refine#[0,fq _,λf u=>by lia, .inr #[i,g,l,?_]]
    rw[probe.go,s];dsimp only;rw[tz (by simpa using l)]
    rfl
   .cases K with
    |zero=>exact absurd g (r i)
    |succ K=>
     have n:(mZ t.mask p).dummy=none:=by
      unfold mZ
      split<;>exact q
     have m:∀k,cI t.mask (mZ t.mask p) k=cI t.mask p (k+1):=λk=>by
      have:=lg t.mask p 1 k
      rw[show 1+k=k+1 by lia] at this
      exact this.symm
     obtain⟨e,x,a,b⟩:=AL R o hashAt h K d (mZ t.mask p) n (by lia) (by rw[m];exact r)
     have w:probe.go t hashAt h (d+1) p=probe.go t hashAt h d (mZ t.mask p):=by
      rw[probe.go,s];dsimp only;rw[mo (by simpa using l)]
      rfl
     refine#[e+1,by lia,λf u=>?_,?_]
     .cases f with
      |zero=>exact#[i,g,l]
      |succ f=>
       have:=a f (by lia)
       rw[m] at this;exact this
     .rw[m,m] at b
      rw[w];exact b
  .have c:∀i:Nat,t.place[i]? ≠some p.j:=λi g=>c #[i,g]
   refine#[0,fq _,λf u=>by lia, .inl #[c,?_]]
   rw[probe.go,FJ R o c];dsimp only;rw[q];rfl
structure TOk (t:SetTable) (hs:List Int):Prop where
 few:vq t.mask
 dum:t.dummies= #[]
 rise:nh t.place
 size:t.place.size=hs.length
 le:∀(i j:Nat),t.place[i]? =some j->j<=t.mask
 room:t.place.size<=t.mask
 path:∀(i:Nat)(h:Int),hs[i]? =some h->∃k,t.place[i]? =some (bV t.mask h k)/\∀k',k'<k->∃i':Nat,t.place[i']? =some (bV t.mask h k')
def De(mask:Nat)(h:Int)(k:Nat):bV mask h k<=mask:=by
 unfold bV;rw[mF]
 have:=((t6.start mask h).cI k).le
 lia
def TOk.empty(T:TOk t a):∃s,s<=t.mask/\∀i:Nat,t.place[i]? ≠some s:=by
 apply Gc;intro c
 have all:∀s∈aM (t.mask+1),s∈t.place.toList:=λs a=>by
  apply Gc;intro n;refine c #[s,by have:=gD.mp a;lia,λi b=>n ?_]
  rw[<-f9] at b;exact fm b
 have:=Wb.aZ aca all
 rw[yY,fZ] at this
 have:=T.room
 lia
theorem TOk.probe(T:TOk t g)(hashAt:Nat->Int)(h:Int)(k:Nat):
  ∃d,k<=d/\(∀e,k<=e->e<d->∃i:Nat,t.place[i]? =some (bV t.mask h e)/\hashAt i≠h)/\
   (((∀i:Nat,t.place[i]? ≠some (bV t.mask h d))/\t.probe hashAt h (qY t.mask h k)=some (.empty (bV t.mask h d) none))\/
    (∃i:Nat,t.place[i]? =some (bV t.mask h d)/\hashAt i=h/\t.probe hashAt h (qY t.mask h k)=some (.candidate (bV t.mask h d) i (qY t.mask h (d+1))))):=by
 obtain⟨s,j,l⟩:=T.empty;have o:=(t6.start t.mask h).cI k;rw[<-mF] at o;obtain⟨K,m,n⟩:=meets T.few o j;have f:∀c,cI t.mask (qY t.mask h k) c=qY t.mask h (k+c):=λc=>by rw[mF,mF,<-lg]
 obtain⟨d,p,a,b⟩:=AL T.rise T.dum hashAt h K (10*turns t.mask) (qY t.mask h k) o.dum m (by rw[n];exact l)
 refine#[k+d,by lia,λe q r=>?_,?_]
 .have:=a (e-k) (by lia)
  rw[f,show k+(e-k)=e by lia] at this
  exact this
 .rw[f,f] at b
  exact b
def kP{xs:Array a}(x:a)(e:p<=xs.size)(i:Nat):(insertAt xs p x)[i]? =if i<p then xs[i]? else if i=p then some x else xs[i-1]? :=by
 rw[<-f9,acb];have lt:(xs.toList.take p).length=p:=by rw[iw,fZ];lia
 by_cases c:i<p
 .rw[tz c,kL (by lia),JW c,f9]
 .rw[mo c]
  by_cases d:i=p
  .subst d
   rw[tz rfl,mW (by lia),lt,qr];rfl
  .rw[mo d,mW (by lia),lt]
   obtain⟨m,b⟩:∃m,i-p=m+1:=#[i-p-1,by lia]
   rw[b,ve,yX,f9]
   congr 1;lia
def ie(xs:Array a)(p:Nat)(x:a):(insertAt xs p x).size=xs.size+1:=by
 rw[<-fZ,(acA xs p x).length_eq];simp
def jB{a:Array Nat}{i j:Nat}(h:a[i]? =some j):a[i]! =j:=by
 obtain⟨b,e⟩:=y6.mp h;simp[b,e]
def Lm{xs:Array Nat}(R:nh xs){j:Nat}(h:∀i:Nat,xs[i]? ≠some j):nh (insertAt xs (below xs j) j):=by
 obtain⟨t,w,x⟩:=ku R j;have g:=kP (xs:=xs) j t;intro a b y A;rw[ie] at y
 have m:∀i,i<xs.size+1->∃v,(insertAt xs (below xs j) j)[i]? =some v/\((i<below xs j/\xs[i]? =some v)\/(i=below xs j/\v=j)\/(below xs j<i/\xs[i-1]? =some v)):=λi r=>by
  rw[g i]
  by_cases c:i<below xs j
  .rw[tz c,A0 (by lia)]
   exact#[_,rfl, .inl #[c,rfl]]
  .rw[mo c]
   by_cases d:i=below xs j
   .rw[tz d];exact#[j,rfl, .inr (.inl #[d,rfl])]
   .rw[mo d,A0 (by lia)]
    exact#[_,rfl, .inr (.inr #[by lia,rfl])]
 obtain⟨G,B,C⟩:=m a (by lia)
 obtain⟨H,E,s⟩:=m b (by lia)
 rw[jB B,jB E];have lo:∀i v,i<below xs j->xs[i]? =some v->v<j:=λi v n f=>by have:=w i n;rw[jB f] at this;exact this
 have r:∀i v,below xs j<=i->xs[i]? =some v->j<v:=λi v n f=>by
  have:=x i n (y6.mp f).1
  rw[jB f] at this
  have:v≠j:=λz=>h i (by rw[f,z])
  lia
 have o:∀i k v u,xs[i]? =some v->xs[k]? =some u->i<k->v<u:=λi k v u n f F=>by
  have:=R i k (y6.mp f).1 F
  rw[jB n,jB f] at this;exact this
 rcases C with ⟨q,p⟩ | ⟨q,rfl⟩ | ⟨q,p⟩
 .rcases s with ⟨l,e⟩ | ⟨l,rfl⟩ | ⟨l,e⟩
  .exact o _ _ _ _ p e A
  .exact lo _ _ q p
  .have:=lo _ _ q p;have:=r (b-1) _ (by lia) e;lia
 .rcases s with ⟨l,e⟩ | ⟨l,rfl⟩ | ⟨l,e⟩
  .lia
  .lia
  .exact r (b-1) _ (by lia) e
 .rcases s with ⟨l,e⟩ | ⟨l,rfl⟩ | ⟨l,e⟩
  .lia
  .lia
  .exact o _ _ _ _ p e (by lia)
def OM{xs:Array Nat}(R:nh xs){j s:Nat}:(∃i:Nat,(insertAt xs (below xs j) j)[i]? =some s)↔s=j\/∃i:Nat,xs[i]? =some s:=by
 obtain⟨a,_,_⟩:=ku R j;have g:=kP (xs:=xs) j a
 constructor
 .rintro⟨i,h⟩
  rw[g i] at h
  split at h
  .exact .inr #[i,h]
  .split at h
   .exact .inl (Fk h).symm
   .exact .inr #[_,h]
 .rintro(rfl| ⟨i,h⟩)
  .exact#[below xs s,by rw[g,mo (by lia),tz rfl]]
  .by_cases c:i<below xs j
   .exact#[i,by rw[g,tz c];exact h]
   .exact#[i+1,by rw[g,mo (by lia),mo (by lia)];exact h]
theorem TOk.put(T:TOk t l)(v:∀i:Nat,t.place[i]? ≠some (bV t.mask h k))(w:∀a,a<k->∃i:Nat,t.place[i]? =some (bV t.mask h a))(room:t.place.size+1<=t.mask):
  (t.put (bV t.mask h k)).2=below t.place (bV t.mask h k)/\below t.place (bV t.mask h k)<=l.length/\
  TOk (t.put (bV t.mask h k)).1 (l.take (below t.place (bV t.mask h k))++h::l.drop (below t.place (bV t.mask h k))):=by
 obtain⟨x,z,A⟩:=ku T.rise (bV t.mask h k);have g:=kP (xs:=t.place) (bV t.mask h k) x;have sz:=T.size;have o:=λs=>OM (s:=s) (j:=bV t.mask h k) T.rise;refine#[rfl,by lia,T.few,?_,Lm T.rise v,?_,?_,?_,?_]
 .show(if has t.dummies _=true then _ else t.dummies)= #[]
  rw[T.dum];rfl
 .show(insertAt t.place _ _).size=_
  rw[ie,dB,iw,cU,tV];lia
 .intro i j p
  have p:(insertAt t.place (below t.place (bV t.mask h k)) (bV t.mask h k))[i]? =some j:=p
  rcases(o j).mp #[i,p] with rfl| ⟨u,e⟩
  .exact De _ _ _
  .exact T.le _ _ e
 .show(insertAt t.place _ _).size<=_
  rw[ie];exact room
 .intro i e b
  show ∃f,(insertAt t.place (below t.place (bV t.mask h k)) (bV t.mask h k))[i]? =some (bV t.mask e f)/\∀a,a<f->∃u:Nat,(insertAt t.place (below t.place (bV t.mask h k)) (bV t.mask h k))[u]? =some (bV t.mask e a);have lt:(l.take (below t.place (bV t.mask h k))).length=below t.place (bV t.mask h k):=by rw[iw];lia
  by_cases c:i<below t.place (bV t.mask h k)
  .rw[kL (by lia),JW c] at b
   obtain⟨f,q,r⟩:=T.path i e b;exact#[f,by rw[g,tz c];exact q,λa n=>(o _).mpr (.inr (r a n))]
  .rw[mW (by lia),lt] at b
   by_cases d:i=below t.place (bV t.mask h k)
   .rw[d,qr] at b
    cases(Fk b);exact#[k,by rw[d,g,mo (by lia),tz rfl],λa n=>(o _).mpr (.inr (w a n))]
   .obtain⟨m,y⟩:∃m,i-below t.place (bV t.mask h k)=m+1:=#[i-below t.place (bV t.mask h k)-1,by lia]
    rw[y,ve,yX] at b;obtain⟨f,q,r⟩:=T.path _ e b;refine#[f,?_,λa n=>(o _).mpr (.inr (r a n))];rw[g,mo c,mo d,show i-1=below t.place (bV t.mask h k)+m by lia]
    exact q
theorem u3(mask i p:Nat):∀r,eB mask i p (r+1)=eB mask (leap mask i p).1 (leap mask i p).2 r
 |0=>rfl
 |r+1=>by
  show leap mask (eB mask i p (r+1)).1 (eB mask i p (r+1)).2=_;rw[u3 mask i p r];rfl
def Own(o:Array (Option Nat))(s:Nat):Prop:=(o.getD s (some 0)).isNone=false
theorem xp{mask:Nat}(e:Array (Option Nat)):∀(f:Nat)(p:Probe),p.j=p.i->p.more=runEnd mask p.i-p.i->p.i<=runEnd mask p.i->(∃r,r<f/\¬Own e (eB mask p.i p.perturb r).1)->
  ∃h,layClean.free mask e f p.i p.perturb=some (cI mask p h).j/\¬Own e (cI mask p h).j/\∀g,g<h->Own e (cI mask p g).j
 |0,p,_,_,_,#[r,v,_]=>by lia
 |f+1,p,w,E,F,#[r,v,q]=>by
  have run:∀c,c<=p.more->(cI mask p c).j=p.i+c:=λc t=>by rw[t7 mask p c t];show p.j+c=_;rw[w]
  cases l:(aM (runEnd mask p.i+1-p.i)).find? λk=>(e.getD (p.i+k) (some 0)).isNone with
  |some k=>
   obtain⟨x,m,bs,o,y⟩:=List.find?_eq_some_iff_append.mp l;have G:k<runEnd mask p.i+1-p.i:=gD.mp (by rw[o];simp)
   have z:m.length=k:=by
    have A:m.length<(aM (runEnd mask p.i+1-p.i)).length:=by rw[o];simp
    have:=Gi (n:=runEnd mask p.i+1-p.i) (i:=m.length) (by simpa using A)
    rw[o,mW (bJ _),qr] at this;exact(Fk this).symm
   refine#[k,?_,?_,λg B=>?_]
   .rw[layClean.free,l,run k (by lia)]
   .rw[run k (by lia)]
    unfold Own;rw[x];exact Bool.noConfusion
   .rw[run g (by lia)]
    have C:g∈m:=by
     have:=Gi (n:=runEnd mask p.i+1-p.i) (i:=g) (by lia)
     rw[o,kL (by lia)] at this
     exact fm this
    have:=y g C
    unfold Own;exact Bool.not_eq_true' _▸this
  |none=>
   have all:=abO.mp l
   have own:∀c,c<=p.more->Own e (p.i+c):=λc t=>by
    have:=all c (gD.mpr (by lia))
    unfold Own;exact vh.mpr this
   cases r with
   |zero=>exact absurd (own 0 (fq _)) q
   |succ r=>
    have u:=qs mask p
    obtain⟨h,a,b,c⟩:=xp e f (RK mask p (leap mask p.i p.perturb)) rfl rfl (by
     show(leap mask p.i p.perturb).1<=runEnd mask (leap mask p.i p.perturb).1;unfold runEnd;split<;>lia) #[r,by lia,by rw[u3] at q;exact q]
    rw[<-u] at a b c;have s:∀k,cI mask (cI mask p (p.more+1)) k=cI mask p (p.more+1+k):=λk=>(lg mask p (p.more+1) k).symm;refine#[p.more+1+h,?_,?_,λg B=>?_]
    .rw[layClean.free,l,<-s,<-a,u];rfl
    .rw[<-s];exact b
    .by_cases d:g<=p.more
     .rw[run g d];exact own g d
     .have:=c (g-(p.more+1)) (by lia)
      rw[s,show p.more+1+(g-(p.more+1))=g by lia] at this
      exact this
structure Laid (mask:Nat) (hs:List Int) (owner:Array (Option Nat)) (ss:List Nat):Prop where
 size:owner.size=mask+1
 len:ss.length=hs.length
 nd:ss.Nodup
 le:∀s∈ss,s<=mask
 get:∀s,s<=mask->∀k,owner.getD s (some 0)=some k↔ss[k]? =some s
 path:∀(k:Nat)(h:Int),hs[k]? =some h->∃c,ss[k]? =some (bV mask h c)/\∀c',c'<c->bV mask h c'∈ss
def Laid.own{mask:Nat}{c:List Int}{a:Array (Option Nat)}{b:List Nat}(L:Laid mask c a b){s:Nat}(h:s<=mask):Own a s↔s∈b:=by
 unfold Own
 constructor
 .intro e
  cases o:a.getD s (some 0) with
  |none=>rw[o] at e;cases e
  |some k=>exact fm ((L.get s h k).mp o)
 .intro e
  obtain⟨k,d⟩:=tU e;rw[(L.get s h k).mpr d];rfl
def HC{mask:Nat}(f:vq mask){l:List Int}{g:Array (Option Nat)}{m:List Nat}(L:Laid mask l g m)(room:l.length<=mask)(h:Int):
  ∃j,layClean.free mask g (turns mask) (bits h%(mask+1)) (bits h)=some j/\Laid mask (l++ [h]) (g.setIfInBounds j (some l.length)) (m++ [j]):=by
 have o:=t6.start mask h
 obtain⟨s,C,F⟩:∃s,s<=mask/\s∉m:=by
  apply Gc;intro c
  have all:∀s∈aM (mask+1),s∈m:=λs l=>by
   apply Gc;intro n;exact c #[s,by have:=gD.mp l;lia,n]
  have:=Wb.aZ aca all
  rw[yY,L.len] at this;lia
 have z:(eB mask (bO mask h).i (bO mask h).perturb 13).2=0:=by
  rw[kT];exact Nat.div_eq_of_lt (fo o.per (by decide))
 obtain⟨r,N,e⟩:=cover f (FF mask (bO mask h).i (bO mask h).perturb 12) C
 have O:(bO mask h).i<=mask:=by
  have:=tZ (bits h) (show 0<mask+1 by lia)
  show bits h%(mask+1)<=mask;lia
 obtain⟨p,a,b,c⟩:=xp g (turns mask) (bO mask h) rfl rfl (by unfold runEnd;split<;>lia) #[13+r,by unfold turns;lia,by
  rw[uD z];show ¬Own g (kC mask _ r);rw[e,L.own C];exact F]
 have E:∀k,(cI mask (bO mask h) k).j=bV mask h k:=λk=>by unfold bV;rw[mF]
 rw[E] at a b;have u:=De mask h p;rw[L.own u] at b;refine#[bV mask h p,a,?_,?_,?_,?_,?_,?_]
 .rw[aaY];exact L.size
 .rw[dB,dB,L.len];rfl
 .exact gz.mpr #[L.nd,by simp,λx t y G z=>b (by rw[<-dD.mp G,<-z];exact t)]
 .intro x t
  rcases dh.mp t with t|t
  .exact L.le x t
  .rw[dD.mp t];exact u
 .intro x t k
  have w:(g.setIfInBounds (bV mask h p) (some l.length)).getD x (some 0)=if bV mask h p=x then some l.length else g.getD x (some 0):=by
   rw[Ga,Ga,abG]
   by_cases d:bV mask h p=x
   .rw[tz d,tz d,tz (by rw[L.size];lia)];rfl
   .rw[mo d,mo d]
  rw[w]
  by_cases d:bV mask h p=x
  .rw[tz d]
   constructor
   .intro e
    cases(Fk e);rw[<-L.len,mW (bJ _),qr,<-d];rfl
   .intro e
    by_cases q:k<m.length
    .rw[kL q] at e
     exact absurd (by rw[d];exact fm e) b
    .have:k<(m++ [bV mask h p]).length:=(dm.mp e).1
     rw[dB] at this
     have:k<m.length+1:=this
     rw[show k=m.length by lia,L.len]
  .rw[mo d,L.get x t k]
   constructor
   .intro e
    rw[kL (dm.mp e).1];exact e
   .intro e
    by_cases q:k<m.length
    .rw[kL q] at e;exact e
    .have:k<(m++ [bV mask h p]).length:=(dm.mp e).1
     rw[dB] at this
     have:k<m.length+1:=this
     rw[show k=m.length by lia,mW (bJ _),qr] at e
     exact absurd (Fk e) d
 .intro k H v
  by_cases q:k<l.length
  .rw[kL q] at v
   obtain⟨I,w,J⟩:=L.path k H v;exact#[I,by rw[kL (by rw[L.len];exact q)];exact w,λA B=>iu _ (J A B)]
  .have:k<(l++ [h]).length:=(dm.mp v).1
   rw[dB] at this
   have:k<l.length+1:=this
   have M:k=l.length:=by lia
   subst M;rw[mW (bJ _),qr] at v;cases(Fk v);refine#[p,by rw[<-L.len,mW (bJ _),qr];rfl,λA B=>iu _ ?_]
   have:=c A B
   rw[E] at this;exact(L.own (De _ _ _)).mp this
def HD(mask:Nat):Laid mask [] (dn (mask+1) none) [] where
 size:=by simp
 len:=rfl
 nd:=gB
 le:=λs h=>by cases h
 get:=λs a k=>by
  rw[Ga,Array.getElem?_replicate,tz (by lia)]
  simp
 path:=λk h e=>by cases e
def Aw(mask:Nat)(a:Option (Array (Option Nat)×Nat))(h:Int):Option (Array (Option Nat)×Nat):=do
 let (owner,k) <-a
 let j <-layClean.free mask owner (turns mask) (bits h%(mask+1)) (bits h)
 pure (owner.setIfInBounds j (some k),k+1)
theorem Ax{mask:Nat}(f:vq mask):∀(b done:List Int)(a:Array (Option Nat))(d:List Nat),Laid mask done a d->done.length+b.length<=mask+1->
  ∃c i,b.foldl (Aw mask) (some (a,done.length))=some (c,done.length+b.length)/\Laid mask (done++b) c i
 | [],done,a,d,L,_=>#[a,d,rfl,by rw[fI];exact L]
 |h::b,done,a,d,L,l=>by
  rw[cU] at l;obtain⟨j,e,m⟩:=HC f L (by lia) h
  have n:Aw mask (some (a,done.length)) h=some (a.setIfInBounds j (some done.length),done.length+1):=by
   unfold Aw;simp[e]
  obtain⟨c,i,g,k⟩:=Ax f b (done++ [h]) _ _ m (by rw[dB];show done.length+1+b.length<=_;lia)
  refine#[c,i,?_,by rw[kM] at k;exact k]
  rw[abp,n];rw[dB] at g;have g:b.foldl (Aw mask) (some (a.setIfInBounds j (some done.length),done.length+1))=some (c,done.length+1+b.length):=g;rw[g,cU]
  congr 2;lia
def CB{mask:Nat}(f:vq mask)(b:List Int)(room:b.length<=mask+1):∃a c,layClean mask b.toArray=some a/\Laid mask b a c:=by
 rfl';obtain⟨a,c,e,L⟩:=Ax f b [] _ _ (HD mask) (by simpa using room)
 ac_rfl;refine#[a,c,?_,by simpa using L]
 have:layClean mask b.toArray=(b.foldl (Aw mask) (some (dn (mask+1) none,0))).map (·.1):=by
  unfold layClean;rw[List.foldl_toArray];rfl
 have e:b.foldl (Aw mask) (some (dn (mask+1) none,0))=some (a,[].length+b.length):=e;rw[this,e];rfl
def dZ(mask:Nat)(a:Array (Option Nat)):List (Nat×Nat):=(aM (mask+1)).filterMap λj=>(a.getD j none).map (j,·)
def KY{mask:Nat}{b:List Int}{a:Array (Option Nat)}{c:List Nat}(L:Laid mask b a c){j k:Nat}:(j,k)∈dZ mask a↔c[k]? =some j:=by
 unfold dZ;rw[abM]
 have dflt:∀s,s<=mask->a.getD s none=a.getD s (some 0):=λs b=>by
  rw[Ga,Ga,A0 (by rw[L.size];lia)];rfl
 constructor
 .rintro⟨s,d,e⟩
  have d:=gD.mp d;rw[dflt s (by lia)] at e
  cases o:a.getD s (some 0) with
  |none=>rw[o] at e;cases e
  |some f=>
   rw[o] at e;have e:=Fk e;have h:s=j:=(aaR e).1;have i:f=k:=(aaR e).2;rw[<-h,<-i];exact(L.get s (by lia) f).mp o
 .intro e
  have g:=L.le j (fm e);refine#[j,gD.mpr (by lia),?_]
  rw[dflt j g,(L.get j g k).mpr e];rfl
def HF(mask:Nat)(c:Array (Option Nat)):((dZ mask c).map (·.1)).Pairwise (·<·):=by
 unfold dZ;rw[i3,List.pairwise_filterMap];refine aa6.imp λ {a b} h x d y e=>?_;cases f:c.getD a none with
 |none=>rw[f] at d;cases d
 |some i=>
  cases g:c.getD b none with
  |none=>rw[g] at e;cases e
  |some j=>
   rw[f] at d;rw[g] at e;cases(Fk d);cases(Fk e);exact h
theorem NV{mask:Nat}(f:vq mask)(l:List Int)(room:l.length<=mask)(finger moves:Nat)(led plain:Bool):
  ∃t g,laid mask finger moves led plain l.toArray=some (t,g)/\t.mask=mask/\t.led=led/\t.plain=plain/\t.moves=moves/\g.toList.Perm (aM l.length)/\TOk t (g.toList.map λk=>l.getD k 0):=by
 rfl';obtain⟨d,u,e,L⟩:=CB f l (by lia)
 have m:=λ {j k:Nat}=>KY (j:=j) (k:=k) L;have v:=HF mask d;ac_rfl
 have G:((dZ mask d).map (·.2)).Nodup:=by
  rw[y8,i3];rw[i3] at v;refine v.imp_of_mem λ {a b} H q r z=>?_;obtain⟨I,J⟩:=a;obtain⟨M,bk⟩:=b;have A:=m.mp H;have N:=m.mp q;have z:J=bk:=z;rw[z,N] at A
  have:=Fk A
  have r:I<M:=r;lia
 have perm:((dZ mask d).map (·.2)).Perm (aM l.length):=by
  refine(Gb G aca).mpr λk=>?_;rw[cz,gD]
  constructor
  .rintro⟨⟨j,Z⟩,h,rfl⟩
   have:=(dm.mp (m.mp h)).1
   rw[L.len] at this;exact this
  .intro n
   have O:k<u.length:=by rw[L.len];exact n
   exact#[(u[k],k),m.mpr (eI O),rfl]
 have P:(dZ mask d).length=l.length:=by
  have:=perm.length_eq
  simpa using this
 refine#[{mask,place:=((dZ mask d).map (·.1)).toArray,dummies:= #[],finger,led,moves,plain},((dZ mask d).map (·.2)).toArray,?_,rfl,rfl,rfl,rfl,by simpa using perm,?_]
 .unfold laid
  rw[e];rfl
 have w:∀(i j:Nat),((dZ mask d).map (·.1)).toArray[i]? =some j↔∃k,(dZ mask d)[i]? =some (j,k):=λi j=>by
  rw[List.getElem?_toArray,df];cases o:(dZ mask d)[i]? with
  |none=>simp
  |some x=>
   obtain⟨a,b⟩:=x;simp
 have y:∀s,s∈u->∃i:Nat,((dZ mask d).map (·.1)).toArray[i]? =some s:=λs Q=>by
  obtain⟨k,n⟩:=tU Q;obtain⟨i,p⟩:=tU (m.mpr n);exact#[i,(w i s).mpr #[k,p]]
 refine#[f,rfl,?_,?_,?_,?_,?_]
 .intro a b q r
  have q:b<((dZ mask d).map (·.1)).length:=q
  have:=Gd.mp v a b (by lia) q r
  simp[show a<(dZ mask d).length by simpa using(show a<((dZ mask d).map (·.1)).length by lia),show b<(dZ mask d).length by simpa using q]
  simpa using this
 .simp
 .intro i j h
  obtain⟨k,n⟩:=(w i j).mp h;exact L.le j (fm (m.mp (fm n)))
 .show((dZ mask d).map (·.1)).toArray.size<=mask
  simp[P];exact room
 .intro i B p
  rw[df] at p;cases o:(dZ mask d)[i]? with
  |none=>
   have:(((dZ mask d).map (·.2)).toArray.toList)[i]? =none:=by simp[o]
   rw[this] at p;cases p
  |some x=>
   obtain⟨j,k⟩:=x;have R:(((dZ mask d).map (·.2)).toArray.toList)[i]? =some k:=by simp[o]
   rw[R] at p;have C:=m.mp (fm o);have n:k<l.length:=by rw[<-L.len];exact(dm.mp C).1
   have S:l[k]? =some B:=by
    rw[<-Fk p];show _=some (l.getD k 0);rw[fz,eI n];rfl
   obtain⟨c,E,T⟩:=L.path k B S;rw[C] at E;refine#[c,(w i _).mpr #[k,by rw[o,Fk E]],λU X=>y _ (T U X)]
end PySem.SetTable
namespace PySem
open SetTable PyProof.Rows
def gJ(w:World):Bool:=w.params.followText "set-order"
structure mJ (bt:Bool) (o:Obj) (es:Array (Int×Value)) (ep:Nat) (t:SetTable):Prop where
 ex:o.ExactSet
 dat:o.data= .set es ep t
 tok:TOk t (es.toList.map (·.1))
 pl:t.plain=true
 ld:t.led= !bt
 few:5*es.size<3*t.mask
theorem TOk.fits(T:TOk t a):t.fits a.length=true:=by
 simp only[SetTable.fits,SetTable.fill,T.dum,T.size,vj,aat,decide_eq_true_eq,true_and]
 have:=T.room
 rw[T.size] at this;simpa using this
theorem mJ.fits(S:mJ w o a b t):t.fits a.size=true:=by
 have:=TOk.fits S.tok
 simpa using this
def Kt{mask n:Nat}(f:vq mask)(h:5*n<3*mask):n+1<=mask:=by
 rcases f with rfl|rfl|rfl|rfl<;>lia
def Hb{mask n:Nat}(f:vq mask)(a:3*mask<=5*n)(b:5*(n-1)<3*mask)(c:n<=306):vq (sizeAbove (grown n)-1)/\5*n<3*(sizeAbove (grown n)-1)/\n<=sizeAbove (grown n)-1/\sizeAbove (grown n)<=512:=by
 rcases f with rfl|rfl|rfl|rfl
 .have:n=5:=by lia
  subst this;exact#[.inr (.inl rfl),by decide,by decide,by decide]
 .have:n=19:=by lia
  subst this;exact#[.inr (.inr (.inl rfl)),by decide,by decide,by decide]
 .have:n=77:=by lia
  subst this;exact#[.inr (.inr (.inr rfl)),by decide,by decide,by decide]
 .lia
theorem Ij{t:SetTable}{c:Array (Int×Value)}(T:TOk t (c.toList.map (·.1)))(d:t.tooFull=true)(near:5*(c.size-1)<3*t.mask)(small:c.size<=306):
  ∃f a,t.relaid (c.map (·.1)) (grown c.size)=some (f,a)/\a.toList.Perm (aM c.size)/\(a.filterMap (c[·]?)).toList.Perm c.toList/\(a.filterMap (c[·]?)).size=c.size/\
   TOk f ((a.filterMap (c[·]?)).toList.map (·.1))/\f.plain=t.plain/\f.led=t.led/\5*c.size<3*f.mask/\sizeAbove (grown c.size)<=512:=by
 have sz:t.place.size=c.size:=by rw[T.size];simp
 have m:3*t.mask<=5*c.size:=by
  unfold SetTable.tooFull SetTable.fill at d;rw[T.dum,sz] at d;simp at d;lia
 rfl';obtain⟨o,p,q,r⟩:=Hb T.few m near small;obtain⟨f,a,e,em,s,u,_,g,v⟩:=NV o (c.toList.map (·.1)) (by simpa using q) t.finger (t.movedTo (sizeAbove (grown c.size)-1)) t.led t.plain
 rw[aL,fZ] at g;ac_rfl
 have i:(a.filterMap (c[·]?)).toList.Perm c.toList:=by
  rw[acB];exact(g.filterMap _).trans (by rw[filterMap_getElem?_range])
 have w:(a.filterMap (c[·]?)).size=c.size:=by rw[<-fZ,i.length_eq,fZ]
 refine#[f,a,?_,g,i,w,?_,u,s,by rw[em];exact p,r]
 .unfold SetTable.relaid
  rw[show c.map (·.1)=(c.toList.map (·.1)).toArray by apply ab6.mp;simp]
  exact e
 .have:(a.filterMap (c[·]?)).toList.map (·.1)=a.toList.map λk=>(c.toList.map (·.1)).getD k 0:=by
   rw[acB];have lt:∀k∈a.toList,k<c.size:=λk h=>gD.mp (g.mem_iff.mp h);generalize a.toList=l at lt
   induction l with
   |nil=>rfl
   |cons k l x=>
    have h:=lt k (dq ..);rw[List.filterMap_cons_some (b:=c[k]) (by simp[h]),cf,cf,x λj y=>lt j (eJ _ y)]
    simp[h]
  rw[this];exact v
end PySem
set_option maxHeartbeats 1000000
namespace PySem
open SetTable PyProof.Rows
section
variable {prog:Program} {w:World} {A:Around} {E:Value->Shared->Prop} {s:Shared}
def u4{h:Heap}(g:h.get? a=some o)(e:o.data= .set f d t)(b:Array (Int×Value))(c:SetTable):
  (h.update a (Obj.putSet b c)).get? a=some {o with data:= .set b (d+1) c}:=by
 have:=SZ (Obj.putSet b c) g (by rw[putSet_of b c e];rfl)
 rw[putSet_of b c e] at this;exact this
def wL{Q₁:Value->Shared->Prop}
  (h:Q₁ (.ref s.heap.objs.size) {s with heap:=s.heap.push {cls:= .type "set",dict:=none,data:= .set #[] 0 (.fresh 0 0 (!gJ w))}}):
  codeAny (model prog w) A (.call (.builtin "set.__new__") #[[.type "set"],[]]) (wants Q₁ E) s:=by
 refine abq ?_;refine ir (abK F.newCall_set_0 (AC #[acH F.plain_set_new _,abw F.entry_set_new ?_]));rw[abx F.plain_set_new _];unfold Builtin.«set.__new__» Builtin.Frozenset.newClass;have a:=sub_set_self;obtain⟨b,g,d,c,os⟩:=s;dsimp only
 wp_walk
 refine wpAny_askSetting (AC ?_);dsimp only;simp only[newObj];refine ir (wpAny_alloc (AC ?_));exact AC h
theorem Bk 
  (h:Q (.ref s.heap.objs.size) {s with heap:=s.heap.push {cls:= .type "set",dict:=none,data:= .set #[] 0 (.fresh 0 0 (!gJ w))}}):
  wpAny (model prog w) A (call (.type "set") []) Q E s:=by
 obtain⟨c,t,g⟩:=F.called_set.mro;have i:=F.called_set.made;have u:=F.called_set.sub;refine aay (abq ?_);show wpAny _ _ (callAny (.type "set") _) _ _ _;refine AC #[abN _ (by decide+kernel),abw F.entry_type_call ?_]
 rw[Around.under_plain (weight_type_call_type "set" [] []) rfl];have v:=F.called_set.notType;have x:=F.called_set.canCreate;have j:=F.typeCall_set_0
 repeat (any_goals (first|assumption|wp_step))
 refine aaz (wL (E:=E) (Q₁:=λobj a=>obj= .ref s.heap.objs.size/\a={s with heap:=s.heap.push {cls:= .type "set",dict:=none,data:= .set #[] 0 (.fresh 0 0 (!gJ w))}}) #[rfl,rfl]) λr a b=>?_
 cases r with
 |error e=>exact b
 |ok k=>
  cases k with
  |ret obj=>
   obtain⟨rfl,rfl⟩:=b;have l:(s.heap.push {cls:= .type "set",dict:=none,data:= .set #[] 0 (.fresh 0 0 (!gJ w))}).get? s.heap.objs.size=some {cls:= .type "set",dict:=none,data:= .set #[] 0 (.fresh 0 0 (!gJ w))}:=GM _ rfl;have m:Shared.TypeIs {s with heap:=s.heap.push {cls:= .type "set",dict:=none,data:= .set #[] 0 (.fresh 0 0 (!gJ w))}} (.ref s.heap.objs.size) "set":=#[_,l,rfl]
   have n:=F.called_set.init.lookup;have o:=F.called_set.init.bind (.ref s.heap.objs.size)
   repeat (any_goals (first|assumption|wp_step))
   refine aaz (aaN (R:=wants (λr f=>r= .none/\Q (.ref s.heap.objs.size) f) E) F.called_set.init.plain F.entry_set_init (check_set_init m ?_)) λp f d=>?_
   .unfold Builtin.«set.__init__» noKeywords
    wp_walk
    exact#[rfl,h]
   .cases p with
    |error e=>exact d
    |ok q=>
     cases q with
     |ret r=>
      obtain⟨rfl,y⟩:=d
      repeat (any_goals (first|assumption|wp_step))
     |_=>exact d.elim
  |_=>exact b.elim
def mJ.new(w:World):mJ (gJ w) {cls:= .type "set",dict:=none,data:= .set #[] 0 (.fresh 0 0 (!gJ w))} #[] 0 (.fresh 0 0 (!gJ w)) where
 ex:=#[rfl,rfl,rfl]
 dat:=rfl
 tok:=#[.inl rfl,rfl,λi j a=>by simp[SetTable.fresh] at a,rfl,λi j h=>by simp[SetTable.fresh] at h,by simp[SetTable.fresh],λi h e=>by simp at e]
 pl:=rfl
 ld:=rfl
 few:=by simp[SetTable.fresh]
end
section
variable {prog:Program} {w:World} {A:Around} {E:Value->Shared->Prop} {s:Shared}
def ItemsAre.ints(h:ItemsAre (intKind prog w) c b):∀v∈b,∃i t,v= .int i t:=by
 induction h with
 |nil=>intro v a;simp at a
 | @cons k f c b d _ e=>
  intro v a
  rcases eF.mp a with rfl|a
  .obtain⟨t,rfl⟩:=Value.isInt_shape d
   exact#[k,t,rfl]
  .exact e v a
def o9(f:IsTupleKey (intKind prog w) s.heap j a)(h:Q false s):wpAny (model prog w) A (ofAClassStatement 8 (.ref a)) Q E s:=by
 have k:=f.typeIs;obtain⟨o,c,n,l,_,m,p⟩:=f;unfold ofAClassStatement;refine ir (wpAny_typeOf k ?_);dsimp only;simp only[aaO, ↓reduceIte];refine ir (AC ?_);simp only[abU,eZ, ↓reduceIte];refine ir (wpAny_seqItems l m ?_);dsimp only;refine ir ?_;rw[<-Array.forIn_toList];refine acd _ (λb r d=>r.1=none/\d=s/\∀v∈b,∃i t,v=Value.int i t) _ ?_ ?_ _ _ #[rfl,rfl,p.ints]
 .rintro v b r d ⟨e,rfl,g⟩
  obtain⟨i,t,rfl⟩:=g v dq;refine ir (abK (show ofAClassStatement 7 (.int i t)=pure false from by unfold ofAClassStatement;rfl) ?_)
  simp only[eZ,Os];exact AC #[rfl,rfl,λu q=>g u (eJ _ q)]
 .rintro⟨x,y⟩ d ⟨e,rfl,_⟩
  simp only at e;subst e;exact AC h
def F5(j:IsTupleKey (intKind prog w) s.heap n b)(stored:List Value)(o:∀y∈stored,∃f a,y=Value.ref a/\IsTupleKey (intKind prog w) s.heap f a)(h:Q false s):
  wpAny (model prog w) A (searchCouldBeSeen (.ref b) stored) Q E s:=by
 unfold searchCouldBeSeen;refine ir ?_;refine acd _ (λd r g=>r.1=none/\g=s/\∀y∈d,∃f a,y=Value.ref a/\IsTupleKey (intKind prog w) s.heap f a) _ ?_ ?_ _ _ #[rfl,rfl,o]
 .rintro y d r g ⟨i,rfl,k⟩
  obtain⟨f,a,rfl,l⟩:=k y dq;have m:∀y∈d,∃f a,y=Value.ref a/\IsTupleKey (intKind prog w) g.heap f a:=λy p=>k y (eJ _ p);have e:(carriedByValue (Value.ref b)&&carriedByValue (Value.ref a))=false:=by simp[carriedByValue]
  dsimp only;rw[e,Bool.or_false]
  by_cases c:(b==a)=true
  .rw[tz c]
   exact AC #[rfl,rfl,m]
  .rw[mo c]
   refine ir (wpAny_eqIsQuiet_tuple j ?_);simp only[abU,eZ,Os];refine ir (wpAny_eqIsQuiet_tuple l ?_);simp only[abU,eZ,Os];refine ir (o9 j ?_);simp only[eZ,Os];refine ir (o9 l ?_);simp only[eZ,Os];exact AC #[rfl,rfl,m]
 .rintro⟨q,t⟩ g ⟨i,rfl,_⟩
  simp only at i;subst i;exact AC h
def z3(f:IsTupleKey (intKind prog w) s.heap j a)(h:Q true s):wpAny (model prog w) A (hashByValue 8 (.ref a)) Q E s:=by
 rfl';have l:=f.typeIs;obtain⟨o,c,n,m,_,p,q⟩:=f;ac_rfl;unfold hashByValue;refine ir (wpAny_specialOf l F.slot_tuple_hash.lookup ?_);dsimp only;refine ir (wpAny_seqItems m p ?_);refine ir ?_;show wpAny _ _ (forIn c _ _) _ _ s;rw[<-Array.forIn_toList];refine acd _ (λb r d=>r.1=none/\d=s/\∀v∈b,∃i t,v=Value.int i t) _ ?_ ?_ _ _ #[rfl,rfl,q.ints]
 .rintro v b r d ⟨e,rfl,g⟩
  obtain⟨i,t,rfl⟩:=g v dq;refine ir (abK (show hashByValue 7 (.int i t)=pure true from by unfold hashByValue;rfl) ?_)
  simp only[abU,eZ,Os];exact AC #[rfl,rfl,λu x=>g u (eJ _ x)]
 .rintro⟨z,B⟩ d ⟨e,rfl,_⟩
  simp only at e;subst e;exact AC h
def LO(prog:Program)(w:World)(h:Heap)(b:Array (Int×Value)):Prop:=∀(i:Nat)(e:Int×Value),b[i]? =some e->∃k a,e=(tupleKeyHash (intKind prog w) k, .ref a)/\IsTupleKey (intKind prog w) h k a
def O6(a:Array (Int×Value))(i:Nat):Int:=(a[i]?.map (·.1)).getD 0
def MY(h:vq m):m%2=1:=by rcases h with rfl|rfl|rfl|rfl<;>rfl
def AO{a:Array Nat}(R:nh a){i j v:Nat}(b:a[i]? =some v)(c:a[j]? =some v):i=j:=by
 rw[<-below_at R b,<-below_at R c]
theorem ql(hu:A.units<cLine)(ho:s.heap.get? a=some o)(S:mJ (gJ w) o q M t)(P:LO prog w s.heap q)(hk:IsTupleKey (intKind prog w) s.heap u b)
  (Qg:(∃(i:Nat)(c:Addr),q[i]? =some (tupleKeyHash (intKind prog w) u, .ref c)/\IsTupleKey (intKind prog w) s.heap u c)->∀r:Option Nat,(B=false->r.isSome=true)->Q (.there r) s)
  (BS:(∀(i:Nat)(e:Int×Value),q[i]? =some e->∀c,e.2= .ref c->¬IsTupleKey (intKind prog w) s.heap u c)->∀g,(∀i:Nat,t.place[i]? ≠some (bV t.mask (tupleKeyHash (intKind prog w) u) g))->(∀j,j<g->∃i:Nat,t.place[i]? =some (bV t.mask (tupleKeyHash (intKind prog w) u) j))->
   Q (.free (bV t.mask (tupleKeyHash (intKind prog w) u) g) false) s):
  wpAny (model prog w) A (setSearch a (.ref b) (tupleKeyHash (intKind prog w) u) B) Q E s:=by
 generalize hh:tupleKeyHash (intKind prog w) u=h at*;have T:=S.tok;obtain⟨s0,hs0,XI⟩:=T.empty;obtain⟨K,hK,Z⟩:=meets T.few (t6.start t.mask h) hs0;have Z:bV t.mask h K=s0:=by unfold bV;rw[mF];exact Z
 have kb:K<6000:=by
  have:10*turns t.mask<=5260:=by
   rcases T.few with e|e|e|e<;>rw[e]<;>decide
  lia
 have sz:t.place.size=q.size:=by rw[T.size];simp
 have hN:(t.mask%2==0)=false:=by rw[MY T.few];rfl
 have N:∀(n:Nat)(k:Nat)(l:Nat)(O:Option Probe),K+1-k<=n->n<l->k<=K->O.getD (t.probeStart h)=qY t.mask h k->(∀j,j<k->∃i:Nat,t.place[i]? =some (bV t.mask h j))->
   (∀(i:Nat) c,q[i]? =some (h, .ref c)->IsTupleKey (intKind prog w) s.heap u c->∀C,t.place[i]? =some (bV t.mask h C)->k<=C)->
   wpAny (model prog w) A (setSearchFrom a (.ref b) h B l O) Q E s:=by
  intro n
  induction n with
  |zero=>intro k l O h1 h2 h3;lia
  |succ n ih=>
   intro k l O h1 h2 h3 h4 h5 h6;obtain⟨f,rfl⟩:∃f,l=f+1:=#[l-1,by lia]
   unfold setSearchFrom;refine ir (aaD ho S.dat S.fits ?_);dsimp only;unfold SetTable.gaveWay;rw[hN];simp only[eZ,Os]
   have Xq:∀(i:Nat)(e:Int×Value),q[i]? =some e->O6 q i=e.1:=λi e d=>by
    show(q[i]?.map (·.1)).getD 0=e.1;rw[d];rfl
   generalize I:t.probe _ h (O.getD (t.probeStart h))=r;have I:t.probe (O6 q) h (qY t.mask h k)=r:=by rw[<-h4];exact I
   generalize O6 q=hA at Xq I;obtain⟨g,zI,hp,alt⟩:=TOk.probe T hA h k
   have k0K:g<=K:=by
    apply Gc;intro c;obtain⟨i,d,_⟩:=hp K h3 (by lia)
    rw[Z] at d;exact XI i d
   have QN:∀j,j<g->∃i:Nat,t.place[i]? =some (bV t.mask h j):=λj h'=>by
    by_cases c:j<k
    .exact h5 j c
    .obtain⟨i,d,_⟩:=hp j (by lia) h'
     exact#[i,d]
   have F:∀(i:Nat) c,q[i]? =some (h, .ref c)->IsTupleKey (intKind prog w) s.heap u c->∀C,t.place[i]? =some (bV t.mask h C)->g<=C:=λi c d hc C R=>by
    have hkx:=h6 i c d hc C R;apply Gc;intro z;obtain⟨p,G,sF⟩:=hp C hkx (by lia)
    have:i=p:=AO T.rise R G
    subst this;exact sF (Xq i _ d)
   rcases alt with ⟨Nm,M⟩ | ⟨i,d,Hf,M⟩
   .rw[M] at I
    subst I;dsimp only;refine AC (BS (λi e d c hc XX=>?_) g Nm QN);obtain⟨j,a',U,X⟩:=P i e d;subst U;cases hc
    have:j=u:=X.inj XX
    subst this;rw[hh] at d;obtain⟨ky,Yq,hy2⟩:=T.path i h (by rw[df,f9,d];rfl)
    have lt:=F i _ d XX ky Yq
    by_cases c1:g<ky
    .obtain⟨p,G⟩:=hy2 g c1
     exact Nm p G
    .have:ky=g:=by lia
     subst this;exact Nm i Yq
   .rw[M] at I
    subst I;dsimp only
    have Yr:i<q.size:=by
     have:=(y6.mp d).1
     lia
    obtain⟨j,c,U,X⟩:=P i q[i] (A0 Yr);have L:q[i]? =some (tupleKeyHash (intKind prog w) j, .ref c):=by rw[A0 Yr,U]
    have H:wpAny (model prog w) A (match q[i]? with
      |some (fst,y)=>do
       let m <-holding [y] (eqBool y (Value.ref b))
       let J <-setState a
       if (B&&m)=true then pure (SetFound.there none)
        else
         match J.2.snd.sameMemory t.moves t.mask with
         |some same=>
          match if same=true then J.2.snd.slot (bV t.mask h g) else Slot.empty with
          |Slot.live p=>
           match J.fst[p]? with
           |some (fst,y')=>do
            let v <-isSame y' y
            let Y <-pure (if v=true then some p else none)
            match Y with
             |none=>do
              rule "set.search.anew"
              setSearchFrom a (Value.ref b) h B f none
             |some p=>
              if m=true then pure (SetFound.there (some p))
              else setSearchFrom a (Value.ref b) h B f (some (qY t.mask h (g+1)))
           |none=>do
            let Y <-pure none
            match Y with
             |none=>do
              rule "set.search.anew"
              setSearchFrom a (Value.ref b) h B f none
             |some p=>
              if m=true then pure (SetFound.there (some p))
              else setSearchFrom a (Value.ref b) h B f (some (qY t.mask h (g+1)))
          |x=>do
           let Y <-pure none
           match Y with
            |none=>do
             rule "set.search.anew"
             setSearchFrom a (Value.ref b) h B f none
            |some p=>
             if m=true then pure (SetFound.there (some p))
             else setSearchFrom a (Value.ref b) h B f (some (qY t.mask h (g+1)))
         |x=>unsupported "set.changed-during-lookup:is-the-new-block-at-the-old-address"
      |x=>unsupported "internal:set-entry") Q E s:=by
     rw[L];dsimp only;refine ir (On (wpAny_eqBool_tuple hu X hk ?_));refine ir (aaD ho S.dat S.fits ?_);dsimp only;have sm:t.sameMemory t.moves t.mask=some true:=by unfold SetTable.sameMemory;simp
     have sF:j≠u->wpAny (model prog w) A (setSearchFrom a (Value.ref b) h B f (some (qY t.mask h (g+1)))) Q E s:=λne=>by
      by_cases kk:g=K
      .subst kk
       rw[Z] at d;exact absurd d (XI i)
      refine ih (g+1) f _ (by lia) (by lia) (by lia) rfl (λQs h''=>?_) λp c' G su C R=>?_
      .by_cases z:Qs=g
       .subst z;exact#[i,d]
       .exact QN Qs (by lia)
      .have l1:=F p c' G su C R
       have:C≠g:=λz=>by
        subst z
        have:p=i:=AO T.rise R d
        subst this;rw[L] at G;cases G;exact ne (X.inj su)
       lia
     have there:j=u->∀r:Option Nat,(B=false->r.isSome=true)->Q (.there r) s:=λe=>by
      subst e;rw[hh] at L;exact Qg #[i,c,L,X]
     by_cases e:j=u
     .rw[IR e,Bool.and_true]
      cases B with
      |true=>exact AC (there e none λz=>absurd z (by decide))
      |false=>
       simp only[eZ,Os];rw[sm];dsimp only;rw[tz rfl,qX T.rise d];dsimp only;rw[L];dsimp only;refine ir (wpAny_isSame_ref_self ?_);refine ir (AC ?_);simp only[aax];exact AC (there e (some i) λ_=>rfl)
     .rw[GT e,acE]
      simp only[eZ,Os];rw[sm];dsimp only;rw[tz rfl,qX T.rise d];dsimp only;rw[L];dsimp only;refine ir (wpAny_isSame_ref_self ?_);refine ir (AC ?_);simp only[aax];exact sF e
    by_cases led:(!t.led)=true
    .rw[tz led]
     refine ir (F5 hk _ (λy hy=>?_) ?_)
     .obtain⟨e,he,rfl⟩:=cz.mp hy
      have he:=(Array.mem_filter.mp (Array.mem_toList_iff.mp he)).1;obtain⟨p,G,rfl⟩:=Array.mem_iff_getElem.mp he;obtain⟨Qs,c',U,XW⟩:=P p q[p] (A0 G);exact#[Qs,c',by rw[U],XW]
     .simp only[eZ,Os]
      exact H
    .rw[mo led]
     exact H
 refine N (K+1) 0 100000 none (bJ _) (by lia) (fq _) rfl (λj h'=>by lia) λi c d hc C _=>fq _
end
section
variable {prog:Program} {w:World} {A:Around} {E:Value->Shared->Prop} {s:Shared}
def uN(b:Addr)(a:Array (Int×Value)):byScan (.ref b) a=false:=rfl
def z0(k:A.units<cLine)(g:s.heap.get? a=some o)(S:mJ (gJ w) o f j t)(P:LO prog w s.heap f)(l:IsTupleKey (intKind prog w) s.heap d b)
  (m:(∃(i:Nat)(c:Addr),f[i]? =some (tupleKeyHash (intKind prog w) d, .ref c)/\IsTupleKey (intKind prog w) s.heap d c)->∀r:Option Nat,r.isSome=true->Q r s)
  (n:(∀(i:Nat)(e:Int×Value),f[i]? =some e->∀c,e.2= .ref c->¬IsTupleKey (intKind prog w) s.heap d c)->Q none s):
  wpAny (model prog w) A (setFind a (.ref b) (tupleKeyHash (intKind prog w) d)) Q E s:=by
 unfold setFind setFindIn;refine ir (aaD g S.dat S.fits ?_);dsimp only;rw[uN];simp only[eZ,Os];refine ir (ql k g S P l (λh r p=>?_) λh q _ _=>?_)
 .exact AC (m h r (p rfl))
 .exact AC (n h)
def DB(hu:A.units<cLine)(n:s.heap.get? a=some o)(S:mJ (gJ w) o d Z t)(P:LO prog w s.heap d)(I:IsTupleKey (intKind prog w) s.heap g b)(room:d.size<=305)
  (hy:(∃(i:Nat)(c:Addr),d[i]? =some (tupleKeyHash (intKind prog w) g, .ref c)/\IsTupleKey (intKind prog w) s.heap g c)->Q false s)
  (J:(∀(i:Nat)(e:Int×Value),d[i]? =some e->∀c,e.2= .ref c->¬IsTupleKey (intKind prog w) s.heap g c)->∀z L M xf t',Heap.SameBut a s.heap z->z.get? a=some L->mJ (gJ w) L M xf t'->M.toList.Perm (d.toList++ [(tupleKeyHash (intKind prog w) g, .ref b)])->Q true {s with heap:=z}):
  wpAny (model prog w) A (setAddHashed a (.ref b) (tupleKeyHash (intKind prog w) g)) Q E s:=by
 have u:=S.dat;have N:=S.fits;have T:=S.tok;have sz:t.place.size=d.size:=by rw[T.size];simp
 unfold setAddHashed setAddHashedIn;refine On (ir (aaD n u N ?_));dsimp only;rw[uN];simp only[eZ,Os];refine ir (ql hu n S P I (λh r hr=>?_) λh k B QN=>?_)
 .exact AC (hy h)
 .dsimp only
  refine ir (aaD n u N ?_);dsimp only;obtain⟨p1,p2,l⟩:=TOk.put T B QN (by rw[sz];exact Kt T.few S.few)
  rw[p1]
  have e:(SetTable.insertAt d (below t.place (bV t.mask (tupleKeyHash (intKind prog w) g) k)) (tupleKeyHash (intKind prog w) g,Value.ref b)).toList.map (·.1)=(d.toList.map (·.1)).take (below t.place (bV t.mask (tupleKeyHash (intKind prog w) g) k))++tupleKeyHash (intKind prog w) g::(d.toList.map (·.1)).drop (below t.place (bV t.mask (tupleKeyHash (intKind prog w) g) k)):=by
   rw[acb];simp
  rw[<-e] at l;have pl:(t.put (bV t.mask (tupleKeyHash (intKind prog w) g) k)).1.plain=true:=S.pl;have ld:(t.put (bV t.mask (tupleKeyHash (intKind prog w) g) k)).1.led= !gJ w:=S.ld;have mk:(t.put (bV t.mask (tupleKeyHash (intKind prog w) g) k)).1.mask=t.mask:=rfl;generalize hx:((tupleKeyHash (intKind prog w) g,Value.ref b):Int×Value)=x at*;generalize hp:below t.place (bV t.mask (tupleKeyHash (intKind prog w) g) k)=p at*;generalize (t.put (bV t.mask (tupleKeyHash (intKind prog w) g) k)).1=m at*;rw[tz pl];refine ir (z3 I ?_);simp only[aax,Bool.not_false,Bool.true_and];have q:(SetTable.insertAt d p x).size=d.size+1:=SetTable.ie ..;have C:=acA d p x;rw[A4] at C;refine ir (wpAny_storeSet_of n u ?_ (by rw[q];refine fits_of_scanBound ?_;show d.size+1<4096;lia))
  have v:=u4 n u (SetTable.insertAt d p x) m;have O:=aaS s.heap a (Obj.putSet (SetTable.insertAt d p x) m)
  have F:m.fits (SetTable.insertAt d p x).size=true:=by
   have:=TOk.fits l
   rw[aL,fZ] at this;exact this
  by_cases j:m.tooFull=true
  .rw[tz j]
   refine ah λG0 k=>?_;obtain⟨y,f,R,_,pf,U,T2,G,l2,X,Ze⟩:=Ij l j (by rw[q,mk];have:=S.few;lia) (by rw[q];lia)
   refine k ?_;rw[q] at R X Ze;refine ir ?_;unfold setRelay;refine ir (aaD v rfl F ?_);dsimp only;have big:512<=sizeLine:=by decide
   rw[mo (by lia),R]
   have Y:(f.filterMap ((SetTable.insertAt d p x)[·]?)).size=d.size+1:=by rw[U,q]
   refine ir (abK (a:=(f.filterMap ((SetTable.insertAt d p x)[·]?),y)) ?_ ?_)
   .show(if ((f.filterMap ((SetTable.insertAt d p x)[·]?)).size !=(SetTable.insertAt d p x).size)=true then _ else pure (f.filterMap ((SetTable.insertAt d p x)[·]?),y))=_
    rw[mo (by rw[U];simp)]
   .dsimp only
    refine wpAny_storeSet_of v rfl ?_ (by rw[Y];refine fits_of_scanBound ?_;show d.size+1<4096;lia)
    have EX:=u4 v rfl (f.filterMap ((SetTable.insertAt d p x)[·]?)) y;exact AC (J h _ _ _ _ y (O.trans (aaS _ a _)) EX #[S.ex,rfl,T2,by rw[G];exact pl,by rw[l2];exact ld,by rw[Y];exact X] (pf.trans C))
  .rw[mo j]
   refine AC (J h _ _ _ _ m O v #[S.ex,rfl,l,pl,ld,?_] C);have H:m.tooFull=false:=by simpa using j
   unfold SetTable.tooFull SetTable.fill at H;rw[l.dum,l.size] at H;simp at H;lia
variable {a b:Addr} {o:Obj} {es:Array (Int×Value)} {ep:Nat} {t:SetTable} {ks:List Int}
open Classical in
noncomputable def nN(prog:Program)(w:World)(h:Heap)(es:Array (Int×Value))(ks:List Int):Bool:=decide (∃(i:Nat)(c:Addr),es[i]? =some (tupleKeyHash (intKind prog w) ks, .ref c)/\IsTupleKey (intKind prog w) h ks c)
def Ng(h:∀(i:Nat)(e:Int×Value),es[i]? =some e->∀c,e.2= .ref c->¬IsTupleKey (intKind prog w) s.heap ks c):nN prog w s.heap es ks=false:=by
 classical
 unfold nN;exact GT λ#[i,c,d,f]=>h i _ d c rfl f
def Kz(h:∃(i:Nat)(c:Addr),es[i]? =some (tupleKeyHash (intKind prog w) ks, .ref c)/\IsTupleKey (intKind prog w) s.heap ks c):nN prog w s.heap es ks=true:=by
 classical
 unfold nN;exact IR h
def tS(k:A.units+64<cLine)(d:s.heap.get? a=some o)(S:mJ (gJ w) o es ep t)(P:LO prog w s.heap es)(e:IsTupleKey (intKind prog w) s.heap ks b)
  (h:∀f,Q (nN prog w s.heap es ks) {s with toks:=f}):wpAny (model prog w) A (contains (.ref a) (.ref b)) Q E s:=by
 have c:s.TypeIs (.ref a) "set":=#[o,d,S.ex.1];unfold contains
 try with_reducible refine On ?_
 refine ir (wpAny_specialOf c F.slot_set_contains.lookup ?_);show wpAny _ _ (if (some (Value.builtin "set.__contains__")==some Value.none)=true then _ else _) _ E s;rw[mo (by rw[beq_builtin_none];exact eD)]
 refine ir (wpAny_callSpecialUnlessNone?_slot (name:=Str.ofString "__contains__") c F.slot_set_contains
  (aav F.slot_set_contains c entry_set_contains ?_ (F.args_set_contains_2 _ _)))
 unfold Builtin.«frozenset.__contains__» Builtin.Frozenset.oneOther;simp only[List.isEmpty_nil,bind_assoc];unfold Builtin.Frozenset.addrOf Builtin.Frozenset.withSetAsKey setContains;refine ir (AC ?_)
 try dsimp only
 refine ir (AC ?_)
 try dsimp only
 refine ir (wpAny_tryCatch ?_);refine On ?_;refine ir (wpAny_pyHash_tuple ?_ e ?_)
 .show A.units+1<cLine;lia
 refine ir (z0 (s:={s with toks:=s.toks+(ks.length+1)}) ?_ d S P e (λg r i=>?_) λj=>?_)
 .show A.units+1<cLine;lia
 .refine AC ?_
  show wpAny _ _ (ret (Value.bool r.isSome)) _ _ _;rw[i]
  have:=h (s.toks+(ks.length+1))
  rw[Kz g] at this;exact AC #[_,rfl,SL this]
 .refine AC ?_
  have:=h (s.toks+(ks.length+1))
  rw[Ng j] at this;exact AC #[_,rfl,SL this]
end
end PySem
set_option maxHeartbeats 4000000
namespace L2
open PySem PySem.Spec PyProof.Rows
inductive FV where
 |int (i:Int) |bl (b:Bool)
inductive XD where
 |tq (b:Bool) (ps:List (Int×Int)) |lI (ks:List (Int×Int)) (vs:List FV)
inductive D where
 |bb|bl (b:Bool) |int (i:Int) |str (x:Str) |lst (l:List D) |tup (l:List D) |gy (ns:List Int) |rng (lo hi:Int) |obj (a:Addr) |cD (w:List (List Nat)) |set (b:Bool) (l:List Int) |x (k:XD) |err (C:Addr) (ks:List Str) (l:List D)
structure DC where
 K:ac
 C:Addr
def af(n:Nat):D:= .int n
def aq(r:List Nat):D:= .lst (r.map af)
def aQ(w:List (List Nat)):D:= .lst (w.map aq)
def We(a:Array (Int×Value))(b:List Int):Prop:=(∀e∈a.toList,∃k t,e=(hashInt k,Value.int k t))/\b.Nodup/\∃c,IntsAre (a.toList.map (·.2)) c/\c.Perm b
def Sh(b:Bool)(a:Addr)(d:List Int)(h:Heap):Prop:=∃o c e t,h.get? a=some o/\mJ b o c e t/\We c d
def cC(p:Int×Int):Int:=reduceHash (Builtin.Tuple.tupleHashOf [hashInt p.1,hashInt p.2])
inductive gk (H:Hp):List (Int×Addr)->List (Int×Int)->Prop
 |nil:gk H [] []
 |cons {a:Addr} {p:Int×Int} {es:List (Int×Addr)} {ps:List (Int×Int)}:H a=some (.tup [.int p.1, .int p.2])->gk H es ps->gk H ((cC p,a)::es) (p::ps)
theorem gk.mono{H a:Hp}(s:aJ H a):∀{b:List (Int×Addr)}{c:List (Int×Int)},gk H b c->gk a b c
 |_,_, .nil=> .nil
 |_,_, .cons h t=> .cons (s _ _ h) (t.mono s)
def fK(b:Bool)(a:Addr)(d:List (Int×Addr))(h:Heap):Prop:=∃o c f t,h.get? a=some o/\mJ b o c f t/\c.toList.Perm (d.map λe=>(e.1,Value.ref e.2))
def J5:FV->Value->Prop
 | .int i,v=>∃t,v= .int i t
 | .bl b,v=>v= .bool b
inductive JZ:List DictEntry->List (Int×Addr)->List FV->Prop
 |nil:JZ [] [] []
 |cons {e:DictEntry} {l:List DictEntry} {h:Int} {a:Addr} {v:FV} {es:List (Int×Addr)} {vs:List FV}:e.hash=h->e.key= .ref a->J5 v e.val->JZ l es vs->JZ (e::l) ((h,a)::es) (v::vs)
def eN(a:Addr)(c:List (Int×Addr))(d:List FV)(h:Heap):Prop:=(a==sysModules)=false/\∃o b e,h.get? a=some o/\o.ExactDict/\o.data= .dict b e/\JZ b.toList c d
def J8(H:Hp)(a:Addr)(d:Heap->Prop):XD->Prop
 | .tq b e=>e.Nodup/\∃c,d=fK b a c/\gk H c e
 | .lI ks f=>ks.Nodup/\∃c,d=eN a c f/\gk H c ks
theorem J8.mono{H c:Hp}(s:aJ H c):∀{k:XD},J8 H a d k->J8 c a d k
 | .tq _ _,#[n,b,e,p]=>#[n,b,e,p.mono s]
 | .lI _ _,#[n,b,e,p]=>#[n,b,e,p.mono s]
def J4(H:Hp)(d:Option Addr)(a:List Str)(b:List V):Prop:=(d=none/\a= []/\b= [])\/∃c,d=some c/\H c=some (zo c (a.zip b))/\a.length=b.length
def J4.mono{H d:Hp}(s:aJ H d)(h:J4 H e f g):J4 d e f g:=h.imp id λ#[i,a,b,c]=>#[i,a,s _ _ b,c]
mutual
inductive Dv (Z:DC) (H:Hp):V->D->Prop
 |bb:Dv Z H .bb .bb
 |bl (b:Bool):Dv Z H (.bl b) (.bl b)
 |int (i:Int):Dv Z H (.int i) (.int i)
 |str (x:Str) (h:PyData.strOk x=true):Dv Z H (.str x) (.str x)
 |lst {a:Addr} {xs:List V} {ds:List D}:H a=some (.lst xs)->DvAll Z H xs ds->Dv Z H (.ref a) (.lst ds)
 |tup {a:Addr} {xs:List V} {ds:List D}:H a=some (.tup xs)->DvAll Z H xs ds->Dv Z H (.ref a) (.tup ds)
 |obj (a:Addr):Dv Z H (.ref a) (.obj a)
 |rng {a:Addr} {lo hi:Int}:H a=some (.rng lo hi)->Dv Z H (.ref a) (.rng lo hi)
 |gy {a:Addr} {ns:List Int}:cy Z.K H a (ns.map V.int)->ns.length<=63->Dv Z H (.ref a) (.gy ns)
 |cD {p dx R:Addr} {w:List (List Nat)}:H p=some (.ins Z.C dx [("rows", .ref R)])->Dv Z H (.ref R) (aQ w)->Wb.Good w->1<=w.length->w.length<=14->Dv Z H (.ref p) (.cD w)
 |set {a:Addr} {b:Bool} {ns:List Int}:H a=some (.ext (Sh b a ns))->Dv Z H (.ref a) (.set b ns)
 |x {a:Addr} {φ:Heap->Prop} {k:XD}:H a=some (.ext φ)->J8 H a φ k->Dv Z H (.ref a) (.x k)
 |err {a C:Addr} {od:Option Addr} {ks:List Str} {xs:List V} {ds:List D}:H a=some (kN C a od)->J4 H od ks xs->DvAll Z H xs ds->Dv Z H (.ref a) (.err C ks ds)
inductive DvAll (Z:DC) (H:Hp):List V->List D->Prop
 |nil:DvAll Z H [] []
 |cons {v:V} {vs:List V} {d:D} {ds:List D}:Dv Z H v d->DvAll Z H vs ds->DvAll Z H (v::vs) (d::ds)
end
def cy.mono{K:ac}{H b:Hp}(s:aJ H b)(h:cy K H a c):cy K b a c:=by
 rcases h with (h| ⟨o,h⟩) |h
 .exact .inl (.inl (s _ _ h))
 .exact .inl (.inr #[o,s _ _ h])
 .exact .inr h
section
variable {Z:DC} {H H' G G':Hp}
def Dv.ofInt(h:Dv Z H v (.int i)):v= .int i:=by cases h;rfl
def Dv.yd(h:Dv Z H v (.bl b)):v= .bl b:=by cases h;rfl
def Dv.fN(h:Dv Z H v (.lst b)):∃a c,v= .ref a/\H a=some (.lst c)/\DvAll Z H c b:=by cases h with|lst h e=>exact#[_,_,rfl,h,e]
def Dv.n5{v:V}{ds:List D}(h:Dv Z H v (.tup ds)):∃a xs,v= .ref a/\H a=some (.tup xs)/\DvAll Z H xs ds:=by cases h with|tup h e=>exact#[_,_,rfl,h,e]
def Dv.Of{v:V}{ns:List Int}(h:Dv Z H v (.gy ns)):∃a,v= .ref a/\cy Z.K H a (ns.map V.int)/\ns.length<=63:=by cases h with|gy h z=>exact#[_,rfl,h,z]
def DvAll.CV(h:DvAll Z H a []):a= []:=by cases h;rfl
def DvAll.pL(h:DvAll Z H c (d::e)):∃v f,c=v::f/\Dv Z H v d/\DvAll Z H f e:=by cases h with|cons a b=>exact#[_,_,rfl,a,b]
def DvAll.ofOne(h:DvAll Z H c [d]):∃v,c= [v]/\Dv Z H v d:=by
 obtain⟨v,e,rfl,a,b⟩:=h.pL;rw[b.CV];exact#[v,rfl,a]
def DvAll.CW(h:DvAll Z H f [d,e]):∃v u,f= [v,u]/\Dv Z H v d/\Dv Z H u e:=by
 obtain⟨v,g,rfl,a,b⟩:=h.pL;obtain⟨u,rfl,c⟩:=b.ofOne;exact#[v,u,rfl,a,c]
theorem Dv.mono(s:aJ H H'){v:V}(h:Dv Z H v d):Dv Z H' v d:=
 Dv.rec (motive_1:=λv d _=>Dv Z H' v d) (motive_2:=λc e _=>DvAll Z H' c e) .bb .bl .int .str (λh _ a=> .lst (s _ _ h) a) (λh _ a=> .tup (s _ _ h) a) .obj (λh=> .rng (s _ _ h)) (λh z=> .gy (h.mono s) z) (λh _ g a b r=> .cD (s _ _ h) r g a b) (λh=> .set (s _ _ h)) (λh k=> .x (s _ _ h) (k.mono s)) (λh k _ a=> .err (s _ _ h) (k.mono s) a) .nil (λ_ _ a b=> .cons a b) h
def DvAll.ind{p:List V->List D->Prop}(n:p [] [])(c:∀{v:V}{e:List V}{d:D}{f:List D},Dv Z H v d->DvAll Z H e f->p e f->p (v::e) (d::f)){f:List D}(h:DvAll Z H e f):p e f:=
 DvAll.rec (motive_1:=λ_ _ _=>True) (motive_2:=λe f _=>p e f) trivial (λ_=>trivial) (λ_=>trivial) (λ_ _=>trivial) (λ_ _ _=>trivial) (λ_ _ _=>trivial) (λ_=>trivial) (λ_=>trivial) (λ_ _=>trivial) (λ_ _ _ _ _ _=>trivial) (λ_=>trivial) (λ_ _=>trivial) (λ_ _ _ _=>trivial) n (λa b _ q=>c a b q) h
theorem DvAll.mono(s:aJ H H')(h:DvAll Z H c d):DvAll Z H' c d:=h.ind .nil λa _ b=> .cons (a.mono s) b
theorem DvAll.length{a:List V}(h:DvAll Z H a b):a.length=b.length:=h.ind (p:=λa b=>a.length=b.length) rfl λ_ _ e=>GE (·+1) e
def DvAll.get{i:Nat}{d:D}(h:DvAll Z H b c)(e:c[i]? =some d):∃v,b[i]? =some v/\Dv Z H v d:=by
 revert i
 refine h.ind (p:=λb c=>∀{i:Nat},c[i]? =some d->∃v,b[i]? =some v/\Dv Z H v d) (λe=>by cases e) λa _ f i e=>?_
 cases i with
 |zero=>cases e;exact#[_,rfl,a]
 |succ i=>exact f e
def DvAll.Na{b:List V}{c:List D}{i:Nat}{v:V}(h:DvAll Z H b c)(e:b[i]? =some v):∃d,c[i]? =some d/\Dv Z H v d:=by
 revert i
 refine h.ind (p:=λb c=>∀{i:Nat},b[i]? =some v->∃d,c[i]? =some d/\Dv Z H v d) (λe=>by cases e) λa _ f i e=>?_
 cases i with
 |zero=>cases e;exact#[_,rfl,a]
 |succ i=>exact f e
def DvAll.append(h:DvAll Z H c d)(k:DvAll Z H e f):DvAll Z H (c++e) (d++f):=h.ind (p:=λc d=>DvAll Z H (c++e) (d++f)) k λa _ b=> .cons a b
theorem DvAll.take:∀{b:List V}{c:List D}(n:Nat),DvAll Z H b c->DvAll Z H (b.take n) (c.take n)
 |_,_,0,_=>DvAll.nil
 |_,_,n+1, .nil=>DvAll.nil
 |_,_,n+1, .cons a d=>DvAll.cons a (d.take n)
theorem DvAll.drop:∀{b:List V}{c:List D}(n:Nat),DvAll Z H b c->DvAll Z H (b.drop n) (c.drop n)
 |_,_,0,h=>h
 |_,_,n+1, .nil=>by simpa using DvAll.nil
 |_,_,n+1, .cons a d=>by simpa using d.drop n
theorem DvAll.set{v:V}{d:D}(h:Dv Z H v d):∀{c:List V}{e:List D}(n:Nat),DvAll Z H c e->DvAll Z H (c.set n v) (e.set n d)
 |_,_,_, .nil=> .nil
 |_,_,0, .cons a b=> .cons h b
 |_,_,n+1, .cons a b=> .cons a (DvAll.set h n b)
theorem DvAll.ints:∀(a:List Int),DvAll Z H (a.map V.int) (a.map D.int)
 | []=> .nil
 |n::a=> .cons (.int n) (DvAll.ints a)
def DvAll.snoc{e:List D}(a:DvAll Z H c e)(b:Dv Z H v d):DvAll Z H (c++ [v]) (e++ [d]):=a.append (.cons b .nil)
structure Ext (G H G' H':Hp):Prop where
 gg:aJ G G'
 sub:aJ G' H'
 hh:aJ H H'
 off:∀b,H b≠none->G b=none->G' b=none
theorem Ext.refl(s:aJ G H):Ext G H G H:=#[.refl _,s, .refl _,λ_ _ h=>h]
theorem Ext.trans{c d f i:Hp}(a:Ext G H c d)(b:Ext c d f i):Ext G H f i:=
 #[a.gg.trans b.gg,b.sub,a.hh.trans b.hh,λx h g=>b.off x (λz=>by
  cases e:H x with
  |none=>exact h e
  |some o=>rw[a.hh x o e] at z;cases z) (a.off x h g)]
def Ext.new{o:HO}(s:aJ G H)(h:H p=none):Ext G H (upd G p o) (upd H p o):=by
 have a:G p=none:=s.free h;refine#[aO a o,λb u e=>?_,aO h o,λb c a=>?_]
 .by_cases z:b=p
  .subst z;rw[av] at e ⊢;exact e
  .rw[ax z] at e ⊢;exact s b u e
 .have:b≠p:=λz=>c (by rw[z];exact h)
  rw[ax this];exact a
end
abbrev DN:=List (Option D)
structure cL (Z:DC) (G:Hp) (σ:St) (ρ:DN):Prop where
 len:ρ.length=σ.length
 at_:∀(i:Nat)(d:D),ρ[i]? =some (some d)->∃v,σ[i]? =some (some v)/\Dv Z G v d
section
variable {Z:DC} {G G' H H':Hp} {σ:St} {ρ:DN}
theorem cL.mono(e:cL Z G σ ρ)(s:aJ G G'):cL Z G' σ ρ:=#[e.len,λi d h=>let #[v,a,b]:=e.at_ i d h;#[v,a,b.mono s]]
theorem cL.set{v:V}{d:D}(e:cL Z G σ ρ)(h:Dv Z G v d):cL Z G (σ.set i (some v)) (ρ.set i (some d)):=by
 refine#[by rw[fJ,fJ];exact e.len,λj c a=>?_]
 by_cases z:i=j
 .subst z
  by_cases b:i<ρ.length
  .rw[ji b] at a
   cases Fk a;exact#[v,by rw[ji (e.len▸b)],h]
  .rw[za (i4 b)] at a
   rw[j7 (i4 b)] at a;cases a
 .rw[jj z] at a ⊢
  exact e.at_ j c a
end
abbrev aR:=DN->(D->Prop)->Prop
abbrev dP:=DN->(Bool->Prop)->Prop
abbrev gH:=DN->(List D->Prop)->Prop
abbrev gG:=D->D->(D->Prop)->Prop
abbrev eX:=D->DN->(DN->Prop)->Prop
abbrev jn:=DN->(List D->Prop)->Prop
def dY(Z:DC)(t:aR):TE:=λe H Q=>∃(G:Hp)(a:DN)(P:D->Prop),aJ G H/\cL Z G e a/\t a P/\∀d,P d->∀v b c,Ext G H b c->Dv Z b v d->Q v c
def liftT(Z:DC)(t:dP):TT:=λd H Q=>∃(G:Hp)(a:DN)(P:Bool->Prop),aJ G H/\cL Z G d a/\t a P/\∀b,P b->∀e c,Ext G H e c->Q b c
def CF(Z:DC)(t:gH):TA:=λf H Q=>∃(G:Hp)(a:DN)(P:List D->Prop),aJ G H/\cL Z G f a/\t a P/\∀b,P b->∀c d e,Ext G H d e->DvAll Z d c b->Q c e
def bP(Z:DC)(r:gG):R2:=λx y H Q=>∃(G:Hp)(a b:D)(P:D->Prop),aJ G H/\Dv Z G x a/\Dv Z G y b/\r a b P/\∀d,P d->∀v c e,Ext G H c e->Dv Z c v d->Q v e
def iG(Z:DC)(r:List D->(D->Prop)->Prop):List V->Hp->VK->Prop:=λe H Q=>∃(G:Hp)(a:List D)(P:D->Prop),aJ G H/\DvAll Z G e a/\r a P/\∀d,P d->∀v b c,Ext G H b c->Dv Z b v d->Q v c
abbrev cH:=List D->(D->Prop)->Prop
def bg(Z:DC)(a:cH):Sp:=λb H Q _=>iG Z a b H Q
def DE(Z:DC)(X:Cx)(e:Expr)(t:aR):Prop:=PE X e (dY Z t)
def DT(Z:DC)(X:Cx)(e:Expr)(t:dP):Prop:=PT X e (liftT Z t)
def DA(Z:DC)(X:Cx)(a:List Expr)(t:gH):Prop:=PA X a (CF Z t)
def PE.imp{X:Cx}(h:PE X e t)(f:∀b H Q,t' b H Q->t b H Q):PE X e t':=λa s b H Q I q=>h a s b H Q I (f _ _ _ q)
def PT.imp{X:Cx}(h:PT X e t)(f:∀b H Q,c b H Q->t b H Q):PT X e c:=λa s b H Q I q=>h a s b H Q I (f _ _ _ q)
def PW.imp{X:Cx}(h:PW X e t)(f:∀b H Q,c b H Q->t b H Q):PW X e c:=λd a s b H Q I q=>h d a s b H Q I (f _ _ _ q)
def PA.imp{X:Cx}{d:List Expr}(h:PA X d t)(f:∀b H Q,t' b H Q->t b H Q):PA X d t':=λc a s b H Q I q=>h c a s b H Q I (f _ _ _ q)
def OpR.imp{X:Cx}{f:Value->Value->Sem Value}{r d:R2}(h:OpR X f r)(g:∀x y H Q,d x y H Q->r x y H Q):OpR X f d:=λc s e H x y v u Q I a b q=>h c s e H x y v u Q I a b (g _ _ _ _ q)
def CallR.imp{X:Cx}{f:Value}{r d:List V->Hp->VK->Prop}(h:CallR X f r)(g:∀c H Q,d c H Q->r c H Q):CallR X f d:=λb s e H c i Q I a q=>h b s e H c i Q I a (g _ _ _ q)
def Ms(i:Nat):aR:=λa P=>∃d,a[i]? =some (some d)/\P d
def dC(d:D):aR:=λ_ P=>P d
section
variable {Z:DC} {X:Cx}
def aa(i:Nat)(f:X.N[i]? =some x:=by rfl)(b:lR X.env.scope x:=by subst_eqs)(c:(x==("__debug__":Str))=false:=by decide)
  (g:(x==("__classdict__":Str))=false:=by decide):DE Z X (.Name x a) (Ms i):=by
 refine(C6 f b c g).imp λk H Q h=>?_;rfl';obtain⟨G,m,P,s,e,⟨d,c,p⟩,q⟩:=h;ac_rfl;exact let #[v,b,dv]:=e.at_ i d c;#[v,b,q d p v G H (.refl s) dv]
def ay{i j pos}:DE Z X (.Constant (.int i) j pos) (dC (.int i)):=by
 refine Q4.imp λc H Q a=>?_;rfl';obtain⟨G,f,P,s,e,p,q⟩:=a;ac_rfl;exact q _ p _ G H (.refl s) (.int i)
def jL{b j pos}:DE Z X (.Constant (.bool b) j pos) (dC (.bl b)):=by
 refine Vs.imp λd H Q a=>?_;rfl';obtain⟨G,g,P,s,e,p,q⟩:=a;ac_rfl;exact q _ p _ G H (.refl s) (.bl b)
def cM{j pos}:DE Z X (.Constant .none j pos) (dC .bb):=by
 refine Q6.imp λc H Q a=>?_;rfl';obtain⟨G,f,P,s,e,p,q⟩:=a;ac_rfl;exact q _ p _ G H (.refl s) .bb
def cF{x j pos}(h:PyData.strOk x=true:=by decide+kernel):DE Z X (.Constant (.str x) j pos) (dC (.str x)):=by
 refine C5.imp λc H Q a=>?_;rfl';obtain⟨G,f,P,s,e,p,q⟩:=a;ac_rfl;exact q _ p _ G H (.refl s) (.str x h)
def Kj(d:Gl X x)(b:∃c,X.mg x=some (.int i c))(f:(x==("__debug__":Str))=false:=by decide):DE Z X (.Name x a) (dC (.int i)):=by
 obtain⟨c,b⟩:=b;exact(Fw d b (v:= .int i) #[c,rfl] f).imp λg H Q #[G,h,P,s,e,p,q]=>q _ p _ G H (.refl s) (.int i)
def GK(r:gG)(d e:aR):aR:=λc P=>d c λa=>e c λb=>r a b P
variable {a b c:Expr} {ta tb tc:aR} {pos:Pos}
def CD:∀f H Q,dY Z (GK r ta tb) f H Q->Pb (bP Z r) (dY Z ta) (dY Z tb) f H Q:=by
 intro f H Q k;rfl';obtain⟨G,j,P,s,e,h,q⟩:=k;ac_rfl;refine#[G,j,_,s,e,h,λa m v n E g dv=>?_];refine#[n,j,_,g.sub,e.mono g.gg,m,λb o u p F i t=>?_];exact#[p,a,b,P,i.sub,dv.mono i.gg,t,o,λd w x y z A B=>q d w x y z ((g.trans i).trans A) B]
def aN(e:OpR X (binaryOp d) (bP Z r))(f:DE Z X a ta)(g:DE Z X b tb):DE Z X (.BinOp a d b pos) (GK r ta tb):=(OB e f g).imp CD
def vR(e:OpR X (compareOp d) (bP Z r))(f:DE Z X a ta)(g:DE Z X b tb)(h:behindInMarks d b=false):DE Z X (.Compare a [d] [b] pos) (GK r ta tb):=(Ou e f g h).imp CD
def Bv(t:aR):dP:=λe P=>t e λd=>∃k,d= .bl k/\P k
def AD:∀d H Q,liftT Z (Bv t) d H Q->IA (dY Z t) d H Q:=by
 intro d H Q f;rfl';obtain⟨G,i,P,s,e,h,q⟩:=f;ac_rfl;exists G,i,_,s,e,h;rintro _ ⟨k,rfl,p⟩ v j l m dv;cases dv.yd;exact#[k,rfl,q k p j l m]
def aX(f:OpR X (compareOp d) (bP Z r))(g:DE Z X a ta)(i:DE Z X b tb)(j:behindInMarks d b=false):DT Z X (.Compare a [d] [b] pos) (Bv (GK r ta tb)):=
 (OK f g i j).imp λe H Q h=>by
  obtain h:=AD e H Q h;exact CD e H _ h
def Br(r e:gG)(f g tc:aR):aR:=λd P=>f d λx=>g d λy=>r x y λz=>∃k,z= .bl k/\(if k=true then tc d λh=>e y h P else P (.bl false))
def xV:∀f H Q,dY Z (Br r o ta tb tc) f H Q->Ds (bP Z r) (bP Z o) (dY Z ta) (dY Z tb) (dY Z tc) f H Q:=by
 intro f H Q y;rfl';obtain⟨G,g,P,s,e,h,q⟩:=y;ac_rfl;refine#[G,g,_,s,e,h,λa A v B Y i dv=>?_];refine#[B,g,_,i.sub,e.mono i.gg,A,λb C u E X j p=>?_];exists E,a,b,_,j.sub,dv.mono j.gg,p,C;rintro _ ⟨k,rfl,t⟩ v' w F l I;cases I.yd;exists k,rfl;have x:=(i.trans j).trans l;cases k with
 |false=>exact cc (q _ t _ w F x (.bl false))
 |true=>
  refine bL #[w,g,_,l.sub,e.mono x.gg,t,λc J w' L H4 m M=>?_];exact#[L,b,c,P,m.sub,(p.mono l.gg).mono m.gg,M,J,λd N n O R S T=>q d N n O R ((x.trans m).trans S) T]
def Ki(g:OpR X (compareOp d) (bP Z r))(h:OpR X (compareOp e) (bP Z f))(i:DE Z X a ta)(j:DE Z X b tb)(k:DE Z X c tc)
  (l:lastMarks [d,e] [b,c]=false:=by with_unfolding_all rfl):DE Z X (.Compare a [d,e] [b,c] pos) (Br r f ta tb tc):=(K6 g h i j k l).imp xV
def Kq(i:OpR X (compareOp d) (bP Z r))(j:OpR X (compareOp e) (bP Z f))(k:DE Z X a ta)(l:DE Z X b tb)(m:DE Z X c tc)
  (n:lastMarks [d,e] [b,c]=false:=by with_unfolding_all rfl):DT Z X (.Compare a [d,e] [b,c] pos) (Bv (Br r f ta tb tc)):=
 (Lj i j k l m n).imp λg H Q h=>by
  obtain h:=AD g H Q h;exact xV g H _ h
def JR:D->Bool
 | .bb=>false
 | .bl b=>b
 | .int i=>i !=0
 | .str x=>x.length !=0
 | .lst l=>!l.isEmpty
 | .tup l=>!l.isEmpty
 | .gy l=>!l.isEmpty
 | .rng lo d=>decide (lo<d)
 | .obj _=>true
 | .cD _=>true
 | .set _ l=>!l.isEmpty
 | .x _=>true
 | .err _ _ _=>true
def Yv:D->Bool
 | .bl _=>true
 | .int _=>true
 | .lst _=>true
 | .tup _=>true
 | .bb=>true
 |_=>false
def WT(t:aR):dP:=λe P=>t e λd=>Yv d=true/\P (JR d)
def uW(h:DvAll Z G d e):d.isEmpty=e.isEmpty:=by cases h<;>rfl
def e8(ha:DE Z X a ta)(he:∀whole,isTrue a X.env whole=(do let v <-whole;standAt a.pos;holding [v] (truthy v)):=by intro _;rfl):DT Z X a (WT ta):=by
 refine(Lk ha he).imp ?_;intro σ H Q aI;rfl';obtain⟨G,ρ,P,s,e,h,q⟩:=aI;ac_rfl;exists G,ρ,_,s,e,h;rintro d ⟨hd,p⟩ v G1 H1 x1 dv;refine#[JR d,?_,q _ p G1 H1 x1];cases dv with
 |bb=>rfl
 |bl b=>rfl
 |int i=>rfl
 |lst h a=>exact .inl #[_,cy.of (x1.sub _ _ h),by rw[uW a];rfl]
 |tup h a=>exact .inr (.inl #[_,gm.of (x1.sub _ _ h),by rw[uW a];rfl])
 |_=>cases hd
def WA(t u:dP):dP:=λd P=>t d λc=>if c=true then u d P else P false
def dOr(t u:dP):dP:=λd P=>t d λc=>if c=true then P true else u d P
def WM(t:dP):dP:=λd P=>t d λc=>P (!c)
variable {tA Dr:dP} {rest:List Expr}
def DW(Z:DC)(X:Cx)(e:Expr)(t:dP):Prop:=PW X e (liftT Z t)
def DW.dt(h:DW Z X e t):DT Z X e t:=PW.pt h
def nG(d:DT Z X a tA):DW Z X (.BoolOp .And [a] pos) tA:=ON d
def pB(d:DT Z X a tA):DW Z X (.BoolOp .Or [a] pos) tA:=Rl d
def rX(k:DT Z X a tA)(f:DW Z X (.BoolOp .And (b::rest) pos) Dr):DW Z X (.BoolOp .And (a::b::rest) pos) (WA tA Dr):=by
 refine(Rk k f).imp ?_;intro t H Q l;rfl';obtain⟨G,g,P,s,e,h,q⟩:=l;ac_rfl;refine#[G,g,_,s,e,h,λc i j n d=>?_];cases c with
 |true=>exact bL #[j,g,P,d.sub,e.mono d.gg,i,λb f o p r=>q b f o p (d.trans r)]
 |false=>exact cc (q _ i j n d)
def ub(k:DT Z X a tA)(f:DW Z X (.BoolOp .Or (b::rest) pos) Dr):DW Z X (.BoolOp .Or (a::b::rest) pos) (dOr tA Dr):=by
 refine(Vx k f).imp ?_;intro t H Q l;rfl';obtain⟨G,g,P,s,e,h,q⟩:=l;ac_rfl;refine#[G,g,_,s,e,h,λc i j n d=>?_];cases c with
 |false=>exact cc #[j,g,P,d.sub,e.mono d.gg,i,λb f o p r=>q b f o p (d.trans r)]
 |true=>exact bL (q _ i j n d)
def iN(d:DT Z X a tA):DT Z X (.UnaryOp .Not a pos) (WM tA):=by
 refine(Rj d).imp ?_;rintro l H Q ⟨G,f,P,s,e,h,q⟩;exact#[G,f,_,s,e,h,λc g i j k=>q _ g i j k]
def Tx(e f:aR):aR:=λd P=>e d λx=>∃c,x= .bl c/\if c=true then f d P else P (.bl false)
def TQ(d:aR):aR:=λe P=>d e λx=>∃c,x= .bl c/\P (.bl (!c))
def BA{op}(h:DE Z X a ta):DE Z X (.BoolOp op [a] pos) ta:=Q8 h
def vQ(k:DE Z X a ta)(f:DE Z X (.BoolOp .And (b::rest) pos) tb):DE Z X (.BoolOp .And (a::b::rest) pos) (Tx ta tb):=by
 refine(QZ k f).imp ?_;intro u H Q l;rfl';obtain⟨G,g,P,s,e,h,q⟩:=l;ac_rfl;exists G,g,_,s,e,h;rintro _ ⟨c,rfl,i⟩ v j n d dv;cases dv.yd;exists c,rfl;cases c with
 |true=>exact bL #[j,g,P,d.sub,e.mono d.gg,i,λb f v o p r t=>q b f v o p (d.trans r) t]
 |false=>exact cc (q _ i _ j n d (.bl false))
def PN(d:DE Z X a ta):DE Z X (.UnaryOp .Not a pos) (TQ ta):=by
 refine(Q7 d).imp ?_;intro n H Q f;rfl';obtain⟨G,i,P,s,e,h,q⟩:=f;ac_rfl;exists G,i,_,s,e,h;rintro _ ⟨c,rfl,j⟩ v k l m dv;cases dv.yd;exact#[c,rfl,q _ j _ k l m (.bl _)]
def dIf(t:dP)(e f:aR):aR:=λd P=>t d λc=>if c=true then e d P else f d P
def T3{c:Expr}(g:DT Z X c tA)(o:DE Z X a ta)(f:DE Z X b tb):DE Z X (.IfExp c a b pos) (dIf tA ta tb):=by
 refine(K7 g o f).imp ?_;intro t H Q p;rfl';obtain⟨G,i,P,s,e,h,q⟩:=p;ac_rfl;refine#[G,i,_,s,e,h,λc g n w d=>?_];cases c with
 |true=>exact bL #[n,i,P,d.sub,e.mono d.gg,g,λb f v j k l m=>q b f v j k (d.trans l) m]
 |false=>exact cc #[n,i,P,d.sub,e.mono d.gg,g,λb f v j k l m=>q b f v j k (d.trans l) m]
def jf:gH:=λ_ P=>P []
def Bt(e:aR)(t:gH):gH:=λd P=>e d λx=>t d λf=>P (x::f)
variable {es:List Expr} {t:gH} {e:Expr}
def ag:DA Z X [] jf:=by
 refine cp.imp λg H Q d=>?_;rfl';obtain⟨G,i,P,s,e,p,q⟩:=d;ac_rfl;exact q _ p _ G H (.refl s) .nil
def ae(d:DE Z X e ta)(j:DA Z X es t)(k:starEach (e::es) X.env=(false,eval e X.env)::starEach es X.env:=by rfl):DA Z X (e::es) (Bt ta t):=by
 refine(bq d j k).imp ?_;intro w H Q l;rfl';obtain⟨G,g,P,s,e,h,q⟩:=l;ac_rfl;refine#[G,g,_,s,e,h,λa d v n y f dv=>?_];exact#[n,g,_,f.sub,e.mono f.gg,d,λz o A p r i u=>q _ o _ p r (f.trans i) (.cons (dv.mono i.gg) u)]
def WV(t:gH):aR:=λf P=>t f λd=>d.length<=sizeLine/\P (.tup d)
def WJ(t:gH):aR:=λf P=>t f λd=>d.length<=sizeLine/\P (.lst d)
def bU{d}(h:DA Z X es t):DE Z X (.Tuple es d pos) (WV t):=by
 refine(Ra h).imp ?_;intro n H Q i;rfl';obtain⟨G,k,P,s,e,h,q⟩:=i;ac_rfl;exists G,k,_,s,e,h;rintro r ⟨l,m⟩ u v w d f;exact#[by rw[f.length];exact l,λp g=>q _ m _ _ _ (d.trans (.new d.sub g)) (.tup av (f.mono (aO (d.sub.free g) _)))]
def c5(h:DA Z X es t):DE Z X (.List es pos) (WJ t):=by
 refine(vX h).imp ?_;intro n H Q i;rfl';obtain⟨G,k,P,s,e,h,q⟩:=i;ac_rfl;exists G,k,_,s,e,h;rintro r ⟨l,m⟩ u v w d f;exact#[by rw[f.length];exact l,λp g=>q _ m _ _ _ (d.trans (.new d.sub g)) (.lst av (f.mono (aO (d.sub.free g) _)))]
def t8(r:List D->(D->Prop)->Prop)(t:gH):aR:=λd P=>t d λf=>r f P
def uo:∀f H Q,dY Z (t8 r t) f H Q->CF Z t f H λg i=>iG Z r g i Q:=by
 intro f H Q k;rfl';obtain⟨G,m,P,s,e,h,q⟩:=k;ac_rfl;exact#[G,m,_,s,e,h,λn o g p i j u=>#[p,n,P,j.sub,u,o,λd w v x y z dv=>q d w v x y (j.trans z) dv]]
def Mt(F:FnOk X.prog X.w X.K X.mg X.base cg k f i j (bg Z d))(n:bN k X.A)(o:Gl X x)(r:X.mg x=some (.ref f))(u:aA X.K (.ref f)=true)(v:Binds X.K i j [])
  (y:DA Z X (e::es) t) (z:(x==("__debug__":Str))=false:=by decide) (B:starEach (e::es) X.env=(false,eval e X.env)::starEach es X.env:=by rfl) (g:(backTo pos (starEach es X.env)).any (·.1)=false:=by rfl):
  DE Z X (.Call (.Name x p) (e::es) [] pos) (t8 d t):=
 (oj F n o r u v .nil kS y z B g).imp λC H Q h=>by
  rfl';have h:=uo C H Q h;obtain⟨G,I,P,s,e,h,q⟩:=h;ac_rfl;exact#[G,I,P,s,e,h,λJ L l M m N O=>by show bg Z d (l++ []) m Q E0;rw[fI];exact q J L l M m N O]
def aE{id:String}{x:Str}{p:Pos}{r:List D->(D->Prop)->Prop}(f:CallR X (.builtin id) (iG Z r))(g:Gl X x)(h:X.mg x=none)(i:bootBuiltins x=some (.builtin id))(j:DA Z X (e::es) t)(k:x≠"__name__":=by decide)(l:(x==("__debug__":Str))=false:=by decide)
  (m:starEach (e::es) X.env=(false,eval e X.env)::starEach es X.env:=by rfl) (d:(backTo pos (starEach es X.env)).any (·.1)=false:=by rfl):
  DE Z X (.Call (.Name x p) (e::es) [] pos) (t8 r t):=(pO f g h i j k l m d).imp uo
def jM(f:CallR X (.type T) (iG Z r))(g:Gl X x)(h:X.mg x=none)(i:bootBuiltins x=some (.type T))(j:DA Z X (e::es) t)(k:x≠"__name__":=by decide)(l:(x==("__debug__":Str))=false:=by decide)
  (m:starEach (e::es) X.env=(false,eval e X.env)::starEach es X.env:=by rfl) (d:(backTo pos (starEach es X.env)).any (·.1)=false:=by rfl):
  DE Z X (.Call (.Name x p) (e::es) [] pos) (t8 r t):=(yk f g h i j k l m d).imp uo
end
end L2
namespace L2
open PySem PySem.Spec PyProof.Rows
section
variable {Z:DC} {X:Cx}
def Mb:gG:=λx y P=>match x,y with
 | .int i, .int j=>P (.int (i+j))
 | .lst a, .lst b=>a.length+b.length<=sizeLine/\P (.lst (a++b))
 | .tup a, .tup b=>a≠ []/\a.length+b.length<=sizeLine/\b≠ []/\P (.tup (a++b))
 |_,_=>False
def dI(c:Int->Int->Prop)(g:Int->Int->Int):gG:=λx y P=>match x,y with
 | .int i, .int j=>c i j/\P (.int (g i j))
 |_,_=>False
def TJ(g:Int->Int->Int):gG:=λx y P=>match x,y with
 | .int i, .int j=>P (.int (g i j))
 |_,_=>False
def WS:gG:=TJ λi j=>i-j
def Sr:gG:=λx y P=>match x,y with
 | .int i, .int j=>IZ i j/\P (.int (i*j))
 | .lst a, .int k=> -(2^63)<=k/\k<2^63/\a.length*k.toNat<=sizeLine/\P (.lst (am k.toNat a).flatten)
 |_,_=>False
def Sl:gG:=dI Sf λi j=>i / j
def WK:gG:=dI (λ_ j=>0<j) λi j=>i%j
def JB(h:OpR X f (rI c λi j=> .int (g i j))):OpR X f (bP Z (dI c g)):=by
 refine h.imp ?_;intro x y H Q e;rfl';obtain⟨G,a,b,P,s,l,m,d,q⟩:=e;ac_rfl;unfold dI at d
 split at d
 .exact#[_,_,l.ofInt,m.ofInt,d.1,q _ d.2 _ G H (.refl s) (.int _)]
 .exact d.elim
def QE(h:OpR X f (zT λi j=> .int (g i j))):OpR X f (bP Z (TJ g)):=by
 refine h.imp ?_;intro x y H Q d;rfl';obtain⟨G,a,b,P,s,k,l,c,q⟩:=d;ac_rfl;unfold TJ at c
 split at c
 .exact#[_,_,k.ofInt,l.ofInt,q _ c _ G H (.refl s) (.int _)]
 .exact c.elim
def pK:OpR X (binaryOp .Sub) (bP Z WS):=QE QY
def jr:OpR X (binaryOp .FloorDiv) (bP Z Sl):=JB Om
def dN:OpR X (binaryOp .Mod) (bP Z WK):=JB QU
def b9(e:X.K=Z.K:=by rfl):OpR X (binaryOp .Add) (bP Z Mb):=by
 refine(QR.or (JH.or (Ol))).imp ?_;rintro x y H Q ⟨G,a,b,P,s,h,i,c,q⟩;unfold Mb at c
 split at c
 .exact .inl #[_,_,h.ofInt,i.ofInt,q _ c _ G H (.refl s) (.int _)]
 .obtain⟨o,r,rfl,j,d⟩:=h.fN
  obtain⟨t,u,rfl,k,f⟩:=i.fN;obtain⟨l,m⟩:=c;refine .inr (.inl #[_,_,_,_,rfl,rfl,s _ _ j,s _ _ k,by rw[d.length,f.length];exact l,λp g=>?_])
  exact q _ m _ _ _ (.new s g) (.lst av ((d.append f).mono (aO (s.free g) _)))
 .obtain⟨o,r,rfl,j,d⟩:=h.n5
  obtain⟨t,u,rfl,k,f⟩:=i.n5;obtain⟨v,l,n,m⟩:=c;refine .inr (.inr #[_,_,_,_,rfl,rfl,gm.of (s _ _ j),gm.of (s _ _ k),?_,by rw[d.length,f.length];exact l,?_])
  .rintro rfl;cases d;exact v rfl
  .refine#[?_,λ_ p g=>q _ m _ _ _ (.new s g) (.tup av ((d.append f).mono (aO (s.free g) _)))]
   rintro rfl;cases f;exact(n rfl).elim
 .exact c.elim
theorem DvAll.rep(h:DvAll Z G a b):∀k:Nat,DvAll Z G (am k a).flatten (am k b).flatten
 |0=> .nil
 |k+1=>by rw[ze,ze,qo,qo];exact h.append (DvAll.rep h k)
def CU:OpR X (binaryOp .Mult) (bP Z Sr):=by
 refine(QV.or QX).imp ?_;intro x y H Q h;rfl';obtain⟨G,a,b,P,s,d,e,c,q⟩:=h;ac_rfl;unfold Sr at c
 split at c
 .exact .inl #[_,_,d.ofInt,e.ofInt,c.1,q _ c.2 _ G H (.refl s) (.int _)]
 .obtain⟨r,t,rfl,j,f⟩:=d.fN
  obtain⟨k,l,m,n⟩:=c;refine .inr #[_,_,_,rfl,e.ofInt,s _ _ j,k,l,by rw[f.length];exact m,λp g=>?_]
  exact q _ n _ _ _ (.new s g) (.lst av ((f.rep _).mono (aO (s.free g) _)))
 .exact c.elim
mutual
def D.py:D->Option PyData
 | .bb=>some .none
 | .bl b=>some (.bool b)
 | .int i=>some (.int i)
 | .str x=>some (.str x)
 | .lst l=>(dH l).map PyData.list
 | .tup l=>(dH l).map PyData.tuple
 | .gy _=>none
 | .rng _ _=>none
 | .obj _=>none
 | .cD _=>none
 | .set _ _=>none
 | .x _=>none
 | .err _ _ _=>none
def dH:List D->Option (List PyData)
 | []=>some []
 |d::ds=>(D.py d).bind λa=>(dH ds).map λas=>a::as
end
def Dv.dp{K:ac}{G:Hp}{v:V}{d:D}(h:Dv Z G v d):∀{e:PyData},d.py=some e->Dp K G v e:=by
 refine Dv.rec (motive_1:=λv d _=>∀{e:PyData},d.py=some e->Dp K G v e) (motive_2:=λn f _=>∀{g:List PyData},dH f=some g->DpAll K G n g) ?_ ?_ ?_ ?_ ?_ ?_ ?_ ?_ ?_ ?_ ?_ ?_ ?_ ?_ ?_ h
 .intro e h;rw[D.py] at h;cases h;exact .bb
 .intro b e h;rw[D.py] at h;cases h;exact .bl b
 .intro i e h;rw[D.py] at h;cases h;exact .int i
 .intro x k e h;rw[D.py] at h;cases h;exact .str x k
 .intro a o f q _ j e h
  rw[D.py] at h;cases c:dH f with
  |none=>rw[c] at h;cases h
  |some l=>rw[c] at h;cases h;exact .lst (cy.of q) (j c)
 .intro a o f q _ j e h
  rw[D.py] at h;cases c:dH f with
  |none=>rw[c] at h;cases h
  |some l=>rw[c] at h;cases h;exact .tup (gm.of q) (j c)
 .intro a e h;simp[D.py] at h
 .intro a lo u _ e h;simp[D.py] at h
 .intro a r _ _ e h;simp[D.py] at h
 .intro p z R w _ _ _ _ _ _ e h;simp[D.py] at h
 .intro a b r _ e h;simp[D.py] at h
 .intro a A k _ _ e h;simp[D.py] at h
 .intro a C B E o f _ _ _ _ e h;simp[D.py] at h
 .intro g h;rw[dH] at h;cases h;exact .nil
 .intro v n d f _ _ s t g h
  rw[dH] at h;cases c:d.py with
  |none=>rw[c] at h;cases h
  |some x=>
   rw[c] at h;cases m:dH f with
   |none=>rw[m] at h;cases h
   |some y=>rw[m] at h;cases h;exact .cons (s c) (t m)
theorem DvAll.dp{K:ac}{G:Hp}{e:List V}{c:List D}(h:DvAll Z G e c):∀{b:List PyData},dH c=some b->DpAll K G e b:=by
 refine h.ind (p:=λe c=>∀{b:List PyData},dH c=some b->DpAll K G e b) ?_ ?_
 .intro b h;rw[dH] at h;cases h;exact .nil
 .intro v e d c a _ i b h
  rw[dH] at h;cases f:d.py with
  |none=>rw[f] at h;cases h
  |some x=>
   rw[f] at h;cases g:dH c with
   |none=>rw[g] at h;cases h
   |some y=>rw[g] at h;cases h;exact .cons (a.dp f) (i g)
def gm.mono{K:ac}{H b:Hp}(s:aJ H b)(h:gm K H a c):gm K b a c:=by
 rcases h with (h| ⟨o,h⟩) |h
 .exact .inl (.inl (s _ _ h))
 .exact .inl (.inr #[o,s _ _ h])
 .exact .inr h
theorem Dp.mono{K:ac}{G H:Hp}(s:aJ G H){v:V}(h:Dp K G v d):Dp K H v d:=
 Dp.rec (motive_1:=λv d _=>Dp K H v d) (motive_2:=λc e _=>DpAll K H c e) .bb .bl .int .str (λh _ a=> .lst (h.mono s) a) (λh _ a=> .tup (h.mono s) a) .nil (λ_ _ a b=> .cons a b) h
theorem DpAll.mono{K:ac}{G H:Hp}(s:aJ G H)(h:DpAll K G c e):DpAll K H c e:=
 DpAll.rec (motive_1:=λv d _=>Dp K H v d) (motive_2:=λc e _=>DpAll K H c e) .bb .bl .int .str (λh _ a=> .lst (h.mono s) a) (λh _ a=> .tup (h.mono s) a) .nil (λ_ _ a b=> .cons a b) h
def Sm(c:Bool):gG:=λx y P=>∃a b,x.py=some a/\y.py=some b/\a.depth<=64/\P (.bl (if c then !PyData.eqv a b else PyData.eqv a b))
abbrev Bu:gG:=Sm false
abbrev nv:gG:=Sm true
def jT(e:X.A.units+64<cLine):OpR X (compareOp .Eq) (bP Z Bu):=by
 refine(QS e).imp ?_;intro x y H Q f;rfl';obtain⟨G,a,b,P,s,h,i,⟨c,d,j,k,l,m⟩,q⟩:=f;ac_rfl;exact#[c,d,(h.dp j).mono s,(i.dp k).mono s,l,q _ m _ G H (.refl s) (.bl _)]
def n4(e:X.A.units+64<cLine):OpR X (compareOp .NotEq) (bP Z nv):=by
 refine(QW e).imp ?_;intro x y H Q f;rfl';obtain⟨G,a,b,P,s,h,i,⟨c,d,j,k,l,m⟩,q⟩:=f;ac_rfl;exact#[c,d,(h.dp j).mono s,(i.dp k).mono s,l,q _ m _ G H (.refl s) (.bl _)]
def wQ(h:P (.bl (decide (i=j)))):Bu (.int i) (.int j) P:=#[.int i, .int j,rfl,rfl,by simp[PyData.depth],by
 have:PyData.eqv (.int i) (.int j)=decide (i=j):=by
  rw[PyData.eqv]
  by_cases z:i=j<;>simp[z]
 simpa [this] using h]
def wR(h:P (.bl (!decide (i=j)))):nv (.int i) (.int j) P:=#[.int i, .int j,rfl,rfl,by simp[PyData.depth],by
 have:PyData.eqv (.int i) (.int j)=decide (i=j):=by
  rw[PyData.eqv]
  by_cases z:i=j<;>simp[z]
 simpa [this] using h]
def Aa(p:Int->Int->Bool):gG:=λx y P=>match x,y with
 | .int i, .int j=>P (.bl (p i j))
 |_,_=>False
def sS(h:OpR X f (zT λi j=> .bl (p i j))):OpR X f (bP Z (Aa p)):=by
 refine h.imp ?_;intro x y H Q d;rfl';obtain⟨G,a,b,P,s,g,k,c,q⟩:=d;ac_rfl;unfold Aa at c
 split at c
 .exact#[_,_,g.ofInt,k.ofInt,q _ c _ G H (.refl s) (.bl _)]
 .exact c.elim
end
end L2
namespace L2
open PySem PySem.Spec PyProof.Rows
section
variable {Z:DC} {X:Cx}
abbrev dLt:gG:=Aa λi j=>decide (i<j)
abbrev dLe:gG:=Aa λi j=>decide (i<=j)
abbrev dGt:gG:=Aa λi j=>decide (j<i)
abbrev dGe:gG:=Aa λi j=>decide (j<=i)
def jU:OpR X (compareOp .Lt) (bP Z dLt):=sS Vo
def HR:OpR X (compareOp .LtE) (bP Z dLe):=sS Vn
def Vg:OpR X (compareOp .Gt) (bP Z dGt):=sS Vm
def Vf:OpR X (compareOp .GtE) (bP Z dGe):=sS Vl
def Hu:D->Bool
 | .bb=>true
 |_=>false
def So(a:Bool):gG:=λx y P=>match y with
 | .bb=>P (.bl (if a then !Hu x else Hu x))
 |_=>False
def As(h:Dv Z G v d):decide (v= .bb)=Hu d:=by cases h<;>rfl
def yc:OpR X (compareOp .Is) (bP Z (So false)):=by
 refine QT.imp ?_;rintro x y H Q ⟨G,a,b,P,s,d,e,c,q⟩;cases e<;>first|exact c.elim|skip
 exact#[rfl,by rw[As d];exact q _ c _ G H (.refl s) (.bl _)]
def AF:OpR X (compareOp .IsNot) (bP Z (So true)):=by
 refine Oq.imp ?_;rintro x y H Q ⟨G,a,b,P,s,d,e,c,q⟩;cases e<;>first|exact c.elim|skip
 exact#[rfl,by rw[As d];exact q _ c _ G H (.refl s) (.bl _)]
def e9:D->Bool
 | .bb=>true
 | .bl _=>true
 | .int _=>true
 | .str _=>true
 |_=>false
def kA:D->D->Bool
 | .bb, .bb=>true
 | .bl a, .bl b=>a==b
 | .bl a, .int b=>(if a then 1 else 0)==b
 | .int a, .bl b=>a==(if b then 1 else 0)
 | .int a, .int b=>a==b
 | .str a, .str b=>a==b
 |_,_=>false
def inD(x:D)(l:List D):Bool:=l.any λy=>kA y x
def r6(h:Dv Z G v d):h7 v=e9 d:=by cases h<;>rfl
def nK(h:DvAll Z G b c):b.all h7=c.all e9:=h.ind (p:=λb c=>b.all h7=c.all e9) rfl λa _ e=>by rw[aa7,aa7,r6 a,e]
def BF(h:Dv Z G v d)(k:Dv Z G u e):xg v u=kA d e:=by cases h<;>first|rfl| (cases k<;>rfl)
theorem Hq(h:Dv Z G v d):∀{b:List V}{c:List D},DvAll Z G b c->Qp v b=inD d c
 |_,_, .nil=>rfl
 |_,_, .cons a e=>by
  unfold Qp inD;rw[uI,uI,BF a h];exact GE _ (Hq h e)
def PB(a:Bool):gG:=λx y P=>match y with
 | .lst l=>e9 x=true/\l.all e9=true/\P (.bl (if a then !inD x l else inD x l))
 | .tup l=>e9 x=true/\l.all e9=true/\P (.bl (if a then !inD x l else inD x l))
 |_=>False
def OR:∀x y H Q,bP Z (PB c) x y H Q->VC X.K c x y H Q:=by
 rintro x y H Q ⟨G,a,b,P,s,d,l,f,q⟩;cases l<;>first|exact f.elim|skip
 .rename_i p g m h e
  obtain⟨i,j,k⟩:=f;refine#[p,g,rfl, .inl (cy.of (s _ _ h)),by rw[r6 d];exact i,by rw[nK e];exact j,?_]
  rw[Hq d e];exact q _ k _ G H (.refl s) (.bl _)
 .rename_i p g m h e
  obtain⟨i,j,k⟩:=f;refine#[p,g,rfl, .inr (gm.of (s _ _ h)),by rw[r6 d];exact i,by rw[nK e];exact j,?_]
  rw[Hq d e];exact q _ k _ G H (.refl s) (.bl _)
def HQ:OpR X (compareOp .In) (bP Z (PB false)):=HX.imp OR
def AG:OpR X (compareOp .NotIn) (bP Z (PB true)):=zS.imp OR
def WI:gG:=λx y P=>match x,y with
 | .lst l, .int i=>∃d,dR l i=some d/\P d
 | .tup l, .int i=>∃d,dR l i=some d/\P d
 | .gy l, .int i=>∃n,dR l i=some n/\P (.int n)
 |_,_=>False
def Jb(h:DvAll Z G b a)(e:dR a i=some d):∃v,dR b i=some v/\Dv Z G v d:=by
 unfold dR at e ⊢;rw[h.length];cases z:kh a.length i with
 |none=>rw[z] at e;cases e
 |some j=>rw[z] at e;exact h.get e
def LU(f:a->b)(l:List a)(i:Int):dR (l.map f) i=(dR l i).map f:=by
 unfold dR;rw[aL];cases kh l.length i with
 |none=>rfl
 |some j=>show(l.map f)[j]? =_;rw[df];rfl
variable {a b c e:Expr} {ta tb tc te:aR} {pos:Pos}
def aY(p:DE Z X a ta)(r:DE Z X b tb)(t:X.K=Z.K:=by rfl)(u:wk b:=by exact λ_ _=>rfl):DE Z X (.Subscript a b pos) (GK WI ta tb):=by
 refine(Ox (E8.or Qr) p r u).imp λw H Q h=>?_;rfl';obtain⟨G,x,P,s,e,h,q⟩:=CD w H Q h;ac_rfl;refine#[G,x,P,s,e,h,λd y v z A B dv=>?_];rfl';obtain⟨C,E,F,I,J,L,M⟩:=q d y v z A B dv;ac_rfl;refine#[C,E,F,I,J,L,λN k O R S T U=>?_];obtain⟨G,a,b,P,s,l,m,f,q⟩:=M N k O R S T U;unfold WI at f
 split at f
 .obtain⟨d,i,j⟩:=f
  obtain⟨_,_,rfl,h,e⟩:=l.fN;obtain⟨v,n,dv⟩:=Jb e i;exact .inl #[_,_,_,v,rfl,m.ofInt,cy.of (s _ _ h),n,q _ j _ G _ (.refl s) dv]
 .obtain⟨d,i,j⟩:=f
  obtain⟨_,_,rfl,h,e⟩:=l.n5;obtain⟨v,n,dv⟩:=Jb e i;exact .inr #[_,_,_,v,rfl,m.ofInt,gm.of (s _ _ h),n,q _ j _ G _ (.refl s) dv]
 rotate_left
 .exact f.elim
 .obtain⟨d,i,j⟩:=f
  rfl';obtain⟨_,rfl,h,_⟩:=l.Of;ac_rfl;refine .inl #[_,_,_, .int d,rfl,m.ofInt,by rw[t];exact h.mono s,by rw[LU,i];rfl,q _ j _ G _ (.refl s) (.int d)]
def cutD{f:Type}(d:List f)(lo g:Option Int):List f:=(d.drop (HT.bZ d.length 0 lo)).take (HT.bZ d.length d.length g-HT.bZ d.length 0 lo)
def Jj(h:DvAll Z G d f)(lo g:Option Int):DvAll Z G (uQ d lo g) (cutD f lo g):=by
 unfold uQ cutD;rw[h.length];exact(h.drop _).take _
def Ke(f:d->h)(l:List d)(lo g:Option Int):cutD (l.map f) lo g=(cutD l lo g).map f:=by
 unfold cutD;rw[aL,tX,vp]
abbrev Gk:=DN->(Option Int->Prop)->Prop
def Mm:Gk:=λ_ P=>P none
def TR(t:aR):Gk:=λf P=>t f λd=>match d with
 | .int i=>P (some i)
 |_=>False
def U9(Z:DC)(t:Gk):TO:=λg H Q=>∃(G:Hp)(d:DN)(P:Option Int->Prop),aJ G H/\cL Z G g d/\t d P/\∀o,P o->∀h f,Ext G H h f->Q o f
def DO(Z:DC)(X:Cx)(e:Option Expr)(t:Gk):Prop:=PO X e (U9 Z t)
def PO.imp{e:Option Expr}(h:PO X e t)(f:∀g H Q,t' g H Q->t g H Q):PO X e t':=λd s g H Q I q=>h d s g H Q I (f _ _ _ q)
def hV:DO Z X none Mm:=by
 refine OG.imp λg H Q d=>?_;rfl';obtain⟨G,i,P,s,e,p,q⟩:=d;ac_rfl;exact q _ p G H (.refl s)
def hZ(h:DE Z X e te):DO Z X (some e) (TR te):=by
 refine(OH h).imp ?_;intro n H Q g;rfl';obtain⟨G,j,P,s,e,h,q⟩:=g;ac_rfl;refine#[G,j,_,s,e,h,λd f v k l m dv=>?_];cases dv<;>first|exact f.elim|skip
 exact#[_,rfl,q _ f k l m]
def dSl(g:aR)(h i:Gk):aR:=λf P=>g f λx=>h f λlo=>i f λd=>match x with
 | .lst l=>P (.lst (cutD l lo d))
 | .tup l=>¬(HT.bZ l.length 0 lo=0/\HT.bZ l.length l.length d=l.length)/\P (.tup (cutD l lo d))
 | .gy l=>P (.lst ((cutD l lo d).map D.int))
 |_=>False
variable {lo hi:Option Expr} {tl th:Gk} {p2:Pos}
def fT(r:DE Z X e te)(m:DO Z X lo tl)(g:DO Z X hi th)(t:X.K=Z.K:=by rfl):DE Z X (.Subscript e (.Slice lo hi none p2) pos) (dSl te tl th):=by
 refine(K9 (OZ.or Rv) r m g).imp ?_;intro C H Q w;rfl';obtain⟨G,n,P,s,o,h,q⟩:=w;ac_rfl;refine#[G,n,_,s,o,h,λd z v A F j dv=>?_];refine#[A,n,_,j.sub,o.mono j.gg,z,λl m B I k=>?_];refine#[B,n,_,k.sub,(o.mono j.gg).mono k.gg,m,λu g J L f=>?_];have x:=(j.trans k).trans f;have dv:=(dv.mono k.gg).mono f.gg;cases dv<;>first|exact g.elim|skip
 .rename_i h e
  exact .inl #[_,_,rfl,cy.of (f.sub _ _ h),λp i=>q _ g _ _ _ (x.trans (.new f.sub i)) (.lst av ((Jj e l u).mono (aO (f.sub.free i) _)))]
 .rename_i h e
  refine .inr #[_,_,rfl,gm.of (f.sub _ _ h),by rw[e.length];exact g.1,λp i=>q _ g.2 _ _ _ (x.trans (.new f.sub i)) (.tup av ((Jj e l u).mono (aO (f.sub.free i) _)))]
 .rename_i h _
  refine .inl #[_,_,rfl,by rw[t];exact h.mono f.sub,λp i=>q _ g _ _ _ (x.trans (.new f.sub i)) (.lst av ?_)]
  show DvAll Z _ (cutD _ l u) _;rw[Ke];exact .ints _
def Jd:cH:=λd P=>match d with
 | [.lst l]=>P (.int l.length)
 | [.tup l]=>P (.int l.length)
 | [.gy l]=>P (.int l.length)
 |_=>False
def bB(f:X.K=Z.K:=by rfl):CallR X (.builtin "len") (iG Z Jd):=by
 refine zq.imp ?_;rintro g H Q ⟨G,i,P,s,dv,d,q⟩;unfold Jd at d
 split at d
 .obtain⟨_,rfl,a⟩:=dv.ofOne
  obtain⟨_,_,rfl,h,e⟩:=a.fN;exact#[_,_,rfl, .inl (cy.of (s _ _ h)),by rw[e.length];exact q _ d _ G H (.refl s) (.int _)]
 .obtain⟨_,rfl,a⟩:=dv.ofOne
  obtain⟨_,_,rfl,h,e⟩:=a.n5;exact#[_,_,rfl, .inr (gm.of (s _ _ h)),by rw[e.length];exact q _ d _ G H (.refl s) (.int _)]
 .obtain⟨_,rfl,a⟩:=dv.ofOne
  obtain⟨_,rfl,h,_⟩:=a.Of;exact#[_,_,rfl, .inl (by rw[f];exact h.mono s),by rw[aL];exact q _ d _ G H (.refl s) (.int _)]
 .exact d.elim
def LV:cH:=λd P=>match d with
 | [.lst l]=>P (.lst l)
 | [.tup l]=>P (.lst l)
 |_=>False
def nq:CallR X (.type "list") (iG Z LV):=by
 refine zr.imp ?_;rintro g H Q ⟨G,i,P,s,dv,d,q⟩;unfold LV at d
 split at d
 .obtain⟨_,rfl,a⟩:=dv.ofOne
  obtain⟨_,_,rfl,h,e⟩:=a.fN;exact#[_,_,rfl, .inl (cy.of (s _ _ h)),λp f=>q _ d _ _ _ (.new s f) (.lst av (e.mono (aO (s.free f) _)))]
 .obtain⟨_,rfl,a⟩:=dv.ofOne
  obtain⟨_,_,rfl,h,e⟩:=a.n5;exact#[_,_,rfl, .inr (gm.of (s _ _ h)),λp f=>q _ d _ _ _ (.new s f) (.lst av (e.mono (aO (s.free f) _)))]
 .exact d.elim
def Yt:String->D->Bool
 |"int", .int _=>true
 |"int", .bl _=>true
 |"bool", .bl _=>true
 |"list", .lst _=>true
 |"tuple", .tup _=>true
 |_,_=>false
def Vh(n:String):Bool:=n=="int"||n=="bool"||n=="list"||n=="tuple"
def SR:D->Bool
 | .bb=>true
 | .bl _=>true
 | .int _=>true
 | .str _=>true
 | .lst _=>true
 | .tup _=>true
 |_=>false
def WH(n:String)(t:aR):aR:=λf P=>t f λd=>SR d=true/\P (.bl (Yt n d))
def Qy{K:ac}{H:Hp}{v:V}{d:D}{n:String}(hn:Vh n=true)(hd:SR d=true)(h:Dv Z H v d):∃t,kn K H v t/\ad K t (.type n)=some (Yt n d):=by
 unfold Vh at hn;rw[Bool.or_eq_true,Bool.or_eq_true,Bool.or_eq_true,beq_iff_eq,beq_iff_eq,beq_iff_eq,beq_iff_eq] at hn;cases h with
 |bb=>exists _, .bb;rcases hn with ((rfl|rfl) |rfl) |rfl<;>kernel_rfl
 |bl b=>exists _, .bl b;rcases hn with ((rfl|rfl) |rfl) |rfl<;>kernel_rfl
 |int b=>exists _, .int b;rcases hn with ((rfl|rfl) |rfl) |rfl<;>kernel_rfl
 |str b=>exists _, .str b;rcases hn with ((rfl|rfl) |rfl) |rfl<;>kernel_rfl
 |lst h a=>exists _, .lst h;rcases hn with ((rfl|rfl) |rfl) |rfl<;>kernel_rfl
 |tup h a=>exists _, .tup h;rcases hn with ((rfl|rfl) |rfl) |rfl<;>kernel_rfl
 |_=>cases hd
end
section
variable {Z:DC} {X:Cx} {a b c e:Expr} {ta tb tc te:aR} {pos:Pos}
def Jm(n:String)(m:DE Z X a ta)(o:Gl X "isinstance")(r:X.mg "isinstance"=none)(g:Gl X x)(u:X.mg x=none)(w:bootBuiltins x=some (.type n))(ok:Vh n=true:=by decide)
  (y:x≠"__name__":=by decide) (z:(x==("__debug__":Str))=false:=by decide) (j:starEach [a, .Name x f] X.env=(false,eval a X.env)::starEach [.Name x f] X.env:=by rfl)
  (i:(backTo pos (starEach [.Name x f] X.env)).any (·.1)=false:=by rfl) (A:starEach [.Name x f] X.env=(false,eval (.Name x f) X.env)::starEach [] X.env:=by rfl):
  DE Z X (.Call (.Name "isinstance" p) [a, .Name x f] [] pos) (WH n ta):=by
 have B:PE X (.Name x f) (tC (.ty n)):=Fv g u w rfl y z;refine(pO Bj o r (by decide+kernel) (bq m (bq B cp A) j) (by decide) (by decide) j i).imp ?_
 intro O H Q C;rfl';obtain⟨G,F,P,s,e,h,q⟩:=C;ac_rfl;exists G,F,_,s,e,h;rintro d ⟨I,J⟩ v L k l dv;obtain⟨t,M,N⟩:=Qy (K:=X.K) (H:=k) ok I (dv.mono l.sub);exact#[v,n,t,_,rfl,M,N,q _ J _ L k l (.bl _)]
def qJ(Z:DC)(g:eX):TG:=λv j H Q=>∃(G:Hp)(f:DN)(d:D)(P:DN->Prop),aJ G H/\cL Z G j f/\Dv Z G v d/\g d f P/\∀h,P h->∀i,cL Z G i h->Q i H
def DG(Z:DC)(X:Cx)(e:Expr)(g:eX):Prop:=PG X e (qJ Z g)
def PG.imp{e:Expr}{t i:TG}(h:PG X e t)(f:∀v g H Q,i v g H Q->t v g H Q):PG X e i:=λd s g H v u Q I r q=>h d s g H v u Q I r (f _ _ _ _ q)
def rV(i:Nat):eX:=λd f P=>P (f.set i (some d))
def cW(i:Nat)(f:X.N.Nodup)(g:X.N[i]? =some x:=by rfl)(j:Loc X.env.scope x:=by exact Or.inl rfl)(k:X.fn x=true\/X.env.scope.names.lookup x=some .local:=by subst_eqs):DG Z X (.Name x l) (rV i):=by
 refine(jV f g j k).imp λv o H Q m=>?_;rfl';obtain⟨G,r,d,P,s,e,dv,h,q⟩:=m;ac_rfl;exact q _ h _ (e.set dv)
abbrev mI:=List D->DN->(DN->Prop)->Prop
def QD(Z:DC)(g:mI):zl:=λj k H Q=>∃(G:Hp)(d:DN)(f:List D)(P:DN->Prop),aJ G H/\cL Z G k d/\DvAll Z G j f/\g f d P/\∀h,P h->∀i,cL Z G i h->Q i H
def Po(Z:DC)(X:Cx)(d:List Expr)(g:mI):Prop:=A9 X d (QD Z g)
def A9.imp{i:List Expr}(h:A9 X i t)(f:∀v g H Q,j v g H Q->t v g H Q):A9 X i j:=λd s g H v u Q I r q=>h d s g H v u Q I r (f _ _ _ _ q)
def MB:mI:=λd f P=>d= []/\P f
def Jo(g:eX)(f:mI):mI:=λh i P=>match h with
 |d::r=>g d i λj=>f r j P
 | []=>False
def wY:Po Z X [] MB:=by
 refine sZ.imp λv g H Q d=>?_;rfl';obtain⟨G,j,k,P,s,e,dv,⟨h,p⟩,q⟩:=d;subst h;cases dv;ac_rfl;exact#[rfl,q _ p _ e]
def jz(i:DG Z X e g)(j:Po Z X d f)(k:(assignEach (e::d) X.env).map (·.2)=assign e X.env::(assignEach d X.env).map (·.2):=by rfl):Po Z X (e::d) (Jo g f):=by
 refine(jD i j k).imp ?_;intro v u H Q l;rfl';obtain⟨G,n,x,P,s,e,dv,h,q⟩:=l;ac_rfl;cases dv with
 |nil=>exact h.elim
 |cons a o=>
  refine#[_,_,rfl,G,n,_,_,s,e,a,h,λp r y t=>?_];exact#[G,p,_,P,s,t,o,r,q]
def MC(n:Nat)(f:mI):eX:=λd g P=>match d with
 | .tup l=>l.length=n/\f l g P
 |_=>False
def BC(n:Nat)(i:X.calm=true)(h:Po Z X f g)(j:(assignEach f X.env).length=n:=by rfl)(l:(assignEach f X.env).findIdx? (·.1)=none:=by rfl):DG Z X (.Tuple f k pos) (MC n g):=by
 refine(vY i h j l).imp ?_;rintro v r H Q ⟨G,m,d,P,s,e,dv,h,q⟩;cases dv<;>first|exact h.elim|skip
 rename_i a o t p f
 exact#[a,o,rfl,gm.of (s _ _ p),by rw[f.length];exact h.1,G,m,_,P,s,e,f,h.2,q]
def we(Z:DC)(G:Hp)(J:It)(g:List D):Prop:=∀h f,aJ G h->aJ h f->∀i:Nat,(i<g.length->J.go i f)/\(g.length<=i->J.stop i f)/\
 ∀x j,i<g.length->J.yld i f x j->∃k d,Ext h f k j/\g[i]? =some d/\Dv Z k x d
def ur(Z:DC)(i:jn):TI:=λj H R=>∃(G:Hp)(d:DN)(P:List D->Prop),aJ G H/\cL Z G j d/\i d P/\∀f,P f->∀J g h,Ext G H g h->we Z g J f->R J h
def DI(Z:DC)(X:Cx)(d e:Expr)(f:jn):Prop:=PI X d e (ur Z f)
def PI.imp{i e:Expr}(h:PI X i e t)(f:∀g H Q,t' g H Q->t g H Q):PI X i e t':=λd s g H Q I q=>h d s g H Q I (f _ _ _ q)
def T5(t:aR):jn:=λf P=>t f λd=>match d with
 | .lst l=>P l
 |_=>False
def NR{K:ac}{a:Addr}(h:G a=some (.lst f))(e:DvAll Z G f j):we Z G (Tf K a) j:=by
 intro o r k m i;have g:=cy.of (K:=K) (m _ _ (k _ _ h));have l:=e.length;refine#[λn=>#[f,f[i],g,eI (by lia)],λn=>#[f,g,by lia],?_]
 rintro x s n ⟨rfl,p⟩;obtain⟨d,q,dv⟩:=e.Na (p _ g);exact#[o,d, .refl m,q,dv.mono k]
def bR(h:DE Z X e te):DI Z X j e (T5 te):=by
 refine(OE h).imp ?_;intro r H Q k;rfl';obtain⟨G,m,P,s,n,h,q⟩:=k;ac_rfl;refine#[G,m,_,s,n,h,λd f v o p g dv=>?_];cases dv<;>first|exact f.elim|skip
 rename_i i e
 exact#[_,rfl,#[_,cy.of (g.sub _ _ i)],q _ f _ o p g (NR i e)]
def fY(lo:Int)(n:Nat):List D:=(aM n).map λ(k:Nat)=>D.int (lo+(k:Int))
def om{lo:Int}{n i:Nat}(h:i<n):(fY lo n)[i]? =some (.int (lo+i)):=by
 unfold fY;rw[df,Gi h];rfl
def KP(lo:Int)(n:Nat):we Z G (Pr lo n) (fY lo n):=by
 intro f h j g i;have l:(fY lo n).length=n:=by unfold fY;simp
 rw[l];refine#[λd=>d,λd=>d,?_];rintro x k d ⟨rfl,rfl⟩;exact#[f,_, .refl g,om d, .int _]
def WX(t:gH):jn:=λd P=>t d λf=>match f with
 | [.int j]=>(-(2^62)<=j/\j<2^62)/\P (fY 0 j.toNat)
 |_=>False
variable {t:gH}
def fM(l:List D):List D:=l.mapIdx λi x=> .tup [.int (i:Int),x]
def PU(t:gH):jn:=λd P=>t d λf=>match f with
 | [.lst l]=>P (fM l)
 |_=>False
def NQ{K:ac}{a:Addr}(h:G a=some (.lst f))(e:DvAll Z G f g):we Z G (Te K a) (fM g):=by
 intro r s m j i;have k:=cy.of (K:=K) (j _ _ (m _ _ h));have l:=e.length;rw[show(fM g).length=g.length by unfold fM;simp]
 refine#[λn=>#[f,f[i],k,eI (by lia)],λn=>#[f,k,by lia],?_]
 rintro x u n ⟨t,y,rfl,o,rfl,p⟩;obtain⟨d,q,dv⟩:=e.Na (p _ k);refine#[_,_, .new j o,by unfold fM;rw[List.getElem?_mapIdx,q];rfl,?_]
 exact .tup av (.cons (.int _) (.cons ((dv.mono m).mono (aO (j.free o) _)) .nil))
def eO{k1}{i:Pos}(j:Gl X "enumerate")(k:X.mg "enumerate"=none)(l:DA Z X [a] t)(m:starEach [a] X.env= [(false,eval a X.env)]:=by rfl):DI Z X (.Tuple g k1 i) (.Call (.Name "enumerate" p) [a] [] pos) (PU t):=by
 refine(OD j k l m).imp ?_;intro x H Q n;rfl';obtain⟨G,r,P,s,u,h,q⟩:=n;ac_rfl;refine#[G,r,_,s,u,h,λz d A v w f dv=>?_]
 split at d
 .obtain⟨_,rfl,a⟩:=dv.ofOne
  obtain⟨_,_,rfl,h,e⟩:=a.fN;exact#[_,rfl,#[_,f.sub _ _ h],q _ d _ v w f (NQ h e)]
 .exact d.elim
def yD(src:List (Option Nat))(d:DN):DN:=src.map λo=>o.bind λi=>(d[i]?).bind id
theorem cL.src{ρ:DN}(e:cL Z G g ρ)(src:List (Option Nat)):cL Z G (mV src g) (yD src ρ):=by
 refine#[by unfold mV yD;simp,λi d h=>?_]
 unfold yD at h;unfold mV;rw[df] at h ⊢;cases k:src[i]? with
 |none=>rw[k] at h;cases h
 |some o=>
  rw[k] at h;cases o with
  |none=>cases h
  |some j=>
   have f:(ρ[j]?).bind id=some d:=Fk h;cases m:ρ[j]? with
   |none=>rw[m] at f;cases f
   |some z=>
    rw[m] at f;rfl';have n:z=some d:=f;subst n;obtain⟨v,p,dv⟩:=e.at_ j d m;ac_rfl;exact#[v,by show some ((g[j]?).bind id)=_;rw[p];rfl,dv]
def lcW(g:eX)(i:dP)(j:aR):List D->DN->List D->(DN->List D->Prop)->Prop
 | [],k,f,N=>N k f
 |x::l,k,f,N=>g x k λh=>i h λb=>if b=true then j h λd=>f.length<sizeLine/\lcW g i j l h (f++ [d]) N else lcW g i j l h f N
def TM(f:jn)(g:eX)(h:dP)(i:aR)(src:List (Option Nat)):aR:=λd P=>f d λj=>lcW g h i j (yD src d) [] λ_ out=>P (.lst out)
def qe(g:eX)(h:dP)(i:jn)(j:eX)(k:dP)(l:aR):List D->DN->List D->(List D->Prop)->Prop
 | [],_,d,P=>P d
 |x::m,n,d,P=>g x n λf=>h f λb=>if b=true then i f λo=>lcW j k l o f d λp q=>qe g h i j k l m p q P else qe g h i j k l m f d P
def Sq(f:jn)(g:eX)(h:dP)(i:jn)(j:eX)(k:dP)(l:aR)(src:List (Option Nat)):aR:=λd P=>f d λm=>qe g h i j k l m (yD src d) [] λout=>P (.lst out)
def wU:dP:=λ_ P=>P true
def D1(Z:DC)(X:Cx)(d:List Expr)(t:dP):Prop:=ng X d (liftT Z t)
def ng.imp{d:List Expr}{t j:TT}(h:ng X d t)(f:∀i H Q,j i H Q->t i H Q):ng X d j:=λg s i H Q I q=>h g s i H Q I (f _ _ _ q)
def gq:D1 Z X [] wU:=by
 refine Fy.imp λg H Q d=>?_;rfl';obtain⟨G,i,P,s,e,p,q⟩:=d;ac_rfl;exact q _ p G H (.refl s)
def EB(h:DT Z X c d):D1 Z X [c] d:=OL h
def CS(Z:DC)(f g:Hp)(h:Addr)(j:DN)(d:List D)(k:St)(H:Hp):Prop:=
 ∃(G:Hp)(i:List V),aJ f G/\aJ G H/\aJ g H/\(∀b,g b≠none->f b=none->G b=none)/\G h=none/\H h=some (.lst i)/\DvAll Z G i d/\cL Z G k j
def dO(s:aJ H d){b:Addr}(h:H b≠none):d b≠none:=λz=>by
 cases e:H b with
 |none=>exact h e
 |some o=>rw[s b o e] at z;cases z
def nz{d:Type}{l:List d}{i:Nat}{x:d}(h:l[i]? =some x):l.drop i=x::l.drop (i+1):=by
 obtain⟨f,e⟩:=dm.mp h;rw[qm f,e]
theorem Ay(hA:n f=none)(B:Hp)(it:we Z B J p)(i:Nat)(M:DN)(k:List D)(σ:St)(H:Hp)
  (c:CS Z m n f M k σ H) (hG:∀G,aJ m G->aJ B G) (hi:i<p.length) (h:lcW g w A (p.drop i) M k N):
  J.go i H/\∀x C,J.yld i H x C->qJ Z g x σ C λq H4=>liftT Z w q H4 λb O=>
   if b=true then dY Z A q O λv P=>∃l,P f=some (.lst l)/\l.length<sizeLine/\(∃r s,CS Z m n f r s q (upd P f (.lst (l++ [v])))/\lcW g w A (p.drop (i+1)) r s N)
   else ∃r s,CS Z m n f r s q O/\lcW g w A (p.drop (i+1)) r s N:=by
 rfl';obtain⟨R,l,S,s2,T,off,gA,U,Y,en⟩:=c;obtain⟨go,_,yld⟩:=it R H (hG _ S) s2 i;ac_rfl;refine#[go hi,λx C y=>?_];rfl';obtain⟨G3,d,E,hd,dv⟩:=yld x C hi y;rw[nz hd] at h;ac_rfl;refine#[G3,M,d,_,E.sub,en.mono E.gg,dv,h,λF I q L=>?_];refine#[G3,F,_,E.sub,L,I,λb hb G5 O u=>?_];have j:=E.trans u;have a:∀{G t:Hp},Ext R H G t->G f=none:=λx=>x.off f (by rw[U];exact λz=>nomatch z) gA
 have Fm:∀{G t:Hp},Ext R H G t->∀b,n b≠none->m b=none->G b=none:=λx b I h2=>x.off b (dO T I) (off b I h2);cases b with
 |false=>
  refine cc #[F,k,#[G5,l,S.trans j.gg,j.sub,T.trans j.hh,Fm j,a j,j.hh _ _ U,Y.mono j.gg,L.mono u.gg],?_];simpa using hb
 |true=>
  refine bL #[G5,F,_,u.sub,L.mono u.gg,(by simpa using hb),λd' iU v G6 P x6 X=>?_]
  have x:=j.trans x6;refine#[l,x.hh _ _ U,by rw[Y.length];exact iU.1,F,_,#[G6,l++ [v],S.trans x.gg,λb o e=>?_,λb o e=>?_,Fm x,a x,av,(Y.mono x.gg).snoc X,(L.mono u.gg).mono x6.gg],iU.2]
  .rw[ax (aD e (a x))];exact x.sub _ _ e
  .rw[ax (aD e hA)];exact(T.trans x.hh) _ _ e
def CS.done(c:CS Z i h d p f q j)(g:Ext G H i h)(r:h d=none):∃k,Ext G H k j/\Dv Z k (.ref d) (.lst f):=by
 rfl';obtain⟨u,v,w,x,y,off,l,A,B,F⟩:=c;ac_rfl;refine#[upd u d (.lst v),#[(g.gg.trans w).trans (aO l _),λb o e=>?_,g.hh.trans y,λb m C=>?_], .lst av (B.mono (aO l _))]
 .by_cases z:b=d
  .subst z;rw[av] at e;cases e;exact A
  .rw[ax z] at e;exact x _ _ e
 .have n:=dO g.hh m
  rw[ax (λz=>n (by rw[z];exact r))]
  exact off b n (g.off b m C)
def CS.begin(s:aJ d f)(i:f g=none)(l:cL Z d k j):CS Z d f g j [] k (upd f g (.lst [])):=
 #[d,[], .refl _,λb o e=>by rw[ax (aD e (s.free i))];exact s _ _ e,aO i _,λ_ _ h=>h,s.free i,av, .nil,l]
variable {tg iter elt:Expr} {ifs:List Expr} {scope:Scope} {NC:List Str} {src:List (Option Nat)} {wi:jn} {g:eX} {tt:dP}
def JC:∀p H Q,dY Z (TM wi g tt te src) p H Q->O9 (ur Z wi) (qJ Z g) (liftT Z tt) (dY Z te) src p H Q:=by
 intro p H Q E;rfl';obtain⟨G,F,P,s,z,h,q⟩:=E;ac_rfl;refine#[G,F,_,s,z,h,λf I J A L r B M u=>?_];refine#[λi m v k=>m=f.length-i/\i<=f.length/\∃o d,CS Z A L M o d v k/\lcW g tt te (f.drop i) o d λ_ out=>P (.lst out),#[_,rfl,fq _,_,[], .begin r.sub u ((z.mono r.gg).src src),I],?_];intro i m v k N;rfl';obtain⟨rfl,Y,o,d,c,w⟩:=N;ac_rfl
 by_cases C:i<f.length
 .obtain⟨O,l⟩:=Ay u A B i o d v k c (λ_ s=>s) C w
  exact .inr #[O,_,λa b n=>#[f.length-(i+1),by lia,rfl,C,n],l]
 .have e:f.drop i= []:=zc (by lia)
  rfl';rw[e] at w;obtain⟨R,x,dv⟩:=c.done r u;obtain⟨S,t,T,U,_⟩:=c;ac_rfl;exact .inl #[(B S k T U i).2.1 (by lia),q _ w _ R k x dv]
def wV(f:X.calm=true)(c:cE X scope)(h:dF scope X.N src NC)(i:DI Z X tg iter wi)
  (j:∀d s H,DG Z (dj X scope NC d s H) tg g) (k:∀d s H,D1 Z (dj X scope NC d s H) ifs tt) (l:∀d s H,DE Z (dj X scope NC d s H) elt te)
  (m:∀x,foldedSetIterable iter X.env x=pure x:=by intro _;rfl):DE Z X (.ListComp elt [#[tg,iter,ifs,0]] scope pos) (TM wi g tt te src):=(Oy f c h i j k l m).imp JC
variable {t0 i0 t1 i1:Expr} {f0 f1:List Expr} {gN:jn} {g1:eX} {fk:dP}
def N2:∀σ H Q,dY Z (Sq wi g tt gN g1 fk te src) σ H Q->SY (ur Z wi) (qJ Z g) (liftT Z tt) (ur Z gN) (qJ Z g1) (liftT Z fk) (dY Z te) src σ H Q:=by
 intro σ H Q aI;rfl';obtain⟨G,ρ,P,s,en,h,q⟩:=aI;ac_rfl;refine#[G,ρ,_,s,en,h,λp hd J F u x1 it l hA=>?_];refine#[λi m fA I=>m=p.length-i/\i<=p.length/\∃w j,CS Z F u l w j fA I/\qe g tt gN g1 fk te (p.drop i) w j λout=>P (.lst out),#[_,rfl,fq _,_,[], .begin x1.sub hA ((en.mono x1.gg).src src),hd],?_];intro i m fA I iq;rfl';obtain⟨rfl,hi,w,j,c,hl⟩:=iq;ac_rfl
 by_cases bT:i<p.length
 .have c0:=c
  rfl';obtain⟨S,r,T,s2,s3,off,gA,qE,br,MS⟩:=c;obtain⟨go,_,yld⟩:=it S I T s2 i;ac_rfl;refine .inr #[go bT,λU L=>∃Y a,CS Z F u l Y a U L/\qe g tt gN g1 fk te (p.drop (i+1)) Y a λout=>P (.lst out),λU L n=>#[p.length-(i+1),by lia,rfl,bT,n],λx H3 y=>?_]
  rfl';obtain⟨G3,d,x3,sC,dv⟩:=yld x H3 bT y;rw[nz sC] at hl;ac_rfl;refine#[G3,w,d,_,x3.sub,MS.mono x3.gg,dv,hl,λt M fQ vy=>?_];refine#[G3,t,_,x3.sub,vy,M,λb X G5 H5 x5=>?_];have A:=x3.trans x5;have AH:∀{G N:Hp},Ext S I G N->G l=none:=λx=>x.off l (by rw[qE];exact λz=>nomatch z) gA
  have Fm:∀{G N:Hp},Ext S I G N->∀b,u b≠none->F b=none->G b=none:=λx b M h2=>x.off b (dO s3 M) (off b M h2);cases b with
  |false=>exact cc #[t,j,#[G5,r,T.trans A.gg,A.sub,s3.trans A.hh,Fm A,AH A,A.hh _ _ qE,br.mono A.gg,vy.mono x5.gg],by simpa using X]
  |true=>
   refine bL #[G5,t,_,x5.sub,vy.mono x5.gg,(by simpa using X),λO hes J1 G6 H6 x6 NP=>?_]
   have x:=A.trans x6;have c6:CS Z G6 H6 l t j fQ H6->True:=λ_=>trivial
   refine#[λk m t5 B=>m=O.length-k/\k<=O.length/\∃(Pm:DN)(Ed:List D),(∃(G:Hp)(r:List V),aJ G6 G/\aJ G B/\aJ u B/\(∀b,u b≠none->F b=none->G b=none)/\G l=none/\B l=some (.lst r)/\DvAll Z G r Ed/\cL Z G t5 Pm)/\
    lcW g1 fk te (O.drop k) Pm Ed λw wq=>qe g tt gN g1 fk te (p.drop (i+1)) w wq λout=>P (.lst out),
    #[_,rfl,fq _,t,j,#[G6,r, .refl _,x.sub,s3.trans x.hh,Fm x,AH x,x.hh _ _ qE,br.mono x.gg,(vy.mono x5.gg).mono x6.gg],hes],?_]
   intro k m t5 B iq;rfl';obtain⟨rfl,hk,Pm,Ed,⟨G7,Sa,a1,a2,a3,a4,a5,a6,a7,a8⟩,Qj⟩:=iq;ac_rfl;have g16:aJ F G6:=T.trans x.gg
   by_cases Nx:k<O.length
   .obtain⟨go1,_,ZJ⟩:=NP G7 B a1 a2 k
    refine .inr #[go1 Nx,λU L=>∃(Y:DN)(a:List D),(∃(G:Hp)(r:List V),aJ G6 G/\aJ G L/\aJ u L/\(∀b,u b≠none->F b=none->G b=none)/\G l=none/\L l=some (.lst r)/\DvAll Z G r a/\cL Z G U Y)/\
     lcW g1 fk te (O.drop (k+1)) Y a λw wq=>qe g tt gN g1 fk te (p.drop (i+1)) w wq λout=>P (.lst out),λU L n=>#[O.length-(k+1),by lia,rfl,Nx,n],λy H8 hy=>?_]
    rfl';obtain⟨G8,d8,x8,hd8,Ub⟩:=ZJ y H8 Nx hy;rw[nz hd8] at Qj;ac_rfl;refine#[G8,Pm,d8,_,x8.sub,a8.mono x8.gg,Ub,Qj,λSe h9 σ9 P4=>?_];refine#[G8,Se,_,x8.sub,P4,h9,λb X Pp LD DM=>?_];have C:=x8.trans DM;have oA:∀{G N:Hp},Ext G7 B G N->G l=none:=λx=>x.off l (by rw[a6];exact λz=>nomatch z) a5
    have oB:∀{G N:Hp},Ext G7 B G N->∀b,u b≠none->F b=none->G b=none:=λx b M h2=>x.off b (dO a3 M) (a4 b M h2);cases b with
    |false=>exact cc #[Se,Ed,#[Pp,Sa,a1.trans C.gg,C.sub,a3.trans C.hh,oB C,oA C,C.hh _ _ a6,a7.mono C.gg,P4.mono DM.gg],by simpa using X]
    |true=>
     refine bL #[Pp,Se,_,DM.sub,P4.mono DM.gg,(by simpa using X),λd' iU v J6 LG yV EC=>?_]
     have E:=C.trans yV;refine#[Sa,E.hh _ _ a6,by rw[a7.length];exact iU.1,Se,_,#[J6,Sa++ [v],a1.trans E.gg,λb o e=>?_,λb o e=>?_,oB E,oA E,av,(a7.mono E.gg).snoc EC,(P4.mono DM.gg).mono yV.gg],iU.2]
     .rw[ax (aD e (oA E))];exact E.sub _ _ e
     .rw[ax (aD e hA)];exact(a3.trans E.hh) _ _ e
   .have e:O.drop k= []:=zc (by lia)
    rw[e] at Qj;exact .inl #[(NP G7 B a1 a2 k).2.1 (by lia),Pm,Ed,#[G7,Sa,g16.trans a1,a2,a3,a4,a5,a6,a7,a8],Qj]
 .have e:p.drop i= []:=zc (by lia)
  rfl';rw[e] at hl;obtain⟨G',x,dv⟩:=c.done x1 hA;obtain⟨S,r,T,s2,_⟩:=c;ac_rfl;exact .inl #[(it S I T s2 i).2.1 (by lia),q _ hl _ G' I x dv]
def PL(f:X.calm=true)(c:cE X scope)(h:dF scope X.N src NC)(i:DI Z X t0 i0 wi)
  (j:∀d s H,DG Z (dj X scope NC d s H) t0 g) (k:∀d s H,D1 Z (dj X scope NC d s H) f0 tt) (l:∀d s H,DI Z (dj X scope NC d s H) t1 i1 gN) (m:∀d s H,DG Z (dj X scope NC d s H) t1 g1)
  (n:∀d s H,D1 Z (dj X scope NC d s H) f1 fk) (o:∀d s H,DE Z (dj X scope NC d s H) elt te)
  (p:∀x,foldedSetIterable i0 X.env x=pure x:=by intro _;rfl) (q:∀env x,foldedSetIterable i1 env x=pure x:=by intro _ _;rfl):
  DE Z X (.ListComp elt [#[t0,i0,f0,0],#[t1,i1,f1,0]] scope pos) (Sq wi g tt gN g1 fk te src):=(Q5 f c h i j k l m n o p q).imp N2
end
inductive c9 (R:V->D->List Addr->Prop):List V->List D->List Addr->Prop
 |nil:c9 R [] [] []
 |cons {v:V} {vs:List V} {d:D} {ds:List D} {f fs:List Addr}:R v d f->c9 R vs ds fs->c9 R (v::vs) (d::ds) (f++fs)
def Yu:D->Bool
 | .lst _=>true
 |_=>false
def Own(Z:DC)(G H:Hp):Nat->V->D->List Addr->Prop
 |0,v,d,c=>Dv Z G v d/\c= []
 |n+1,v,d,c=>(∃a e g i,v= .ref a/\d= .lst g/\H a=some (.lst e)/\c=a::i/\c9 (Own Z G H n) e g i)\/(1<=n/\∃a e g,v= .ref a/\d= .tup g/\G a=some (.tup e)/\c9 (λv d f=>(Yu d=true/\Own Z G H n v d f)\/(Yu d=false/\Dv Z G v d/\f= [])) e g c)\/(∃a h,v= .ref a/\H a=some (.ext h)/\c= [a]/\((n=98/\∃b j,d= .set b j/\h=Sh b a j)\/(n=97/\∃k,d= .x k/\J8 G a h k)))
theorem Own.lst{Z:DC}{G H:Hp}{n:Nat}{v:V}{c:List D}{f:List Addr}(o:Own Z G H (n+1) v (.lst c) f):∃a d g h,v= .ref a/\D.lst c= .lst g/\H a=some (.lst d)/\f=a::h/\c9 (Own Z G H n) d g h:=by
 rcases o with o| ⟨_,a,d,c,_,e,_⟩ | ⟨a,i,_,_,_,⟨_,b,j,e,_⟩ | ⟨_,k,e,_⟩⟩
 .exact o
 .cases e
 .cases e
 .cases e
def Own.xA(o:Own Z G H 98 v (.x k) d):∃a c,v= .ref a/\H a=some (.ext c)/\d= [a]/\J8 G a c k:=by
 rcases o with ⟨_,_,_,_,_,e,_⟩ | ⟨_,a,j,l,_,e,_⟩ | ⟨a,c,f,g,h,⟨_,b,m,e,n⟩ | ⟨_,k,e,i⟩⟩
 .cases e
 .cases e
 .cases e
 .cases e;exact#[a,c,f,g,h,i]
def Own.one{d:D}(o:Own Z G H 1 v d b):∃a c e f,v= .ref a/\d= .lst e/\H a=some (.lst c)/\b=a::f/\c9 (Own Z G H 0) c e f:=by
 rcases o with o| ⟨z,_⟩ | ⟨_,_,_,_,_,⟨z,_⟩ | ⟨z,_⟩⟩
 .exact o
 .exact absurd z (by decide)
 .exact absurd z (by decide)
 .exact absurd z (by decide)
def c9.imp{i:List V}(o:c9 R i j c)(h:∀v d f,(∀b∈f,b∈c)->R v d f->g v d f):c9 g i j c:=by
 induction o with
 |nil=>exact .nil
 |cons a _ k=>exact .cons (h _ _ _ (λb e=>iu _ e) a) (k λv d f l r=>h v d f (λb e=>gW _ (l b e)) r)
theorem c9.length{a:List V}(o:c9 R a b c):a.length=b.length:=by
 induction o with
 |nil=>rfl
 |cons _ _ d=>exact GE (·+1) d
section
variable {Z:DC} {G G' H H':Hp}
def Own.keep:∀{v:V}{d:D}{g:List Addr},Own Z G H n v d g->aJ G G'->(∀b∈g,H' b=H b)->Own Z G' H' n v d g:=by
 induction n with
 |zero=>exact λh s _=>#[h.1.mono s,h.2]
 |succ n u=>
  intro v d g h s k
  rcases h with ⟨a,j,l,w,c,m,e,i,o⟩ | ⟨p,a,j,l,c,m,e,o⟩ | ⟨a,x,c,e,i,y⟩
  .subst i
   exact .inl #[a,j,l,w,c,m,by rw[k a (dq ..)];exact e,rfl,o.imp λv d f t r=>u r s λb q=>k b (eJ _ (t b q))]
  .exact .inr (.inl #[p,a,j,l,c,m,s _ _ e,o.imp λv d f t r=>r.imp (λr=>#[r.1,u r.2 s λb q=>k b (t b q)]) λr=>#[r.1,r.2.1.mono s,r.2.2]])
  .exact .inr (.inr #[a,x,c,by rw[k a (by rw[i];exact dq ..)];exact e,i,y.imp id λ#[p,k,z,A]=>#[p,k,z,A.mono s]])
def c9.MQ(o:c9 R e g h)(k:∀v d f,(∀b∈f,b∈h)->R v d f->Dv Z G' v d):DvAll Z G' e g:=by
 induction o with
 |nil=>exact .nil
 |cons a _ i=>exact .cons (k _ _ _ (λb c=>iu _ c) a) (i λv d f j r=>k v d f (λb c=>gW _ (j b c)) r)
def Own.Su(o:HO->Prop)(y:∀j,o (.lst j))(t:∀u,o (.ext u)):∀{v:V}{d:D}{l:List Addr},Own Z G H n v d l->aJ G G'->(∀b∈l,∀x,o x->H b=some x->G' b=some x)->Dv Z G' v d:=by
 induction n with
 |zero=>exact λh s _=>h.1.mono s
 |succ n w=>
  intro v d l h s k
  rcases h with ⟨a,j,z,B,i,c,g,e,m⟩ | ⟨_,a,j,z,i,c,g,m⟩ | ⟨a,u,i,g,e,A⟩
  .subst e i c
   exact .lst (k a (dq ..) _ (y _) g) (m.MQ λv d f e r=>w r s λb p=>k b (eJ _ (e b p)))
  .subst i c
   exact .tup (s _ _ g) (m.MQ λv d f e r=>r.elim (λr=>w r.2 s λb p=>k b (e b p)) λr=>r.2.1.mono s)
  .subst i e
   rcases A with ⟨_,b,C,c,q⟩ | ⟨_,E,c,q⟩
   .subst c q
    exact .set (k a (dq ..) _ (t _) g)
   .subst c
    exact .x (k a (dq ..) _ (t _) g) (q.mono s)
def Own.dv{v:V}{d:D}(h:Own Z G H n v d a)(s:aJ G G')(k:∀b∈a,∀o,H b=some o->G' b=some o):Dv Z G' v d:=h.Su (λ_=>True) (λ_=>trivial) (λ_=>trivial) s λb c x _ e=>k b c x e
def c9.flat{d:List Addr}(o:c9 (Own Z G H 0) b c d):DvAll Z G b c/\d= []:=by
 induction o with
 |nil=>exact#[.nil,rfl]
 |cons a _ e=>exact#[.cons a.1 e.1,by rw[a.2,e.2];rfl]
def DvAll.own{d:List D}(h:DvAll Z G c d):c9 (Own Z G H 0) c d []:=h.ind (p:=λc d=>c9 (Own Z G H 0) c d []) .nil λa _ b=> .cons (f:= []) (fs:= []) #[a,rfl] b
def Dv.flat{v:V}{d:D}(h:Dv Z G v d)(f:e9 d=true):Dv Z G' v d:=by
 cases h with
 |bb=>exact .bb
 |bl b=>exact .bl b
 |int i=>exact .int i
 |str x k=>exact .str x k
 |_=>cases f
end
mutual
def nZ:D->Bool
 | .bb=>true
 | .bl _=>true
 | .int _=>true
 | .str _=>true
 | .tup l=>JE l
 |_=>false
def JE:List D->Bool
 | []=>true
 |d::ds=>nZ d&&JE ds
end
theorem Dv.nZ(k:∀b g,G b=some (.tup g)->e b=some (.tup g))(h:Dv Z G v d):L2.nZ d=true->Dv Z e v d:=by
 have c:∀{p:Prop}{d:D},L2.nZ d=false->L2.nZ d=true->p:=λa b=>by rw[a] at b;cases b
 refine Dv.rec (motive_1:=λv d _=>L2.nZ d=true->Dv Z e v d) (motive_2:=λl j _=>JE j=true->DvAll Z e l j) (λ_=> .bb) (λb _=> .bl b) (λi _=> .int i) (λx h _=> .str x h) (λ_ _ _=>c (by rw[L2.nZ]<;>simp)) (λh _ m f=> .tup (k _ _ h) (m (by rw[L2.nZ] at f;exact f))) (λ_=>c (by rw[L2.nZ]<;>simp)) (λ_=>c (by rw[L2.nZ]<;>simp)) (λ_ _=>c (by rw[L2.nZ]<;>simp)) (λ_ _ _ _ _ _=>c (by rw[L2.nZ]<;>simp)) (λ_=>c (by rw[L2.nZ]<;>simp)) (λ_ _=>c (by rw[L2.nZ]<;>simp)) (λ_ _ _ _=>c (by rw[L2.nZ]<;>simp)) (λ_=> .nil) (λ_ _ n o f=>?_) h
 rw[JE,vj] at f;exact .cons (n f.1) (o f.2)
def Ot:HO->Bool
 | .lst _=>true
 | .ext _=>true
 |_=>false
def Own.dvL(h:Own Z G H n v d c)(s:aJ G a)(k:∀b∈c,∀o,Ot o=true->H b=some o->a b=some o):Dv Z a v d:=h.Su (λo=>Ot o=true) (λ_=>rfl) (λ_=>rfl) s k
structure Bs where
 G₀:Hp
 H₀:Hp
 Gf:Hp
structure SIx (Z:DC) (B:Bs) (md:List Nat) (ρ:DN) (σ:St) (H G:Hp) (fp:Nat->List Addr):Prop where
 ex:Ext B.G₀ B.H₀ G H
 fl:aJ B.Gf G
 len:ρ.length=σ.length
 at_:∀(i:Nat)(d:D),ρ[i]? =some (some d)->∃v,σ[i]? =some (some v)/\Own Z G H (md.getD i 0) v d (fp i)
 nd:∀i,(fp i).Nodup
 ap:∀i j b,i≠j->b∈fp i->b∉fp j
 nw:∀i b,b∈fp i->B.H₀ b=none/\H b≠none/\G b=none
def SI(Z:DC)(B:Bs)(a:List Nat)(b:DN)(c:St)(H:Hp):Prop:=∃G d,SIx Z B a b c H G d
def cn:List Nat->DN->DN
 |_,[]=> []
 | [],o::a=>o::a
 |0::b,o::a=>o::cn b a
 | (_+1)::b,_::a=>none::cn b a
theorem qR:∀(a:List Nat)(b:DN),(cn a b).length=b.length
 |a,[]=>by cases a<;>rfl
 | [],o::b=>rfl
 |0::a,o::b=>by rw[cn,cU,qR a b,cU]
 | (_+1)::a,_::b=>by rw[cn,cU,qR a b,cU]
theorem uz:∀(c:List Nat)(e:DN)(i:Nat),(cn c e)[i]? =some (some d)->c.getD i 0=0/\e[i]? =some (some d)
 |c,[],i,h=>by cases c<;>simp[cn] at h
 | [],o::e,i,h=>#[by simp,h]
 |0::c,o::e,0,h=>#[rfl,by simpa [cn] using h]
 |0::c,o::e,i+1,h=>by
  rw[cn,ve] at h;obtain⟨a,b⟩:=uz c e i h;exact#[by rw[List.getD_cons_succ];exact a,by rw[ve];exact b]
 | (_+1)::c,_::e,0,h=>by simp[cn] at h
 | (_+1)::c,_::e,i+1,h=>by
  rw[cn,ve] at h;obtain⟨a,b⟩:=uz c e i h;exact#[by rw[List.getD_cons_succ];exact a,by rw[ve];exact b]
def IH(b:List Nat):Bool->DN->DN
 |true,a=>a
 |false,a=>cn b a
def rZ:Bool->D->Prop
 |true,d=>nZ d=true
 |false,_=>True
section
variable {Z:DC} {B:Bs} {md:List Nat} {ρ:DN} {σ:St} {H G:Hp} {fp:Nat->List Addr}
def Ih(h:(cn md ρ)[i]? =some (some d)):md.getD i 0=0/\ρ[i]? =some (some d):=uz md ρ i h
def SIx.rY(S:SIx Z B md ρ σ H G fp):cL Z G σ (cn md ρ):=by
 refine#[by rw[qR];exact S.len,λi d h=>?_]
 obtain⟨z,h⟩:=Ih h;obtain⟨v,a,o⟩:=S.at_ i d h;rw[z] at o;exact#[v,a,o.1]
def SIx.Jr(S:SIx Z B md ρ σ H G fp):cL Z H σ ρ:=by
 refine#[S.len,λi d h=>?_];obtain⟨v,a,o⟩:=S.at_ i d h;exact#[v,a,o.dv S.ex.sub λb _ u e=>e]
theorem SIx.grow{c f:Hp}(S:SIx Z B md ρ σ H G fp)(x:Ext G H c f):SIx Z B md ρ σ f c fp where
 ex:=S.ex.trans x
 fl:=S.fl.trans x.gg
 len:=S.len
 at_:=λi d h=>by
  obtain⟨v,j,o⟩:=S.at_ i d h;refine#[v,j,o.keep x.gg λb a=>?_];cases e:H b with
  |none=>exact absurd e (S.nw i b a).2.1
  |some u=>exact x.hh _ _ e
 nd:=S.nd
 ap:=S.ap
 nw:=λi b a=>let #[k,g,l]:=S.nw i b a;#[k,dO x.hh g,x.off b g l]
def Ext.all(s:aJ G H)(x:Ext H H b a):Ext G H G a:=#[.refl _,s.trans x.hh,x.hh,λ_ _ h=>h]
open Classical in
noncomputable def jd(G H:Hp)(fp:Nat->List Addr):Hp:=λb=>if ∃i,b∈fp i then(match H b with|some (.lst xs)=>some (.lst xs) |some (.ext φ)=>some (.ext φ) |_=>none) else G b
open Classical in
noncomputable def uj(G:Hp)(fp:Nat->List Addr):Hp:=λb=>if ∃i,b∈fp i then none else G b
def LA(i:Nat)(h:b∈fp i)(a:Ot o=true)(e:H b=some o):jd G H fp b=some o:=by
 unfold jd;rw[tz #[i,h],e];cases o<;>first|rfl|cases a
def rj(h:¬∃i,b∈fp i):jd G H fp b=G b:=mo h
def SIx.Sv(S:SIx Z B md ρ σ H G fp):aJ G (jd G H fp)/\aJ (jd G H fp) H/\cL Z (jd G H fp) σ ρ:=by
 have c:aJ G (jd G H fp):=λb o e=>by
  by_cases h:∃i,b∈fp i
  .obtain⟨i,f⟩:=h
   rw[(S.nw i b f).2.2] at e;cases e
  .rw[rj h];exact e
 refine#[c,λb o e=>?_,S.len,λi d h=>?_]
 .by_cases h:∃i,b∈fp i
  .unfold jd at e
   rw[tz h] at e
   split at e
   .next l a=>rw[a];exact e
   .next m a=>rw[a];exact e
   .cases e
  .rw[rj h] at e;exact S.ex.sub _ _ e
 .obtain⟨v,g,o⟩:=S.at_ i d h
  exact#[v,g,o.dvL c λb j u k a=>LA i j k a]
def SIx.YV(S:SIx Z B md ρ σ H G fp)(x:Ext (jd G H fp) H a g):Ext G H (uj a fp) g/\∀b d,a b=some (.tup d)->uj a fp b=some (.tup d):=by
 obtain⟨j,l,_⟩:=S.Sv;refine#[#[λb o e=>?_,λb o e=>?_,x.hh,λb f k=>?_],λb d e=>?_]
 .have h:¬∃i,b∈fp i:=by
   rintro⟨i,c⟩;rw[(S.nw i b c).2.2] at e;cases e
  unfold uj;rw[mo h];exact x.gg _ _ (j _ _ e)
 .unfold uj at e
  split at e
  .cases e
  .exact x.sub _ _ e
 .unfold uj
  split
  .rfl
  .next h=>exact x.off b f (by rw[rj h];exact k)
 .have h:¬∃i,b∈fp i:=by
   rintro⟨i,c⟩;have f:=(S.nw i b c).2.1;cases hw:jd G H fp b with
   |none=>rw[x.off b f hw] at e;cases e
   |some o=>
    have:=x.gg _ _ hw
    rw[e] at this;cases Fk this;unfold jd at hw;rw[tz #[i,c]] at hw
    split at hw<;>cases hw
  unfold uj;rw[mo h];exact e
theorem SIx.ev(S:SIx Z B md ρ σ H G fp)(m:Bool)(h:t (IH md m ρ) P)
  (f:∀d,P d->rZ m d/\∀v b a,SIx Z B md ρ σ a b fp->Ext G H b a->Dv Z b v d->Q v a):dY Z t σ H Q:=by
 cases m with
 |false=>exact#[G,_,P,S.ex.sub,S.rY,h,λd c v b a x dv=>(f d c).2 v b a (S.grow x) x dv]
 |true=>
  obtain⟨j,i,e⟩:=S.Sv;refine#[jd G H fp,_,P,i,e,h,λd c v b a x dv=>?_];obtain⟨g,k⟩:=S.YV x;exact(f d c).2 v _ a (S.grow g) g (dv.nZ k (f d c).1)
def SIx.Xb(S:SIx Z B md ρ σ H G fp)(h:t ρ P)(c:∀b,P b->∀a,SIx Z B md ρ σ a G fp->Q b a):liftT Z t σ H Q:=
 #[H,ρ,P, .refl _,S.Jr,h,λb d e a x=>c b d a (S.grow (Ext.all S.ex.sub x))]
def SIx.oU(S:SIx Z B md ρ σ H G fp)(l:md.getD i 0=0)(dv:Dv Z G v d):SIx Z B md (ρ.set i (some d)) (σ.set i (some v)) H G (λj=>if j=i then[] else fp j) where
 ex:=S.ex
 fl:=S.fl
 len:=by rw[fJ,fJ];exact S.len
 at_:=λj c h=>by
  by_cases z:i=j
  .subst z
   by_cases a:i<ρ.length
   .rw[ji a] at h
    cases Fk h;exact#[v,ji (by rw[<-S.len];exact a),by rw[l,tz rfl];exact#[dv,rfl]]
   .rw[za (i4 a),j7 (i4 a)] at h;cases h
  .rw[jj z] at h ⊢
   rw[mo (Ne.symm z)];exact S.at_ j c h
 nd:=λj=>by split;exact gB;exact S.nd j
 ap:=λj k b ne e f=>by
  split at e
  .cases e
  .split at f
   .cases f
   .exact S.ap j k b ne e f
 nw:=λj b g=>by
  split at g
  .cases g
  .exact S.nw j b g
def SIx.OX{f:List Addr}(S:SIx Z B md ρ σ H G fp)(m:md.getD i 0=n)(o:Own Z G H n v d f)(nd:f.Nodup)(nw:∀b∈f,B.H₀ b=none/\H b≠none/\G b=none)(ap:∀b∈f,∀j,j≠i->b∉fp j):
  SIx Z B md (ρ.set i (some d)) (σ.set i (some v)) H G (λj=>if j=i then f else fp j) where
 ex:=S.ex
 fl:=S.fl
 len:=by rw[fJ,fJ];exact S.len
 at_:=λj c h=>by
  by_cases z:i=j
  .subst z
   by_cases e:i<ρ.length
   .rw[ji e] at h
    cases Fk h;exact#[v,ji (by rw[<-S.len];exact e),by rw[m,tz rfl];exact o]
   .rw[za (i4 e),j7 (i4 e)] at h;cases h
  .rw[jj z] at h ⊢
   rw[mo (Ne.symm z)];exact S.at_ j c h
 nd:=λj=>by split;exact nd;exact S.nd j
 ap:=λj k b ne g a=>by
  split at g
  .next z=>
   rw[mo (λw=>ne (z.trans w.symm))] at a;exact ap b g k (λw=>ne (z.trans w.symm)) a
  .next z=>
   split at a
   .exact ap b a j z g
   .exact S.ap j k b ne g a
 nw:=λj b l=>by
  split at l
  .exact nw b l
  .exact S.nw j b l
noncomputable def plus(G H:Hp)(F:Addr->Prop):Hp:=λb=>open Classical in if F b then H b else G b
def lJ(h:F b):plus G H F b=H b:=by unfold plus;rw[tz h]
def iI(h:¬F b):plus G H F b=G b:=by unfold plus;rw[mo h]
def jE(s:aJ G H):aJ (plus G H F) H:=λb o e=>by
 by_cases h:F b
 .rw[lJ h] at e;exact e
 .rw[iI h] at e;exact s _ _ e
def fu(s:aJ G H):aJ G (plus G H F):=λb o e=>by
 by_cases h:F b
 .rw[lJ h];exact s _ _ e
 .rw[iI h];exact e
def SIx.evR(S:SIx Z B md ρ σ H G fp)(h:t ρ P)(g:∀d,P d->∀v a c,Ext B.G₀ B.H₀ a c->Dv Z a v d->Q v c):dY Z t σ H Q:=by
 let F:Addr->Prop:=λb=>∃i,b∈fp i
 have s:=S.ex.sub
 have j:Ext B.G₀ B.H₀ (plus G H F) H:=#[S.ex.gg.trans (fu s),jE s,S.ex.hh,λb f k=>by
  rw[iI (λ#[i,l]=>f (S.nw i b l).1)];exact S.ex.off b f k]
 refine#[plus G H F,ρ,P,jE s,#[S.len,λi d h=>?_],h,λd m v a c x dv=>g d m v a c (j.trans x) dv];obtain⟨v,n,o⟩:=S.at_ i d h;exact#[v,n,o.dv (fu s) λb f u e=>by rw[lJ #[i,f]];exact e]
end
structure dE where
 nx:DN->Prop
 rt:D->Prop
 bk:DN->Prop:=λ_=>False
 ct:DN->Prop:=λ_=>False
 xc:DN->D->Prop:=λ_ _=>False
abbrev cx:=dE->DN->Prop
structure Meets (Z:DC) (X:Cx) (B:Bs) (md:List Nat) (rn:Nat) (E:dE) (Dn:Ends):Prop where
 nx:∀ρ,E.nx ρ->∀σ H,SI Z B md ρ σ H->Dn.nx σ H
 rt:∀d,E.rt d->∀v f G' H',Ext B.G₀ B.H₀ G' H'->Own Z G' H' rn v d f->f.Nodup->(∀b∈f,B.H₀ b=none/\H' b≠none/\G' b=none)->Dn.rt v H'
 bk:∀ρ,E.bk ρ->∀σ H,SI Z B md ρ σ H->Dn.bk σ H
 ct:∀ρ,E.ct ρ->∀σ H,SI Z B md ρ σ H->Dn.ct σ H
 xc:∀ρ d,E.xc ρ d->∀σ H G fp a,SIx Z B md ρ σ H G fp->Dv Z G (.ref a) d->Ec X σ H a
def l7(Z:DC)(X:Cx)(a:List Nat)(c:Nat)(t:cx):TS:=λd e H=>∃(B:Bs)(b:DN)(E:dE),SI Z B a b e H/\t E b/\Meets Z X B a c E d
def DSt(Z:DC)(X:Cx)(a:List Nat)(b:Nat)(st:Stmt)(t:cx):Prop:=PS X st (l7 Z X a b t)
def m9(Z:DC)(X:Cx)(a:List Nat)(b:Nat)(c:List Stmt)(t:cx):Prop:=kc X c (l7 Z X a b t)
def PS.imp{X:Cx}{st:Stmt}{t c:TS}(h:PS X st t)(f:∀D b H,c D b H->t D b H):PS X st c:=λa s b H D I q=>h a s b H D I (f _ _ _ q)
def kc.imp{X:Cx}{st:List Stmt}{t c:TS}(h:kc X st t)(f:∀D b H,c D b H->t D b H):kc X st c:=λa s b H D I q=>h a s b H D I (f _ _ _ q)
section
variable {Z:DC} {X:Cx} {md:List Nat} {rn:Nat} {st:Stmt} {FR:List Stmt} {t u:cx} {e:Expr} {te:aR} {pos:Pos}
def GJ:cx:=λE a=>E.nx a
def Jk(t u:cx):cx:=λE a=>t {E with nx:=u E} a
def aU:m9 Z X md rn [] GJ:=by
 refine tu.imp λD b H a=>?_;obtain⟨B,c,E,S,h,M⟩:=a;exact M.nx _ h _ _ S
def ao(a:DSt Z X md rn st t)(b:m9 Z X md rn FR u):m9 Z X md rn (st::FR) (Jk t u):=by
 refine(bY a b).imp λD k H c=>?_;rfl';obtain⟨B,f,E,S,h,M⟩:=c;ac_rfl;exact#[B,f,_,S,h,#[λg i m n j=>#[B,g,E,j,i,M],M.rt,M.bk,M.ct,M.xc]]
def ar(a:DSt Z X md rn st t):m9 Z X md rn [st] t:=gv a
def lq:DSt Z X md rn st (λ_ _=>False):=by
 refine Lh.imp λD b H a=>?_;obtain⟨B,c,E,S,h,M⟩:=a;exact h
def WR(a:aR):cx:=λE b=>a b E.rt
def bf(a:DE Z X e te):DSt Z X md 0 (.Return (some e) pos) (WR te):=by
 refine(pQ a).imp λD l H c=>?_;rfl';obtain⟨B,n,E,⟨G,o,S⟩,h,M⟩:=c;ac_rfl;exact S.evR h λd g v i j x dv=>M.rt d g v [] i j x #[dv,rfl] gB (λb k=>by cases k)
def TX(i:Nat):cx:=λE a=>∃d,a[i]? =some (some d)/\E.rt d
def MK(i:Nat)(f:md.getD i 0=rn:=by rfl)(g:X.N[i]? =some x:=by rfl)(a:lR X.env.scope x:=by subst_eqs)(b:(x==("__debug__":Str))=false:=by decide)(j:(x==("__classdict__":Str))=false:=by decide):
  DSt Z X md rn (.Return (some (.Name x c)) pos) (TX i):=by
 refine(pQ (C6 g a b j)).imp λD n H k=>?_;rfl';obtain⟨B,q,E,⟨G,m,S⟩,⟨d,b,h⟩,M⟩:=k;obtain⟨v,a,o⟩:=S.at_ i d b;rw[f] at o;ac_rfl;exact#[v,a,M.rt d h v (m i) G H S.ex o (S.nd i) (S.nw i)]
def Mf(c:dP)(t u:cx):cx:=λE a=>c a λb=>if b=true then t E a else u E a
def bH(j:DT Z X c tc)(k:m9 Z X md rn a t)(d:m9 Z X md rn b u):DSt Z X md rn (.If c a b pos) (Mf tc t u):=by
 refine(C8 j k d).imp ?_;intro D n H l;rfl';obtain⟨B,f,E,⟨G,g,S⟩,h,M⟩:=l;ac_rfl;refine S.Xb h λb d p i=>?_;cases b with
 |true=>exact bL #[B,f,E,#[G,g,i],(d),M]
 |false=>exact cc #[B,f,E,#[G,g,i],(d),M]
def Mq(b:List Nat)(m:Bool)(i:Nat)(c:aR):cx:=λE a=>c (IH b m a) λd=>rZ m d/\E.nx (a.set i (some d))
def aH(m:Bool)(i:Nat)(g:X.N.Nodup)(j:DE Z X e k)(l:c.getD i 0=0:=by rfl)(n:X.N[i]? =some x:=by rfl)(o:Loc X.env.scope x:=by subst_eqs)(p:swapsWith e (some (.Name x a)) b.line X.env=pure false:=by rfl)
  (q:X.fn x=true\/X.env.scope.names.lookup x=some .local:=by subst_eqs):DSt Z X c z (.Assign [.Name x a] e b) (Mq c m i k):=by
 refine(jv g n o j p q).imp ?_;intro D A H r;rfl';obtain⟨B,F,E,⟨G,I,S⟩,h,M⟩:=r;ac_rfl;exact S.ev m h λd f=>#[f.1,λv w J y x dv=>M.nx _ f.2 _ _ #[w,_,y.oU l dv]]
def Ae(i:Nat){NC:List Str}{src:List (Option Nat)}(q:X.calm=true)(r:X.N.Nodup)(c:cE X a)(w:dF a X.N src NC)(y:DI Z X k iter n)
  (z:∀j s H,DG Z (dj X a NC j s H) k g) (A:∀j s H,D1 Z (dj X a NC j s H) f o) (C:∀j s H,DE Z (dj X a NC j s H) b te)
  (F:swapsWith (.ListComp b [#[k,iter,f,0]] a pos) (some (.Name x l)) m.line X.env=pure true:=by rfl) (I:md.getD i 0=0:=by rfl) (J:X.N[i]? =some x:=by rfl) (L:Loc X.env.scope x:=by subst_eqs)
  (O:X.fn x=true\/X.env.scope.names.lookup x=some .local:=by subst_eqs)
  (P:∀x,foldedSetIterable iter X.env x=pure x:=by intro _;rfl):DSt Z X md rn (.Assign [.Name x l] (.ListComp b [#[k,iter,f,0]] a pos) m) (Mq md false i (TM n g o te src)):=by
 refine(uy q r J L c w y z A C F O P).imp ?_;intro D Q H R;rfl';obtain⟨B,t,E,⟨G,u,S⟩,h,M⟩:=R;ac_rfl;refine JC Q H _ (S.ev false h λd p=>#[p.1,λv U H' Y x dv=>M.nx _ p.2 _ _ #[U,_,Y.oU I dv]])
end
end L2
namespace L2
open PySem PySem.Spec PyProof.Rows
section
variable {Z:DC} {X:Cx} {B:Bs} {md:List Nat} {rn:Nat} {ρ:DN} {σ:St} {H G:Hp} {fp:Nat->List Addr}
def JA(Z:DC)(a:List Nat)(g:eX):TG:=λv f H Q=>∃(B:Bs)(b:DN)(d:D)(P:DN->Prop)(G:Hp)(h:Nat->List Addr),SIx Z B a b f H G h/\Dv Z G v d/\g d b P/\∀c,P c->∀e i,SIx Z B a c e H G i->Q e H
def N0(Z:DC)(a:List Nat)(g:mI):zl:=λf h H Q=>∃(B:Bs)(b:DN)(c:List D)(P:DN->Prop)(G:Hp)(i:Nat->List Addr),SIx Z B a b h H G i/\DvAll Z G f c/\g c b P/\∀d,P d->∀e j,SIx Z B a d e H G j->Q e H
def J0(Z:DC)(X:Cx)(a:List Nat)(e:Expr)(g:eX):Prop:=PG X e (JA Z a g)
def Ja(Z:DC)(X:Cx)(a:List Nat)(b:List Expr)(g:mI):Prop:=A9 X b (N0 Z a g)
def aK(i:Nat)(b:X.N.Nodup)(c:e.getD i 0=0:=by rfl)(f:X.N[i]? =some x:=by rfl)(g:Loc X.env.scope x:=by subst_eqs)(j:X.fn x=true\/X.env.scope.names.lookup x=some .local:=by subst_eqs):J0 Z X e (.Name x a) (rV i):=by
 refine(jV b f g j).imp λv m H Q k=>?_;rfl';obtain⟨B,o,d,P,G,p,S,dv,h,q⟩:=k;ac_rfl;exact q _ h _ _ (S.oU c dv)
def cQ:Ja Z X md [] MB:=by
 refine sZ.imp λv c H Q a=>?_;rfl';obtain⟨B,e,f,P,G,g,S,dv,⟨h,p⟩,q⟩:=a;subst h;cases dv;ac_rfl;exact#[rfl,q _ p _ _ S]
def aV(d:J0 Z X md e g)(f:Ja Z X md b c)(i:(assignEach (e::b) X.env).map (·.2)=assign e X.env::(assignEach b X.env).map (·.2):=by rfl):Ja Z X md (e::b) (Jo g c):=by
 refine(jD d f i).imp ?_;intro v t H Q j;rfl';obtain⟨B,l,w,P,G,m,S,dv,h,q⟩:=j;ac_rfl;cases dv with
 |nil=>exact h.elim
 |cons a n=>exact#[_,_,rfl,B,l,_,_,G,m,S,a,h,λo p x r s=>#[B,o,_,P,G,r,s,n,p,q]]
def fB(n:Nat)(f:X.calm=true)(h:Ja Z X md b e)(g:(assignEach b X.env).length=n:=by rfl)(i:(assignEach b X.env).findIdx? (·.1)=none:=by rfl):J0 Z X md (.Tuple b k c) (MC n e):=by
 refine(vY f h g i).imp ?_;rintro v p H Q ⟨B,j,d,P,G,l,S,dv,h,q⟩;cases dv<;>first|exact h.elim|skip
 rename_i a m r o b
 exact#[a,m,rfl,gm.of (S.ex.sub _ _ o),by rw[b.length];exact h.1,B,j,_,P,G,l,S,b,h.2,q]
def WC(b:List Nat)(c:aR)(g:eX):cx:=λE a=>c (cn b a) λd=>g d a E.nx
def BD(i:DE Z X e c)(j:J0 Z X md a g)(k:swapsWithSole [a] e b.line X.env=pure false:=by rfl)(hw:swappedStores [a] e X.env=pure none:=by rfl)
  (l:(assignEach [a] X.env).map (·.2)= [assign a X.env]:=by rfl):DSt Z X md rn (.Assign [a] e b) (WC md c g):=by
 refine(ju i j k hw l).imp ?_;intro D w H m;rfl';obtain⟨B,o,E,⟨G,p,S⟩,h,M⟩:=m;ac_rfl;exact S.ev false h λd q=>#[trivial,λv f z r x dv=>#[B,o,d,E.nx,f,p,r,dv,q,λA s C t u=>M.nx _ s _ _ #[f,t,u]]]
def qd(g:eX)(a:cx)(E:dE):List D->DN->Prop
 | [],b=>E.nx b
 |x::c,b=>g x b λd=>a {nx:=qd g a E c,ct:=qd g a E c,bk:=E.nx,rt:=E.rt,xc:=E.xc} d
def Sn(b:List Nat)(m:Bool)(c:jn)(g:eX)(d:cx):cx:=λE a=>c (IH b m a) λe=>qd g d E e a
def An(S:SIx Z B md h c H G fp)(O:we Z G J k)(P:qd g r E k h)(M:Meets Z X B md rn E q):
  ∃W:Nat->Nat->St->Hp->Prop,(∃m,W 0 m c H)/\∀i m c H,W i m c H->
   (J.stop i H/\q.nx c H)\/(J.go i H/\∃N:St->Hp->Prop,(∀j a,N j a->∃F,F<m/\W (i+1) F j a)/\∀x a,J.yld i H x a->JA Z md g x c a λI v=>l7 Z X md rn r {q with nx:=N,ct:=N,bk:=q.nx} I v):=by
 let p:Bs:={B with Gf:=G}
 have back:∀h c H,SI Z p md h c H->SI Z B md h c H:=λh c H #[s,t,f]=>#[s,t,#[f.ex,S.fl.trans f.fl,f.len,f.at_,f.nd,f.ap,f.nw]];have Q:SIx Z p md h c H G fp:=#[S.ex, .refl _,S.len,S.at_,S.nd,S.ap,S.nw];refine#[λi m c H=>m=k.length-i/\i<=k.length/\∃h,SI Z p md h c H/\qd g r E (k.drop i) h,#[_,rfl,fq _,h,#[G,fp,Q],P],?_];intro i m I v R;rfl';obtain⟨rfl,hi,U,⟨s,t,f⟩,u⟩:=R;obtain⟨Y,stop,yld⟩:=O s v f.fl f.ex.sub i;ac_rfl
 by_cases z:i<k.length
 .refine .inr #[Y z,λj a=>∃l,SI Z p md l j a/\qd g r E (k.drop (i+1)) l,λj a n=>#[k.length-(i+1),by lia,rfl,z,n],λx a y=>?_]
  rfl';obtain⟨L,d,x3,sC,dv⟩:=yld x a z y;rw[nz sC] at u;ac_rfl;refine#[p,U,d,_,L,t,f.grow x3,dv,u,λA h4 fQ C S4=>?_];exact#[p,A,_,#[L,C,S4],h4,#[λl o j a b=>#[l,b,o],M.rt,λl o j a b=>M.nx _ o _ _ (back _ _ _ b),λl o j a b=>#[l,b,o],λl d o j a G' qA a' b qw=>M.xc l d o j a G' qA a' #[b.ex,S.fl.trans b.fl,b.len,b.at_,b.nd,b.ap,b.nw] qw]]
 .have e:k.drop i= []:=zc (by lia)
  rw[e] at u;exact .inl #[stop (by lia),M.nx _ u _ _ (back _ _ _ #[s,t,f])]
variable {tg iter:Expr} {body:List Stmt} {wi:jn} {g:eX} {tb:cx} {pos:Pos}
def cO(a:X.calm=true)(b:PassesOwn (model X.prog X.w) X.A X.env X.xe)(c:DI Z X tg iter wi)(d:J0 Z X md tg g)(e:m9 Z X md rn body tb)
  (f:∀x,foldedSetIterable iter X.env x=pure x:=by intro _;rfl):DSt Z X md rn (.For tg iter body [] pos) (Sn md false wi g tb):=by
 refine(vZ b a c d e f).imp ?_;intro D n H i;rfl';obtain⟨B,p,E,⟨G,q,S⟩,h,M⟩:=i;ac_rfl;exact#[G,_,_,S.ex.sub,S.rY,h,λr k J s t l m=>An (S.grow l) m k M]
def QF(Z:DC)(d:jn):TI:=λe H R=>∃(G:Hp)(a:DN)(P:List D->Prop),aJ G H/\cL Z G e a/\d a P/\∀b,P b->∀J f c,Ext G H f c->(∀h,we Z h J b)->R J c
def Wa(Z:DC)(X:Cx)(a e:Expr)(b:jn):Prop:=PI X a e (QF Z b)
def Ez(a:X.calm=true)(b:PassesOwn (model X.prog X.w) X.A X.env X.xe)(c:Wa Z X tg iter wi)(d:J0 Z X md tg g)(e:m9 Z X md rn body tb)
  (f:∀x,foldedSetIterable iter X.env x=pure x:=by intro _;rfl):DSt Z X md rn (.For tg iter body [] pos) (Sn md true wi g tb):=by
 refine(vZ b a c d e f).imp ?_;intro D o H i;rfl';obtain⟨B,k,E,⟨G,q,S⟩,h,M⟩:=i;ac_rfl;exact#[H,k,_, .refl _,S.Jr,h,λr l J s t m n=>An (S.grow (Ext.all S.ex.sub m)) (n _) l M]
variable {a b e:Expr} {ta te:aR} {t:gH}
def qu(d:Gl X "range")(f:X.mg "range"=none)(i:DA Z X [a] t)(j:starEach [a] X.env= [(false,eval a X.env)]:=by rfl):Wa Z X tg (.Call (.Name "range" p) [a] [] pos) (WX t):=by
 refine(Ib d f i j).imp ?_;intro v H Q k;rfl';obtain⟨G,m,P,s,n,h,q⟩:=k;ac_rfl;refine#[G,m,_,s,n,h,λx c y o r u dv=>?_]
 split at c
 .obtain⟨_,rfl,a⟩:=dv.ofOne
  exact#[_,by rw[a.ofInt],c.1.1,c.1.2,q _ c.2 _ o r u λ_=>KP 0 _]
 .exact c.elim
def Jl(c:dP)(i:cx):cx:=λE d=>∃W:Nat->DN->Prop,(∃m,W m d)/\∀m d,W m d->c d λb=>if b=true then i {nx:=λh=>∃f,f<m/\W f h,ct:=λh=>∃f,f<m/\W f h,bk:=E.nx,rt:=E.rt,xc:=E.xc} d else E.nx d
def lu(z:PassesOwn (model X.prog X.w) X.A X.env X.xe)(C:DT Z X c tc)(l:m9 Z X md rn body tb):DSt Z X md rn (.While c body [] pos) (Jl tc tb):=by
 refine(Li z C l).imp ?_;intro D s H p;rfl';obtain⟨B,n,E,S,⟨W,⟨I,J⟩,h⟩,M⟩:=p;ac_rfl;refine#[λm s H=>∃n,SI Z B md n s H/\W m n,#[I,n,S,J],?_];intro m P Q p;rfl';obtain⟨u,⟨v,x,L⟩,N⟩:=p;ac_rfl;refine L.Xb (h m u N) λb l i y=>?_;cases b with
 |false=>exact cc (M.nx _ (l) _ _ #[v,x,y])
 |true=>
  refine bL #[λo i=>∃d f,f<m/\SI Z B md d o i/\W f d,λo i #[d,f,j,k,O]=>#[f,j,d,k,O],B,u,_,#[v,x,y],(l),?_];exact#[λd #[f,j,k] o i r=>#[d,f,j,r,k],M.rt,M.nx,λd #[f,j,k] o i r=>#[d,f,j,r,k],M.xc]
abbrev iz:=DN->(List D->Prop)->Prop
def uq(Z:DC)(n:Nat)(t:iz):TE:=λj H Q=>∃(G:Hp)(h:DN)(P:List D->Prop),aJ G H/\cL Z G j h/\t h P/\∀i,P i->∀v f d c,Ext G H d c->Own Z d c n v (.lst i) f->f.Nodup->(∀b∈f,H b=none/\c b≠none/\d b=none)->Q v c
def DF(Z:DC)(X:Cx)(n:Nat)(e:Expr)(t:iz):Prop:=PE X e (uq Z n t)
def Ext.side{o:HO}(x:Ext G H d c)(f:c p=none):Ext G H d (upd c p o):=
 #[x.gg,λb u e=>by rw[ax (aD e (x.sub.free f))];exact x.sub _ _ e,x.hh.trans (aO f _),x.off]
def Fs(x:Ext G H d f)(i:f p=none)(dv:DvAll Z d c h):
  Own Z d (upd f p (.lst c)) 1 (.ref p) (.lst h) [p]/\([p]:List Addr).Nodup/\∀b∈([p]:List Addr),H b=none/\(upd f p (.lst c)) b≠none/\d b=none:=by
 refine#[.inl #[p,c,h,[],rfl,rfl,av,rfl,dv.own],by simp,λb j=>?_]
 have:b=p:=by simpa using j
 subst this;exact#[x.hh.free i,(av▸λz=>nomatch z),x.sub.free i]
def Sx(t:gH):iz:=λd P=>t d λc=>c.length<=sizeLine/\P c
def fU(h:DA Z X c t):DF Z X 1 (.List c pos) (Sx t):=by
 refine(vX h).imp ?_;intro v H Q j;rfl';obtain⟨G,l,P,s,e,h,q⟩:=j;ac_rfl;exists G,l,_,s,e,h;rintro x ⟨m,n⟩ y z A d f;refine#[by rw[f.length];exact m,λp i=>?_]
 obtain⟨o,r,u⟩:=Fs d i f;exact q _ n _ _ _ _ (d.side i) o r u
def Ul(d:jn)(g:eX)(f:dP)(h:aR)(src:List (Option Nat)):iz:=λc P=>d c λi=>lcW g f h i (yD src c) [] λ_ out=>P out
def Fc:∀v H Q,uq Z 1 (Ul wi g u te src) v H Q->O9 (ur Z wi) (qJ Z g) (liftT Z u) (dY Z te) src v H Q:=by
 intro v H Q R;rfl';obtain⟨G,T,P,s,x,h,q⟩:=R;ac_rfl;refine#[G,T,_,s,x,h,λj U J E Y f F k y=>?_];refine#[λi m A l=>m=j.length-i/\i<=j.length/\∃p d,CS Z E Y k p d A l/\lcW g u te (j.drop i) p d λ_ out=>P out,#[_,rfl,fq _,_,[], .begin f.sub y ((x.mono f.gg).src src),U],?_];rintro i m A l ⟨rfl,hi,p,d,c,C⟩
 by_cases I:i<j.length
 .obtain⟨a,o⟩:=Ay y E F i p d A l c (λ_ s=>s) I C
  exact .inr #[a,_,λaz H' n=>#[j.length-(i+1),by lia,rfl,I,n],o]
 .have e:j.drop i= []:=zc (by lia)
  rfl';rw[e] at C;obtain⟨L,t,M,N,B,off,X,O,br,x⟩:=c;ac_rfl;refine .inl #[(F L l M N i).2.1 (by lia),q _ C (.ref k) [k] L l #[f.gg.trans M,N,f.hh.trans B,λb r hg=>off b (dO f.hh r) (f.off b r hg)] (.inl #[k,t,d,[],rfl,rfl,O,rfl,br.own]) (by simp) λb r=>?_]
  have:b=k:=by simpa using r
  subst this;exact#[f.hh.free y,(by rw[O];exact λz=>nomatch z),X]
variable {elt:Expr} {ifs:List Expr} {scope:Scope} {NC:List Str} {src:List (Option Nat)} {tt:dP}
def Ml(d:List Nat)(i:Nat)(t:iz):cx:=λE c=>t (cn d c) λf=>E.nx (c.set i (some (.lst f)))
def uv{t:iz}(p:md.getD i 0=n)(S:SIx Z B md ρ σ H G fp)(h:t (cn md ρ) λl=>E.nx (ρ.set i (some (.lst l))))(M:Meets Z X B md rn E k):uq Z n t σ H λv m=>k.nx (σ.set i (some v)) m:=by
 refine#[G,_,_,S.ex.sub,S.rY,h,λl q v f r m x o s d=>?_];refine M.nx _ q _ _ #[r,_,(S.grow x).OX p o s (λb c=>#[S.ex.hh.free (d b c).1,(d b c).2]) λb c j _ u=>(S.nw j b u).2.1 (d b c).1]
def gF(i:Nat){t:iz}(j:X.N.Nodup)(k:DF Z X n e t)(l:f.getD i 0=n:=by rfl)(m:X.N[i]? =some x:=by rfl)(o:Loc X.env.scope x:=by subst_eqs)(p:swapsWith e (some (.Name x c)) d.line X.env=pure false:=by rfl)
  (q:X.fn x=true\/X.env.scope.names.lookup x=some .local:=by subst_eqs):DSt Z X f u (.Assign [.Name x c] e d) (Ml f i t):=by
 refine(jv j m o k p q).imp ?_;intro D v H r;rfl';obtain⟨B,y,E,⟨G,z,S⟩,h,M⟩:=r;ac_rfl;exact uv l S h M
def Km(i:Nat)(k:X.calm=true)(l:X.N.Nodup)(c:cE X scope)(m:dF scope X.N src NC)(n:DI Z X tg iter wi)
  (o:∀d s H,DG Z (dj X scope NC d s H) tg g) (p:∀d s H,D1 Z (dj X scope NC d s H) ifs tt) (q:∀d s H,DE Z (dj X scope NC d s H) elt te)
  (r:swapsWith (.ListComp elt [#[tg,iter,ifs,0]] scope pos) (some (.Name x f)) j.line X.env=pure true:=by rfl) (u:md.getD i 0=1:=by rfl) (v:X.N[i]? =some x:=by rfl) (w:Loc X.env.scope x:=by subst_eqs)
  (y:X.fn x=true\/X.env.scope.names.lookup x=some .local:=by subst_eqs)
  (z:∀x,foldedSetIterable iter X.env x=pure x:=by intro _;rfl):DSt Z X md rn (.Assign [.Name x f] (.ListComp elt [#[tg,iter,ifs,0]] scope pos) j) (Ml md i (Ul wi g tt te src)):=by
 refine(uy k l v w c m n o p q r y z).imp ?_;intro D A H C;rfl';obtain⟨B,J,E,⟨G,L,S⟩,h,M⟩:=C;ac_rfl;exact Fc A H _ (uv u S h M)
end
section
variable {Z:DC} {X:Cx} {B:Bs} {md:List Nat} {rn:Nat} {ρ:DN} {σ:St} {H G:Hp} {fp:Nat->List Addr} {a e k o:Expr} {ta te tk tp:aR} {pos apos aB p2:Pos}
def SIx.mut{b:Addr}(S:SIx Z B md ρ σ H G fp)(r:σ[i]? =some (some v))(n:b∈fp i)(o:Own Z G (upd H b c) (md.getD i 0) v m (fp i)):SIx Z B md (ρ.set i (some m)) σ (upd H b c) G fp where
 ex:=by
  obtain⟨d,p,f⟩:=S.nw i b n;exact#[S.ex.gg,λx u e=>by rw[ax (aD e f)];exact S.ex.sub _ _ e,λx u e=>by rw[ax (aD e d)];exact S.ex.hh _ _ e,S.ex.off]
 fl:=S.fl
 len:=by rw[fJ];exact S.len
 at_:=λj w h=>by
  by_cases z:i=j
  .subst z
   by_cases g:i<ρ.length
   .rw[ji g] at h
    cases Fk h;exact#[v,r,o]
   .rw[za (i4 g),j7 (i4 g)] at h;cases h
  .rw[jj z] at h
   obtain⟨u,s,t⟩:=S.at_ j w h;exact#[u,s,t.keep (.refl _) λx l=>ax λq=>S.ap i j b z n (q▸l)]
 nd:=S.nd
 ap:=S.ap
 nw:=λj x l=>by
  obtain⟨d,p,f⟩:=S.nw j x l;refine#[d,?_,f]
  by_cases z:x=b
  .rw[z,av];exact λq=>nomatch q
  .rw[ax z];exact p
theorem SIx.one{i:Nat}{d:D}(S:SIx Z B md ρ σ H G fp)(j:md.getD i 0=1)(h:ρ[i]? =some (some d)):∃l b c,d= .lst c/\σ[i]? =some (some (.ref l))/\H l=some (.lst b)/\DvAll Z G b c/\
  ∀f g,DvAll Z G f g->SIx Z B md (ρ.set i (some (.lst g))) σ (upd H l (.lst f)) G fp:=by
 rfl';obtain⟨v,m,o⟩:=S.at_ i d h;rw[j] at o;obtain⟨l,b,c,u,rfl,rfl,q,n,r⟩:=o.one;obtain⟨dv,rfl⟩:=r.flat;ac_rfl;refine#[l,b,c,rfl,m,q,dv,λf g s=>S.mut m (by rw[n];simp) ?_]
 rw[j,n];exact .inl #[l,f,g,[],rfl,rfl,av,rfl,s.own]
def ty_list{K:ac}{l:Addr}{b:List V}(h:H l=some (.lst b)):RU K "list" (.ref l) H:= .inl #[rfl,_,cy.of h]
def WB(f:List Nat)(m:Bool)(i:Nat)(g:aR):cx:=λE b=>∃c,b[i]? =some (some (.lst c))/\g (IH f m b) λd=>rZ m d/\c.length<sizeLine/\E.nx (b.set i (some (.lst (c++ [d]))))
def pz(m:Bool)(i:Nat)(t:DE Z X e te)(g:md.getD i 0=1:=by rfl)(u:X.N[i]? =some x:=by rfl)(w:lR X.env.scope x:=by subst_eqs)(f:(x==("__debug__":Str))=false:=by decide)(y:(x==("__classdict__":Str))=false:=by decide)
  (z:attributeBase (.Name x b) "append" X.env (eval (.Name x b) X.env)=eval (.Name x b) X.env:=by rfl)
  (A:((backTo aB (starEach [e] X.env)).all (λx=>!x.1)&&(backToKw aB (keywordEach [] X.env)).all (λx=>x.1.isSome)&&decide (([e]:List Expr).length+([]:List Keyword).length+(if ([]:List Keyword).isEmpty then 0 else 1)<30))=true:=by rfl)
  (C:(apos.endLine==aB.line)=true:=by rfl) (j:starEach [e] X.env=(false,eval e X.env)::starEach [] X.env:=by rfl) (F:(backTo aB (starEach [] X.env)).any (·.1)=false:=by rfl)
  (I:swapsWith (.Call (.Attribute (.Name x b) "append" apos) [e] [] aB) none pos.line X.env=pure false:=by rfl):
  DSt Z X md rn (.Expr (.Call (.Attribute (.Name x b) "append" apos) [e] [] aB) pos) (WB md m i te):=by
 refine(fO (oi Pi aaZ aa0 jS (pv i u w f y) (bq t cp j) z A C j F) I).imp ?_;intro D k H J;rfl';obtain⟨B,o,E,⟨G,L,S⟩,⟨ds,p,h⟩,M⟩:=J;ac_rfl;rfl';obtain⟨l,xs,_,_,q,O,_⟩:=S.one g p;ac_rfl;refine#[_,q,ty_list O,S.ev m h λd f=>#[f.1,λv P H' Q x dv=>?_]];rfl';obtain⟨_,R,T⟩:=f;obtain⟨l',U,m6,Y,r,a,s,put⟩:=Q.one g p;cases Y;ac_rfl;rw[q] at r;cases r;exact#[l,U,v,rfl,rfl,a,by rw[s.length];exact R,M.nx _ T _ _ #[P,L,put _ _ (s.snoc dv)]]
theorem DvAll.ins{b:List V}{c:List D}{v:V}{d:D}(n:Nat)(h:DvAll Z G b c)(dv:Dv Z G v d):DvAll Z G (Wb.ins b n v) (Wb.ins c n d):=(h.take n).append (.cons dv (h.drop n))
def WG(f:List Nat)(m:Bool)(i:Nat)(g h:aR):cx:=λE b=>∃c,b[i]? =some (some (.lst c))/\g b λj=>∃k,j= .int k/\h (IH f m b) λd=>rZ m d/\(0<=k/\k<=c.length/\c.length<sizeLine)/\E.nx (b.set i (some (.lst (Wb.ins c k.toNat d))))
def PY(m:Bool)(i:Nat)(u:DE Z X k tk)(w:DE Z X e te)(n:md.getD i 0=1:=by rfl)(y:X.N[i]? =some x:=by rfl)(z:lR X.env.scope x:=by subst_eqs)(f:(x==("__debug__":Str))=false:=by decide)(A:(x==("__classdict__":Str))=false:=by decide)
  (C:attributeBase (.Name x b) "insert" X.env (eval (.Name x b) X.env)=eval (.Name x b) X.env:=by rfl)
  (F:((backTo aB (starEach [k,e] X.env)).all (λx=>!x.1)&&(backToKw aB (keywordEach [] X.env)).all (λx=>x.1.isSome)&&decide (([k,e]:List Expr).length+([]:List Keyword).length+(if ([]:List Keyword).isEmpty then 0 else 1)<30))=true:=by rfl)
  (I:(apos.endLine==aB.line)=true:=by rfl) (p:starEach [k,e] X.env=(false,eval k X.env)::starEach [e] X.env:=by rfl) (J:starEach [e] X.env=(false,eval e X.env)::starEach [] X.env:=by rfl) (L:(backTo aB (starEach [e] X.env)).any (·.1)=false:=by rfl)
  (O:swapsWith (.Call (.Attribute (.Name x b) "insert" apos) [k,e] [] aB) none pos.line X.env=pure false:=by rfl):
  DSt Z X md rn (.Expr (.Call (.Attribute (.Name x b) "insert" apos) [k,e] [] aB) pos) (WG md m i tk te):=by
 refine(fO (oi Pi ace acf xY (pv i y z f A) (bq u (bq w cp J) p) C F I p L) O).imp ?_;intro D σ H P;rfl';obtain⟨B,ρ,E,⟨G,Q,S⟩,⟨ds,r,h⟩,M⟩:=P;ac_rfl;rfl';obtain⟨l,xs,_,_,s,R,_⟩:=S.one n r;ac_rfl;refine#[_,s,ty_list R,S.ev true h ?_];rintro _ ⟨k,rfl,h⟩;refine#[rfl,λv1 G1 H1 T x1 U=>T.ev m h λd f=>#[f.1,λv Y H' a x dv=>?_]];rfl';cases U.ofInt;obtain⟨_,⟨o,g,Xp⟩,h3⟩:=f;obtain⟨l',gO,m6,e1,t,GR,j,put⟩:=a.one n r;cases e1;ac_rfl;rw[s] at t;cases t;exact#[l,gO,k,v,rfl,rfl,GR,o,by rw[j.length];exact g,by rw[j.length];exact Xp,M.nx _ h3 _ _ #[Y,Q,put _ _ (j.ins _ dv)]]
def Jc{j n:Nat}(d:b.length=n)(h:kh n i=some j)(e:b[j]? =some v):dR b i=some v:=by unfold dR;rw[d,h];exact e
def PJ(f:List Nat)(m:Bool)(i:Nat)(g h:aR):cx:=λE b=>h (IH f m b) λd=>rZ m d/\∃c,b[i]? =some (some (.lst c))/\g b λl=>∃k j,l= .int k/\kh c.length k=some j/\E.nx (b.set i (some (.lst (c.set j d))))
def Ac(m:Bool)(i:Nat)(z:DE Z X k tk)(A:DE Z X e te)(r:md.getD i 0=1:=by rfl)(C:X.N[i]? =some x:=by rfl)(F:lR X.env.scope x:=by subst_eqs)(g:(x==("__debug__":Str))=false:=by decide)(I:(x==("__classdict__":Str))=false:=by decide)
  (J:∀v,assign (.Subscript (.Name x b) k c) X.env v=(do
   let n <-holding [v] (eval (.Name x b) X.env)
   let q <-holding [v,n] (eval k X.env)
   standAt c
   holding [v,n,q] (setItem n q v)
   release [v,n,q] []):=by intro _;rfl)
  (L:swapsWithSole [.Subscript (.Name x b) k c] e pos.line X.env=pure false:=by rfl) (hw:swappedStores [.Subscript (.Name x b) k c] e X.env=pure none:=by rfl)
  (p:(assignEach [.Subscript (.Name x b) k c] X.env).map (·.2)= [assign (.Subscript (.Name x b) k c) X.env]:=by rfl):DSt Z X md rn (.Assign [.Subscript (.Name x b) k c] e pos) (PJ md m i tk te):=by
 refine(ju A (mv (pv i C F g I) z set_list J) L hw p).imp ?_;intro D σ H O;rfl';obtain⟨B,ρ,E,⟨G,P,S⟩,h,M⟩:=O;ac_rfl;refine S.ev m h λd g=>#[g.1,λv G' H' t x dv=>?_];rfl';obtain⟨_,ds,p,h⟩:=g;obtain⟨l,xs,_,_,u,e3,_⟩:=t.one r p;ac_rfl;refine#[_,u,t.ev true h ?_];rintro _ ⟨k,j,rfl,Q,R⟩;refine#[rfl,λv1 T H1 U Y a=>?_];rfl';cases a.ofInt;obtain⟨l',o,m6,e1,w,GR,y,put⟩:=U.one r p;cases e1;ac_rfl;rw[u] at w;cases w;exact#[l,o,k,j,rfl,rfl,GR,by rw[y.length];exact Q,M.nx _ R _ _ #[T,P,put _ _ (y.set (dv.mono Y.gg) j)]]
def WQ(f:List Nat)(i j:Nat):cx:=λE b=>∃c d,b[j]? =some (some (.lst (c++ [d])))/\E.nx ((b.set j (some (.lst c))).set i (some d))
def PZ(i j:Nat)(u:X.N.Nodup)(w:f.getD i 0=0:=by rfl)(z:f.getD j 0=1:=by rfl)(A:X.N[i]? =some x:=by rfl)(C:Loc X.env.scope x:=by subst_eqs)
  (I:X.N[j]? =some y:=by rfl) (J:lR X.env.scope y:=by subst_eqs) (L:(y==("__debug__":Str))=false:=by decide) (O:(y==("__classdict__":Str))=false:=by decide)
  (P:attributeBase (.Name y py) "pop" X.env (eval (.Name y py) X.env)=eval (.Name y py) X.env:=by rfl) (Q:(b.endLine==r.line)=true:=by rfl)
  (R:swapsWith (.Call (.Attribute (.Name y py) "pop" b) [] [] r) (some (.Name x q)) g.line X.env=pure false:=by rfl)
  (T:X.fn x=true\/X.env.scope.names.lookup x=some .local:=by subst_eqs):DSt Z X f rn (.Assign [.Name x q] (.Call (.Attribute (.Name y py) "pop" b) [] [] r) g) (WQ f i j):=by
 refine(jv u A C (Q0 Pi PySem.F.slot_list_pop PySem.F.type_list_pop QJ (pv j I J L O) P Q) R T).imp ?_;intro D σ H U;rfl';obtain⟨B,ρ,E,⟨G,fp,S⟩,⟨n,d,a,h⟩,M⟩:=U;ac_rfl;rfl';obtain⟨l,c,m6,e,k,s,p,put⟩:=S.one z a;cases e;have t:c.length=n.length+1:=by rw[p.length];simp
 obtain⟨v,o,dv⟩:=p.get (i:=c.length-1) (d:=d) (by rw[t];simp)
 ac_rfl;refine#[_,k,ty_list s,l,c,v,rfl,rfl,s,o,M.nx _ h _ _ #[G,_,(put c.dropLast n ?_).oU w dv]]
 have:=p.take n.length
 rw[List.take_left'] at this
 .rw[List.dropLast_eq_take,t];exact this
 .rfl
def SIx.JL(S:SIx Z B md ρ σ H G fp)(h:ρ[j]? =some (some d)):∃v,σ[j]? =some (some v)/\Dv Z (plus G H λb=>b∈fp j) v d/\SIx Z B md (ρ.set j none) σ H (plus G H λb=>b∈fp j) (λk=>if k=j then[] else fp k):=by
 have s:=S.ex.sub;obtain⟨v,m,o⟩:=S.at_ j d h;refine#[v,m,o.dv (fu s) λb g u e=>by rw[lJ g];exact e,?_]
 refine#[#[S.ex.gg.trans (fu s),jE s,S.ex.hh,λb g n=>?_],S.fl.trans (fu s),by rw[fJ];exact S.len,λk c f=>?_,λk=>by split;exact gB;exact S.nd k,λk p b ne f i=>?_,λk b g=>?_]
 .rw[iI (λz=>g (S.nw j b z).1)];exact S.ex.off b g n
 .by_cases z:j=k
  .subst z
   by_cases l:j<ρ.length
   .rw[ji l] at f;cases f
   .rw[za (i4 l),j7 (i4 l)] at f;cases f
  .rw[jj z] at f
   obtain⟨u,q,r⟩:=S.at_ k c f;exact#[u,q,by rw[mo (Ne.symm z)];exact r.keep (fu s) λ_ _=>rfl]
 .split at f
  .cases f
  .split at i
   .cases i
   .exact S.ap k p b ne f i
 .split at g
  .cases g
  .next z=>
   obtain⟨t,x,y⟩:=S.nw k b g;exact#[t,x,by rw[iI (λw=>S.ap k j b z g w)];exact y]
def Tz(f:List Nat)(i j:Nat):cx:=λE b=>∃c d,b[i]? =some (some (.lst c))/\b[j]? =some (some d)/\c.length<sizeLine/\E.nx ((b.set j none).set i (some (.lst (c++ [d]))))
def MF(i j:Nat)(q:i≠j:=by decide)(r:md.getD i 0=1:=by rfl)(s:X.N[j]? =some y:=by rfl)(c:lR X.env.scope y:=by subst_eqs)(f:(y==("__debug__":Str))=false:=by decide)(t:(y==("__classdict__":Str))=false:=by decide)(u:X.N[i]? =some x:=by rfl)(w:lR X.env.scope x:=by subst_eqs)(z:(x==("__debug__":Str))=false:=by decide)(A:(x==("__classdict__":Str))=false:=by decide)
  (C:attributeBase (.Name x b) "append" X.env (eval (.Name x b) X.env)=eval (.Name x b) X.env:=by rfl)
  (F:((backTo aB (starEach [.Name y py] X.env)).all (λx=>!x.1)&&(backToKw aB (keywordEach [] X.env)).all (λx=>x.1.isSome)&&decide (([.Name y py]:List Expr).length+([]:List Keyword).length+(if ([]:List Keyword).isEmpty then 0 else 1)<30))=true:=by rfl)
  (I:(apos.endLine==aB.line)=true:=by rfl) (m:starEach [.Name y py] X.env=(false,eval (.Name y py) X.env)::starEach [] X.env:=by rfl) (J:(backTo aB (starEach [] X.env)).any (·.1)=false:=by rfl)
  (L:swapsWith (.Call (.Attribute (.Name x b) "append" apos) [.Name y py] [] aB) none pos.line X.env=pure false:=by rfl):
  DSt Z X md rn (.Expr (.Call (.Attribute (.Name x b) "append" apos) [.Name y py] [] aB) pos) (Tz md i j):=by
 refine(fO (oi Pi aaZ aa0 jS (pv i u w z A) (bq (pv j s c f t) cp m) C F I m J) L).imp ?_;intro D σ H O;rfl';obtain⟨B,Q,E,⟨G,fp,S⟩,⟨R,d,T,U,Y,h⟩,M⟩:=O;ac_rfl;rfl';obtain⟨v,a,dv,e⟩:=S.JL U;have k:(Q.set j none)[i]? =some (some (.lst R)):=by rw[jj (Ne.symm q)];exact T
 obtain⟨l,o,m6,e1,e2,n,p,put⟩:=e.one r k;cases e1;ac_rfl;exact#[_,e2,ty_list n,_,a,l,o,v,rfl,rfl,n,by rw[p.length];exact Y,M.nx _ h _ _ #[_,_,put _ _ (p.snoc dv)]]
end
structure V7 (mg:Str->Option Value):Prop where
 len:mg "len"=none
 range:mg "range"=none
 max:mg "max"=none
 min:mg "min"=none
 enumerate:mg "enumerate"=none
 zip:mg "zip"=none
 sorted:mg "sorted"=none
 all:mg "all"=none
 isinstance:mg "isinstance"=none
 int:mg "int"=none
 bool:mg "bool"=none
 list:mg "list"=none
 tuple:mg "tuple"=none
 sum:mg "sum"=none
 reversed:mg "reversed"=none
def Jf:bootBuiltins "max"=some (.builtin "max"):=by decide+kernel
def Jg:bootBuiltins "min"=some (.builtin "min"):=by decide+kernel
def LY:bootBuiltins "bool"=some (.type "bool"):=by decide+kernel
def Px:bootBuiltins "int"=some (.type "int"):=by decide+kernel
def nk:bootBuiltins "list"=some (.type "list"):=by decide+kernel
def lS:bootBuiltins "sorted"=some (.builtin "sorted"):=by decide+kernel
def bx:bootBuiltins "len"=some (.builtin "len"):=by decide+kernel
section
variable {P:Program} {w:World} {K:ac} {mg:Str->Option Value} {base:Heap} {Z:DC}
def mG(N:List Str)(a:List D):DN:=a.map some++am (N.length-a.length) none
def fh(Z:DC)(n:Nat)(g:cH):Sp:=λh H Q _=>∃(G:Hp)(e:List D)(P:D->Prop),aJ G H/\DvAll Z G h e/\g e P/\∀d,P d->∀v f c a,Ext G H c a->Own Z c a n v d f->f.Nodup->(∀b∈f,H b=none/\a b≠none/\c b=none)->Q v a
def Own.pure(x:Ext G H c a)(o:Own Z c a n v d f)(i:∀b∈f,H b=none/\a b≠none/\c b=none):∃h,Ext G H h a/\Dv Z h v d:=by
 refine#[plus c a λb=>b∈f,#[x.gg.trans (fu x.sub),jE x.sub,x.hh,λb g j=>?_],o.dv (fu x.sub) λb g u e=>by rw[lJ g];exact e]
 rw[iI (λz=>g (i b z).1)];exact x.off b g j
def RB:∀a H Q E,bg Z b a H Q E->fh Z n b a H Q E:=by
 intro a H Q E c;rfl';obtain⟨G,g,P,s,dv,h,q⟩:=c;ac_rfl;exact#[G,g,P,s,dv,h,λd i v f t j x o u k=>let #[l,m,p]:=o.pure x k;q d i v l j m p]
theorem jA(l:Nat){x a:Str}{st:Stmt}{f:Addr}{n:FuncData}{N g:List Str}{k:Nat}{m:cH}(F:rA K x a st f n)(S:aF N g (aw st))(o:List Nat)(u:∀i,i<g.length->o.getD i 0=0)(len:∀c P,m c P->c.length=g.length)
  (y:∀(j:Value)(A:Around)(outer:List Env)(s:Shared)(H:Hp)(E:XK)(c:List D)(R:D->Prop),bN k (A.deeper (envOfC a (aw st) s.heap.objs.size f j))->m c R->
   ∃t,m9 Z (kv cg P w K mg base N a (aw st) f j A outer s H E).kR o l (dM st) t/\t {nx:=λ_=>l=0/\R .bb,rt:=R} (mG N c)):FnOk P w K mg base cg (k+1) f n g (fh Z l m):=by
 refine F.ok S (λB H Q E h=>?_) (λj A outer s H B Q E C h=>?_)
 .obtain⟨G,c,R,s,dv,h,q⟩:=h
  rw[dv.length];exact len _ _ h
 rfl';obtain⟨G,c,R,J,dv,h,q⟩:=h;have L:=q;obtain⟨t,M,O⟩:=y j A outer s H E c R C h;have hl:=len _ _ h;ac_rfl;refine#[_,M,#[G,H,G],_,_,#[G,λ_=> [],?_],O,#[λρ p az T #[U,fp,X]=>q _ p.2 _ [] U T X.ex (by rw[p.1];exact#[.bb,rfl]) gB (λb Y=>by cases Y),L,λ_ z=>z.elim,λ_ z=>z.elim,λ_ _ z=>z.elim]]
 refine#[.refl J, .refl _,by unfold mG start;simp[dv.length],λi d e=>?_,λ_=>gB,(λ_ _ _ _ z=>by cases z),(λ_ _ z=>by cases z)]
 unfold mG at e
 have r:i<c.length:=by
  apply Gc;intro z;rw[mW (by simpa using i4 z),vd] at e
  split at e<;>cases e
 rw[kL (by simpa using r),df] at e
 have iU:c[i]? =some d:=by
  cases z:c[i]? with
  |none=>rw[z] at e;cases e
  |some d'=>rw[z] at e;cases e;rfl
 obtain⟨v,hv,qw⟩:=dv.get iU;refine#[v,?_,by rw[u i (by lia)];exact#[qw,rfl]]
 unfold start;rw[kL (by simpa [dv.length] using r),df,hv];rfl
def bD{x c:Str}{st:Stmt}{f:Addr}{m:FuncData}{N e:List Str}{k:Nat}{j:cH}(F:rA K x c st f m)(S:aF N e (aw st))(l:List Nat)(n:∀i,i<e.length->l.getD i 0=0)(len:∀d P,j d P->d.length=e.length)
  (o:∀(g:Value)(A:Around)(outer:List Env)(s:Shared)(H:Hp)(E:XK)(d:List D)(R:D->Prop),bN k (A.deeper (envOfC c (aw st) s.heap.objs.size f g))->j d R->
   ∃t,m9 Z (kv cg P w K mg base N c (aw st) f g A outer s H E).kR l 0 (dM st) t/\t {nx:=λ_=>0=0/\R .bb,rt:=R} (mG N d)):FnOk P w K mg base cg (k+1) f m e (bg Z j):=
 (jA 0 F S l n len λg A outer s H E d R p h=>let #[t,a,b]:=o g A outer s H E d R p h;#[t,a,b]).imp RB
end
section
variable {Z:DC} {X:Cx} {a b c e o:Expr} {ta tb te:aR} {t:gH} {es:List Expr} {pos apos:Pos}
def WL(f:aR):aR:=λg P=>f g λd=>match d with
 | .int i=>P (.int (-i))
 |_=>False
def PM(g:DE Z X a ta):DE Z X (.UnaryOp .USub a pos) (WL ta):=by
 refine(Vt RV g).imp ?_;intro r H Q i;rfl';obtain⟨G,k,P,s,l,h,q⟩:=i;ac_rfl;refine#[G,k,_,s,l,h,λd f v m n p dv=>?_];cases dv<;>first|exact f.elim|skip
 exact#[_,rfl,q _ f _ m n p (.int _)]
def Tr:cH:=λd P=>∃i j,d= [.int i, .int j]/\P (.int (if j<i then j else i))
def Tq:cH:=λd P=>∃i j,d= [.int i, .int j]/\P (.int (if j>i then j else i))
def F3(h:DvAll Z G d [.int i, .int j]):d= [.int i, .int j]:=by
 cases h with
 |cons a f=>
  cases f with
  |cons b bs=>cases bs;cases a;cases b;rfl
def Ep(d:X.calm=true):CallR X (.builtin "max") (iG Z Tq):=by
 refine(GB d).imp ?_;intro k H Q f;rfl';obtain⟨G,m,P,s,dv,⟨i,j,rfl,h⟩,q⟩:=f;ac_rfl;exact#[i,j,F3 dv,q _ h _ G H (.refl s) (.int _)]
def L7(d:X.calm=true):CallR X (.builtin "min") (iG Z Tr):=by
 refine(GC d).imp ?_;intro k H Q f;rfl';obtain⟨G,m,P,s,dv,⟨i,j,rfl,h⟩,q⟩:=f;ac_rfl;exact#[i,j,F3 dv,q _ h _ G H (.refl s) (.int _)]
theorem lA:∀{d:List V}{f:List Int},DvAll Z G d (f.map D.int)->d=f.map V.int
 |d,[],h=>by cases h;rfl
 |d,b::bs,h=>by
  cases h with
  |cons a g=>cases a;rw[lA g];rfl
def Je:cH:=λg P=>∃d:List Int,g= [.lst (d.map D.int)]/\d.length<64/\∀f:List Int,f.Perm d->f.Pairwise (·<=·)->P (.lst (f.map D.int))
def Kd:CallR X (.builtin "sorted") (iG Z Je):=by
 refine zt.imp ?_;rintro n H Q ⟨G,r,P,s,dv,⟨f,rfl,g,i⟩,q⟩;cases dv with
 |cons a j=>
  cases j;cases a with
  |lst h e=>
   refine#[_,f,rfl,cy.of (lA e▸s _ _ h),g,λp d k l m=>?_];exact q _ (i d l m) _ _ _ (.new s k) (.lst av (.ints d))
def pairD(k:Nat×Nat):D:= .tup [.int (k.1:Nat), .int (k.2:Nat)]
def Pw:cH:=λg P=>∃d:List (Nat×Nat),g= [.lst (d.map pairD)]/\d.length<=1000/\∀f:List (Nat×Nat),f.Perm d->f.Pairwise Wb.lexLe->P (.lst (f.map pairD))
theorem Ag:∀{d:List V}{f:List (Nat×Nat)},DvAll Z G d (f.map pairD)->∃L:List (Addr×(Nat×Nat)),d=L.map (λe=>V.ref e.1)/\L.map (·.2)=f/\D7 G L
 |d,[],h=>by cases h;exact#[[],rfl,rfl,λp g=>by cases g]
 |d,n::f,h=>by
  cases h with
  |cons a j=>
   obtain⟨L,k,l,m⟩:=Ag j;unfold pairD at a;cases a with
   | @tup p r x g e=>
    refine#[(p,n)::L,by rw[k];rfl,by rw[<-l];rfl,λq i=>?_]
    rcases eF.mp i with rfl|i
    .have:r=ux n:=by
      cases e with
      |cons s u=>
       cases u with
       |cons v w=>cases s;cases v;cases w;rfl
     rw[<-this];exact g
    .exact m q i
theorem D7.dv:∀{L:List (Addr×(Nat×Nat))},D7 G L->DvAll Z G (L.map λe=>V.ref e.1) ((L.map (·.2)).map pairD)
 | [],_=> .nil
 |x::L,h=> .cons (.tup (h x (dq ..)) (.cons (.int _) (.cons (.int _) .nil))) (D7.dv λp d=>h p (eJ _ d))
def z7:CallR X (.builtin "sorted") (iG Z Pw):=by
 refine zu.imp ?_;rintro w H Q ⟨G,l,P,s,dv,⟨f,rfl,y,d⟩,q⟩;cases dv with
 |cons a m=>
  cases m;cases a with
  | @lst p z l h e=>
   obtain⟨L,rfl,g,i⟩:=Ag e;have A:L.length=f.length:=by rw[<-g];simp
   refine#[_,L,rfl,cy.of (s _ _ h),λp d=>s _ _ (i p d),by lia,λp M j k n=>?_]
   have r:(M.map (·.2)).Perm f:=by rw[<-g];exact k.map _
   have u:D7 (upd G p (.lst (M.map λe=>V.ref e.1))) M:=λx v=>aO (s.free j) _ _ _ (i x (k.mem_iff.mp v));exact q _ (d _ r n) _ _ _ (.new s j) (.lst av u.dv)
def PC(g h:aR):aR:=λf P=>g f λd=>∃l,d= .lst l/\h f λy=>e9 y=true/\l.all e9=true/\∃(j:Nat)(z:D),l[j]? =some z/\kA z y=true/\(∀(m:Nat) z,m<j->l[m]? =some z->kA z y=false)/\P (.int (j:Nat))
theorem lh(E:DE Z X o ta)(F:DE Z X e tb)
  (I:attributeBase o "index" X.env (eval o X.env)=eval o X.env:=by rfl)
  (J:((backTo d (starEach [e] X.env)).all (λx=>!x.1)&&(backToKw d (keywordEach [] X.env)).all (λx=>x.1.isSome)&&decide (([e]:List Expr).length+([]:List Keyword).length+(if ([]:List Keyword).isEmpty then 0 else 1)<30))=true:=by rfl)
  (L:(apos.endLine==d.line)=true:=by rfl) (r:starEach [e] X.env=(false,eval e X.env)::starEach [] X.env:=by rfl) (M:(backTo d (starEach [] X.env)).any (·.1)=false:=by rfl):
  DE Z X (.Call (.Attribute o "index" apos) [e] [] d) (PC ta tb):=by
 refine(oi Pi acn aco K0 E (bq F cp r) I J L r M).imp ?_;intro σ H Q N;rfl';obtain⟨G,A,P,s,B,h,q⟩:=N;ac_rfl;exists G,A,_,s,B,h;rintro _ ⟨l,rfl,R⟩ v S H1 f dv;cases dv with
 | @lst p T ds C e=>
  refine#[ty_list (f.sub _ _ C),S,A,_,f.sub,B.mono f.gg,R,λy U u Y a i k=>?_];rfl';obtain⟨b,c,j,z,t,h4,h5,h6⟩:=U;have n:=e.mono i.gg;obtain⟨w,hw,dw⟩:=n.get t;ac_rfl;refine#[p,T,u,j,w,rfl,rfl,i.hh _ _ (f.sub _ _ C),by rw[r6 k];exact b,by rw[nK n];exact c,hw,by rw[BF dw k];exact h4,λm z' hm hz=>?_,q _ h6 _ Y a (f.trans i) (.int _)]
  obtain⟨d',iU,qw⟩:=n.Na hz;rw[BF qw k];exact h5 m d' hm iU
end
structure Ea (Z:DC):Prop where
 cl:wb Z.K Z.C
 nR:gE Z.K Z.C "rows"
section
variable {Z:DC} {X:Cx} {a b c e o:Expr} {ta tb te:aR} {t:gH} {es:List Expr} {pos apos:Pos}
def TY(f:aR):aR:=λg P=>f g λd=>∃w,d= .cD w/\P (aQ w)
def lj(T:Ea Z)(i:DE Z X o ta)(d:X.K=Z.K:=by rfl)(j:attributeBase o "rows" X.env (eval o X.env)=eval o X.env:=by rfl):DE Z X (.Attribute o "rows" apos) (TY ta):=by
 refine(Q3 i j).imp ?_;intro B H Q k;rfl';obtain⟨G,m,P,s,n,h,q⟩:=k;ac_rfl;exists G,m,_,s,n,h;rintro _ ⟨w,rfl,r⟩ v u x f dv;cases dv with
 | @cD p y R w z A g F I=>exact#[p,Z.C,y,_, .ref R,rfl,f.sub _ _ z,by rw[d];exact T.cl,by rw[d];exact T.nR,rfl,q _ r _ u x f A]
def GI(g:cH)(h:aR)(t:gH):aR:=λf P=>h f λd=>∃w,d= .cD w/\t f λi=>g (.cD w::i) P
def AB(x:([("rows",V.ref 0)]:List (Str×V)).lookup m=none):∀j H Q,dY Z (GI i ta t) j H Q->Iz Z.C m (bg Z i) [] E0 (dY Z ta) (CF Z t) j H Q:=by
 intro j H Q y;rfl';obtain⟨G,r,P,s,u,h,q⟩:=y;ac_rfl;exists G,r,_,s,u,h;rintro _ ⟨w,rfl,k⟩ v B b f dv;have E:=dv;cases dv with
 | @cD p F R w I c g e o=>
  refine#[p,F,_,rfl,f.sub _ _ I,?_,B,r,_,f.sub,u.mono f.gg,k,λX J L M N l O=>?_]
  .have S:(m==("rows":Str))=false:=by
    cases z:(m==("rows":Str)) with
    |false=>rfl
    |true=>simp[aP,z] at x
   simp[aP,S]
  .show bg Z i (V.ref p::(L++ [])) N Q E0
   rw[fI];exact#[M,_,P,l.sub, .cons (E.mono l.gg) O,J,λd k v T U Y n=>q d k v T U ((f.trans l).trans Y) n]
variable {sd:cH} {k:Nat} {f:Addr} {fd:FuncData} {ps:List Str} {m:Str}
def rT(T:Ea Z)(i:DE Z X o ta)(j:Meth Z.K Z.C m f)(F:FnOk X.prog X.w X.K X.mg X.base cg k f fd ps (bg Z sd))(l:bN k X.A)(n:Binds X.K fd ps [])(p:DA Z X (e::es) t)(g:X.K=Z.K:=by rfl)
  (q:([("rows",V.ref 0)]:List (Str×V)).lookup m=none:=by decide) (r:starEach (e::es) X.env=(false,eval e X.env)::starEach es X.env:=by rfl) (d:(backTo pos (starEach es X.env)).any (·.1)=false:=by rfl)
  (s:eval (.Call (.Attribute o m apos) (e::es) [] pos) X.env=(do
   let h <-eval o X.env
   standAt apos.atName
   let (f,first) <-holding [h] (getMethod h m pl)
   callWith pos f first (backTo pos (starEach (e::es) X.env)) (backToKw pos (keywordEach [] X.env))):=by rfl):DE Z X (.Call (.Attribute o m apos) (e::es) [] pos) (GI sd ta t):=
 (OA (pl:=pl) i (by rw[g];exact T.cl) (by rw[g];exact j) F l n .nil kS p r d s).imp (AB q)
def iB(T:Ea Z)(l:DE Z X o ta)(n:Meth Z.K Z.C m f)(F:FnOk X.prog X.w X.K X.mg X.base cg k f fd ps (bg Z sd))(r:bN k X.A)(u:Binds X.K fd ps [])(i:X.K=Z.K:=by rfl)
  (x:([("rows",V.ref 0)]:List (Str×V)).lookup m=none:=by decide)
  (y:eval (.Call (.Attribute o m apos) [] [] pos) X.env=(do
   let j <-eval o X.env
   standAt apos.atName
   let (f,first) <-holding [j] (getMethod j m pl)
   callWith pos f first (backTo pos (starEach [] X.env)) (backToKw pos (keywordEach [] X.env))):=by rfl):DE Z X (.Call (.Attribute o m apos) [] [] pos) (GI sd ta jf):=
 (AK (pl:=pl) l (by rw[i];exact T.cl) (by rw[i];exact n) F r u .nil kS y).imp λz H Q h=>by
  rfl';obtain⟨G,E,P,s,I,h,q⟩:=AB x z H Q h;ac_rfl;refine#[G,E,P,s,I,h,λd J v L M N dv=>?_];rfl';obtain⟨p,O,fs,R,S,U,Y,t,P',a,b,c,e⟩:=q d J v L M N dv;ac_rfl;exact#[p,O,fs,R,S,U,e _ c _ Y _ (.refl a) .nil]
def FO(Z:DC):Sp:=λi H Q _=>∃(p h:Addr)(v:V)(G:Hp)(w:List (List Nat)),i= [.ref p,v]/\H p=some (.ins Z.C h [])/\aJ G H/\G p=none/\Dv Z G v (aQ w)/\Wb.Good w/\1<=w.length/\w.length<=14/\
 ∀(R:Addr)(d g:Hp),aJ G d->aJ d g->(∀b o,H b=some o->b≠p->g b=some o)->(∀b,H b≠none->G b=none->d b=none)->g p=some (.ins Z.C h [("rows", .ref R)])->Dv Z d (.ref R) (aQ w)->Q .bb g
def TN(t:gH):aR:=λd P=>t d λg=>∃w,g= [aQ w]/\Wb.Good w/\1<=w.length/\w.length<=14/\P (.cD w)
theorem Ex(M:Mk Z.K Z.C f)(F:FnOk X.prog X.w X.K X.mg X.base cg k f fd ps (FO Z))(O:bN (k+1) X.A)(n:Gl X x)(S:X.mg x=some (.ref Z.C))(j:Binds X.K fd ps [])
  (T:DA Z X (e::es) t) (U:X.K=Z.K:=by rfl) (Y:(x==("__debug__":Str))=false:=by decide) (a:starEach (e::es) X.env=(false,eval e X.env)::starEach es X.env:=by rfl) (r:(backTo pos (starEach es X.env)).any (·.1)=false:=by rfl):
  DE Z X (.Call (.Name x p) (e::es) [] pos) (TN t):=by
 refine(Oz (by rw[U];exact M) F O n S j .nil kS T Y a r).imp ?_
 intro σ H Q c;rfl';obtain⟨G,ρ,P,s,en,h,q⟩:=c;ac_rfl;exists G,ρ,_,s,en,h;rintro _ ⟨w,rfl,g,B,E,hp⟩ vs G1 H1 d u p l i BR ne;cases u with
 | @cons v _ _ _ dv u=>
  cases u;have B4:upd H1 l (.own p) p=none:=by rw[ax (Ne.symm ne)];exact i
  have y:=(aO BR (.own p)).trans (aO B4 (.ins Z.C l []));refine#[p,l,v,G1,w,rfl,av,d.sub.trans y,d.sub.free i,dv,g,B,E,λR I H2 g1 g2 kp off UT qy=>#[rfl,?_]];have J:I p=none:=off p (by rw[av];exact λz=>nomatch z) (d.sub.free i)
  refine q _ hp _ (upd I p (.ins Z.C l [("rows", .ref R)])) H2 #[(d.gg.trans g1).trans (aO J _),λb o e=>?_,λb o e=>?_,λb j n=>?_] (.cD av (qy.mono (aO J _)) g B E)
  .by_cases z:b=p
   .subst z;rw[av] at e;cases e;exact UT
   .rw[ax z] at e;exact g2 _ _ e
  .have L:=d.hh _ _ e
   exact kp b o (y _ _ L) (aD L i)
  .have N:=dO d.hh j
   have nb:b≠p:=λz=>N (by rw[z];exact i)
   rw[ax nb];exact off b (dO y N) (d.off b j n)
end
section
variable {Z:DC} {X:Cx} {pos:Pos}
def NX(g:eX)(b:iz):List D->DN->List D->(List D->Prop)->Prop
 | [],_,a,N=>N a
 |x::d,e,a,N=>g x e λc=>b c λf=>a.length<sizeLine/\NX g b d c (a++ [.lst f]) N
def Sw(b:jn)(g:eX)(c:iz)(src:List (Option Nat)):iz:=λa P=>b a λd=>NX g c d (yD src a) [] P
def V8(Z:DC)(n:Nat)(e a:Hp)(c:Addr)(g:DN)(d:List D)(h:St)(H:Hp):Prop:=
 ∃(G:Hp)(f:List V)(fs:List Addr),aJ e G/\aJ G H/\aJ a H/\(∀b,a b≠none->e b=none->G b=none)/\H c=some (.lst f)/\c9 (Own Z G H n) f d fs/\(c::fs).Nodup/\(∀b∈c::fs,a b=none/\H b≠none/\G b=none)/\cL Z G h g
theorem c9.snoc:∀{b:List V}{c:List D}{fs:List Addr}{v:V}{d:D}{f:List Addr},c9 R b c fs->R v d f->c9 R (b++ [v]) (c++ [d]) (fs++f)
 |_,_,_,v,d,f, .nil,r=>by simpa using c9.cons r .nil
 |_,_,_,v,d,f, .cons a e,r=>by rw[kM];exact .cons a (e.snoc r)
def KW:∀S H Q,uq Z (n+1) (Sw wi g F src) S H Q->O9 (ur Z wi) (qJ Z g) Pd (uq Z n F) src S H Q:=by
 intro S H Q aI;rfl';obtain⟨G,ρ,P,s,en,h,q⟩:=aI;ac_rfl;refine#[G,ρ,_,s,en,h,λw hd J U H1 p it l A=>?_];refine#[λi m fA u=>m=w.length-i/\i<=w.length/\∃I t,V8 Z n U H1 l I t fA u/\NX g F (w.drop i) I t P,#[_,rfl,fq _,_,[],#[U,[],[], .refl _,λb o e=>?_,aO A _,λ_ _ h=>h,av, .nil,by simp,λb j=>?_,(en.mono p.gg).src src],hd],?_]
 .rw[ax (aD e (p.sub.free A))];exact p.sub _ _ e
 .have:b=l:=by simpa using j
  subst this;exact#[A,(by rw[av];exact λz=>nomatch z),p.sub.free A]
 intro i m fA u iq;rfl';obtain⟨rfl,hi,I,t,⟨Y,L,fs,M,X,N,off,qE,ol,nd,B,MS⟩,O⟩:=iq;ac_rfl
 by_cases bT:i<w.length
 .obtain⟨go,_,yld⟩:=it Y u M X i
  refine .inr #[go bT,λaz H'=>∃aG kq,V8 Z n U H1 l aG kq az H'/\NX g F (w.drop (i+1)) aG kq P,λaz H' k=>#[w.length-(i+1),by lia,rfl,bT,k],λx H3 y=>?_]
  obtain⟨G3,d,E,sC,dv⟩:=yld x H3 bT y;rw[nz sC] at O;refine#[G3,I,d,_,E.sub,MS.mono E.gg,dv,O,λbG h1 fQ vy=>?_];unfold Pd;dsimp only;rw[tz rfl];refine#[G3,bG,_,E.sub,vy,h1,λm6 iU v f G6 H6 x6 ow fnd Xf=>?_];have x:=E.trans x6;have R:l∈l::fs:=dq ..
  have C:∀b∈l::fs,H6 b=u b/\G6 b=none:=λb j=>by
   obtain⟨_,q2,q3⟩:=B b j;refine#[?_,x.off b q2 q3];cases e:u b with
   |none=>exact absurd e q2
   |some o=>exact x.hh _ _ e
  have hA6:H6 l=some (.lst L):=by rw[(C l R).1];exact qE
  have Xd:∀b∈f,u b=none:=λb j=>E.hh.free (Xf b j).1;have Xe:∀b∈f,∀c∈l::fs,b≠c:=λb j c hc z=>(B c hc).2.1 (by rw[<-z];exact Xd b j)
  refine#[L,hA6,by rw[ol.length];exact iU.1,bG,_,#[G6,L++ [v],fs++f,M.trans x.gg,λb o e=>?_,λb o e=>?_,λb j hg=>x.off b (dO N j) (off b j hg),av,?_,?_,λb j=>?_,vy.mono x6.gg],iU.2]
  .rw[ax (aD e (C l R).2)];exact x.sub _ _ e
  .rw[ax (aD e A)];exact(N.trans x.hh) _ _ e
  .refine c9.snoc (ol.imp λv d f' hf r=>r.keep x.gg λb j=>?_) (ow.keep (.refl _) λb j=>?_)
   .have Hc:b∈fs:=hf b j
    rw[ax (λz=>(lP.mp nd).1 (by rw[<-z];exact Hc))]
    exact(C b (eJ _ Hc)).1
   .exact ax (Xe b j l R)
  .rw[<-List.cons_append]
   exact gz.mpr #[nd,fnd,λa ha b j=>Ne.symm (Xe b j a ha)]
  .rw[<-List.cons_append] at j
   by_cases z:b=l
   .subst z
    exact#[A,(by rw[av];exact λz=>nomatch z),(C b R).2]
   .rcases dh.mp j with j|j
    .rw[ax z,(C b j).1]
     exact#[(B b j).1,(B b j).2.1,(C b j).2]
    .rw[ax z]
     exact#[N.free (Xd b j),(Xf b j).2]
 .have e:w.drop i= []:=zc (by lia)
  rw[e] at O;refine .inl #[(it Y u M X i).2.1 (by lia),q _ O (.ref l) (l::fs) Y u #[p.gg.trans M,X,p.hh.trans N,λb j hg=>off b (dO p.hh j) (p.off b j hg)] (.inl #[l,L,t,fs,rfl,rfl,qE,rfl,ol]) nd λb j=>#[p.hh.free (B b j).1,(B b j).2]]
variable {tg iter elt:Expr} {scope:Scope} {NC:List Str} {src:List (Option Nat)} {wi:jn} {g:eX} {tf:iz} {md:List Nat} {rn:Nat}
def GP(i:Nat)(e:X.calm=true)(f:X.N.Nodup)(c:cE X scope)(j:dF scope X.N src NC)(k:DI Z X tg iter wi)
  (l:∀a s H,DG Z (dj X scope NC a s H) tg g) (m:∀a s H,DF Z (dj X scope NC a s H) n elt tf)
  (o:swapsWith (.ListComp elt [#[tg,iter,[],0]] scope pos) (some (.Name x b)) d.line X.env=pure true:=by rfl) (p:md.getD i 0=n+1:=by rfl) (q:X.N[i]? =some x:=by rfl) (r:Loc X.env.scope x:=by subst_eqs)
  (t:X.fn x=true\/X.env.scope.names.lookup x=some .local:=by subst_eqs)
  (u:∀x,foldedSetIterable iter X.env x=pure x:=by intro _;rfl):DSt Z X md rn (.Assign [.Name x b] (.ListComp elt [#[tg,iter,[],0]] scope pos) d) (Ml md i (Sw wi g tf src)):=by
 refine(uy e f q r c j k l (λ_ _ _=>Fy) m o t u).imp ?_;intro D v H w;rfl';obtain⟨B,A,E,⟨G,C,S⟩,h,M⟩:=w;ac_rfl;exact KW v H _ (uv p S h M)
end
abbrev iD:=inClass
structure A8 (Z:DC) (m qual:Str) (st:Stmt) (ps:List Str) where
 f:Addr
 fd:FuncData
 F:rA Z.K m qual st f fd
 b:Binds Z.K fd ps []
 m:Meth Z.K Z.C m f
def tP(K:ac):Sp:=λc H Q _=>∃(a:Addr)(b:List Int),c= [.ref a]/\cy K H a (b.map V.int)/\b.length<=63/\∀d,Q (.bl true) d
def JO:cH:=λb P=>∃a:List Int,b= [.gy a]/\a.length<=63/\P (.bl true)
def QA{Z:DC}:∀b H Q E,tP Z.K b H Q E->bg Z JO b H Q E:=by
 rintro b H Q E ⟨a,c,rfl,f,e,q⟩;exact#[H,[.gy c],λd=>d= .bl true, .refl _, .cons (.gy f e) .nil,#[c,rfl,e,rfl],λd g v i h x dv=>by subst g;cases dv;exact q h]
def VX(k:Nat){l:cq}{q:Program}{e:List Str}{o:(Str->Option Value)->Heap->Prop}{m:World->Heap->Prop}{d:DefRec}{K:Params->ac}(H:3*k<150)(p:l.most=some 63)(r:d.params.defaults= [])
  (t:∀(w:World)(h:Heap),m w h->(K w.params).In h)
  (F:∀(w:World)(g:Str->Option Value)(i:Addr)(h:Heap),(K w.params).In h->h.Ns mainGlobals g->g d.name=some (.ref i)->
   ∃j:FuncData,(∀(s:Shared)(u:Value),BindsTo s j #[[u],[]] [("_law_script",u)])/\∀base:Heap,(K w.params).In base->base.Ns mainGlobals g->FnOk l.prog w (K w.params) g base cg k i j ["_law_script"] (tP (K w.params))):
  dV q e o m l.row.toRowW d [] (λf v=>dL f v):=
 L2.Ph (n:=63) (k:=50) (x:="_law_script") (CX:=λ_=>cg) (sp:=λw=>tP (K w.params)) p (by decide) r #[rfl,by decide,by decide] t (λw g i h a b c=>by
  obtain⟨j,A,B⟩:=F w g i h a b c;exact#[j,A,λbase x y=>(B base x y).mono (by lia)]) (λ_ _ a C E _ G=>#[a,C,rfl,G,E,λ_=>rfl]) λ_ _ _ _ _ z=>z
def bz{c:Bool}{A B:Prop}(a:c=true->A)(b:c=false->B):if c=true then A else B:=by
 cases c with
 |true=>exact bL (a rfl)
 |false=>exact cc (b rfl)
theorem xR{ρ:DN}(c:j->D)(p:j->Bool)(f:j->D):∀(e:List j)(d:DN)(a:List D)(N:DN->List D->Prop),(∀y∈e,∀(Y:D->Prop)(r:Prop),(p y=true->Y (f y))->(p y=false->r)->k (ρ.set i (some (c y))) λb=>if b=true then q (ρ.set i (some (c y))) Y else r)->
  (∃o,d=ρ.set i o)->a.length+e.length<=sizeLine->(∀d,N d (a++(e.filter p).map f))->lcW (rV i) k q (e.map c) d a N
 | [],d,a,N,_,_,_,h=>by
  show N d a;simpa using h d
 |y::e,d,a,N,l,#[o,s],g,h=>by
  show k (d.set i (some (c y))) _;rw[s,List.set_set];rw[cU] at g;refine l y (dq ..) _ _ (λm=>#[by lia,?_]) (λm=>?_)
  .refine xR c p f e _ (a++ [f y]) N (λz g=>l z (eJ _ g)) #[_,rfl] (by simp;lia) λn=>?_
   have:=h n
   rw[abc,m] at this;simpa using this
  .refine xR c p f e _ a N (λz g=>l z (eJ _ g)) #[_,rfl] (by lia) λn=>?_
   have:=h n
   rw[abc,m] at this;simpa using this
def l4{ρ:DN}(a:c->D)(f:c->D)(b:List c)(N:DN->List D->Prop)(j:∀y∈b,∀(Y:D->Prop),Y (f y)->g (ρ.set i (some (a y))) Y)(k:ρ[i]? =some none)(l:b.length<=sizeLine)(h:∀d,N d (b.map f)):lcW (rV i) wU g (b.map a) ρ [] N:=by
 refine xR (ρ:=ρ) a (λ_=>true) f b ρ [] N (λy m Y o n _=>?_) #[none,?_] (by simpa using l) λd=>by rw[List.filter_eq_self.mpr (λ_ _=>rfl),vn];exact h d
 .unfold wU
  dsimp only;rw[tz rfl];exact j y m Y (n rfl)
 .obtain⟨p,e⟩:=dm.mp k
  rw[<-e,List.set_getElem_self]
theorem Am(I:Nat->DN->Prop):∀(b:List D)(k:Nat)(a:DN),I k a->(∀(j:Nat)(d:D)(a:DN),b[j]? =some d->I (k+j) a->∀A:DN->Prop,(∀a,I (k+j+1) a->A a)->g d a λn=>m {nx:=A,ct:=A,bk:=E.nx,rt:=E.rt,xc:=E.xc} n)->
  (∀a,I (k+b.length) a->E.nx a)->qd g m E b a
 | [],k,a,c,e,f=>f a c
 |d::b,k,a,c,e,f=>by
  refine e 0 d a rfl c _ λo p=>?_
  exact Am I b (k+1) o p (λj q h r i A s=>by
   refine e (j+1) q h (by simpa using r) (by rw[show k+(j+1)=k+1+j by lia];exact i) A λl t=>s l ?_
   rw[show k+1+j+1=k+(j+1)+1 by lia];exact t) (λh i=>f h (by rw[cU,show k+(b.length+1)=k+1+b.length by lia];exact i))
def bS(I:Nat->DN->Prop)(e:I 0 a)(f:∀(j:Nat)(d:D)(a:DN),b[j]? =some d->I j a->∀A:DN->Prop,(∀a,I (j+1) a->A a)->g d a λi=>c {nx:=A,ct:=A,bk:=E.nx,rt:=E.rt,xc:=E.xc} i)
  (k:∀a,I b.length a->E.nx a):qd g c E b a:=Am I b 0 a e (λj d a l h A m=>f j d a l (by simpa using h) A λn o=>m n (by simpa using o)) (λa h=>k a (by simpa using h))
def M4{g:eX}{c:cx}{E:dE}{lo:Int}{n:Nat}{a:DN}(I:Nat->DN->Prop)(f:I 0 a)(i:∀(j:Nat)(a:DN),j<n->I j a->∀A:DN->Prop,(∀a,I (j+1) a->A a)->g (.int (lo+j)) a λk=>c {nx:=A,ct:=A,bk:=E.nx,rt:=E.rt,xc:=E.xc} k)
  (m:∀a,I n a->E.nx a):qd g c E (fY lo n) a:=by
 have l:(fY lo n).length=n:=by unfold fY;simp
 refine bS I f (λj d a b h A o=>?_) (λa h=>m a (by rw[l] at h;exact h))
 have e:j<n:=by
  have:=(dm.mp b).1
  rw[l] at this;exact this
 rw[om e] at b;cases Fk b;exact i j a e h A o
def j6(I:Nat->DN->Prop)(g:Nat)(h:I g a)(i:∀m a,I m a->c a λb=>if b=true then f {nx:=λe=>∃d,d<m/\I d e,ct:=λe=>∃d,d<m/\I d e,bk:=E.nx,rt:=E.rt,xc:=E.xc} a else E.nx a):Jl c f E a:=#[I,#[g,h],i]
section
variable {Z:DC} {X:Cx} {a b c e:Expr} {ta tb te:aR} {t:gH} {pos:Pos}
variable {md:List Nat} {rn:Nat} {k:Expr} {tk:aR}
variable {apos aB:Pos}
variable {es:List Expr}
def MX(g:cH)(t:gH):iz:=λh P=>t h λi=>g i λd=>∃f,d= .lst f/\P f
def Mw{k:Nat}(F:FnOk X.prog X.w X.K X.mg X.base cg k f r u (fh Z n g))(z:bN k X.A)(B:Gl X x)(C:X.mg x=some (.ref f))(E:aA X.K (.ref f)=true)(d:Binds X.K r u [])
  (I:DA Z X (e::es) t) (J:(x==("__debug__":Str))=false:=by decide) (L:starEach (e::es) X.env=(false,eval e X.env)::starEach es X.env:=by rfl) (i:(backTo pos (starEach es X.env)).any (·.1)=false:=by rfl):
  DF Z X n (.Call (.Name x p) (e::es) [] pos) (MX g t):=by
 refine(oj F z B C E d .nil kS I J L i).imp ?_;intro σ H Q M;rfl';obtain⟨G,O,P,s,R,h,q⟩:=M;ac_rfl;refine#[G,O,_,s,R,h,λS T U Y a l c=>?_];show fh Z n g (U++ []) a Q E0;rw[fI];exists Y,S,_,l.sub,c,T;intro _ m v f G2 H2 x2 o nd y;rfl';obtain⟨m6,rfl,hp⟩:=m;ac_rfl;exact q _ hp v f G2 H2 (l.trans x2) o nd λb d=>#[l.hh.free (y b d).1,(y b d).2]
end
section
variable {X:Cx} {elt t0 i0 t1 i1:Expr} {f0 f1:List Expr} {scope:Scope} {pos:Pos} {wi gN:TI} {g g1:TG} {tt fk:TT} {te:TE} {src:List (Option Nat)} {NC:List Str}
end
section
variable {Z:DC} {X:Cx} {md:List Nat} {rn:Nat} {elt t0 i0 t1 i1:Expr} {f0 f1:List Expr} {scope:Scope} {pos:Pos} {wi gN:jn} {g g1:eX} {tt fk:dP} {te:aR} {src:List (Option Nat)} {NC:List Str}
end
section
variable {Z:DC} {X:Cx} {md:List Nat} {rn:Nat} {e:Expr} {pos:Pos}
theorem DvAll.flat{G d:Hp}:∀{c:List V}{b:List D},DvAll Z G c b->b.all e9=true->DvAll Z d c b
 |_,_, .nil,_=> .nil
 |_,_, .cons a f,h=>by
  rw[aa7,vj] at h;exact .cons (a.flat h.1) (f.flat h.2)
end
def iC{l:List D}{j:Nat}{d:D}(h:(fM l)[j]? =some d):∃x,l[j]? =some x/\d= .tup [.int (j:Int),x]:=by
 unfold fM at h;rw[List.getElem?_mapIdx] at h;cases e:l[j]? with
 |none=>rw[e] at h;cases h
 |some x=>rw[e] at h;cases h;exact#[x,rfl,rfl]
def jN(l:List D):(fM l).length=l.length:=by unfold fM;simp
def cX{a b:Type}{f:a->b}{l:List a}{j:Nat}{y:b}(h:(l.map f)[j]? =some y):∃x,l[j]? =some x/\y=f x:=by
 rw[df] at h;cases e:l[j]? with
 |none=>rw[e] at h;cases h
 |some x=>rw[e] at h;cases h;exact#[x,rfl,rfl]
def dJ(r:List Nat):(r.map af).all e9=true:=by simp[af,e9]
def nU{r:List Nat}{p:Nat}:inD (af p) (r.map af)=decide (p∈r):=by
 unfold inD;rw[List.any_map]
 have:((λy=>kA y (af p))∘af)=λq:Nat=>decide (q=p):=by
  funext q
  simp[af,kA,Function.comp]
  by_cases z:q=p
  .simp[z]
  .have:¬(q:Int)=(p:Int):=by lia
   simp[z,this]
 rw[this]
 by_cases h:p∈r
 .rw[IR h,acg];exact#[p,h,by simp]
 .rw[GT h]
  apply vh.mpr;intro z;rw[acg] at z;obtain⟨q,a,e⟩:=z
  exact h (by have:q=p:=by simpa using e
              rw[<-this];exact a)
def ft{p:Nat}(h:l[p]? =some d):dR l (p:Int)=some d:=Eh h
def yM(h:p<w.length):(w.map aq)[p]? =some (aq (Wb.row w p)):=by
 rw[df,Wb.FE h];rfl
section
variable {Z:DC} {X:Cx} {md:List Nat} {rn:Nat} {e:Expr} {te:aR} {pos:Pos}
end
def Ta(h:A):wU a (λb=>if b=true then A else B):=by
 unfold wU;dsimp only;rw[tz rfl];exact h
def SD{c:Bool}{A B:Prop}(e:c=false)(h:B):if c=true then A else B:=by rw[mo (by rw[e];exact eD)];exact h
theorem pG(I:DN->Prop)(e:m->D)(p:m->Bool)(f:m->D):∀(i:List m)(aG:DN)(a:List D)(N:DN->List D->Prop),(∀y∈i,∀aG,I aG->∀(Y:DN->D->Prop)(u:DN->Prop),(∀c,I c->p y=true->Y c (f y))->(∀c,I c->p y=false->u c)->g (e y) aG λc=>k c λb=>if b=true then l c (Y c) else u c)->
  I aG->a.length+i.length<=sizeLine->(∀aG,I aG->N aG (a++(i.filter p).map f))->lcW g k l (i.map e) aG a N
 | [],aG,a,N,_,n,_,h=>by
  show N aG a;simpa using h aG n
 |y::i,aG,a,N,o,n,j,h=>by
  rw[cU] at j;refine o y (dq ..) aG n (λc d=>a.length<sizeLine/\lcW g k l (i.map e) c (a++ [d]) N) (λc=>lcW g k l (i.map e) c a N) (λc q r=>#[by lia,?_]) (λc q r=>?_)
  .refine pG I e p f i _ (a++ [f y]) N (λz j=>o z (eJ _ j)) q (by simp;lia) λs t=>?_
   have:=h s t
   rw[abc,r] at this;simpa using this
  .refine pG I e p f i _ a N (λz j=>o z (eJ _ j)) q (by lia) λs t=>?_
   have:=h s t
   rw[abc,r] at this;simpa using this
def SG(h:b.length=1):∃d,b= [d]:=by
 cases b with
 |nil=>cases h
 |cons a l=>
  cases l with
  |nil=>exact#[a,rfl]
  |cons _ _=>cases h
def SH(h:b.length=2):∃e c,b= [e,c]:=by
 cases b with
 |nil=>cases h
 |cons a l=>
  obtain⟨c,rfl⟩:=SG (acP h);exact#[a,c,rfl]
def SJ(h:b.length=3):∃f c d,b= [f,c,d]:=by
 cases b with
 |nil=>cases h
 |cons a l=>
  obtain⟨c,d,rfl⟩:=SH (acP h);exact#[a,c,d,rfl]
def YB(h:b.length=4):∃g c d e,b= [g,c,d,e]:=by
 cases b with
 |nil=>cases h
 |cons a l=>
  obtain⟨c,d,e,rfl⟩:=SJ (acP h);exact#[a,c,d,e,rfl]
section
variable {Z:DC} {X:Cx} {e:Expr} {es:List Expr} {t:gH} {pos:Pos}
def aC{c:cH}{k j:Nat}{x:Str}{st:Stmt}{g:List Str}{p:Pos}(d:dQ X.K X.mg x st g)(F:FnOk X.prog X.w X.K X.mg X.base cg k d.f d.fd g (bg Z c))(h:bN j X.A)(i:DA Z X (e::es) t)(l:Gl X x:=by rfl)(n:k<=j:=by first|decide|lia)
  (o:(x==("__debug__":Str))=false:=by decide) (q:starEach (e::es) X.env=(false,eval e X.env)::starEach es X.env:=by rfl) (a:(backTo pos (starEach es X.env)).any (·.1)=false:=by rfl):
  DE Z X (.Call (.Name x p) (e::es) [] pos) (t8 c t):=Mt F (h.mono n) l d.m d.F.kp d.b i o q a
def pq{n:Nat}{c:cH}{k j:Nat}{x:Str}{st:Stmt}{g:List Str}{p:Pos}(d:dQ X.K X.mg x st g)(F:FnOk X.prog X.w X.K X.mg X.base cg k d.f d.fd g (fh Z n c))(h:bN j X.A)(i:DA Z X (e::es) t)(l:Gl X x:=by rfl)(o:k<=j:=by first|decide|lia)
  (q:(x==("__debug__":Str))=false:=by decide) (r:starEach (e::es) X.env=(false,eval e X.env)::starEach es X.env:=by rfl) (a:(backTo pos (starEach es X.env)).any (·.1)=false:=by rfl):
  DF Z X n (.Call (.Name x p) (e::es) [] pos) (MX c t):=Mw F (h.mono o) l d.m d.F.kp d.b i q r a
def vv(f:Scope)(e:X.env.scope=f:=by rfl)(k:d.kind= .function:=by rfl)(a:∀x∈d.names,x.2= .local->d.names.lookup x.1=some .local:=by decide+kernel)(b:∀x∈d.names,x.2≠ .cell:=by decide+kernel)
  (c:∀x∈d.names,x.2= .free->f.names.lookup x.1=some .cell\/f.names.lookup x.1=some .free:=by decide+kernel):cE X d:=cE.of f e k a b c
end
section
variable {K:ac} {h:Heap} {mg:Str->Option Value}
abbrev Pu(K:ac)(x:Str)(d:Addr):Prop:=bd K mainGlobals x=some (some (.ref d))
abbrev A7(K:ac)(x a:Str)(st:Stmt)(d:Addr)(b c:Option Addr)(e:Array (Option Value))(f kV g i j k:Value):Prop:=K.lookup d=some #[f,b, .func (b4 x a (hU st) (dM st) (aw st) .none kV g i c j k),e]
def dQ.of{x:Str}{st:Stmt}{ps:List Str}{d:Addr}{n e:Option Addr}{o:Array (Option Value)}{p kV q f m g:Value}(X:K.In h)(G:h.Ns mainGlobals mg)(a:Pu K x d)(l:A7 K x x st d n e o p kV q f m g)(c:bc K m x=true)(k:aA K (.ref d)=true)
  (b:∀(kV i f:Value)(e:Option Addr)(r g:Value)(j:List Value),j.length=ps.length->bindArgs (b4 x x (hU st) (dM st) (aw st) .none kV i f e r g) #[j,[]]=pure (ps.zip j)):dQ K mg x st ps:=
 #[d,_,lX l c k,(lX l c k).binds b,Re X G a]
def A8.of{Z:DC}{m e:Str}{st:Stmt}{ps:List Str}{d:Addr}{q g:Option Addr}{r:Array (Option Value)}{s kV t i p j:Value}(a:ak Z.K (.ref Z.C) m=some (some (.ref d)))(f:bw Z.K (.ref d)=true)(l:A7 Z.K m e st d q g r s kV t i p j)(c:bc Z.K p e=true)(k:aA Z.K (.ref d)=true)
  (b:∀(kV n i:Value)(g:Option Addr)(u j:Value)(o:List Value),o.length=ps.length->bindArgs (b4 m e (hU st) (dM st) (aw st) .none kV n i g u j) #[o,[]]=pure (ps.zip o)):A8 Z m e st ps:=
 #[d,_,lX l c k,(lX l c k).binds b,#[a,f,k]]
end
end L2
namespace Wb
def lW(w:W):Nat:=(w.map b6).sum
theorem wX{r:List Nat}:∀{w:W}{p:Nat},p<w.length->lW (w.set p r)+(row w p).length=lW w+r.length
 | [],_,h=>by simp at h
 |a::w,0,_=>by simp[lW,row];lia
 |a::w,p+1,h=>by
  have b:=wX (r:=r) (w:=w) (p:=p) (by simpa using h)
  have e:row (a::w) (p+1)=row w p:=by simp[row]
  rw[e];simp only[lW,List.set_cons_succ,cf,zi] at b ⊢;lia
def Mv{w:W}{p i u j:Nat}(a:p<w.length)(c:u<w.length)(ne:u≠p):lW (tie w p i u j)=lW w+2:=by
 unfold tie;have d:=wX (r:=ins (row w p) i u) a;have b:=wX (w:=w.set p (ins (row w p) i u)) (r:=ins (row w u) j p) (p:=u) (by simpa using c)
 rw[jW a,mo (Ne.symm ne)] at b;rw[xN] at d b;lia
def Kk(w:W):lW w=((aM w.length).map λp=>(row w p).length).sum:=by
 unfold lW
 congr 1
 refine List.ext_getElem (by simp) λi b c=>?_
 rw[ach,ach,List.getElem_range];have a:i<w.length:=by simpa using b
 have:=FE a
 rw[eI a] at this;rw[Fk this]
def lV(w:W):(bE w).length=lW w:=by
 rw[Kk];unfold bE;rw[List.length_flatMap]
 congr 1
 apply abC;intro p _;rw[aL]
def hJ(g:Good w):(bE w).Nodup:=by
 unfold bE cR;refine oh (λp _=>?_) ?_
 .rw[i3]
  exact(g.nod p).imp λne e=>ne (GE Prod.snd e)
 .refine List.Pairwise.imp ?_ aa6
  intro a b lt x c y d e;obtain⟨_,_,rfl⟩:=cz.mp c;obtain⟨_,_,rfl⟩:=cz.mp d
  have:=GE Prod.fst e
  simp at this;lia
def oY(w:W):jy (row w) w.length=(bE w).filter λd=>decide (d.1<d.2):=by
 unfold jy bE;rw[List.filter_flatMap]
 congr 1
 funext p
 rw[List.filter_map];rfl
def IC(g:Good w):2*(jy (row w) w.length).length<=lW w:=by
 rw[oY,<-lV];have f:=List.length_eq_countP_add_countP (λd:Nat×Nat=>decide (d.1<d.2)) (l:=bE w)
 have p:((bE w).filter λd=>decide (d.1<d.2)).length<=((bE w).filter λd=>decide (d.2<d.1)).length:=by
  have:=aZ (l:=((bE w).filter λd=>decide (d.1<d.2)).map λd=>(d.2,d.1)) (m:=(bE w).filter λd=>decide (d.2<d.1)) ?_ ?_
  .rwa [aL] at this
  .unfold cR
   rw[i3];refine List.Pairwise.imp ?_ ((hJ g).filter _);intro a b ne e;have i:=GE Prod.fst e;have j:=GE Prod.snd e;exact ne (aau j i)
  .intro x k
   obtain⟨d,n,rfl⟩:=cz.mp k;obtain⟨o,c⟩:=y4.mp n;refine y4.mpr #[bI.mpr (g.sym _ _ (bI.mp o)),?_];simpa using c
 have q:((bE w).filter λd=>decide (d.2<d.1)).length<=(bE w).countP λd=>!decide (d.1<d.2):=by
  rw[<-abH];apply List.countP_mono_left;intro d _ h;simp at h ⊢;lia
 rw[abH] at f
 have r:(bE w).countP (λd=>!decide (d.1<d.2))=List.countP (λa=>decide ¬(decide (a.1<a.2)=true)) (bE w):=by
  congr 1
  funext d
  by_cases h:d.1<d.2<;>simp[h]
 lia
structure RI (w:W) (bs:List Bool) (ws ex:List Nat) (c:Nat):Prop where
 len:bs.length=w.length
 z:bs[0]? =some true
 wt:∀x∈ws,bs[x]? =some true
 cl:∀x,bs[x]? =some true->x∈ws\/x∈ex\/∀q∈row w x,bs[q]? =some true
 cnt:bs.count false+ws.length<=c
def RI.pop(h:RI w bs (b++ [p]) [] (c+1)):RI w bs b [p] c:=
 #[h.len,h.z,λx a=>h.wt x (iu _ a),λx a=>by
  rcases h.cl x a with q|q|q
  .rcases dh.mp q with q|q
   .exact .inl q
   .exact .inr (.inl q)
  .cases q
  .exact .inr (.inr q),by have:=h.cnt;rw[dB] at this;simp at this;lia]
def RI.push(h:RI w bs f g c)(j:bs[q]? =some false):RI w (bs.set q true) (f++ [q]) g c:=by
 obtain⟨b,i⟩:=dm.mp j
 have d:∀x,bs[x]? =some true->(bs.set q true)[x]? =some true:=λx a=>by
  rw[mX]
  by_cases e:q=x
  .rw[tz e,tz b]
  .rw[mo e];exact a
 refine#[by rw[fJ];exact h.len,d _ h.z,λx a=>?_,λx a=>?_,?_]
 .rcases dh.mp a with z|z
  .exact d _ (h.wt x z)
  .have:x=q:=by simpa using z
   rw[this,mX,tz rfl,tz b]
 .by_cases e:q=x
  .exact .inl (by rw[e];simp)
  .rw[mX,mo e] at a
   rcases h.cl x a with z|z|z
   .exact .inl (iu _ z)
   .exact .inr (.inl z)
   .exact .inr (.inr λy k=>d _ (z y k))
 .have l:=h.cnt
  have:0<bs.count false:=List.count_pos_iff.mpr (by rw[<-i];exact qp b)
  rw[abI b,i,dB];simp;lia
def RI.close(h:RI w bs a [p] c)(b:∀q∈row w p,bs[q]? =some true):RI w bs a [] c:=
 #[h.len,h.z,h.wt,λx d=>by
  rcases h.cl x d with q|q|q
  .exact .inl q
  .have:x=p:=by simpa using q
   rw[this];exact .inr (.inr b)
  .exact .inr (.inr q),h.cnt]
def RI.all(g:Good w)(h:RI w bs [] [] c):bs=am w.length true:=by
 have:=uO g (S:=λx=>bs[x]? =some true) h.z λp q b d=>by
  rcases h.cl p b with z|z|z
  .cases z
  .cases z
  .exact z q d
 refine yZ λi=>?_
 by_cases a:i<w.length
 .rw[this i a,vd,tz a]
 .rw[j7 (by rw[h.len];lia),j7 (by simp;lia)]
structure z5 (w:W):Prop where
 rng:∀p q,q∈row w p->q<w.length
 irr:∀p,p∉row w p
 nod:∀p,(row w p).Nodup
 sym:∀p q,q∈row w p->p∈row w q
def Good.near(g:Good w):z5 w:=#[g.rng,g.irr,g.nod,g.sym]
def z5.good(n:z5 w)(h:∀p,p<w.length->Reach w 0 p):Good w:=#[n.rng,n.irr,n.nod,n.sym,h]
end Wb
namespace L2
open PySem PySem.Spec PyProof.Rows
section
variable {X:Cx} {Z:DC} {pins:List (Addr×Obj)} {σ:St} {H:Hp} {s:Shared}
open Classical in
noncomputable def vz(h:Heap)(d:PyData)(u:Value):Bool:=decide (∃e as,Reads h u e as/\e.canLay0=true/\PyData.eqv e d=true)
open Classical in
theorem BG{h:Heap}{d e:PyData}{u:Value}{as:List Addr}(r:Reads h u e as)(c:e.canLay0=true):vz h d u=PyData.eqv e d:=by
 unfold vz
 by_cases z:PyData.eqv e d=true
 .rw[z];exact IR #[e,as,r,c,z]
 .rw[vh.mpr z]
  refine GT ?_;rintro⟨e',as',r',c',z'⟩;rw[(r.unique e' as' r').1] at z;exact z z'
theorem pF(I:Inv X pins σ H s){d:PyData}(f:Reads s.heap v d bs)(g:d.canLay0=true)(n:d.depth<=60)(o:X.A.units+64<cLine):∀{i:List V}{j:List PyData}{b:List Value},DpAll X.K H i j->Vals i b->
  b.any (vz s.heap d)=j.any (λe=>PyData.eqv e d)/\∀u∈b,SeqAt.EqAt X.A.in1 s u v (vz s.heap d u)
 |_,_,_, .nil, .nil=>#[rfl,λu h=>by cases h]
 |_,_,_, .cons (d:=e) a p, .cons r q=>by
  obtain⟨t,w⟩:=pF I f g n o p q;obtain⟨⟨x,k⟩,l⟩:=a.reads I r;have m:=BG (d:=d) k l;refine#[by rw[uI,uI,t,m],λu c=>?_]
  rcases eF.mp c with rfl|c
  .rw[m]
   exact SeqAt.eqAt_reads e d X.A.in1 s _ _ x bs k f l g (by have:=Nat.min_le_right e.depth d.depth;simp only[ab9];lia)
  .exact w u c
def SU(K:ac)(a:Bool):R2:=λx y H Q=>∃p c d b,y= .ref p/\cy K H p c/\Dp K H x d/\DpAll K H c b/\d.depth<=60/\Q (.bl (if a then !(b.any λe=>PyData.eqv e d) else b.any λe=>PyData.eqv e d)) H
def HY(c:X.A.units+64<cLine):OpR X (compareOp .NotIn) (SU X.K true):=by
 intro b s z H x y v u Q I e f h;rfl';obtain⟨p,C,d,E,rfl,i,j,k,l,q⟩:=h;subst f;obtain⟨⟨bs,m⟩,n⟩:=j.reads I e;obtain⟨a,r,pl,_⟩:=I.list i;obtain⟨o,t⟩:=pF I m n l c k r;ac_rfl;refine SeqAt.notIn_listAt (vz s.heap d) pl.isList (λw hw=>t w (by simpa using hw)) #[.bl _,H,I,rfl,?_]
 rw[show a.toArray.any (vz s.heap d)=a.any (vz s.heap d) by simp,o]
 exact q
def Mg(b:Bool):gG:=λx y P=>match y with
 | .lst l=>∃a c,x.py=some a/\dH l=some c/\a.depth<=60/\P (.bl (if b then !(c.any λe=>PyData.eqv e a) else c.any λe=>PyData.eqv e a))
 |_=>False
def Rn{d:Bool}{K:ac}:∀x y H Q,bP Z (Mg d) x y H Q->SU K d x y H Q:=by
 intro x y H Q i;rfl';obtain⟨G,a,b,P,f,k,l,g,q⟩:=i;ac_rfl;unfold Mg at g
 split at g
 .obtain⟨p,m,rfl,n,e⟩:=l.fN
  rfl';obtain⟨c,o,r,t,u,v⟩:=g;ac_rfl;exact#[p,m,c,o,rfl,cy.of (f _ _ n),(k.dp r).mono f,(e.dp t).mono f,u,q _ v _ G H (.refl f) (.bl _)]
 .exact g.elim
def HS(a:X.A.units+64<cLine):OpR X (compareOp .NotIn) (bP Z (Mg true)):=(HY a).imp Rn
theorem z6{f:Nat->Int}(g:Int->Int->Bool)(e:∀a b,g a b=decide (a<b)):∀k,argBest (λi j=>g (f i) (f j)) k<=k/\∀i,i<=k->f (argBest (λi j=>g (f i) (f j)) k)<=f i
 |0=>#[bJ _,λi h=>by(obtain rfl:i=0:=(by lia);exact Int.le_refl _)]
 |k+1=>by
  obtain⟨l,d⟩:=z6 (f:=f) g e k;unfold argBest;simp only[e] at l d ⊢
  by_cases c:f (k+1)<f (argBest (λi j=>decide (f i<f j)) k)
  .rw[tz (IR c)]
   refine#[bJ _,λi m=>?_]
   by_cases z:i=k+1
   .subst z;exact Int.le_refl _
   .have:=d i (by lia);lia
  .rw[mo (by simpa using c)]
   refine#[by lia,λi m=>?_]
   by_cases z:i=k+1
   .subst z;lia
   .exact d i (by lia)
def GD(O:X.calm=true):CallR X (.builtin "min") (λJ H Q=>∃(p:Addr)(c:List Int),J= [.ref p]/\H p=some (.lst (c.map V.int))/\c≠ []/\∀n∈c,(∀m∈c,n<=m)->Q (.int n) H):=by
 intro L s σ H J us Q I P h;obtain⟨p,c,rfl,R,S,q⟩:=h;obtain⟨u,rfl,T⟩:=P.one;subst T;obtain⟨d,r,pl,hz⟩:=I.list (cy.of R);have U:=r.length;rw[aL] at U;have SA:0<c.length:=DV.mpr S
 have B:∀i:Nat,(g:i<c.length)->∃t,d[i]? =some (.int c[i] t):=λi g=>by
  obtain⟨w,hw,Y⟩:=r.get (i:=i) (x:= .int c[i]) (by rw[df,eI g];rfl)
  obtain⟨t,rfl⟩:=Y;exact#[t,hw]
 refine call_min_walk (abV pl.isList ?_)
 have Z:p≠s.heap.objs.size:=by
  obtain⟨o,C,_⟩:=pl.isList;exact bQ (FB C)
 let f:Nat->Int:=λi=>c.getD i 0
 have z:∀k,(y:k<c.length)->f k=c[k]:=λk y=>by
  show c.getD k 0=_;rw[fz,eI y];rfl
 refine#[_,_,_,d.toArray.size,_,_,λi j=>(λa b=>decide (a<b)) (f i) (f j),rfl,Walks.list (show X.A.in1.handled=none from I.ok.hd O) s.heap.objs.size p Z d.toArray,#[#[_,GM _ rfl,rfl,rfl],pl.isList.push _],?_,?_,?_,?_]
 .intro b hb
  have:b=s.heap.objs.size\/b=p:=by simpa using hb
  obtain⟨o,C,_⟩:=pl.isList;have lt:=FB C;have e:(s.heap.push {cls:= .type "list_iterator",data:= .fields [.ref p, .int 0 0].toArray}).objs.size=s.heap.objs.size+1:=by simp[Heap.push]
  rcases this with rfl|rfl
  .exact Nat.lt_of_lt_of_eq (aa9 _) e.symm
  .exact Nat.lt_of_lt_of_eq (zg lt) e.symm
 .rw[cJ];lia
 .intro i j u v s' Q' E' NN xK hq
  have E:d[i]? =some u:=by simpa using NN
  have l:d[j]? =some v:=by simpa using xK
  have g:i<c.length:=by have:=(dm.mp E).1;lia
  have M:j<c.length:=by have:=(dm.mp l).1;lia
  obtain⟨t1,h1⟩:=B i g;obtain⟨t2,h2⟩:=B j M;rw[h1] at E;rw[h2] at l;obtain rfl:=Fk E;cases Fk l;have uf:Q' (.bool (decide (c[i]<c[j]))) s':=by rw[<-z i g,<-z j M];exact hq
  exact HT.AN _ _ _ _ _ _ _ _ _ _ uf
 .intro v h' tk N kk
  have kept:∀b o,s.heap.get? b=some o->h'.get? b=some o:=λb o e=>kk b o (by simp;exact bQ (FB e)) (Da _ e)
  obtain⟨y,F⟩:=z6 (f:=f) (λa b=>decide (a<b)) (λ_ _=>rfl) (d.toArray.size-1);generalize argBest (λi j=>(λa b=>decide (a<b)) (f i) (f j)) (d.toArray.size-1)=k at N y F;rw[cJ] at y F;have G:k<c.length:=by lia
  have l:d[k]? =some v:=by simpa using N
  obtain⟨t,ht⟩:=B k G;rw[ht] at l;cases Fk l;refine#[.int c[k],H,I.kept kept,#[t,rfl],q _ (qp G) λm p8=>?_];obtain⟨i,g,rfl⟩:=List.mem_iff_getElem.mp p8
  have:=F i (by lia)
  rw[z i g,z k G] at this;exact this
def Ts:cH:=λb P=>∃a:List Int,b= [.lst (a.map D.int)]/\a≠ []/\∀n∈a,(∀m∈a,n<=m)->P (.int n)
def L8(b:X.calm=true):CallR X (.builtin "min") (iG Z Ts):=by
 refine(GD b).imp ?_;intro l H Q c;rfl';obtain⟨G,o,P,s,dv,⟨f,rfl,g,i⟩,q⟩:=c;obtain⟨v,rfl,a⟩:=dv.ofOne;obtain⟨p,r,rfl,h,e⟩:=a.fN;ac_rfl;rw[lA e] at h;exact#[p,f,rfl,s _ _ h,g,λn j k=>q _ (i n j k) _ G H (.refl s) (.int n)]
end
section
variable {X:Cx} {Z:DC}
end
section
variable {Z:DC} {X:Cx} {md:List Nat} {rn:Nat} {a b e k:Expr} {pos:Pos} {ta tb te tk:aR} {t:iz}
def Xc(g h:aR):iz:=λf P=>g f λi=>∃c,i= .lst c/\h f λj=>∃d,j= .lst d/\c.length+d.length<=sizeLine/\P (c++d)
def Jn(m:DE Z X a ta)(n:DE Z X b tb):DF Z X 1 (.BinOp a .Add b pos) (Xc ta tb):=by
 refine(OB JH m n).imp ?_;intro I H Q o;rfl';obtain⟨G,g,P,s,e,h,q⟩:=o;ac_rfl;exists G,g,_,s,e,h;rintro _ ⟨L,rfl,h⟩ M u N c v;exists u,g,_,c.sub,e.mono c.gg,h;rintro _ ⟨O,rfl,w,y⟩ R S T d z;obtain⟨U,Y,rfl,A,i⟩:=v.fN;obtain⟨k,t,rfl,B,j⟩:=z.fN;have f:=i.mono d.gg;have x:=c.trans d;refine#[_,_,_,_,rfl,rfl,d.hh _ _ (c.sub _ _ A),d.sub _ _ B,by rw[i.length,j.length];exact w,λp l=>?_]
 obtain⟨C,E,F⟩:=Fs x l (f.append j);exact q _ y _ _ _ _ (x.side l) C E F
variable {tg iter elt:Expr} {ifs:List Expr} {scope:Scope} {NC:List Str} {src:List (Option Nat)} {wi:jn} {g:eX} {tt:dP}
def Mx(f:X.calm=true)(c:cE X scope)(h:dF scope X.N src NC)(i:DI Z X tg iter wi)
  (j:∀d s H,DG Z (dj X scope NC d s H) tg g) (l:∀d s H,D1 Z (dj X scope NC d s H) ifs tt) (m:∀d s H,DE Z (dj X scope NC d s H) elt te)
  (n:∀x,foldedSetIterable iter X.env x=pure x:=by intro _;rfl):DF Z X 1 (.ListComp elt [#[tg,iter,ifs,0]] scope pos) (Ul wi g tt te src):=(Oy f c h i j l m n).imp Fc
variable {B:Bs} {ρ:DN} {σ:St} {H G:Hp} {fp:Nat->List Addr}
def SIx.evF(S:SIx Z B md ρ σ H G fp)(h:t ρ P)
  (m:∀c,P c->c.all e9=true/\∀v i d,SIx Z B md ρ σ d i fp->Ext G H i d->Dv Z i v (.lst c)->Q v d):uq Z 1 t σ H Q:=by
 exists H,ρ,P, .refl _,S.Jr,h;intro c n v f i d x o F p;obtain⟨q,k⟩:=m c n;obtain⟨a,r,I,J,rfl,s,u,w,y⟩:=o.lst;cases s;obtain⟨dv,rfl⟩:=y.flat;have j:H a=none:=(p a (by rw[w];simp)).1
 have A:G a=none:=S.ex.sub.free j
 have l:Ext G H (upd G a (.lst r)) d:=by
  refine#[aO A _,λb o e=>?_,x.hh,λb C E=>?_]
  .by_cases z:b=a
   .subst z
    rw[av] at e;rw[<-e];exact u
   .rw[ax z] at e
    exact x.hh _ _ (S.ex.sub _ _ e)
  .rw[ax (λz=>C (by rw[z];exact j))];exact E
 exact k _ _ _ (S.grow l) l (.lst av (dv.flat q))
def Mr(i:Nat)(h:aR)(t:iz):cx:=λE c=>t c λd=>d.all e9=true/\∃f,c[i]? =some (some (.lst f))/\h c λl=>∃k j,l= .int k/\kh f.length k=some j/\E.nx (c.set i (some (.lst (f.set j (.lst d)))))
def w6(i:Nat)(A:DE Z X k tk)(C:DF Z X 1 e t)(r:md.getD i 0=1:=by rfl)(F:X.N[i]? =some x:=by rfl)(I:lR X.env.scope x:=by subst_eqs)(n:(x==("__debug__":Str))=false:=by decide)(J:(x==("__classdict__":Str))=false:=by decide)
  (L:∀v,assign (.Subscript (.Name x c) k f) X.env v=(do
   let o <-holding [v] (eval (.Name x c) X.env)
   let q <-holding [v,o] (eval k X.env)
   standAt f
   holding [v,o,q] (setItem o q v)
   release [v,o,q] []):=by intro _;rfl)
  (O:swapsWithSole [.Subscript (.Name x c) k f] e pos.line X.env=pure false:=by rfl) (hw:swappedStores [.Subscript (.Name x c) k f] e X.env=pure none:=by rfl)
  (p:(assignEach [.Subscript (.Name x c) k f] X.env).map (·.2)= [assign (.Subscript (.Name x c) k f) X.env]:=by rfl):DSt Z X md rn (.Assign [.Subscript (.Name x c) k f] e pos) (Mr i tk t):=by
 refine(ju C (mv (pv i F I n J) A set_list L) O hw p).imp ?_;intro D σ H P;rfl';obtain⟨B,ρ,E,⟨G,Q,S⟩,h,M⟩:=P;ac_rfl;refine S.evF h λd n=>#[n.1,λv G' H' u x dv=>?_];rfl';obtain⟨_,ds,p,h⟩:=n;obtain⟨l,xs,_,_,w,e3,_⟩:=u.one r p;ac_rfl;refine#[_,w,u.ev true h ?_];rintro _ ⟨k,j,rfl,R,T⟩;refine#[rfl,λv1 U H1 Y a b=>?_];rfl';cases b.ofInt;obtain⟨l',g,m6,e1,y,GR,z,put⟩:=Y.one r p;cases e1;ac_rfl;rw[w] at y;cases y;exact#[l,g,k,j,rfl,rfl,GR,by rw[z.length];exact R,M.nx _ T _ _ #[U,Q,put _ _ (z.set (dv.mono a.gg) j)]]
end
open PySem.Calls PySem.W
section
variable {X:Cx} {C:Addr} {x:Str} {p pos:Pos} {e:Expr} {es:List Expr} {te:TE} {t:TA}
def Pc(C:Addr)(t:TA):TE:=λb H Q=>t b H λc a=>c.length<=1000/\∀e,a e=none->Q (.ref e) (upd a e (pY C e none))
def FG(M:Eb X.K C (.builtin "ValueError.__init__"))(I:Inv X a f H s)(F:c.length<=1000)(h:∀e,H e=none->Q (.ref e) (upd H e (pY C e none))):
  wpAny (model X.prog X.w) X.A (call (.ref C) c) (EP X a f Q) X.xe s:=by
 obtain⟨G,q,N,bs,J,L,O,sub,P,l,R,S,T,U,Y,Z,i,j,m,n⟩:=M.obj;have r:=h (s.heap.objs.size+1) (I.hok.fresh (lQ _));have k:c.length<=sizeLine:=by rw[aaH];lia
 have v:((s.heap.push {cls:= .type "tuple",data:= .seq c.toArray}).push (b8 C s.heap.objs.size none)).get? (s.heap.objs.size+1)=some (b8 C s.heap.objs.size none):=by
  have:=GM (s.heap.push {cls:= .type "tuple",data:= .seq c.toArray}) (o:=b8 C s.heap.objs.size none) rfl
  rwa [aa1] at this
 obtain⟨y,g,d,z,os⟩:=s
 refine aay (vc (init:= .builtin "ValueError.__init__") aaC j m n (I.c7 _ _ i) (acm I.c7 M.call) (PySem.W.looks_instIn I.c7 M.typ) (abl I.c7 M.ini)
  (λself=>PySem.W.Looks.of_pure (aaC.init.bind self)) k ?_)
 refine uT aaC j (Da _ (Da _ (I.c7 _ _ i))) v (λp t' B E=>?_) k;refine#[rfl,#[V.ref (y.objs.size+1),_,I.laid (t':=z) (λb u q=>E b u ?_ (Da _ (Da _ q))) (lQ _) (DP B),rfl,r]];exact bQ (zg (FB q))
def Ia(M:Eb X.K C (.builtin "ValueError.__init__"))(d:Gl X x)(f:X.mg x=some (.ref C))(g:PA X (e::es) t)(i:(x==("__debug__":Str))=false:=by decide)
  (j:starEach (e::es) X.env=(false,eval e X.env)::starEach es X.env:=by rfl) (b:(backTo pos (starEach es X.env)).any (·.1)=false:=by rfl):
  PE X (.Call (.Name x p) (e::es) [] pos) (Pc C t):=by
 intro a s k H Q I h;refine UV (iV I d f ?_ i);refine aaA (h₀:=X.base) I.ok.mod.kin M.kp (thn (g pos a s k H _ I h) λm n #[o,u,c,r,l,q]=>#[c.c7,?_]) j b;exact FG M c (by rw[vn,<-r.length];exact l) q
def RN(X:Cx)(f:TE):TS:=λ_ b H=>f b H λv c=>∃a C d,v= .ref a/\c a=some (pY C a d)/\qa X.K C/\mroIn X.K C (.type "BaseException")=some true/\Ec X b (upd c a (kN C a d)) a
def AM(y:X.calm=true)(z:PE X e te):PS X (.Raise (some e) none pos) (RN X te):=by
 intro c s l H D I h;rw[arm_exec_Raise];refine wpAny_bind (wpAny_standAt ?_);simp only[evalOpt,Option.map];unfold raiseStmt;refine wpAny_bind (wpAny_bind (thn (z c s l H _ I h) λu f #[v,B,k,E,a,C,d,ev,m,F,i,q]=>wpAny_bind (wpAny_standAt (wpAny_pure ?_))));subst ev;obtain rfl:u=Value.ref a:=E;obtain⟨t,j⟩:=wa k.hok m;obtain⟨U,Y,N,bs,G,Z,p,sub,ab,J,dd,n,k1,k2,k3,k5,r,cB,cA,cN⟩:=F.obj;have w:=k.c7 _ _ r
 have L:(Value.ref C::G).contains (.type "BaseException")=true:=by
  unfold mroIn clsIn at i;rw[r] at i;simpa using i
 have M:Inv X c l (upd B a (kN C a d)) f:=by
  refine ah λG0 n=>?_;have O:=k.write (x:=a) (e:=a) (o:=kN C a d) (h':=f.heap) (t':=f.toks) (by rw[m];exact True.intro) (.inl rfl) (λb u i q=>q) #[_,j] (M0 (tb:= .none) j)
  obtain⟨P,g,Q,R,os⟩:=f;refine n ?_;exact O
 have S:X.xe (.ref a) f:=q f M.LX #[C,t, .none,d,av,j, .inl rfl];have T:X.A.handled=none:=I.ok.hd y;obtain⟨P,g,Q,R,os⟩:=f
 repeat (first|with_reducible refine wpAny_loadPart_at j ?_|with_reducible refine wpAny_loadPart_at w ?_| (with_reducible refine wpAny_isSubtype_exc w ?_;rw[L]) |wp_step)
 exact wpAny_raiseNew_none T S
end
section
variable {X:Cx} {k:Nat} {f C:Addr} {fd:FuncData} {ps:List Str} {sp:Sp} {x m:Str} {p pos apos:Pos} {e o:Expr} {es:List Expr} {ta:TE} {t:TA}
def Tp(X:Cx)(b:St):XK:=λe _ c=>∃a,e= .ref a/\Ec X b c a
theorem OV{pins:List (Addr×Obj)}{σ:St}{H:Hp}{s:Shared}{Q:VK}{us:List Value}{vs:List V}(F:FnOk X.prog X.w X.K X.mg X.base (rm X.prog X.w) k f fd ps sp)(hr:bN k X.A)(hb:Binds X.K fd ps [])
  (I:Inv X pins σ H s) (r:Vals vs us) (h:sp vs H Q (Tp X σ)):wpAny (model X.prog X.w) X.A (call (.ref f) us) (EP X pins σ Q) X.xe s:=by
 have hl:(us++ []).length=ps.length:=by rw[fI,<-r.length];exact F.len _ _ _ _ h
 have Hd:=hb s us I.c7 hl;rw[fI] at Hd;refine wpAny_call (codeAny_mono (F.run X.A X.stack s H #[us,[]] us vs Q (Tp X σ) hr I.fC Hd r h) λr s' hq=>?_);cases r with
 |error e=>
  rfl';obtain⟨a,H',rfl,fl,a',ea,q⟩:=hq;cases ea;obtain⟨I2,f2⟩:=P9 I fl;ac_rfl;exact q s' I2 f2
 |ok fl=>
  cases fl with
  |ret u=>exact I.after hq
  |next=>exact False.elim hq
  |brk=>exact False.elim hq
  |cont=>exact False.elim hq
def JQ(X:Cx)(b:Sp)(t:TA):TE:=λa H Q=>t a H λc d=>b c d Q (Tp X a)
def AJ(F:FnOk X.prog X.w X.K X.mg X.base (rm X.prog X.w) k f fd ps sp)(d:bN k X.A)(g:Gl X x)(i:X.mg x=some (.ref f))(j:aA X.K (.ref f)=true)(l:Binds X.K fd ps [])
  (n:PA X (e::es) t) (u:(x==("__debug__":Str))=false:=by decide) (v:starEach (e::es) X.env=(false,eval e X.env)::starEach es X.env:=by rfl) (b:(backTo pos (starEach es X.env)).any (·.1)=false:=by rfl):
  PE X (.Call (.Name x p) (e::es) [] pos) (JQ X sp t):=by
 intro a s y H Q I h;refine UV (iV I g i ?_ u);refine aaA (h₀:=X.base) I.ok.mod.kin j (thn (n pos a s y H _ I h) λz B #[E,G,c,r,q]=>#[c.c7,?_]) v b;exact OV F d l c r q
end
section
variable {X:Cx} {pins:List (Addr×Obj)} {σ:St} {H:Hp} {s:Shared}
def sq(I:Inv X pins σ H s)(O:X.N.Nodup)(F:X.N[i]? =some x)(P:X.env.scope.names.lookup x=some .local)
  (h:∀G,Inv X pins (σ.set i none) H G->Q () G):wpAny M A (do bindName X.env x .none;unbindBehindTheSuite X.env x u) Q E s:=by
 obtain⟨m,J,R⟩:=id I.loc;have S:(X.env.scope.kind== .class|| (X.env.scope.kind== .module&&X.env.locals !=X.env.globals))=false:=by rw[I.ok.kind];rfl
 have T:i<σ.length:=by rw[I.len];exact(dm.mp F).1
 have wK:=I.wK;refine wpAny_nameGoes_keeps P J S λU v Y f=>?_;rfl';obtain⟨oL,_,_,xH,_⟩:=id J;ac_rfl
 have a:gI X.prog X.w H U:=λb ob e=>by
  refine(I.hok b ob e).oW (λc L r q=>(f.2 c ?_).trans q) (λ_ q=>q) λ_ _ q=>q;rintro rfl
  rcases r with rfl|r
  .rw[I.free] at e;cases e
  .rw[I.free] at r;cases r
 refine h _ #[I.ok,I.os,I.bare,#[λb o e n B l=>?_,λb o e n B l=>?_,I.base.free,λb o e l=>?_,I.base.tups,I.base.frzs,I.base.tbls],#[_,Y,λj y v' g t e3=>?_],λy c e=>?_,I.free,I.freeC,λp hp=>?_,a,by simpa using I.len]
 .exact(f.2 b (bQ (fo (FB e) I.ok.above))).trans (I.base.keep b o e n B l)
 .obtain⟨sl,g⟩:=I.base.slot b o e n B l
  exact#[sl,(f.2 b (bQ (fo (FB e) I.ok.above))).trans g]
 .obtain⟨o',g⟩:=I.base.there b o e l
  exact#[o',(f.2 b (bQ (fo (FB e) I.ok.above))).trans g]
 .by_cases C:j=i
  .subst C
   rw[ji T] at t;cases Fk t
  .rw[jj (Ne.symm C)] at t
   obtain⟨u',r',q⟩:=R j y v' g t e3;exists u',r'
   rcases q with ⟨k,e⟩ | ⟨k,c,e,z⟩
   .refine .inl #[k,?_]
    have:y≠x:=λe=>C (uw O g (e▸F))
    simp[this,e]
   .exact .inr #[k,c,e,z.sameBut f (wK y c e)]
 .obtain⟨L,z⟩:=I.cell y c e
  exact#[L,z.sameBut f (wK y c e)]
 .obtain⟨e,n,ne,nf,d⟩:=I.pin p hp
  exact#[(f.2 p.1 ne).trans e,n,ne,nf,d]
def EL{K:ac}{C:Addr}{b:Value}{r:Bool}{f q:Str}{N:Addr}{bs e:List Value}{g:Bool}{h:List Str}{sub:List Value}{i:Bool}{c:Option Bool}{j:Option Addr}{k l m n o:Option Value}{a:String}
  (p:K.lookup C=some (excClassObj f q C N bs e g h sub i c j k l m n o a)) (d:mroIn K C b=some r):(Value.ref C::e).contains b=r:=by
 unfold mroIn clsIn at d;rw[p] at d;simpa using d
def MW{M:Model}{A:Around}{E:Value->Shared->Prop}{Q:Bool->Shared->Prop}{K:ac}{a C e t:Addr}{j:Value}{d:Option Addr}{b:Bool}(X:K.In s.heap)(k:s.heap.get? a=some (iS C t j d))(l:qa K C)(m:qa K e)(n:mroIn K e (.type "BaseException")=some true)(o:mroIn K C (.ref e)=some b)
  (h:Q b s):wpAny M A (excMatches (.ref a) (.ref e)) Q E s:=by
 obtain⟨S,T,N,bs,U,Y,Z,sub,H,p,dd,k0,k1,k2,k3,k5,i,_⟩:=l.obj;obtain⟨q,r,N',u,v,w,x,y,z,B,F,G,I,J,L,O,c,_⟩:=m.obj;have P:=EL i o;have R:=EL c n
 replace i:=X _ _ i
 replace c:=X _ _ c
 have f:=tc_notTuple;obtain⟨hp,g,dr,tk,os⟩:=s;unfold excMatches
 repeat (first|with_reducible refine wpAny_loadPart_at k ?_|with_reducible refine wpAny_loadPart_at c ?_| (with_reducible refine wpAny_isSubtype_exc c ?_;rw[R]) | (with_reducible refine wpAny_isSubtype_exc i ?_;rw[P]) |wp_step)
 cases b<;>(wp_walk;exact h)
end
abbrev Cx.xG(X:Cx)(a:Addr):Cx:={X with A:=X.A.mark (some (.ref a)),calm:=false,xe:=λ_ _=>False}
abbrev Cx.tr(X:Cx)(pn:List (Addr×Obj))(E:Value->Shared->Prop):Cx:={X with pn:=pn,xe:=E}
section
variable {X:Cx} {pins pn:List (Addr×Obj)} {σ:St} {H:Hp} {s:Shared} {E:Value->Shared->Prop} {a:Addr}
theorem Inv.xG(I:Inv X pins σ H s)(a:Addr):Inv (X.xG a) pins σ H s:=
 #[#[I.ok.mod,I.ok.kind,I.ok.glob,I.ok.blt,I.ok.above,I.ok.inj,I.ok.has,I.ok.cab,(λz=>nomatch z),I.ok.frames,I.ok.stk,I.ok.exf,I.ok.bs,I.ok.bsz,I.ok.noex,I.ok.exfs,I.ok.funs,I.ok.frf],I.os,I.bare,I.base,I.loc,I.cell,I.free,I.freeC,I.pin,I.hok,I.len]
def Inv.Dz(ok:X.Ok)(I:Inv (X.xG a) pins σ H s):Inv X pins σ H s:=#[ok,I.os,I.bare,I.base,I.loc,I.cell,I.free,I.freeC,I.pin,I.hok,I.len]
theorem Inv.tr(I:Inv X pins σ H s)(E:Value->Shared->Prop):Inv (X.tr (X.pn++pins) E) [] σ H s:=
 #[#[I.ok.mod,I.ok.kind,I.ok.glob,I.ok.blt,I.ok.above,I.ok.inj,I.ok.has,I.ok.cab,I.ok.hd,I.ok.frames,I.ok.stk,I.ok.exf,I.ok.bs,I.ok.bsz,I.ok.noex,I.ok.exfs,I.ok.funs,I.ok.frf],I.os,I.bare,I.base,I.loc,I.cell,I.free,I.freeC,λp b=>I.pin p (by rw[fI] at b;exact b),I.hok,I.len]
def Inv.F4(ok:X.Ok)(I:Inv (X.tr (X.pn++pins) E) [] σ H s):Inv X pins σ H s:=#[ok,I.os,I.bare,I.base,I.loc,I.cell,I.free,I.freeC,λp b=>I.pin p (by rw[fI];exact b),I.hok,I.len]
def BH{X:Cx}(f:wc X H s a)(h:Q () s):wpAny M A (setFlight (.ref a) none) Q E s:=by
 rfl';obtain⟨C,t,l,d,_,c,b⟩:=f;ac_rfl
 rcases b with rfl| ⟨T,rfl,_,_,_,_,_,o,j,e,g,b⟩
 .unfold setFlight
  refine ir (aaP (x:= .none) c rfl rfl ?_);rw[mo (by decide)]
  exact AC h
 .refine wpAny_setFlight_none c rfl rfl e g (y6.mp b).1 ?_
  rw[Heap.update_setField_same _ _ o j 3 .none e g b];exact h
end
def W8:Option Nat->Ends->Ends
 |none,D=>D
 |some i,D=>{nx:=λa H=>D.nx (a.set i none) H,rt:=D.rt,bk:=λa H=>D.bk (a.set i none) H,ct:=λa H=>D.ct (a.set i none) H}
def Zh:Option Nat->Addr->St->St
 |none,_,b=>b
 |some i,a,b=>b.set i (some (.ref a))
abbrev LH:=List (Addr×Option Nat×(Addr->TS))
def Dt(K:ac):LH->Ends->St->Hp->Addr->Addr->Prop
 | [],_,_,_,_,_=>False
 | (d,n,e)::r,D,c,H,a,C=>∃b,mroIn K C (.ref d)=some b/\if b=true then e a (W8 n D) (Zh n a c) H else Dt K r D c H a C
def PH(X:Cx)(e:List ExceptHandler)(l:LH):Prop:=
 ∀(b:List (Addr×Obj))(c:St)(H:Hp)(s:Shared)(a C:Addr)(d:Option Addr)(D:Ends),Inv X b c H s->wc X H s a->H a=some (kN C a d)->qa X.K C->Dt X.K l D c H a C->wpAny (model X.prog X.w) X.A (handleBy (.ref a) X.env e) (SP X b D) X.xe s
section
variable {X:Cx} {pos p:Pos} {c n:Str} {Cm:Addr} {En:Stmt} {yJ:List Stmt} {rest:List ExceptHandler} {l:LH} {th:Addr->TS}
def Rb:PH X [] []:=λ_ _ _ _ _ _ _ _ _ _ _ _ h=>h.elim
def MZ{h:Heap}(e:kN C a d=kN f a i)(g:h.get? a=some (iS C t b d)):C=f:=by
 have:=GE (λo=>match o with|HO.ext k=>k h|_=>True) e
 have m:∃t b,h.get? a=some (iS f t b i):=by
  have:(∃t b,h.get? a=some (iS C t b d))=(∃t b,h.get? a=some (iS f t b i)):=this
  rw[<-this];exact#[t,b,g]
 obtain⟨r,q,j⟩:=m;rw[g] at j;cases j;rfl
def Vu(i:Nat)(hN:X.N.Nodup)(hi:X.N[i]? =some n)(hk:X.env.scope.names.lookup n=some .local)(hg:Gl X c)(hm:X.mg c=some (.ref Cm))(xm:qa X.K Cm)(qF:mroIn X.K Cm (.type "BaseException")=some true)(hs:∀a,kc (X.xG a) (En::yJ) (th a))(hr:PH X rest l)(dG:(c==("__debug__":Str))=false:=by decide):
  PH X (.ExceptHandler (some (.Name c p)) (some n) (En::yJ) pos::rest) ((Cm,some i,th)::l):=by
 intro pins σ H s a C d D I fl ha xc h;rfl';obtain⟨C',t,tb,d',h1,h2,h3⟩:=id fl;have eC:C'=C:=MZ (Option.some.inj (h1.symm.trans ha)) h2;subst eC;obtain⟨b,hb,h⟩:=h;ac_rfl;refine wpAny_handleBy_cons (codeAny_handlers_test (wpAny_mono (iV (I.xG a) hg hm ?_ dG) (λ_ _ x=>x) λ_ _ z=>z)) (by intro q;cases q)
 refine MW I.c7 h2 xc xm qF hb ?_;cases b with
 |false=>exact hr pins σ H s a C' d D I fl ha xc h
 |true=>
  refine codeAny_handlers_suite_as (BH fl ?_);refine jF (X:=X.xG a) (v:= .ref a) (I.xG a) hN hi (.inl hk) rfl (λs1 I1=>?_) (.inr hk);refine wpAny_mono (hs a pins s1 _ H _ I1 h) (λf s2 q=>?_) λ_ _ z=>z.elim;cases f with
  |next=>obtain⟨az,H',I',q⟩:=q;exact sq (I'.Dz I.ok) hN hi hk λs3 I3=>#[_,H',I3,q]
  |brk=>obtain⟨az,H',I',q⟩:=q;exact sq (I'.Dz I.ok) hN hi hk λs3 I3=>#[_,H',I3,q]
  |cont=>obtain⟨az,H',I',q⟩:=q;exact sq (I'.Dz I.ok) hN hi hk λs3 I3=>#[_,H',I3,q]
  |ret u=>obtain⟨v,az,H',I',r,q⟩:=q;exact sq (I'.Dz I.ok) hN hi hk λs3 I3=>#[v,_,H',I3,r,q]
def ZC(X:Cx)(g:List (Addr×Obj)->(Value->Shared->Prop)->TS)(h:TS)(l:LH):TS:=λD i H=>∀e E,(∀f b a C d,b a=some (kN C a d)->qa X.K C->Dt X.K l D f b a C->Ec (X.tr e E) f b a)->g e E {D with nx:=h D} i H
theorem Ri{body orelse:List Stmt}{h₀:ExceptHandler}{hs:List ExceptHandler}{tb:List (Addr×Obj)->(Value->Shared->Prop)->TS}{to:TS}(m8:X.stack=X.env::X.outer)(Nu:X.env.frame=some X.env.locals)
  (hb:∀pn E,kc (X.tr pn E) body (tb pn E)) (ho:kc X orelse to) (hh:PH X (h₀::hs) l):PS X (.Try body (h₀::hs) orelse [] pos) (ZC X tb to l):=by
 intro pins s σ H D I h;refine wpAny_Try_except ?_
 let E':Value->Shared->Prop:=λe s₁=>wpAny (model X.prog X.w) X.A (noteFrame e X.env) (λ_ AW=>wpAny (model X.prog X.w) X.A (setFlight e none) (λ_ FW=>wpAny (model X.prog X.w) X.A (handleBy e X.env (h₀::hs)) (SP X pins D) X.xe FW) X.xe AW) X.xe s₁
 have hw:=h (X.pn++pins) E' λaz H' a C d h1 h2 h3=>by
  intro s1 I1 f1;refine Az (X:=X.tr (X.pn++pins) E') m8 Nu I1 f1 λs2 I2 f2=>?_;rfl';have ZX:=I2.F4 I.ok;obtain⟨C',t,tb,d',g1,g2,g3⟩:=f2;ac_rfl;refine hh pins az H' s2 a C d D ZX #[C',t,tb,d',g1,g2,g3.imp id λ#[T,e1,e2,e3,e4,e5,e6]=>#[T,e1,e2,e3,e4,λp hp=>e5 p (iu _ hp),e6]] h1 h2 h3
 refine wpAny_mono (hb _ E' [] s σ H _ (I.tr E') hw) (λf s1 q=>?_) λ_ _ z=>z;cases f with
 |next=>obtain⟨az,H',I',q⟩:=q;exact ho pins s1 az H' D (I'.F4 I.ok) q
 |brk=>obtain⟨az,H',I',q⟩:=q;exact#[az,H',I'.F4 I.ok,q]
 |cont=>obtain⟨az,H',I',q⟩:=q;exact#[az,H',I'.F4 I.ok,q]
 |ret u=>obtain⟨v,az,H',I',r,q⟩:=q;exact#[v,az,H',I'.F4 I.ok,r,q]
end
abbrev zk:=List D->(D->Prop)->(D->Prop)->Prop
def iW(Z:DC)(f:zk):Sp:=λg H Q E=>∃(G:Hp)(e:List D)(P R:D->Prop),aJ G H/\DvAll Z G g e/\f e P R/\(∀d,P d->∀v b c,Ext G H b c->Dv Z b v d->Q v c)/\∀d,R d->∀a b c,Ext G H b c->Dv Z b (.ref a) d->E (.ref a) none c
section
variable {P:Program} {w:World} {K:ac} {mg:Str->Option Value} {base:Heap} {Z:DC}
def rA.okX{x a:Str}{st:Stmt}{f:Addr}{g:FuncData}{N d:List Str}{k:Nat}{e:Sp}{h:pV}(F:rA K x a st f g)(S:aF N d (aw st))(len:∀b H Q E,e b H Q E->b.length=d.length)
  (i:∀(c:Value)(A:Around)(outer:List Env)(s:Shared)(H:Hp)(b:List V)(Q:VK)(E:XK),bN k (A.deeper (envOfC a (aw st) s.heap.objs.size f c))->e b H Q E->
   ∃t,kc (kv h P w K mg base N a (aw st) f c A outer s H E) (dM st) t/\t {nx:=λ_ j=>Q .bb j,rt:=Q} (start N b) H):FnOk P w K mg base h (k+1) f g d e:=by
 rfl';obtain⟨u,v,kV,m,y,z,c,B,C,rfl,n,o⟩:=F.ex;ac_rfl;exact M3 n o S len λA outer s H b Q E p q=>i c A outer s H b Q E p q
theorem pD{x b:Str}{st:Stmt}{f:Addr}{B:FuncData}{N m:List Str}{k:Nat}{p:zk}(F:rA K x b st f B)(S:aF N m (aw st))(C:List Nat)(J:∀i,i<m.length->C.getD i 0=0)(len:∀c P R,p c P R->c.length=m.length)
  (L:∀(n:Value)(A:Around)(outer:List Env)(s:Shared)(H:Hp)(E:XK)(c:List D)(R g:D->Prop),bN k (A.deeper (envOfC b (aw st) s.heap.objs.size f n))->p c R g->
   ∃t,m9 Z (kv (rm P w) P w K mg base N b (aw st) f n A outer s H E) C 0 (dM st) t/\t {nx:=λ_=>R .bb,rt:=R,xc:=λ_ d=>g d} (mG N c)):FnOk P w K mg base (rm P w) (k+1) f B m (iW Z p):=by
 refine F.okX S (λM H Q E h=>?_) (λn A outer s H M Q E O h=>?_)
 .obtain⟨G,c,R,g,s,dv,h,q⟩:=h
  rw[dv.length];exact len _ _ _ h
 rfl';obtain⟨G,c,R,g,U,dv,h,q,X⟩:=h;obtain⟨t,Y,hq⟩:=L n A outer s H E c R g O h;have hl:=len _ _ _ h;ac_rfl;refine#[_,Y,#[G,H,G],_,_,#[G,λ_=> [],?_],hq,#[λρ KJ az j #[l,fp,r]=>q _ KJ _ l j r.ex .bb,λd u v f l j x o nd nw=>q d u v l j x o.1,λ_ z=>z.elim,λ_ z=>z.elim,λρ d u az j l fp a r y s2 I2 f2=>M1 I2 f2 (X d u a l j r.ex y)]];refine#[.refl U, .refl _,by unfold mG start;simp[dv.length],λi d e=>?_,λ_=>gB,(λ_ _ _ _ z=>by cases z),(λ_ _ z=>by cases z)]
 unfold mG at e
 have I:i<c.length:=by
  apply Gc;intro z;rw[mW (by simpa using i4 z),vd] at e
  split at e<;>cases e
 rw[kL (by simpa using I),df] at e
 have iU:c[i]? =some d:=by
  cases z:c[i]? with
  |none=>rw[z] at e;cases e
  |some d'=>rw[z] at e;cases e;rfl
 obtain⟨v,hv,y⟩:=dv.get iU;refine#[v,?_,by rw[J i (by lia)];exact#[y,rfl]]
 unfold start;rw[kL (by simpa [dv.length] using I),df,hv];rfl
end
section
variable {Z:DC} {X:Cx} {md:List Nat} {rn:Nat} {st:Stmt} {FR:List Stmt} {t:gH} {e x1 y1:Expr} {es:List Expr} {tx ty:aR} {sd:zk} {k j:Nat} {x:Str} {ps:List Str} {p pos aB:Pos}
def Pz(b:List Nat)(c:zk)(t:gH)(K:dE->DN->D->Prop):cx:=λE a=>t (cn b a) λd=>c d (K E a) (E.xc a)
def Eo{B:Bs}{b:DN}{g:St}{H G:Hp}{i:Nat->List Addr}{E:dE}{r:Ends}{K:D->Prop}{Q:VK}(S:SIx Z B md b g H G i)(h:t (cn md b) λl=>sd l K (E.xc b))(M:Meets Z X B md rn E r)
  (q:∀d,K d->∀v c f,SIx Z B md b g f c i->Dv Z c v d->Q v f):JQ X (iW Z sd) (CF Z t) g H Q:=by
 refine#[G,_,_,S.ex.sub,S.rY,h,λl s y u z n w=>?_];have o:=S.grow n;exact#[u,l,K,E.xc b,n.sub,w,s,λd m v c f x dv=>q d m v c f (o.grow x) dv,λd m a c f x dv=>#[a,rfl,M.xc b d m g f c i a (o.grow x) dv]]
def pA(d:dQ X.K X.mg x st ps)(F:FnOk X.prog X.w X.K X.mg X.base (rm X.prog X.w) k d.f d.fd ps (iW Z sd))(g:bN j X.A)(i:DA Z X (e::es) t)(l:Gl X x:=by rfl)(n:k<=j:=by first|decide|lia)
  (o:(x==("__debug__":Str))=false:=by decide) (q:starEach (e::es) X.env=(false,eval e X.env)::starEach es X.env:=by rfl) (a:(backTo aB (starEach es X.env)).any (·.1)=false:=by rfl) (r:swapsWith (.Call (.Name x p) (e::es) [] aB) none pos.line X.env=pure false:=by rfl):
  DSt Z X md rn (.Expr (.Call (.Name x p) (e::es) [] aB) pos) (Pz md sd t λE c _=>E.nx c):=by
 refine(fO (AJ F (g.mono n) l d.m d.F.kp d.b i o q a) r).imp ?_;intro D J H s;rfl';obtain⟨B,c,E,⟨G,y,S⟩,h,M⟩:=s;ac_rfl;exact Eo S h M λd z v C N I dv=>M.nx _ z _ _ #[C,y,I]
structure XE (K:ac) (C:Addr):Prop where
 cls:ko K C
 obj:qa K C
def IG(H:Hp)(a:Addr)(o u:HO):upd (upd H a o) a u=upd H a u:=by
 funext b
 by_cases h:b=a
 .rw[h,av,av]
 .rw[ax h,ax h,ax h]
def FC(S:SIx Z B md b c H G d)(h:E.xc b (.err C [] []))(M:Meets Z X B md rn E f)(g:H a=none):Ec X c (upd (upd H a (pY C a none)) a (kN C a none)) a:=by
 rw[IG];have x:Ext G H (upd G a (kN C a none)) (upd H a (kN C a none)):= .new S.ex.sub g;exact M.xc b _ h c _ _ d a (S.grow x) (.err av (.inl #[rfl,rfl,rfl]) .nil)
def MT:Option Nat->dE->dE
 |none,E=>{E with xc:=λ_ _=>False}
 |some i,E=>{nx:=λa=>E.nx (a.set i none),rt:=E.rt,bk:=λa=>E.bk (a.set i none),ct:=λa=>E.ct (a.set i none)}
def OW:Option Nat->D->DN->DN
 |none,_,a=>a
 |some i,d,a=>a.set i (some d)
abbrev A6:=List (Addr×Option Nat×cx)
def TH(K:ac)(C:Addr):A6->dE->DN->D->Prop
 | [],_,_,_=>False
 | (c,n,f)::r,E,a,d=>∃b,bv K C (.ref c)=some b/\if b=true then f (MT n E) (OW n d a) else TH K C r E a d
def TF(K:ac)(l:A6)(E:dE)(a:DN):D->Prop
 | .err C b c=>qa K C/\TH K C l E a (.err C b c)
 |_=>False
def WU(K:ac)(tb a:cx)(l:A6):cx:=λE b=>tb {E with nx:=a E,xc:=TF K l E} b
def SIx.drop{ρ:DN}{i:Nat}(S:SIx Z B md ρ b H G d):SIx Z B md (ρ.set i none) (b.set i none) H G d where
 ex:=S.ex
 fl:=S.fl
 len:=by rw[fJ,fJ];exact S.len
 at_:=λj c h=>by
  by_cases z:i=j
  .subst z
   by_cases a:i<ρ.length
   .rw[ji a] at h;cases h
   .rw[za (i4 a),j7 (i4 a)] at h;cases h
  .rw[jj z] at h ⊢
   exact S.at_ j c h
 nd:=S.nd
 ap:=S.ap
 nw:=S.nw
def SK(Z:DC)(X:Cx)(b:List Nat)(d:Nat)(l:A6):LH:=l.map λc=>(c.1,c.2.1,λa=>l7 Z (X.xG a) b d c.2.2)
def YX(a:List Nat)(l:A6):Prop:=∀c∈l,∀i,c.2.1=some i->a.getD i 0=0
def DHs(Z:DC)(X:Cx)(a:List Nat)(b:Nat)(c:List ExceptHandler)(l:A6):Prop:=PH X c (SK Z X a b l)/\YX a l
theorem Aq{B:Bs}{E:dE}{s:Ends}(M:Meets Z X B md rn E s){q:DN}{u:St}{H G:Hp}{v:Nat->List Addr}(S:SIx Z B md q u H G v){a C:Addr}{d:D}(dv:Dv Z G (.ref a) d){K:ac}:∀(l:A6),YX md l->TH K C l E q d->Dt K (SK Z X md rn l) s u H a C
 | [],_,h=>h
 | (L,n,F)::r,ok,#[b,I,h]=>by
  exists b,I;cases b with
  |false=>exact cc (Aq M S dv r (λc J=>ok c (eJ _ J)) (h))
  |true=>
   have h:F (MT n E) (OW n d q):=h;refine bL ?_;cases n with
   |none=>exact#[B,q,_,#[G,v,S],h,#[M.nx,M.rt,M.bk,M.ct,λ_ _ z=>z.elim]]
   |some i=>
    refine#[B,_,_,#[G,_,S.oU (ok _ (dq ..) i rfl) dv],h,#[λw f y A #[g,m,o]=>M.nx _ f _ _ #[g,m,o.drop],M.rt,λw f y A #[g,m,o]=>M.bk _ f _ _ #[g,m,o.drop],λw f y A #[g,m,o]=>M.ct _ f _ _ #[g,m,o.drop],λ_ _ z=>z.elim]]
def P0(v:∀g E,m9 Z (X.tr g E) md rn c tb)(w:m9 Z X md rn b o)(q:DHs Z X md rn (f::n) l)(y:X.stack=X.env::X.outer:=by rfl)(z:X.env.frame=some X.env.locals:=by rfl):
  DSt Z X md rn (.Try c (f::n) b [] pos) (WU X.K tb o l):=by
 refine(Ri (tb:=λg E=>l7 Z (X.tr g E) md rn tb) y z v w q.1).imp ?_;intro P Q H A g R F;rfl';obtain⟨B,J,E,S,h,M⟩:=A;ac_rfl;refine#[B,J,_,S,h,#[λr L s u i=>#[B,r,E,i,L,M],M.rt,M.bk,M.ct,λr d m s u G U a i dv=>?_]];cases d<;>first|exact False.elim m|skip
 rename_i C Y e
 have N:=dv;cases dv with
 |err O j k=>exact F s u a C _ (i.ex.sub _ _ O) m.1 (Aq M i N l q.2 m.2)
def PR:DHs Z X md rn [] []:=#[Rb,λc a=>by cases a]
variable {c n:Str} {Cm:Addr} {En:Stmt} {yJ:List Stmt} {rest:List ExceptHandler} {l:A6} {th:cx}
def T4(i:Nat)(g:X.N.Nodup)(h:X.mg c=some (.ref Cm))(d:XE X.K Cm)(m:∀a,m9 Z (X.xG a) md rn (o::yJ) th)(f:DHs Z X md rn rest l)(q:Gl X c:=by rfl)(r:(c==("__debug__":Str))=false:=by decide)(s:X.N[i]? =some n:=by rfl)(u:X.env.scope.names.lookup n=some .local:=by rfl)(v:md.getD i 0=0:=by rfl):
  DHs Z X md rn (.ExceptHandler (some (.Name c p)) (some n) (o::yJ) pos::rest) ((Cm,some i,th)::l):=
 #[Vu i g s u q h d.obj d.cls.be m f.1 r,λc b=>by
  rcases eF.mp b with rfl|b
  .intro i z;cases z;exact v
  .exact f.2 c b]
end
section
variable {X:Cx}
def MU(hok:gI P w H h)(e:H a=some (kN C a b))(k:J4 H b c d):∃f b,PySem.W.InstAt h a f C b:=by
 obtain⟨t,j,e⟩:=Ju hok e
 rcases k with ⟨rfl,_,_⟩ | ⟨l,rfl,g,_⟩
 .exact#[_,none,e,rfl,rfl,trivial]
 .obtain⟨_,m,⟨o,_,_,i,_⟩,_⟩:=DQ hok g
  exact#[_,some o,e,rfl,rfl,i]
structure Pq (K:ac):Prop where
 hn:aW K (.builtin "object.__class__") "__get__"=some (some (.builtin "getset_descriptor.__get__"))
 htk:cS K (.builtin "object.__class__")=some true
theorem zp(i:Pq X.K):
  CallR X (.builtin "isinstance") (λg H Q=>∃(a C:Addr)(f:Option Addr)(j:List Str)(k:List V)(c:V)(d:Value)(b:Bool),g= [.ref a,c]/\H a=some (kN C a f)/\J4 H f j k/\ko X.K C/\I0 c d/\ad X.K (.ref C) d=some b/\Q (.bl b) H):=by
 intro l s B H g E Q I o h;rfl';obtain⟨a,C,f,j,k,c,d,b,rfl,r,t,u,v,e,q⟩:=h;obtain⟨G,w,rfl,x,m⟩:=o.two;subst x;obtain⟨L,y,J⟩:=MU I.hok r t;ac_rfl
 have A:w=d:=by
  cases v with
  |own D=>exact m
  |blt n=>exact m
 subst A;exact SB (KQ u i.hn i.htk) I.c7 J e (λz=>nomatch z) λM=>#[.bl b,H,I.tok _,rfl,q]
end
section
variable {Z:DC} {X:Cx} {a c:Expr} {cs:List Expr} {ta:aR} {p pos:Pos}
def PD(K:ac)(e:Value)(t:aR):aR:=λf P=>t f λd=>match d with
 | .err C _ _=>ko K C/\∃b,ad K (.ref C) e=some b/\P (.bl b)
 |_=>False
def gP{K:ac}{f:V}{g:Value}(i:Pq K)(r:I0 f g)(j:PE X c (tC f))(t:DE Z X a ta)(u:Gl X "isinstance")(w:X.mg "isinstance"=none)(n:starEach [a,c] X.env=(false,eval a X.env)::starEach [c] X.env:=by rfl)
  (k:(backTo pos (starEach [c] X.env)).any (·.1)=false:=by rfl) (x:starEach [c] X.env=(false,eval c X.env)::starEach [] X.env:=by rfl) (y:X.K=K:=by rfl):
  DE Z X (.Call (.Name "isinstance" p) [a,c] [] pos) (PD K g ta):=by
 subst y;refine(pO (zp i) u w (by decide+kernel) (bq t (bq j cp x) n) (by decide) (by decide) n k).imp ?_
 intro T H Q z;rfl';obtain⟨G,B,P,s,e,h,q⟩:=z;ac_rfl;refine#[G,B,_,s,e,h,λd o v E F m dv=>?_];cases dv<;>first|exact o.elim|skip
 rename_i a C I J L U M N Y
 rfl';obtain⟨O,b,R,S⟩:=o;ac_rfl;exact#[a,C,I,J,L,f,g,b,rfl,m.sub _ _ M,N.mono m.sub,O,r,R,q _ S _ E F m (.bl _)]
def mr(b:X.mg x=some (.ref C))(d:Gl X x:=by rfl)(e:(x==("__debug__":Str))=false:=by decide):PE X (.Name x pos) (tC (.ref C)):=Fw d b (v:= .ref C) rfl e
def Vr(b:X.mg "ValueError"=none)(d:Gl X "ValueError":=by rfl):PE X (.Name "ValueError" pos) (tC (.ty "ValueError")):=Fv d b (by decide+kernel) rfl (by decide) (by decide)
def TC(K:ac)(f:Str)(t:aR):aR:=λb P=>t b λd=>match d with
 | .err C e g=>ko K C/\gE K C f/\∃y,(e.zip g).lookup f=some y/\P y
 |_=>False
theorem JU:∀{b:List Str}{d:List V}{e:List D},DvAll Z G d e->(b.zip e).lookup f=some y->∃v,(b.zip d).lookup f=some v/\Dv Z G v y
 | [],_,_,_,h=>by cases h
 |k::b,_,_, .nil,h=>by cases h
 |k::b,_,_, .cons a g,h=>by
  rw[List.zip_cons_cons] at h ⊢
  by_cases z:(f==k)=true
  .rw[aP,z] at h
   cases Fk h;exact#[_,by rw[aP,z],a]
  .have z:(f==k)=false:=by simpa using z
   rw[aP,z] at h;obtain⟨v,i,j⟩:=JU g h;exact#[v,by rw[aP,z];exact i,j]
def VQ(K:ac)(e:TE)(f:Str):TE:=λg H Q=>e g H λx b=>∃a C d fs v,x= .ref a/\b a=some (kN C a (some d))/\b d=some (zo d fs)/\ko K C/\gE K C f/\fs.lookup f=some v/\Q v b
def Ow(k:PE X e i)(m:attributeBase e f X.env (eval e X.env)=eval e X.env):PE X (.Attribute e f pos) (VQ X.K i f):=by
 intro b s w H Q I h;refine Ei m (thn (k b s w H _ I h) λu P y=>?_);rfl';obtain⟨x,A,d,B,a,C,R,fs,v,E,F,G,c,n,l,q⟩:=y;ac_rfl;subst E;obtain rfl:u=Value.ref a:=B;rfl';obtain⟨t,S,e⟩:=Ju d.hok F;obtain⟨_,J,L,r,_⟩:=DQ d.hok G;obtain⟨u,M,j⟩:=km.some_of (v:=v) (o:=J f) (by rw[<-l];exact r f)
 obtain⟨od,N,O⟩:=qL L;ac_rfl;exact F7 d.c7 (od:=some od) #[e,rfl,rfl,N] c (PySem.W.findObj_own c.hd n rfl (by rw[O,M])) (xv j) #[v,A,d.tok _,j,q]
def Mu{K:ac}{f:Str}(i:Pq K)(l:DE Z X a ta)(m:attributeBase a f X.env (eval a X.env)=eval a X.env:=by rfl)(n:X.K=K:=by rfl):DE Z X (.Attribute a f pos) (TC K f ta):=by
 subst n;refine(Ow l m).imp ?_;intro O H Q o;rfl';obtain⟨G,t,P,s,e,h,q⟩:=o;ac_rfl;refine#[G,t,_,s,e,h,λd j v w x g dv=>?_];cases dv<;>first|exact j.elim|skip
 rename_i a C R S T U z A B
 rfl';obtain⟨E,F,y,k,I⟩:=j;obtain⟨u,J,L⟩:=JU B k;ac_rfl
 rcases A with ⟨_,rfl,_⟩ | ⟨M,rfl,N,_⟩
 .cases k
 .exact#[a,C,M,_,u,rfl,g.sub _ _ z,g.sub _ _ N,E,F,J,q _ I _ w x g L]
end
section
variable {P:Program} {w:World} {K:ac} {mg:Str->Option Value} {base:Heap} {Z:DC}
end
section
variable {Z:DC} {X:Cx} {e:Expr} {es:List Expr} {t:gH} {pos:Pos}
end
def Pf:List Value->Bool
 | []=>false
 |v::r=>if isRef v then Jz r else Jz (v::r)
def Lz(h:Pf a=true):a= [.type "ValueError", .type "Exception", .type "BaseException", .type "object"]\/∃M,a= [.ref M, .type "ValueError", .type "Exception", .type "BaseException", .type "object"]:=by
 cases a with
 |nil=>cases h
 |cons v r=>
  rw[Pf] at h;cases b:isRef v with
  |true=>
   rw[tz b] at h;cases v with
   |ref M=>rw[xO h];exact .inr #[M,rfl]
   |_=>cases b
  |false=>
   rw[mo (by rw[b];exact eD)] at h
   exact .inl (xO h)
def rk{K:ac}{C N:Addr}{d:ClassData}{e:List Value}{f q:Str}{bs s:List Value}{g:Bool}{h:List Str}{sub:List Value}{i:Bool}{c:Option Bool}{j:Option Addr}{k l m n o:Option Value}
  (t:bi K C=true) (u:ak K (.ref C) "__getattribute__"=some (some (.builtin "BaseException.__getattribute__"))) (v:ak K (.ref C) "__getattr__"=some none)
  (w:ak K (.ref C) "__setattr__"=some (some (.builtin "object.__setattr__"))) (x:ak K (.ref C) "__class__"=some (some (.builtin "object.__class__")))
  (p:cm K C=some d) (r:d.mro= .ref C::e) (lo:K.lookup C=some (excClassObj f q C N bs s g h sub i c j k l m n o "ValueError.__new__")) (y:s=e) (z:Pf e=true):XE K C:=by
 have a:∀b,bv K C b=some ((Value.ref C::e).contains b):=λb=>by
  unfold bv;rw[p,y3,r];rfl
 subst y
 rcases Lz z with rfl| ⟨M,rfl⟩
 .refine#[#[t,u,v,w,?_,x,?_,?_],#[f,q,N,bs,_,g,h,sub,i,c,j,k,l,m,n,o,lo,rfl,rfl,rfl]]
  .unfold C4
   rw[p];show pM d.mro=true;rw[r];rfl
  .rw[a];rfl
  .rw[a];rfl
 .refine#[#[t,u,v,w,?_,x,?_,?_],#[f,q,N,bs,_,g,h,sub,i,c,j,k,l,m,n,o,lo,rfl,rfl,rfl]]
  .unfold C4
   rw[p];show pM d.mro=true;rw[r];rfl
  .rw[a];rfl
  .rw[a];rfl
structure Wl (K:ac) (C:Addr) (qual:Str) (st:Stmt) (ps:List Str) where
 f:Addr
 fd:FuncData
 F:rA K "__init__" qual st f fd
 b:Binds K fd ps []
 made:Eb K C (.ref f)
 fn:bw K (.ref f)=true
structure Z0 (K:ac) (mg:Str->Option Value) (M:Addr):Prop where
 m:mg "MapError"=some (.ref M)
 sg:aW K (.ref M) "__getattribute__"=some (some (.builtin "type.__getattribute__"))
 rd:da K M (.type "type")=true
 fc:dc K (.ref M) (.type "type") "__init__"=some (.val (.builtin "ValueError.__init__"))
def O1(Z:DC)(C:Addr)(g:List Str)(ok:List D->Prop):Sp:=λj H Q _=>∃(a:Addr)(h:List V)(G:Hp)(f:List D),j= .ref a::h/\H a=some (pY C a none)/\G a=none/\aJ G H/\DvAll Z G h f/\ok f/\f.length=g.length/\
 ∀c i d e,aJ G d->aJ d e->(∀b o,b≠a->H b=some o->e b=some o)->(∀b,H b≠none->G b=none->d b=none)->e a=some (pY C a (some c))->H c=none->e c=some (zo c (g.zip i))->d c=none->DvAll Z d i f->Q .bb e
section
variable {Z:DC} {X:Cx} {md:List Nat} {rn:Nat} {st:Stmt} {t:gH} {e:Expr} {es:List Expr} {k j:Nat} {x qual:Str} {ps:List Str} {p pos aB:Pos}
def Mn(d:List Nat)(C:Addr)(b:List Str)(ok:List D->Prop)(t:gH):cx:=λE c=>t (cn d c) λa=>ok a/\a.length=b.length/\E.xc c (.err C b a)
def GQ(hc:X.calm=true)(I:Wl X.K C qual st T)(F:FnOk X.prog X.w X.K X.mg X.base cg k I.f I.fd T (O1 Z C l ok))(hr:bN j X.A)(U:XE X.K C)(hm:X.mg x=some (.ref C))(g:DA Z X (e::es) t)(r:Gl X x:=by rfl)(hk:k+1<=j:=by first|decide|lia)(NL:T.length<=1000:=by decide)
  (dG:(x==("__debug__":Str))=false:=by decide) (he:starEach (e::es) X.env=(false,eval e X.env)::starEach es X.env:=by rfl) (s:(backTo aB (starEach es X.env)).any (·.1)=false:=by rfl):
  DSt Z X md rn (.Raise (some (.Call (.Name x p) (e::es) [] aB)) none pos) (Mn md C l ok t):=by
 refine(AM hc (Lb I.made I.fn F (hr.mono hk) r hm I.b NL kS g dG he s)).imp ?_;intro D σ H aI;rfl';obtain⟨B,ρ,E,⟨G,fp,S⟩,h,M⟩:=aI;ac_rfl;refine#[G,_,_,S.ex.sub,S.rY,h,λds v vs m Y y br a g=>?_];rfl';obtain⟨ok,hl,hx⟩:=v;ac_rfl;have S1:=S.grow y;have J:m a=none:=y.sub.free g;refine#[a,vs,m,ds,rfl,av,J,y.sub.trans (aO g _),br,ok,hl,λd zs n H' g1 g2 g3 g4 g5 q g7 g8 g9=>#[rfl,a,C,some d,rfl,g5,U.obj,U.cls.be,?_]];have Oc:d≠a:=λz=>by rw[z,av] at q;cases q
 have L:Y d=none:=by rw[ax Oc] at q;exact q
 have N:m d=none:=g1.free g8;have O:n a=none:=g4 a (by rw[av];exact λz=>nomatch z) J
 have x2:Ext m Y (upd (upd n d (zo d (l.zip zs))) a (kN C a (some d))) (upd H' a (kN C a (some d))):=by
  refine#[λb o c=>?_,λb o c=>?_,λb o c=>?_,λb P r=>?_]
  .rw[ax (aD c J),ax (aD c N)];exact g1 _ _ c
  .by_cases z:b=a
   .rw[z,av] at c ⊢;exact c
   .rw[ax z] at c ⊢
    by_cases Q:b=d
    .rw[Q,av] at c;cases c;rw[Q];exact g7
    .rw[ax Q] at c;exact g2 _ _ c
  .have i:b≠a:=aD c g
   rw[ax i];exact g3 b o i (by rw[ax i];exact c)
  .have i:b≠a:=λz=>P (by rw[z];exact g)
   have R:b≠d:=λz=>P (by rw[z];exact L)
   rw[ax i,ax R];exact g4 b (by rw[ax i];exact P) r
 have s2:aJ n (upd (upd n d (zo d (l.zip zs))) a (kN C a (some d))):=λb o c=>by rw[ax (aD c O),ax (aD c g8)];exact c
 exact M.xc ρ _ hx σ _ _ fp a (S1.grow x2) (.err av (.inr #[d,rfl,by rw[ax Oc,av],by rw[g9.length];exact hl.symm]) (g9.mono s2))
end
section
variable {Z:DC} {X:Cx} {a:Expr} {ta:aR} {p p1 p2 p3 p4 pos:Pos}
end
end L2
namespace Gn
open PySem L2 Wb
def top(i:Nat):Stmt:=PySem.Challenge.pw_mapdye_k24_not_filled.main.body.getD i (.Pass #[0,0,0,0])
abbrev k7:Stmt:=top 15
abbrev oH:Stmt:=top 16
abbrev yr:Stmt:=top 17
abbrev oG:Stmt:=top 18
abbrev k4:Stmt:=top 19
abbrev oF:Stmt:=top 22
abbrev jZ:Stmt:=top 23
abbrev k8:Stmt:=top 24
abbrev j3:Stmt:=top 25
abbrev kZ:Stmt:=top 26
abbrev dA:Stmt:=top 27
abbrev j0:Stmt:=top 28
abbrev j1:Stmt:=top 29
abbrev oE:Stmt:=top 32
abbrev kG:Stmt:=top 33
abbrev k6:Stmt:=top 35
abbrev uF:Stmt:=top 36
abbrev j2:Stmt:=top 37
abbrev kY:Stmt:=top 38
abbrev uE:Stmt:=top 39
abbrev iK:Stmt:=top 40
abbrev ja:Stmt:=top 42
abbrev oz:Stmt:=top 43
abbrev kW:Stmt:=top 44
abbrev jY:Stmt:=top 45
abbrev ig:Stmt:=top 46
abbrev mB:Stmt:=top 47
abbrev gx:Stmt:=top 48
abbrev kX:Stmt:=top 49
abbrev iJ:Stmt:=top 50
abbrev mD:Stmt:=top 51
abbrev yt:Stmt:=top 52
abbrev fj:Stmt:=L2.iD (top 30) 0
abbrev oq:Stmt:=L2.iD (top 30) 1
abbrev jx:Stmt:=L2.iD (top 30) 2
abbrev kF:Stmt:=L2.iD (top 30) 3
abbrev ot:Stmt:=L2.iD (top 30) 4
abbrev kU:Stmt:=L2.iD (top 30) 5
abbrev fP:Stmt:=L2.iD (top 9) 0
def iy:aF ["self","counted"] ["self","counted"] (aw fP):=by bv_omega
def oR:aF ["web","side","sides","p","q"] ["web","side"] (aw k7):=by bv_omega
def AU:aF ["web","walked","told","side","sides","step"] ["web"] (aw oH):=by bv_omega
def AS:aF ["web"] ["web"] (aw yr):=by bv_omega
def tK:aF ["web","points","ties","rounds"] ["web"] (aw oG):=by bv_omega
def oP:aF ["web"] ["web"] (aw k4):=by bv_omega
def tJ:aF ["thing","many"] ["thing","many"] (aw oF):=by bv_omega
def mQ:aF ["rows","p","row","q"] ["rows"] (aw jZ):=by bv_omega
def oS:aF ["rows","p","row"] ["rows"] (aw k8):=by bv_omega
def mU:aF ["rows","p","row","place","q"] ["rows"] (aw j3):=by bv_omega
def oO:aF ["rows","p","row","q"] ["rows"] (aw kZ):=by bv_omega
def ik:aF ["rows","reached","waiting","p","q"] ["rows"] (aw dA):=by bv_omega
def mR:aF ["rows","q","reached"] ["rows"] (aw j0):=by bv_omega
def mS:aF ["rows","fault"] ["rows"] (aw j1):=by bv_omega
def tI:aF ["ring","p","place"] ["ring","p"] (aw oE):=by bv_omega
def tL:aF ["web","ring","points","told"] ["web","ring"] (aw kG):=by bv_omega
def oQ:aF ["row","ahead","p","place"] ["row","ahead","p"] (aw k6):=by bv_omega
def yy:aF ["web","land","i","j","told","points","a","b","turns"] ["web","land","i","j"] (aw uF):=by bv_omega
def mT:aF ["web","kept","number","land","i","a","j"] ["web","kept"] (aw j2):=by bv_omega
def oN:aF ["web","kept","ties","corner","number","i","j","land"] ["web","kept"] (aw kY):=by bv_omega
def yx:aF ["web"] ["web"] (aw uE):=by bv_omega
def kI:aF ["web","ring"] ["web","ring"] (aw iK):=by bv_omega
def lL:aF ["_law_script","_law_k"] ["_law_script","_law_k"] (aw ja):=by bv_omega
def tH:aF ["_law_script","_law_k","_law_many","_law_base","_law_cell","_law_digits","_law_number","_law_found","_law_turn"] ["_law_script","_law_k","_law_many","_law_base"] (aw oz):=by bv_omega
def oJ:aF ["_law_turns_here","_law_left","_law_found","_law_p","_law_row_here","_law_q","_law_walk","_law_here","_law_around"] ["_law_turns_here"] (aw kW):=by bv_omega
def mO:aF ["_law_row_here","_law_ahead","_law_point","_law_at"] ["_law_row_here","_law_ahead","_law_point"] (aw jY):=by bv_omega
def mP:aF ["_law_walks","_law_number","_law_k"] ["_law_walks","_law_number"] (aw ig):=by bv_omega
def qi:aF ["_law_turns_here","_law_number","_law_walk","_law_i","_law_p","_law_j","_law_q"] ["_law_turns_here","_law_number"] (aw mB):=by bv_omega
def oK:aF ["_law_turns_here","_law_row_here","_law_order","_law_k","_law_found","_law_p","_law_old","_law_start"] ["_law_turns_here","_law_row_here"] (aw gx):=by bv_omega
def oM:aF ["_law_script","_law_turns_here","_law_number"] ["_law_script"] (aw kX):=by bv_omega
def kH:aF ["_law_turns_here","_law_row_here","_law_p","_law_other","_law_k","_law_q"] ["_law_turns_here","_law_row_here"] (aw iJ):=by bv_omega
def qj:aF ["_law_web","_law_ring","_law_word","_law_counted","e","_law_some"] ["_law_web","_law_ring"] (aw mD):=by bv_omega
def JN:aF ["_law_script","_law_turns_here","_law_walks","_law_counts","_law_bent","_law_web","_law_due","_law_ring"] ["_law_script"] (aw yt):=by bv_omega
def lK:aF ["self","turns","rows","fault"] ["self","turns"] (aw fj):=by bv_omega
def tE:aF ["self"] ["self"] (aw oq):=by bv_omega
def qh:aF ["self"] ["self"] (aw jx):=by bv_omega
def tG:aF ["self"] ["self"] (aw kF):=by bv_omega
def tF:aF ["self","a","b","many"] ["self","a","b"] (aw ot):=by bv_omega
def oI:aF ["self","p","q","row"] ["self","p","q"] (aw kU):=by bv_omega
set_option genInjectivity false in
structure Txt (Z:DC) (mg:Str->Option Value) where
 B:V7 mg
 x_set:mg "set"=none
 d_round_from:dQ Z.K mg "round_from" k7 ["web","side"]
 d_lands:dQ Z.K mg "lands" oH ["web"]
 d_count:dQ Z.K mg "count" yr ["web"]
 d_is_plane:dQ Z.K mg "is_plane" oG ["web"]
 d_need_plane:dQ Z.K mg "need_plane" k4 ["web"]
 d_is_among:dQ Z.K mg "is_among" oF ["thing","many"]
 d_alien_fault:dQ Z.K mg "alien_fault" jZ ["rows"]
 d_self_fault:dQ Z.K mg "self_fault" k8 ["rows"]
 d_twice_fault:dQ Z.K mg "twice_fault" j3 ["rows"]
 d_lone_fault:dQ Z.K mg "lone_fault" kZ ["rows"]
 d_reached_from_first:dQ Z.K mg "reached_from_first" dA ["rows"]
 d_apart_fault:dQ Z.K mg "apart_fault" j0 ["rows"]
 d_first_fault:dQ Z.K mg "first_fault" j1 ["rows"]
 d_begun_at:dQ Z.K mg "begun_at" oE ["ring","p"]
 d_rim_told:dQ Z.K mg "rim_told" kG ["web","ring"]
 d_put_behind:dQ Z.K mg "put_behind" k6 ["row","ahead","p"]
 d_put_in:dQ Z.K mg "put_in" uF ["web","land","i","j"]
 d_next_corner:dQ Z.K mg "next_corner" j2 ["web","kept"]
 d_filled_but:dQ Z.K mg "filled_but" kY ["web","kept"]
 d_filled:dQ Z.K mg "filled" uE ["web"]
 d_filled_within:dQ Z.K mg "filled_within" iK ["web","ring"]
 d__law_cell_at:dQ Z.K mg "_law_cell_at" ja ["_law_script","_law_k"]
 d__law_row:dQ Z.K mg "_law_row" oz ["_law_script","_law_k","_law_many","_law_base"]
 d__law_lands:dQ Z.K mg "_law_lands" kW ["_law_turns_here"]
 d__law_behind:dQ Z.K mg "_law_behind" jY ["_law_row_here","_law_ahead","_law_point"]
 d__law_corner:dQ Z.K mg "_law_corner" ig ["_law_walks","_law_number"]
 d__law_deed:dQ Z.K mg "_law_deed" mB ["_law_turns_here","_law_number"]
 d__law_named:dQ Z.K mg "_law_named" gx ["_law_turns_here","_law_row_here"]
 d__law_turns:dQ Z.K mg "_law_turns" kX ["_law_script"]
 d__law_shuffled:dQ Z.K mg "_law_shuffled" iJ ["_law_turns_here","_law_row_here"]
 d__law_told:dQ Z.K mg "_law_told" mD ["_law_web","_law_ring"]
 d_law:dQ Z.K mg "law" yt ["_law_script"]
 W:Ea Z
 mC:mg "Web"=some (.ref Z.C)
 i_f:Addr
 i_fd:FuncData
 i_F:rA Z.K "__init__" "Web.__init__" fj i_f i_fd
 mkW:Mk Z.K Z.C i_f
 m___init__b:Binds Z.K i_fd ["self","turns"] []
 m_many:A8 Z "many" "Web.many" oq ["self"]
 m_turns:A8 Z "turns" "Web.turns" jx ["self"]
 m_ties:A8 Z "ties" "Web.ties" kF ["self"]
 m_tied:A8 Z "tied" "Web.tied" ot ["self","a","b"]
 m_behind:A8 Z "behind" "Web.behind" kU ["self","p","q"]
 iX:Pq Z.K
 x_ValueError:mg "ValueError"=none
 e_MapError:Addr
 g_MapError:mg "MapError"=some (.ref e_MapError)
 e_TooMany:Addr
 g_TooMany:mg "TooMany"=some (.ref e_TooMany)
 e_TooSmall:Addr
 g_TooSmall:mg "TooSmall"=some (.ref e_TooSmall)
 e_NotPlane:Addr
 g_NotPlane:mg "NotPlane"=some (.ref e_NotPlane)
 e_NoCorner:Addr
 g_NoCorner:mg "NoCorner"=some (.ref e_NoCorner)
 e_NoRing:Addr
 g_NoRing:mg "NoRing"=some (.ref e_NoRing)
 e_TooFew:Addr
 g_TooFew:mg "TooFew"=some (.ref e_TooFew)
 e_NotFilled:Addr
 g_NotFilled:mg "NotFilled"=some (.ref e_NotFilled)
 q_MapError:XE Z.K e_MapError
 q_TooSmall:XE Z.K e_TooSmall
 q_NotPlane:XE Z.K e_NotPlane
 q_NoRing:XE Z.K e_NoRing
 xb:Z0 Z.K mg e_MapError
 k_TooSmall:Eb Z.K e_TooSmall (.builtin "ValueError.__init__")
 z_TooSmall_TooMany:ad Z.K (.ref e_TooSmall) (.ref e_TooMany)=some false
 z_TooSmall_TooSmall:ad Z.K (.ref e_TooSmall) (.ref e_TooSmall)=some true
 z_TooSmall_NotPlane:ad Z.K (.ref e_TooSmall) (.ref e_NotPlane)=some false
 z_TooSmall_NoCorner:ad Z.K (.ref e_TooSmall) (.ref e_NoCorner)=some false
 z_TooSmall_NoRing:ad Z.K (.ref e_TooSmall) (.ref e_NoRing)=some false
 z_TooSmall_TooFew:ad Z.K (.ref e_TooSmall) (.ref e_TooFew)=some false
 z_TooSmall_NotFilled:ad Z.K (.ref e_TooSmall) (.ref e_NotFilled)=some false
 z_TooSmall_ValueError:ad Z.K (.ref e_TooSmall) (.type "ValueError")=some true
 m_TooSmall_MapError:bv Z.K e_TooSmall (.ref e_MapError)=some true
 j_NotPlane:Wl Z.K e_NotPlane "NotPlane.__init__" fP ["self","counted"]
 n_NotPlane_counted:gE Z.K e_NotPlane "counted"
 z_NotPlane_TooMany:ad Z.K (.ref e_NotPlane) (.ref e_TooMany)=some false
 z_NotPlane_TooSmall:ad Z.K (.ref e_NotPlane) (.ref e_TooSmall)=some false
 z_NotPlane_NotPlane:ad Z.K (.ref e_NotPlane) (.ref e_NotPlane)=some true
 z_NotPlane_NoCorner:ad Z.K (.ref e_NotPlane) (.ref e_NoCorner)=some false
 z_NotPlane_NoRing:ad Z.K (.ref e_NotPlane) (.ref e_NoRing)=some false
 z_NotPlane_TooFew:ad Z.K (.ref e_NotPlane) (.ref e_TooFew)=some false
 z_NotPlane_NotFilled:ad Z.K (.ref e_NotPlane) (.ref e_NotFilled)=some false
 z_NotPlane_ValueError:ad Z.K (.ref e_NotPlane) (.type "ValueError")=some true
 m_NotPlane_MapError:bv Z.K e_NotPlane (.ref e_MapError)=some true
 k_NoRing:Eb Z.K e_NoRing (.builtin "ValueError.__init__")
 z_NoRing_TooMany:ad Z.K (.ref e_NoRing) (.ref e_TooMany)=some false
 z_NoRing_TooSmall:ad Z.K (.ref e_NoRing) (.ref e_TooSmall)=some false
 z_NoRing_NotPlane:ad Z.K (.ref e_NoRing) (.ref e_NotPlane)=some false
 z_NoRing_NoCorner:ad Z.K (.ref e_NoRing) (.ref e_NoCorner)=some false
 z_NoRing_NoRing:ad Z.K (.ref e_NoRing) (.ref e_NoRing)=some true
 z_NoRing_TooFew:ad Z.K (.ref e_NoRing) (.ref e_TooFew)=some false
 z_NoRing_NotFilled:ad Z.K (.ref e_NoRing) (.ref e_NotFilled)=some false
 z_NoRing_ValueError:ad Z.K (.ref e_NoRing) (.type "ValueError")=some true
 m_NoRing_MapError:bv Z.K e_NoRing (.ref e_MapError)=some true
 t___name__:∃tk,mg "__name__"=some (.str "law_mapdye_k24_not_filled" tk)
 c_MOST_POINTS:∃tk,mg "MOST_POINTS"=some (.int 14 tk)
variable {P:Program} {w:World} {mg:Str->Option Value} {base:Heap} {Z:DC} (T:Txt Z mg)
def O0:cH:=λa P=>∃(i n:Int),a= [.int i, .int n]/\P (.bl (decide (0<=i/\i<n)))
def fb:FnOk P w Z.K mg base cg 1 T.d_is_among.f T.d_is_among.fd ["thing","many"] (bg Z O0):=by
 have d:=tJ.nd;refine bD T.d_is_among.F tJ [0,0] (by decide) (λb R h=>by obtain⟨_,_,rfl,_⟩:=h;rfl) (λe A outer s H E b R c h=>?_)
 have g:=c.units;exists _,(ar (bf (vQ (Jm "int" (aa 0) rfl T.B.isinstance rfl T.B.int Px) (vQ (PN (Jm "bool" (aa 0) rfl T.B.isinstance rfl T.B.bool LY)) (BA (Ki HR jU ay (aa 0) (aa 1)))))));obtain⟨i,n,rfl,q⟩:=h;refine#[_,rfl,rfl,true,rfl,bL #[_,rfl,rfl,false,rfl,true,rfl,bL #[_,rfl,?_]]];refine#[_,rfl,bz (λa=>#[_,rfl,?_]) (λa=>?_)]
 .have a:0<=i:=KM a
  show R (.bl (decide (i<n)));rw[show decide (i<n)=decide (0<=i/\i<n) by simp[a]]
  exact q
 .have a:¬0<=i:=M2 a
  rw[show decide (0<=i/\i<n)=false by simp[a]] at q
  exact q
def v3:cH:=λa P=>∃(w:W),a= [aQ w]/\z5 w/\1<=w.length/\w.length<=14/\P .bb
def u7{w:W}(h:(fM (w.map aq))[j]? =some d):j<w.length/\d= .tup [.int (j:Int),aq (row w j)]:=by
 obtain⟨x,b,rfl⟩:=iC h;obtain⟨r,a,rfl⟩:=cX b;have c:j<w.length:=(dm.mp a).1;exists c;rw[Rq a]
def vK:FnOk P w Z.K mg base cg 2 T.d_alien_fault.f T.d_alien_fault.fd ["rows"] (bg Z v3):=by
 have c:=mQ.nd;refine bD T.d_alien_fault.F mQ [0,0,0,0] (by decide) (λn R h=>by obtain⟨_,rfl,_⟩:=h;rfl) (λy A outer s H E n R m h=>?_)
 have z:=m.units
 refine#[_,(ao (cO rfl FS (eO rfl T.B.enumerate (ae (aa 0) ag)) (fB 2 rfl (aV (aK 1 c) (aV (aK 2 c) cQ))) (ar (cO rfl FS (bR (aa 2)) (aK 3 c) (ar (bH (iN (e8 (aC T.d_is_among (fb T) m (ae (aa 3) (ae (aE bB rfl T.B.len bx (ae (aa 0) ag)) ag))))) (ar (bf (bU (ae cF (ae (aa 1) (ae (aa 3) ag)))))) aU)))))
   (ar (bf cM))),?_]
 obtain⟨a,rfl,g,C,G,q⟩:=h;refine#[_,rfl,bS (λ_ e=>∃i l b,e= [some (aQ a),i,l,b]) #[_,_,_,rfl] ?_ ?_]
 .rintro j d _ o ⟨i,l,b,rfl⟩ A p
  obtain⟨I,rfl⟩:=u7 o;exists rfl,rfl;refine#[_,rfl,bS (λ_ e=>∃b,e= [some (aQ a),some (.int (j:Int)),some (aq (row a j)),b]) #[_,rfl] ?_ ?_]
  .rintro k J _ r ⟨t,rfl⟩ L u
   obtain⟨x,v,rfl⟩:=cX r;refine#[_,rfl,_,rfl,_,_,rfl,#[rfl,?_]];have M:x<a.length:=g.rng _ _ (fm v);rw[show decide ((0:Int)<=(x:Int)/\(x:Int)<((a.map aq).length:Int))=true by simp;lia]
   exact cc (u _ #[_,rfl])
  .rintro _ ⟨t,rfl⟩
   exact p _ #[_,_,_,rfl]
 .rintro _ ⟨i,l,b,rfl⟩
  exact q
def yh:FnOk P w Z.K mg base cg 1 T.d_self_fault.f T.d_self_fault.fd ["rows"] (bg Z v3):=by
 have i:=oS.nd;refine bD T.d_self_fault.F oS [0,0,0] (by decide) (λk R h=>by obtain⟨_,rfl,_⟩:=h;rfl) (λt A outer s H E k R l h=>?_)
 have u:=l.units
 refine#[_,(ao (cO rfl FS (eO rfl T.B.enumerate (ae (aa 0) ag)) (fB 2 rfl (aV (aK 1 i) (aV (aK 2 i) cQ))) (ar (bH (aX HQ (aa 1) (aa 2) (by with_unfolding_all rfl)) (ar (bf (bU (ae cF (ae (aa 1) (ae (aa 1) ag)))))) aU)))
   (ar (bf cM))),?_]
 obtain⟨a,rfl,g,v,x,q⟩:=h;refine#[_,rfl,bS (λ_ m=>∃b c,m= [some (aQ a),b,c]) #[_,_,rfl] ?_ ?_]
 .rintro j d _ n ⟨b,c,rfl⟩ A o
  obtain⟨y,rfl⟩:=u7 n;exists rfl,rfl;exists _,rfl,_,rfl,rfl,dJ _,_,rfl
  have e:inD (.int (j:Int)) ((row a j).map af)=false:=by
   have:=nU (r:=row a j) (p:=j)
   rw[GT (g.irr j)] at this;exact this
  rw[mo eD,e];exact cc (o _ #[_,_,rfl])
 .rintro _ ⟨b,c,rfl⟩
  exact q
def jK(l:List a)(k:Nat)(h:k<=l.length):cutD l none (some (k:Int))=l.take k:=by
 unfold cutD;have b:HT.bZ l.length 0 none=0:=rfl
 have c:HT.bZ l.length l.length (some (k:Int))=k:=by
  simp only[HT.bZ]
  split<;>lia
 rw[b,c];simp
def vM:FnOk P w Z.K mg base cg 1 T.d_twice_fault.f T.d_twice_fault.fd ["rows"] (bg Z v3):=by
 have i:=mU.nd;refine bD T.d_twice_fault.F mU [0,0,0,0,0] (by decide) (λt R h=>by obtain⟨_,rfl,_⟩:=h;rfl) (λQ A outer s H E t R u h=>?_)
 have S:=u.units
 refine#[_,(ao (cO rfl FS (eO rfl T.B.enumerate (ae (aa 0) ag)) (fB 2 rfl (aV (aK 1 i) (aV (aK 2 i) cQ))) (ar (cO rfl FS (eO rfl T.B.enumerate (ae (aa 2) ag)) (fB 2 rfl (aV (aK 3 i) (aV (aK 4 i) cQ))) (ar (bH (aX HQ (aa 4) (fT (aa 2) hV (hZ (aa 3))) (by with_unfolding_all rfl)) (ar (bf (bU (ae cF (ae (aa 1) (ae (aa 4) ag)))))) aU)))))
   (ar (bf cM))),?_]
 obtain⟨a,rfl,g,U,X,q⟩:=h;refine#[_,rfl,bS (λ_ l=>∃n o b c,l= [some (aQ a),n,o,b,c]) #[_,_,_,_,rfl] ?_ ?_]
 .rintro j d _ v ⟨n,o,b,c,rfl⟩ A C
  obtain⟨Y,rfl⟩:=u7 v;exists rfl,rfl;refine#[_,rfl,bS (λ_ l=>∃b c,l= [some (aQ a),some (.int (j:Int)),some (aq (row a j)),b,c]) #[_,_,rfl] ?_ ?_]
  .rintro k d' _ G ⟨I,J,rfl⟩ A' L
   obtain⟨y,M,rfl⟩:=iC G;obtain⟨x,r,rfl⟩:=cX M;have gK:k<(row a j).length:=(dm.mp r).1;exists rfl,rfl;exists _,rfl,_,rfl,_,rfl;have N:cutD ((row a j).map af) none (some (k:Int))=((row a j).take k).map af:=by rw[jK _ _ (by simp;lia),tX]
   refine(?_:PB false (af x) (.lst (cutD ((row a j).map af) none (some (k:Int)))) _);rw[N];exists rfl,dJ _,_,rfl
   have e:inD (af x) (((row a j).take k).map af)=false:=by
    rw[nU,GT];intro z;obtain⟨m,p⟩:=tU z
    have O:m<k:=by
     have:=(dm.mp p).1
     rw[iw] at this;lia
    rw[JW O] at p;exact absurd ((List.getElem?_inj (by lia) (g.nod j)).mp (p.trans r.symm)) (by lia)
   rw[mo eD,e];exact cc (L _ #[_,_,rfl])
  .rintro _ ⟨I,J,rfl⟩
   exact C _ #[_,_,_,_,rfl]
 .rintro _ ⟨n,o,b,c,rfl⟩
  exact q
def yf:FnOk P w Z.K mg base cg 1 T.d_lone_fault.f T.d_lone_fault.fd ["rows"] (bg Z v3):=by
 have c:=oO.nd;refine bD T.d_lone_fault.F oO [0,0,0,0] (by decide) (λo R h=>by obtain⟨_,rfl,_⟩:=h;rfl) (λJ A outer s H E o R t h=>?_)
 have L:=t.units
 refine#[_,(ao (cO rfl FS (eO rfl T.B.enumerate (ae (aa 0) ag)) (fB 2 rfl (aV (aK 1 c) (aV (aK 2 c) cQ))) (ar (cO rfl FS (bR (aa 2)) (aK 3 c) (ar (bH (aX AG (aa 1) (aY (aa 0) (aa 3)) (by with_unfolding_all rfl)) (ar (bf (bU (ae cF (ae (aa 1) (ae (aa 3) ag)))))) aU)))))
   (ar (bf cM))),?_]
 obtain⟨a,rfl,g,M,N,q⟩:=h;refine#[_,rfl,bS (λ_ i=>∃l m b,i= [some (aQ a),l,m,b]) #[_,_,_,rfl] ?_ ?_]
 .rintro j d _ u ⟨l,m,b,rfl⟩ A v
  obtain⟨O,rfl⟩:=u7 u;exists rfl,rfl;refine#[_,rfl,bS (λ_ i=>∃b,i= [some (aQ a),some (.int (j:Int)),some (aq (row a j)),b]) #[_,rfl] ?_ ?_]
  .rintro k Q _ y ⟨z,rfl⟩ S C
   obtain⟨x,G,rfl⟩:=cX y;have n:=fm G;have I:x<a.length:=g.rng _ _ n;exists _,rfl,_,rfl,_,rfl,_,ft (yM I),rfl,dJ _,_,rfl
   have e:inD (.int (j:Int)) ((row a x).map af)=true:=by
    have:=nU (r:=row a x) (p:=j)
    rw[IR (g.sym _ _ n)] at this;exact this
   rw[tz rfl,e];exact cc (C _ #[_,rfl])
  .rintro _ ⟨z,rfl⟩
   exact v _ #[_,_,_,rfl]
 .rintro _ ⟨l,m,b,rfl⟩
  exact q
def vt(bs:List Bool):List D:=bs.map D.bl
def L5{bs:List Bool}{i:Nat}{b:Bool}(h:bs[i]? =some b):(vt bs)[i]? =some (.bl b):=by unfold vt;rw[df,h];rfl
def Em(bs:List Bool)(i:Nat)(b:Bool):(vt bs).set i (.bl b)=vt (bs.set i b):=by unfold vt;rw[uK]
def El(bs:List Bool):(vt bs).length=bs.length:=aL _
def lD{n k:Nat}(h:k<n):kh n (k:Int)=some k:=by unfold kh;rw[tz (by lia),tz (by lia)];simp
def Iq:cH:=λa P=>∃(w:W),a= [aQ w]/\z5 w/\1<=w.length/\w.length<=14/\∀bs m,RI w bs [] [] m->(∀x,bs[x]? =some true->Reach w 0 x)->P (.lst (vt bs))
def Met(w:W)(bs:List Bool):Prop:=∀x,bs[x]? =some true->Reach w 0 x
def mm:FnOk P w Z.K mg base cg 1 T.d_reached_from_first.f T.d_reached_from_first.fd ["rows"] (bg Z Iq):=by
 have v:=ik.nd;refine bD T.d_reached_from_first.F ik [0,1,1,0,0] (by decide) (λds R h=>by obtain⟨_,rfl,_⟩:=h;rfl) (λbo A outer s H E ds R hr h=>?_)
 have hu:=hr.units
 refine#[_,(ao (Km 1 (NC:= ["row"]) (src:= [none]) rfl v (vv (aw dA)) trivial (bR (aa 0)) (λ_ _ _=>(cW 0 (show(["row"]:List Str).Nodup from by decide+kernel))) (λ_ _ _=>gq) (λ_ _ _=>jL))
   (ao (Ac false 1 ay jL)
   (ao (gF 2 v (fU (ae ay ag)))
   (ao (lu FS (e8 (aa 2)) (ao (PZ 3 2 v)
   (ar (cO rfl FS (bR (aY (aa 0) (aa 3))) (aK 4 v) (ar (bH (iN (e8 (aY (aa 1) (aa 4)))) (ao (Ac false 1 (aa 4) jL)
   (ar (pz false 2 (aa 4)))) aU))))))
   (ar (bf (aa 1))))))),?_]
 obtain⟨c,rfl,g,h1,cK,q⟩:=h;refine#[_,rfl,l4 (ρ:= [none]) aq (λ_=> .bl false) c _ (λy b Y h=>h) rfl (small (by lia)) λaG=>?_]
 have e0:c.map (λ_=>D.bl false)=vt (am c.length false):=by unfold vt;rw[List.map_replicate,List.map_const']
 rw[e0];refine#[trivial,_,rfl,0,0,rfl,by rw[El,zd];exact lD (k:=0) (by lia),?_]
 rw[Em];refine#[by show 1<=sizeLine;decide,?_]
 refine j6 (λm ρ=>∃(bs:List Bool)(l:List Nat)(U B:Option D),ρ= [some (aQ c),some (.lst (vt bs)),some (.lst (l.map af)),U,B]/\RI c bs l [] m/\Met c bs/\m<=14/\bs.count false+l.length=m) c.length ?_ ?_
 .refine#[_,[0],none,none,rfl,#[by simp,?_,?_,λx d=>?_,?_],λx d=>?_,cK,?_]
  .rw[mX,tz rfl,tz (by rw[zd];lia)]
  .intro x d
   have:x=0:=by simpa using d
   rw[this,mX,tz rfl,tz (by rw[zd];lia)]
  .by_cases e:0=x
   .exact .inl (by rw[<-e];simp)
   .rw[mX,mo e,vd] at d
    split at d<;>cases d
  .rw[abI (by rw[zd];lia),ab0,acC]
   simp;lia
  .by_cases e:0=x
   .rw[<-e];exact .refl _
   .rw[mX,mo e,vd] at d
    split at d<;>cases d
  .rw[abI (by rw[zd];lia),ab0,acC]
   simp;lia
 .rintro m _ ⟨bs,l,U,B,rfl,C,mt,hc,X⟩
  exists _,rfl,rfl
  rcases List.eq_nil_or_concat l with rfl| ⟨M,p,e⟩
  .exact cc #[_,rfl,q bs m C mt]
  .rw[List.concat_eq_append] at e
   subst e;rw[show JR (.lst ((M++ [p]).map af))=true by simp[JR]]
   refine bL ?_;rw[dB] at X;simp only[Gg] at X;obtain⟨o,rfl⟩:∃o,m=o+1:=#[m-1,by lia]
   have N:=C.pop;have hp:bs[p]? =some true:=C.wt p (by simp)
   have Hj:p<c.length:=by rw[<-C.len];exact(dm.mp hp).1
   refine#[M.map af,af p,by rw[eE];rfl,?_]
   refine#[_,rfl,_,rfl,_,ft (yM Hj),bS (λj ρ=>∃(a:List Bool)(i:List Nat)(B:Option D),ρ= [some (aQ c),some (.lst (vt a)),some (.lst (i.map af)),some (af p),B]/\RI c a i [p] o/\Met c a/\(∀k y,k<j->(row c p)[k]? =some y->a[y]? =some true)/\a.count false+i.length=o) ?_ ?_ ?_]
   .exact#[bs,M,_,rfl,N,mt,(λk n r=>by lia),by lia]
   .rintro j x _ d ⟨a,i,o5,rfl,t,G,I,O⟩ A hA
    obtain⟨n,J,rfl⟩:=cX d;have Q:=g.rng _ _ (fm J);have S:n<a.length:=by rw[t.len];exact Q
    have u:a[n]? =some (a[n]):=eI S;exists _,rfl,_,rfl,_,ft (L5 u),rfl;generalize a[n]=bn at u;cases bn with
    |true=>
     refine cc (hA _ #[a,i,_,rfl,t,G,λk y r b=>?_,O])
     by_cases e:k=j
     .rw[e,J] at b;cases b;exact u
     .exact I k y (by lia) b
    |false=>
     refine bL ?_;refine#[trivial,_,rfl,_,rfl,_,n,rfl,by rw[El];exact lD S,?_]
     rw[Em];have L:=t.push u;have aae:=L.cnt;refine#[_,rfl,_,rfl,trivial,eu (by rw[aL];lia),?_]
     have er:i.map af++ [af n]=(i++ [n]).map af:=by rw[eE];rfl
     rw[er];refine hA _ #[a.set n true,i++ [n],_,rfl,L,λy b=>?_,λk y r b=>?_,?_]
     .by_cases e:n=y
      .rw[<-e];exact .step (mt p hp) (fm J)
      .rw[mX,mo e] at b;exact G y b
     .rw[mX]
      by_cases e:n=y
      .rw[tz e,tz S]
      .rw[mo e]
       refine I k y ?_ b;apply Gc;intro z
       have:k=j:=by lia
       rw[this,J] at b;cases b;exact e rfl
     .obtain⟨hl,he⟩:=dm.mp u
      have:0<a.count false:=List.count_pos_iff.mpr (by rw[<-he];exact qp hl)
      rw[abI hl,he,dB];simp;lia
   .rintro _ ⟨a,i,o5,rfl,t,G,I,O⟩
    have L:=t.close λy b=>by
     obtain⟨k,r⟩:=tU b;exact I k y (by rw[aL];exact(dm.mp r).1) r
    exact#[o,by lia,a,i,_,_,rfl,L,G,by lia,O]
def FN:cH:=λa P=>∃(w:W),a= [aQ w]/\z5 w/\1<=w.length/\w.length<=14/\(Good w->P .bb)/\(¬Good w->∀q,P (.tup [.str "apart", .int 0,af q]))
def vL:FnOk P w Z.K mg base cg 2 T.d_apart_fault.f T.d_apart_fault.fd ["rows"] (bg Z FN):=by
 have n:=mR.nd;refine bD T.d_apart_fault.F mR [0,0,0] (by decide) (λu R h=>by obtain⟨_,rfl,_⟩:=h;rfl) (λO A outer s H E u R o h=>?_)
 have Q:=o.units
 refine#[_,(ao (cO rfl FS (eO rfl T.B.enumerate (ae (aC T.d_reached_from_first (mm T) o (ae (aa 0) ag)) ag)) (fB 2 rfl (aV (aK 1 n) (aV (aK 2 n) cQ))) (ar (bH (iN (e8 (aa 2))) (ar (bf (bU (ae cF (ae ay (ae (aa 1) ag)))))) aU)))
   (ar (bf cM))),?_]
 obtain⟨q,rfl,g,v,z,C,G⟩:=h;refine#[_,rfl,q,rfl,g,v,z,λbs m r mt=>bS (λk I=>(∀x,x<k->bs[x]? =some true)/\∃c i,I= [some (aQ q),c,i]) #[λx t=>absurd t (Nat.not_lt_zero x),_,_,rfl] ?_ ?_]
 .rintro j d _ J ⟨l,c,i,rfl⟩ A L
  obtain⟨y,M,rfl⟩:=iC J;obtain⟨b,a,rfl⟩:=cX M;exists rfl,rfl;cases b with
  |true=>
   refine#[_,rfl,rfl,cc (L _ #[λx t=>?_,_,_,rfl])]
   by_cases e:x=j
   .rw[e];exact a
   .exact l x (by lia)
  |false=>
   refine#[_,rfl,rfl,bL #[_,rfl,by show 3<=sizeLine;decide,G (λN=>?_) j]]
   have:=r.all N
   rw[this,vd] at a
   split at a<;>cases a
 .rintro _ ⟨l,c,i,rfl⟩
  refine C (g.good λp S=>mt p (l p ?_))
  have:=r.len
  unfold vt fM;simp;lia
def mM:FnOk P w Z.K mg base cg 3 T.d_first_fault.f T.d_first_fault.fd ["rows"] (bg Z FN):=by
 have b:=mS.nd;refine bD T.d_first_fault.F mS [0,0] (by decide) (λj R h=>by obtain⟨_,rfl,_⟩:=h;rfl) (λm A outer s H E j R a h=>?_)
 have n:=a.units
 refine#[_,(ao (aH false 1 b (aC T.d_alien_fault (vK T) a (ae (aa 0) ag)))
   (ao (bH (aX yc (aa 1) cM (ba _)) (ar (aH false 1 b (aC T.d_self_fault (yh T) a (ae (aa 0) ag)))) aU)
   (ao (bH (aX yc (aa 1) cM (ba _)) (ar (aH false 1 b (aC T.d_twice_fault (vM T) a (ae (aa 0) ag)))) aU)
   (ao (bH (aX yc (aa 1) cM (ba _)) (ar (aH false 1 b (aC T.d_lone_fault (yf T) a (ae (aa 0) ag)))) aU)
   (ao (bH (aX yc (aa 1) cM (ba _)) (ar (aH false 1 b (aC T.d_apart_fault (vL T) a (ae (aa 0) ag)))) aU)
   (ar (bf (aa 1)))))))),?_]
 obtain⟨c,rfl,g,d,e,k,l⟩:=h;exists _,rfl,c,rfl,g,d,e,trivial;refine#[_,rfl,_,rfl,bL #[_,rfl,c,rfl,g,d,e,trivial,?_]];refine#[_,rfl,_,rfl,bL #[_,rfl,c,rfl,g,d,e,trivial,?_]];refine#[_,rfl,_,rfl,bL #[_,rfl,c,rfl,g,d,e,trivial,?_]];refine#[_,rfl,_,rfl,bL #[_,rfl,c,rfl,g,d,e,λi=>#[trivial,_,rfl,k i],λi q=>#[trivial,_,rfl,l i q]]]
def lG{P:Program}{w:World}{base:Heap}{Z:DC}(T:Txt Z m):FnOk P w Z.K m base cg 4 T.i_f T.i_fd ["self","turns"] (FO Z):=by
 have M8:=mM (P:=P) (w:=w) (base:=base) T;have n:=lK.nd;refine T.i_F.ok lK (λL H Q E h=>?_) (λbo A outer s H L Q E r h=>?_)
 .obtain⟨p,u,v,G,a,rfl,_⟩:=h;rfl
 obtain⟨p,u,v,G,a,rfl,x,M,N,dv,g,O,S,q⟩:=h;have hu:=r.units
 refine#[_,bY (t:=l7 Z _ [0,0,0,0] 0 _)
   (bH (iN (Kq HR HR ay (aE bB rfl T.B.len bx (ae (aa 1) ag)) (Kj rfl T.c_MOST_POINTS))) (ar lq) aU)
  (bY (t:=l7 Z _ [0,0,0,0] 0 _)
   (Ae 2 (NC:= ["row"]) (src:= [none]) rfl n (vv (aw fj)) trivial (bR (aa 1)) (λ_ _ _=>(cW 0 (show(["row"]:List Str).Nodup from by decide+kernel))) (λ_ _ _=>gq) (λ_ _ _=>(jM nq rfl T.B.list nk (ae (aa 0) ag))))
  (bY (t:=l7 Z _ [0,0,0,0] 0 _)
   (aH false 3 n (aC T.d_first_fault (mM T) r (ae (aa 2) ag)))
  (bY (t:=l7 Z _ [0,0,0,0] 0 _)
   (bH (aX AF (aa 3) cM (ba _)) (ar lq) aU)
  (gv (Rf (pv 0) (pv 2) rfl))))),?_]
 have F:(a.map aq).length=a.length:=aL _;refine#[#[G,H,G],[some (.obj p),some (aQ a),none,none],{nx:=λρ=>ρ= [some (.obj p),some (aQ a),none,none],rt:=λ_=>False},#[G,λ_=> [],?_],?_,#[?_,λ_ z=>z.elim,λ_ z=>z.elim,λ_ z=>z.elim,λ_ _ z=>z.elim]]
 .refine#[.refl M, .refl _,rfl,λi d c=>?_,λ_=>gB,(λ_ _ _ _ z=>by cases z),(λ_ _ z=>by cases z)]
  match i,c with
  |0,c=>cases c;exact#[_,rfl, .obj p,rfl]
  |1,c=>cases c;exact#[_,rfl,dv,rfl]
  |2,c=>cases c
  |3,c=>cases c
  |i+4,c=>cases c
 .have U:D.bl (decide ((1:Int)<=((a.map aq).length:Int)))= .bl true:=GE D.bl (IR (by rw[F];lia))
  have X:D.bl (decide (((a.map aq).length:Int)<=14))= .bl true:=GE D.bl (IR (by rw[F];lia))
  exact#[_,rfl,true,U,bL #[true,X,cc rfl]]
 rintro _ rfl IY H1 S1;refine#[#[G,H,G],_,{nx:=λρ=>ρ= [some (.obj p),some (aQ a),some (aQ a),none],rt:=λ_=>False},S1,?_,#[?_,λ_ z=>z.elim,λ_ z=>z.elim,λ_ z=>z.elim,λ_ _ z=>z.elim]]
 .exact#[_,rfl,l4 (ρ:= [none]) aq aq a _ (λy hy Y h=>#[_,rfl,h]) rfl (small (by lia)) λaG=>#[trivial,rfl]]
 rintro _ rfl fA H2 S2;refine#[#[G,H,G],_,{nx:=λρ=>ρ= [some (.obj p),some (aQ a),some (aQ a),some .bb],rt:=λ_=>False},S2,?_,#[?_,λ_ z=>z.elim,λ_ z=>z.elim,λ_ z=>z.elim,λ_ _ z=>z.elim]]
 .exact#[_,rfl,a,rfl,g.near,O,S,λ_=>#[trivial,rfl],λz=>absurd g z]
 rintro _ rfl vP H3 S3;refine#[#[G,H,G],_,{nx:=λρ=>ρ= [some (.obj p),some (aQ a),some (aQ a),some .bb],rt:=λ_=>False},S3,?_,#[?_,λ_ z=>z.elim,λ_ z=>z.elim,λ_ z=>z.elim,λ_ _ z=>z.elim]]
 .exact#[_,rfl,_,rfl,cc rfl]
 rintro _ rfl fQ H4 ⟨I,fp,f⟩;obtain⟨v0,lY,o0⟩:=f.at_ 0 _ rfl;obtain⟨v2,xM,o2⟩:=f.at_ 2 _ rfl;obtain⟨d0,_⟩:=o0;obtain⟨J,_⟩:=o2;cases d0;have k:=J;cases J with
 | @lst R xs ds hR e=>
  have l:=f.ex.hh _ _ x;refine#[_,xM,_,lY,p,Z.C,u,[],rfl,l,T.W.cl,T.W.nR,by decide,?_]
  have g4:I p=none:=f.ex.off p (by show H p≠none;rw[x];exact λz=>nomatch z) N
  refine q R I _ f.ex.gg (λb o j=>?_) (λb o j nb=>?_) f.ex.off av k
  .rw[ax (aD j g4)];exact f.ex.sub _ _ j
  .rw[ax nb];exact f.ex.hh _ _ j
def RC:cH:=λa P=>∃(w:W),a= [.cD w]/\P (.int (w.length:Int))
def js:FnOk P w Z.K mg base cg 1 T.m_many.f T.m_many.fd ["self"] (bg Z RC):=by
 have d:=tE.nd;refine bD T.m_many.F tE [0] (by decide) (λb R h=>by obtain⟨_,rfl,_⟩:=h;rfl) (λe A outer s H E b R c h=>?_)
 have g:=c.units;exists _,(ar (bf (aE bB rfl T.B.len bx (ae (lj T.W (aa 0)) ag))));obtain⟨a,rfl,q⟩:=h;exists _,rfl,a,rfl;refine(?_:R (.int ((a.map aq).length:Int)));rw[aL];exact q
def O4:cH:=λa P=>∃(w:W),a= [.cD w]/\w.length<=14/\P (aQ w)
end Gn
namespace L2
open PySem PySem.Spec PyProof.Rows
section
variable {Z:DC} {X:Cx} {md:List Nat} {rn:Nat} {e:Expr} {pos p2:Pos} {te:aR} {t:iz} {lo hi:Option Expr} {tl th:Gk}
def TV(t:iz):cx:=λE a=>t a λb=>E.rt (.lst b)
def nE(g:DF Z X rn e t):DSt Z X md rn (.Return (some e) pos) (TV t):=by
 refine(pQ g).imp λD C H j=>?_;rfl';obtain⟨B,l,E,⟨G,m,S⟩,h,M⟩:=j;ac_rfl
 let F:Addr->Prop:=λb=>∃i,b∈m i
 have s:=S.ex.sub
 have n:Ext B.G₀ B.H₀ (plus G H F) H:=#[S.ex.gg.trans (fu s),jE s,S.ex.hh,λb a p=>by
  rw[iI (λ#[i,q]=>a (S.nw i b q).1)];exact S.ex.off b a p]
 refine#[plus G H F,l,_,jE s,#[S.len,λi d h=>?_],h,λJ r v f w y x o z c=>M.rt _ r v f w y (n.trans x) o z λb a=>#[S.ex.hh.free (c b a).1,(c b a).2]];obtain⟨v,A,o⟩:=S.at_ i d h;exact#[v,A,o.dv (fu s) λb a u e=>by rw[lJ #[i,a]];exact e]
end
theorem c9.set{R:V->D->List Addr->Prop}:∀{j:List V}{t:List D}{i:List Addr}(p:Nat){v:V}{d:D}{f:List Addr},c9 R j t i->p<j.length->R v d f->i.Nodup->f.Nodup->(∀b∈f,b∉i)->
  ∃k,c9 R (j.set p v) (t.set p d) k/\k.Nodup/\∀b∈k,b∈i\/b∈f
 |_,_,_,_,_,_,_, .nil,h,_,_,_,_=>by simp at h
 |_,_,_,0,v,d,f, .cons (f:=u) (fs:=fs) a l,_,r,m,n,off=>by
  obtain⟨w,q,x⟩:=gz.mp m;refine#[f++fs, .cons r l,gz.mpr #[n,q,λb g c s e=>off b g (gW _ (e▸s))],λb g=>?_]
  rcases dh.mp g with g|g
  .exact .inr g
  .exact .inl (gW _ g)
 |_,_,_,p+1,v,d,f, .cons (f:=u) (fs:=fs) a l,h,r,m,n,off=>by
  obtain⟨w,q,x⟩:=gz.mp m;obtain⟨A,o,B,y⟩:=c9.set p l (by simpa using h) r q n λb g z=>off b g (gW _ z)
  refine#[u++A, .cons a o,gz.mpr #[w,B,λb g c s e=>?_],λb g=>?_]
  .rcases y c s with z|z
   .exact x b g c z e
   .exact off c z (iu _ (e▸g))
  .rcases dh.mp g with g|g
   .exact .inl (iu _ g)
   .rcases y b g with z|z
    .exact .inl (gW _ z)
    .exact .inr z
section
variable {Z:DC} {X:Cx} {md:List Nat} {rn:Nat} {e k:Expr} {pos:Pos} {tk:aR} {t:iz}
variable {B:Bs} {ρ:DN} {σ:St} {H G:Hp} {fp:Nat->List Addr}
def SIx.VE{f:List Addr}(S:SIx Z B md ρ σ H G fp)(v:σ[i]? =some (some (.ref T)))(r:T∈fp i)(o:Own Z G (upd H T c) (md.getD i 0) (.ref T) q f)(nd:f.Nodup)
  (nw:∀b∈f,B.H₀ b=none/\H b≠none/\G b=none) (ap:∀b∈f,∀j,j≠i->b∉fp j):SIx Z B md (ρ.set i (some q)) σ (upd H T c) G (λj=>if j=i then f else fp j) where
 ex:=by
  obtain⟨d,m,g⟩:=S.nw i T r;exact#[S.ex.gg,λx u e=>by rw[ax (aD e g)];exact S.ex.sub _ _ e,λx u e=>by rw[ax (aD e d)];exact S.ex.hh _ _ e,S.ex.off]
 fl:=S.fl
 len:=by rw[fJ];exact S.len
 at_:=λj w h=>by
  by_cases z:i=j
  .subst z
   by_cases p:i<ρ.length
   .rw[ji p] at h
    cases h;exact#[_,v,by rw[tz rfl];exact o]
   .rw[za (i4 p),j7 (i4 p)] at h;cases h
  .rw[jj z] at h
   obtain⟨u,A,C⟩:=S.at_ j w h;exists u,A;rw[mo (Ne.symm z)];exact C.keep (.refl _) λb a=>ax λy=>S.ap i j T z r (y▸a)
 nd:=λj=>by split;exact nd;exact S.nd j
 ap:=λj k b ne n l=>by
  split at n
  .next z=>
   rw[mo (λw=>ne (z.trans w.symm))] at l;exact ap b n k (λw=>ne (z.trans w.symm)) l
  .next z=>
   split at l
   .exact ap b l j z n
   .exact S.ap j k b ne n l
 nw:=λj b a=>by
  have s:∀b,H b≠none->upd H T c b≠none:=λb a=>by
   by_cases z:b=T
   .subst z;rw[av];exact λw=>nomatch w
   .rw[ax z];exact a
  split at a
  .obtain⟨d,m,g⟩:=nw b a;exact#[d,s b m,g]
  .obtain⟨d,m,g⟩:=S.nw j b a;exact#[d,s b m,g]
def Kh(i:Nat)(c:aR)(t:iz):cx:=λE a=>t a λd=>d.all e9=true/\∃b,a[i]? =some (some (.lst b))/\c a λf=>∃k j,f= .int k/\kh b.length k=some j/\E.nx (a.set i (some (.lst (b.set j (.lst d)))))
def EA(i:Nat)(hk:DE Z X k tk)(he:DF Z X 1 e t)(y:md.getD i 0=2:=by rfl)(hi:X.N[i]? =some x:=by rfl)(hv:lR X.env.scope x:=by subst_eqs)(hd:(x==("__debug__":Str))=false:=by decide)(dW:(x==("__classdict__":Str))=false:=by decide)
  (ha:∀v,assign (.Subscript (.Name x n) k p) X.env v=(do
   let s <-holding [v] (eval (.Name x n) X.env)
   let A <-holding [v,s] (eval k X.env)
   standAt p
   holding [v,s,A] (setItem s A v)
   release [v,s,A] []):=by intro _;rfl)
  (hs:swapsWithSole [.Subscript (.Name x n) k p] e pos.line X.env=pure false:=by rfl) (hw:swappedStores [.Subscript (.Name x n) k p] e X.env=pure none:=by rfl)
  (u:(assignEach [.Subscript (.Name x n) k p] X.env).map (·.2)= [assign (.Subscript (.Name x n) k p) X.env]:=by rfl):DSt Z X md rn (.Assign [.Subscript (.Name x n) k p] e pos) (Kh i tk t):=by
 refine(ju he (mv (pv i hi hv hd dW) hk set_list ha) hs hw u).imp ?_;rintro D σ H ⟨B,ρ,E,⟨G,fp,S⟩,h,M⟩;exists H,ρ,_, .refl _,S.Jr,h;rintro d ⟨KC,ds,u,h⟩ v f G' H' x o nd nw;have x':=Ext.all S.ex.sub x;have S':=S.grow x';obtain⟨a,xs,m6,iT,rfl,ed,Xv,UK,ol⟩:=o.lst;cases ed;obtain⟨dv,rfl⟩:=ol.flat;have c:H a=none:=(nw a (by rw[UK];simp)).1
 have ga:G a=none:=S.ex.sub.free c;have C:∀j,a∉fp j:=λj z=>(S.nw j a z).2.1 c;obtain⟨v0,F,o0⟩:=S'.at_ i _ u;rw[y] at o0;obtain⟨T,ys,_,fpT,rfl,eT,hT,hfT,oT⟩:=o0.lst;refine#[_,F,S'.ev true h ?_];rintro _ ⟨k,j,rfl,g,h3⟩;refine#[rfl,λv1 I H1 q x1 rW=>?_];cases rW;obtain⟨v2,xM,YR⟩:=q.at_ i _ u;rw[y] at YR;obtain⟨T2,J,ds2,EG,rfl,e2,L,l,O⟩:=YR.lst;cases e2;rw[F] at xM;cases xM;have Oc:=q.nd i;rw[l] at Oc;obtain⟨nT,qN⟩:=lP.mp Oc;have aT:a≠T:=λz=>C i (by rw[l,z];simp)
 have a1:H1 a=some (.lst xs):=x1.hh _ _ Xv;have P:I a=none:=x1.off a (by rw[Xv];exact λz=>nomatch z) ga
 have Q:j<J.length:=by
  have:=O.length
  unfold kh at g
  split at g
  .split at g
   .cases g;lia
   .cases g
  .split at g
   .cases g;lia
   .cases g
 obtain⟨U,on,Y,sub⟩:=c9.set (R:=Own Z I H1 1) j (v:= .ref a) (d:= .lst d) (f:= [a]) O Q (.inl #[a,xs,d,[],rfl,rfl,a1,rfl,((dv.flat KC).own)]) qN (by simp) (λb c z=>by
  have:b=a:=by simpa using c
  subst this;exact C i (by rw[l];exact eJ _ z))
 have Tn:T∉U:=λz=>by
  rcases sub T z with z|z
  .exact nT z
  .exact aT ((by simpa using z:T=a).symm)
 refine#[T,J,k,j,rfl,rfl,L,by rw[O.length];exact g,M.nx _ h3 _ _ #[I,_,q.VE (f:=T::U) F (by rw[l];simp) ?_ (lP.mpr #[Tn,Y]) (λb c=>?_) (λb c m p8=>?_)]]
 .rw[y]
  exact .inl #[T,J.set j (.ref a),_,U,rfl,rfl,av,rfl,on.imp λv d f hf r=>r.keep (.refl _) λb c=>ax λz=>Tn (by rw[<-z];exact hf b c)]
 .rcases eF.mp c with rfl|c
  .exact q.nw i _ (by rw[l];simp)
  .rcases sub b c with z|z
   .exact q.nw i b (by rw[l];exact eJ _ z)
   .have:b=a:=by simpa using z
    subst this;exact#[S.ex.hh.free (by assumption),(by rw[a1];exact λz=>nomatch z),P]
 .rcases eF.mp c with rfl|c
  .exact λz=>q.ap i m _ (Ne.symm p8) (by rw[l];simp) z
  .rcases sub b c with z|z
   .exact λw=>q.ap i m b (Ne.symm p8) (by rw[l];exact eJ _ z) w
   .have:b=a:=by simpa using z
    subst this;exact C m
end
section
variable {Z:DC} {X:Cx} {md:List Nat} {rn:Nat} {elt t0 i0 t1 i1:Expr} {f0 f1:List Expr} {scope:Scope} {pos:Pos} {wi gN:jn} {g g1:eX} {tt fk:dP} {te:aR} {src:List (Option Nat)} {NC:List Str}
end
section
variable {Z:DC} {X:Cx}
theorem tm(a:List Int):∀n,n<=a.length->preSum (λi=>a.getD i 0) n=(a.take n).sum
 |0,_=>by simp[preSum]
 |n+1,h=>by
  have:=tm a n (by lia)
  rw[preSum,this,abb (by lia),List.sum_append,fz,eI (by lia)]
  simp
def GG(m:X.calm=true):CallR X (.builtin "sum") (λf H Q=>∃(p:Addr)(c:List Int),f= [.ref p]/\H p=some (.lst (c.map V.int))/\Q (.int c.sum) H):=by
 intro g s L H f M Q I n h;rfl';obtain⟨p,c,rfl,y,q⟩:=h;obtain⟨u,rfl,z⟩:=n.one;subst z;obtain⟨a,r,pl,O⟩:=I.list (cy.of y);have j:=r.length;rw[aL] at j;ac_rfl;refine call_sum_walkG (abV pl.isList ?_)
 have k:p<s.heap.objs.size:=by
  obtain⟨o,B,_⟩:=pl.isList;exact FB B
 have C:p≠s.heap.objs.size:=bQ k;refine#[_,_,_,a.toArray.size,_,_,λi=>c.getD i 0,rfl,Walks.list (show X.A.in1.handled=none from I.ok.hd m) s.heap.objs.size p C a.toArray,#[#[_,GM _ rfl,rfl,rfl],pl.isList.push _],?_,?_,λE P R F=>?_]
 .intro b l
  show b<(s.heap.push _).objs.size;rw[abr];simp only[eF,List.not_mem_nil,or_false] at l
  rcases l with rfl|rfl
  .exact aa9 _
  .exact zg k
 .intro i v G
  have d:a[i]? =some v:=by simpa using G
  have S:i<a.length:=(dm.mp d).1;obtain⟨w,hw,J⟩:=r.get (i:=i) (x:= .int (c.getD i 0)) (by rw[df,fz,eI (by lia)];rfl)
  rw[hw] at d;cases Fk d;exact J
 .have kept:∀b o,s.heap.get? b=some o->E.get? b=some o:=λb o e=>F b o (by simp;exact bQ (FB e)) (Da _ e)
  have e:preSum (λi=>c.getD i 0) a.toArray.size=c.sum:=by
   rw[cJ,<-j,tm c _ (bJ _),vf (bJ _)]
  rw[e];exact#[.int _,H,I.kept kept,#[_,rfl],q]
def Wv:cH:=λb P=>∃a:List Int,b= [.lst (a.map D.int)]/\P (.int a.sum)
def Ji(b:X.calm=true):CallR X (.builtin "sum") (iG Z Wv):=by
 refine(GG b).imp ?_;rintro g H Q ⟨G,i,P,s,dv,⟨c,rfl,d⟩,q⟩;cases dv with
 |cons a f=>
  cases f;cases a with
  |lst h e=>exact#[_,c,rfl,lA e▸s _ _ h,q _ d _ G H (.refl s) (.int _)]
def Jh:bootBuiltins "sum"=some (.builtin "sum"):=by decide+kernel
end
def fK.ok{P:Program}{w:World}{H:Hp}{a:Addr}(x:fK b a d h):ck P w H h a (.ext (fK b a d)):=by
 refine#[x,let #[o,_,_,_,c,_]:=x;#[o,c],λg i p k=>?_];obtain⟨o,e,f,t,c,r⟩:=p;exact#[o,e,f,t,k o c,r]
theorem gk.mem:∀{b:List (Int×Addr)}{c:List (Int×Int)},gk H b c->∀e∈b,∃p∈c,e.1=cC p/\H e.2=some (.tup [.int p.1, .int p.2])
 |_,_, .nil,e,a=>nomatch a
 |_,_, .cons (p:=p) h t,e,a=>by
  rcases eF.mp a with rfl|a
  .exact#[p,dq ..,rfl,h]
  .obtain⟨q,d,f⟩:=t.mem e a
   exact#[q,eJ _ d,f]
theorem gk.SN:∀{c:List (Int×Addr)}{d:List (Int×Int)},gk H c d->∀p∈d,∃a,(cC p,a)∈c/\H a=some (.tup [.int p.1, .int p.2])
 |_,_, .nil,p,b=>nomatch b
 |_,_, .cons (a:=a) h t,p,b=>by
  rcases eF.mp b with rfl|b
  .exact#[a,dq ..,h]
  .obtain⟨e,f,g⟩:=t.SN p b
   exact#[e,eJ _ f,g]
theorem gk.len:∀{a:List (Int×Addr)}{b:List (Int×Int)},gk H a b->a.length=b.length
 |_,_, .nil=>rfl
 |_,_, .cons _ t=>GE (·+1) t.len
theorem gk.snoc(h:H a=some (.tup [.int p.1, .int p.2])):∀{b:List (Int×Addr)}{c:List (Int×Int)},gk H b c->gk H (b++ [(cC p,a)]) (c++ [p])
 |_,_, .nil=> .cons h .nil
 |_,_, .cons h' t=> .cons h' (gk.snoc h t)
section
variable {X:Cx} {pins:List (Addr×Obj)} {σ:St} {H:Hp} {s:Shared}
def Inv.tw{p:Int×Int}(I:Inv X pins σ H s)(h:H a=some (.tup [.int p.1, .int p.2])):IsTupleKey (intKind X.prog X.w) s.heap [p.1,p.2] a:=by
 rfl';obtain⟨c,r,⟨o,d,e,n,f⟩,_⟩:=I.tuple (gm.of h);obtain⟨i,j,rfl,⟨t,rfl⟩,⟨u,rfl⟩⟩:=Vals.two r;ac_rfl;exact#[o,_,n,d,e,f, .cons (by simp[intKind,Value.isInt]) (.cons (by simp[intKind,Value.isInt]) .nil)]
def Inv.oU(I:Inv X pins σ H s)(h:H a=some (.ext (fK b a c))):fK b a c s.heap:=(I.hok a _ h).1
def mn(P:Program)(w:World)(p:Int×Int):tupleKeyHash (intKind P w) [p.1,p.2]=cC p:=rfl
def Inv.YY(I:Inv X pins σ H s)(g:gk H b f)(h:a.toList.Perm (b.map λe=>(e.1,Value.ref e.2))):LO X.prog X.w s.heap a:=λi e c=>by
 rfl';have k:e∈a.toList:=by rw[<-f9] at c;exact fm c
 obtain⟨d,l,rfl⟩:=cz.mp (h.mem_iff.mp k);obtain⟨p,_,m,n⟩:=g.mem d l;ac_rfl;exact#[[p.1,p.2],d.2,by rw[mn,m],I.tw n]
def Inv.nN{h:List (Int×Addr)}{j:List (Int×Int)}{b:Array (Int×Value)}(I:Inv X pins σ H s)(k:gk H h j)(l:b.toList.Perm (h.map λe=>(e.1,Value.ref e.2)))(p:Int×Int):
  (∃(i:Nat)(c:Addr),b[i]? =some (tupleKeyHash (intKind X.prog X.w) [p.1,p.2], .ref c)/\IsTupleKey (intKind X.prog X.w) s.heap [p.1,p.2] c)↔p∈j:=by
 constructor
 .rintro⟨i,c,d,f⟩
  have g:(tupleKeyHash (intKind X.prog X.w) [p.1,p.2],Value.ref c)∈b.toList:=by rw[<-f9] at d;exact fm d
  obtain⟨m,r,t⟩:=cz.mp (l.mem_iff.mp g);obtain⟨q,u,x,n⟩:=k.mem m r
  have:m.2=c:=by have:=(aaR t).2;injection this
  rw[this] at n
  have:=(I.tw n).inj f
  simp at this
  have:q=p:=aau this.1 this.2
  rw[<-this];exact u
 .intro v
  obtain⟨a,d,f⟩:=k.SN p v;have g:(cC p,Value.ref a)∈b.toList:=l.mem_iff.mpr (cz.mpr #[_,d,rfl]);obtain⟨i,o⟩:=List.mem_iff_getElem?.mp g;rw[f9] at o;exact#[i,a,by rw[mn];exact o,I.tw f]
def K8(d:Gl X "set")(f:X.mg "set"=none):PE X (.Call (.Name "set" p) [] [] a) (λg H Q=>∀q,H q=none->Q (.ref q) (upd H q (.ext (fK (gJ X.w) q [])))):=by
 intro c s g H Q I h;refine UV (pH I d f (u:= .type "set") (by decide+kernel) ?_ (by decide) (by decide))
 refine PyProof.Rows.callWith_type rfl (PyProof.Rows.evalArgs_nil3 (Bk ?_));have i:=I.hok.fresh (bJ _);exact#[.ref s.heap.objs.size,_,I.laid (t':=s.toks) (λb o e=>Da _ e) (bJ _) (o:= .ext (fK (gJ X.w) s.heap.objs.size [])) (fK.ok #[_,_,_,_,GM _ rfl,mJ.new X.w, .refl _]),rfl,h _ i]
def Ys(i:X.A.units+64<cLine)(I:Inv X pins σ H s)(j:H c=some (.tup [.int p.1, .int p.2]))(k:H a=some (.ext (fK (gJ X.w) a e)))(f:gk H e b)
  (h:∀d,Q (decide (p∈b)) {s with toks:=d}):wpAny (model X.prog X.w) X.A (contains (.ref a) (.ref c)) Q E s:=by
 rfl';obtain⟨o,m,r,t,n,S,g⟩:=I.oU k;ac_rfl;refine tS i n S (I.YY f g) (I.tw j) λd=>?_
 have:PySem.nN X.prog X.w s.heap m [p.1,p.2]=decide (p∈b):=by
  classical
  unfold PySem.nN;exact abd.mpr (I.nN f g p)
 rw[this];exact h d
def HZ(f:X.A.units+64<cLine):OpR X (compareOp .NotIn) (λx y H Q=>∃c a b d p,x= .ref c/\y= .ref a/\H c=some (.tup [.int p.1, .int p.2])/\H a=some (.ext (fK (gJ X.w) a b))/\gk H b d/\Q (.bl (!decide (p∈d))) H):=by
 intro e s n H x y v u Q I g i h;rfl';obtain⟨c,a,b,d,p,rfl,rfl,k,l,m,q⟩:=h;ac_rfl;cases g;cases i;exact ir (Ys f I k l m λr=>AC #[.bl _,H,I.tok _,rfl,q])
def N9(hu:X.A.units+64<cLine):D2 X "set.add" (λx k H Q=>∃l c d a p,x= .ref l/\k= [.ref c]/\H c=some (.tup [.int p.1, .int p.2])/\H l=some (.ext (fK (gJ X.w) l d))/\gk H d a/\a.length<=300/\
  (p∈a->Q .bb H)/\(p∉a->Q .bb (upd H l (.ext (fK (gJ X.w) l (d++ [(cC p,c)])))))):=by
 intro m s σ H x k v us Q I C E h;rfl';obtain⟨l,c,d,a,p,rfl,rfl,J,n,g,hz,L,M⟩:=h;subst C;obtain⟨u,rfl,N⟩:=E.one;subst N;obtain⟨o,O,ep,t,q,S,f⟩:=I.oU n;have P:s.TypeIs (.ref l) "set":=#[o,q,S.ex.1];ac_rfl;refine aav F.slot_set_add P F.entry_set_add ?_ (F.args_set_add_2 _ _);unfold Builtin.«set.add» Builtin.Frozenset.oneOther;simp only[List.isEmpty_nil,bind_assoc];unfold Builtin.Frozenset.addrOf setAdd;refine ir (AC ?_)
 try dsimp only
 refine ir (AC ?_)
 try dsimp only
 refine ir ?_;refine On ?_;have r:=I.tw J;refine ir (wpAny_pyHash_tuple ?_ r ?_)
 .show X.A.units+1<cLine;lia
 have sz:O.size=a.length:=by
  have:=f.length_eq
  rw[fZ,aL,g.len] at this;exact this
 refine DB (s:={s with toks:=s.toks+([p.1,p.2].length+1)}) (by show X.A.units+1<cLine;lia) q S (I.YY g f) r (by lia) (λR=>?_) λT h' y U Y t' Z B S' j=>?_
 .show wpAny _ _ (ret Value.none) _ _ _
  exact AC #[_,rfl, .bb,H,I.tok _,rfl,L ((I.nN g f p).mp R)]
 .show wpAny _ _ (ret Value.none) _ _ _
  have X0:p∉a:=λz=>by
   obtain⟨i,c',h1,h2⟩:=(I.nN g f p).mpr z;exact T i _ h1 c' rfl h2
  have I':=I.write (h':=h') (t':=s.toks+([p.1,p.2].length+1)) (x:=l) (e:=l) (o:= .ext (fK (gJ X.w) l (d++ [(cC p,c)]))) (by rw[n];trivial) (.inl rfl) (λb u hb e=>Z.extBut b u hb e) #[y,B] (fK.ok #[y,U,Y,t',B,S',by
   rw[eE];exact j.trans (f.append_right _)])
  exact AC #[_,rfl, .bb,_,I',rfl,M X0]
def Zr(b:Bool)(r:V->List V->Hp->VK->Prop)(d:TE)(t:TA):TE:=λa H Q=>d a H λx c=>(∃p e,x= .ref p/\c p=some (.ext (fK b p e)))/\t a c λf g=>r x f g Q
variable {o e:Expr} {es:List Expr} {to:TE} {t:TA} {name:Str} {apos aB:Pos} {id:String} {r:V->List V->Hp->VK->Prop}
def Q2{b:Bool}(n:PlainAttrs "set")(slot:Slot "set" name id)(q:typeOf (.builtin id)=pure (.type "method_descriptor"))(u:D2 X id r)(w:PE X o to)(y:PA X (e::d) t)
  (z:attributeBase o name X.env (eval o X.env)=eval o X.env:=by rfl)
  (A:((backTo f (starEach (e::d) X.env)).all (λx=>!x.1)&&(backToKw f (keywordEach [] X.env)).all (λx=>x.1.isSome)
   &&decide ((e::d).length+([]:List Keyword).length+(if ([]:List Keyword).isEmpty then 0 else 1)<30))=true:=by rfl)
  (B:(apos.endLine==f.line)=true:=by rfl) (C:starEach (e::d) X.env=(false,eval e X.env)::starEach d X.env:=by rfl) (E:(backTo f (starEach d X.env)).any (·.1)=false:=by rfl):
  PE X (.Call (.Attribute o name apos) (e::d) [] f) (Zr b r to t):=by
 intro c s g H Q I h;refine aa5 z A B rfl (thn (w c s g H _ I h) λv F G=>?_);rfl';obtain⟨x,L,j,M,N,O⟩:=G;ac_rfl;rfl';obtain⟨p,jO,rfl,P⟩:=N;subst M;obtain⟨k,_,_,_,l,S,_⟩:=j.oU P;ac_rfl;refine#["set",id,n,slot,q,#[k,l,S.ex.1],λa R=>?_,?_]
 .cases R;exact#[k,l,S.ex.2.1]
 have m:=y f c F g L _ j O;rw[C] at m ⊢;refine aaI (by show(false|| (backTo f (starEach d X.env)).any (·.1))=false;rw[E]<;>rfl) (abo ?_)
 exact thn m λT U #[Y,Z,I2,r2,q2]=>u c U g Z (.ref p) Y (.ref p) T Q I2 rfl r2 q2
end
def E1(a:List (Int×Int))(p:Int×Int):List (Int×Int):=if p∈a then a else a++ [p]
section
variable {Z:DC} {X:Cx} {B:Bs} {md:List Nat} {rn:Nat} {ρ:DN} {σ:St} {H G:Hp} {fp:Nat->List Addr} {a e k o:Expr} {ta te tk tp:aR} {pos apos aB p2:Pos}
def Lg(p:Int×Int):D:= .tup [.int p.1, .int p.2]
def Dv.Fl(h:Dv Z G v (Lg p)):∃c,v= .ref c/\G c=some (.tup [.int p.1, .int p.2]):=by
 rfl';obtain⟨c,l,rfl,b,f⟩:=Dv.n5 h;obtain⟨m,n,rfl,g,i⟩:=f.CW;rw[g.ofInt,i.ofInt] at b;ac_rfl;exact#[c,rfl,b]
def WE(w:World)(c:Bool):gG:=λa b P=>∃p d,a=Lg p/\b= .x (.tq (gJ w) d)/\P (.bl (if c=true then !decide (p∈d) else decide (p∈d)))
def HU(d:X.A.units+64<cLine):OpR X (compareOp .NotIn) (bP Z (WE X.w true)):=by
 refine(HZ d).imp ?_;rintro x y H Q ⟨G,a,b,P,s,f,g,⟨p,i,rfl,rfl,h⟩,q⟩;obtain⟨c,rfl,j⟩:=f.Fl;cases g with
 |x l ok=>
  rfl';obtain⟨_,n,rfl,r⟩:=ok;ac_rfl;exact#[c,_,n,i,p,rfl,rfl,s _ _ j,s _ _ l,r.mono s,q _ h _ G H (.refl s) (.bl _)]
def PK(w:World)(i:Nat):cx:=λE b=>E.nx (b.set i (some (.x (.tq (gJ w) []))))
def Ko(i:Nat)(n:X.N.Nodup)(q:Gl X "set")(r:X.mg "set"=none)(s:t.getD i 0=98:=by rfl)(u:X.N[i]? =some x:=by rfl)(v:Loc X.env.scope x:=by subst_eqs)(y:swapsWith (.Call (.Name "set" p) [] [] A) (some (.Name x d)) m.line X.env=pure false:=by rfl)
  (C:X.fn x=true\/X.env.scope.names.lookup x=some .local:=by subst_eqs):DSt Z X t O (.Assign [.Name x d] (.Call (.Name "set" p) [] [] A) m) (PK X.w i):=by
 refine(jv n u v (K8 q r) y C).imp ?_;intro D P H F;rfl';obtain⟨B,R,E,⟨G,T,S⟩,h,M⟩:=F;ac_rfl;intro c g;have J:G c=none:=S.ex.sub.free g;have x:Ext G H G (upd H c (.ext (fK (gJ X.w) c []))):=#[.refl _,S.ex.sub.trans (aO g _),aO g _,λ_ _ z=>z];refine M.nx _ h _ _ #[G,_,(S.grow x).OX s (f:= [c]) (.inr (.inr #[c,_,rfl,av,rfl, .inr #[rfl,_,rfl,gB,[],rfl, .nil]])) (by simp) (λb l=>?_) λb l j _ L=>?_]
 .rw[dD] at l;subst l
  exact#[S.ex.hh.free g,(by rw[av];exact λz=>nomatch z),J]
 .rw[dD] at l;subst l
  exact(S.nw j _ L).2.1 g
def Tw(w:World)(f:List Nat)(m:Bool)(i:Nat)(g:aR):cx:=λE b=>∃c,b[i]? =some (some (.x (.tq (gJ w) c)))/\g (IH f m b) λd=>∃p,d=Lg p/\c.length<=300/\E.nx (b.set i (some (.x (.tq (gJ w) (E1 c p)))))
def ME(m:Bool)(i:Nat)(hu:X.A.units+64<cLine)(he:DE Z X e te)(s:md.getD i 0=98:=by rfl)(hi:X.N[i]? =some x:=by rfl)(hv:lR X.env.scope x:=by subst_eqs)(t:(x==("__debug__":Str))=false:=by decide)(dW:(x==("__classdict__":Str))=false:=by decide)
  (cV:attributeBase (.Name x g) "add" X.env (eval (.Name x g) X.env)=eval (.Name x g) X.env:=by rfl)
  (gr:((backTo aB (starEach [e] X.env)).all (λx=>!x.1)&&(backToKw aB (keywordEach [] X.env)).all (λx=>x.1.isSome)&&decide (([e]:List Expr).length+([]:List Keyword).length+(if ([]:List Keyword).isEmpty then 0 else 1)<30))=true:=by rfl)
  (bW:(apos.endLine==aB.line)=true:=by rfl) (I:starEach [e] X.env=(false,eval e X.env)::starEach [] X.env:=by rfl) (cG:(backTo aB (starEach [] X.env)).any (·.1)=false:=by rfl)
  (kO:swapsWith (.Call (.Attribute (.Name x g) "add" apos) [e] [] aB) none pos.line X.env=pure false:=by rfl):
  DSt Z X md rn (.Expr (.Call (.Attribute (.Name x g) "add" apos) [e] [] aB) pos) (Tw X.w md m i te):=by
 refine(fO (Q2 (b:=gJ X.w) PySem.F.plainAttrs_set PySem.F.slot_set_add PySem.F.type_set_add (N9 hu) (pv i hi hv t dW) (bq he cp I) cV gr bW I cG) kO).imp ?_;intro D σ H aI;rfl';obtain⟨B,J,E,⟨G,L,S⟩,⟨O,n,h⟩,M⟩:=aI;ac_rfl;rfl';obtain⟨v0,y,P⟩:=S.at_ i _ n;rw[s] at P;obtain⟨l,φ,rfl,hl,_,nd,es,rfl,pe⟩:=P.xA;ac_rfl;refine#[_,y,#[l,_,rfl,hl],S.ev m h λd t=>?_];obtain⟨p,rfl,hz,q⟩:=t;refine#[by cases m<;>trivial,λv Q H' C x dv=>?_]
 rfl';obtain⟨c,rfl,R⟩:=dv.Fl;obtain⟨v1,T,U⟩:=C.at_ i _ n;rw[y] at T;ac_rfl;cases Fk T;rfl';rw[s] at U;obtain⟨l',ZS,e',Ny,Y,vE,jO,rfl,k⟩:=U.xA;cases e';ac_rfl;refine#[l,c,jO,O,p,rfl,rfl,x.sub _ _ R,Ny,k.mono x.sub,hz,λr=>?_,λr=>?_]
 .rw[E1,tz r] at q
  refine M.nx _ q _ _ #[Q,L,?_]
  have e:J.set i (some (.x (.tq (gJ X.w) O)))=J:=by
   refine yZ λj=>?_
   by_cases z:i=j
   .subst z
    have bT:=(dm.mp n).1;rw[ji bT,n]
   .rw[jj z]
  rw[e];exact C
 .rw[E1,mo r] at q
  refine M.nx _ q _ _ #[Q,L,C.mut y (b:=l) (by rw[Y];simp) ?_]
  rw[s,Y];refine .inr (.inr #[l,_,rfl,av,rfl, .inr #[rfl,_,rfl,?_,_,rfl,k.snoc R]]);rw[gz];refine#[vE,by simp,λa ha b o z=>r ?_]
  rw[dD] at o;rw[<-o,<-z];exact ha
end
section
variable {Z:DC} {X:Cx}
def LW:cH:=λa P=>∃L:List (List Nat),a= [.lst (L.map aq)]/\L.length<=1000/\∀M:List (List Nat),M.Perm L->M.Pairwise nX->P (.lst (M.map aq))
def P1(h:Dv Z G v (aq r)):∃a,v= .ref a/\G a=some (.lst ((jb r).map V.int)):=by
 obtain⟨a,d,rfl,b,c⟩:=Dv.fN h
 have:d=(jb r).map V.int:=by
  have e:r.map af=(jb r).map D.int:=by unfold jb;rw[eG];rfl
  rw[e] at c;exact lA c
 rw[this] at b;exact#[a,rfl,b]
def Rp(h:G a=some (.lst ((jb r).map V.int))):Dv Z G (.ref a) (aq r):=by
 have e:aq r= .lst ((jb r).map D.int):=by unfold aq jb;rw[eG];rfl
 rw[e];exact .lst h (.ints _)
theorem Af:∀{b:List V}{L:List (List Nat)},DvAll Z G b (L.map aq)->∃A:List (Addr×List Nat),b=A.map (λe=>V.ref e.1)/\A.map (·.2)=L/\Gq G A
 |b,[],h=>by cases h;exact#[[],rfl,rfl,λp c=>by cases c]
 |b,r::L,h=>by
  cases h with
  |cons a f=>
   obtain⟨A,g,i,j⟩:=Af f;obtain⟨p,rfl,c⟩:=P1 a;refine#[(p,r)::A,by rw[g];rfl,by rw[<-i];rfl,λq d=>?_]
   rcases eF.mp d with rfl|d
   .exact c
   .exact j q d
theorem Gq.dv:∀{L:List (Addr×List Nat)},Gq G L->DvAll Z G (L.map λe=>V.ref e.1) ((L.map (·.2)).map aq)
 | [],_=> .nil
 |x::L,h=> .cons (Rp (h x (dq ..))) (Gq.dv λp a=>h p (eJ _ a))
def GH(j:X.A.units+64<cLine):CallR X (.builtin "sorted") (iG Z LW):=by
 refine(wF j).imp ?_;rintro t H Q ⟨G,k,P,s,dv,⟨c,rfl,u,b⟩,q⟩;cases dv with
 |cons a l=>
  cases l;cases a with
  | @lst p v k h e=>
   obtain⟨L,rfl,d,f⟩:=Af e;have w:L.length=c.length:=by rw[<-d];simp
   refine#[_,L,rfl,cy.of (s _ _ h),λp b=>s _ _ (f p b),by lia,λp M g i m=>?_]
   have n:(M.map (·.2)).Perm c:=by rw[<-d];exact i.map _
   have o:Gq (upd G p (.lst (M.map λe=>V.ref e.1))) M:=λx r=>aO (s.free g) _ _ _ (f x (i.mem_iff.mp r));exact q _ (b _ n m) _ _ _ (.new s g) (.lst av o.dv)
end
section
variable {Z:DC} {X:Cx} {md:List Nat} {rn:Nat} {a b:Expr} {pos:Pos} {ta:gH}
def WO(d:List Nat)(i j:Nat)(e:gH):cx:=λE c=>e (cn d c) λf=>∃a b,f= [a,b]/\E.nx ((c.set i (some a)).set j (some b))
def BE(i j:Nat){kt k2 Ig}(d:X.calm=true)(e:X.N.Nodup)(f:DA Z X [a,b] ta)(g:X.N[i]? =some x:=by rfl)(k:X.N[j]? =some y:=by rfl)(l:i≠j:=by decide)(m:md.getD i 0=0:=by rfl)(n:md.getD j 0=0:=by rfl)
  (o:X.env.scope.names.lookup x=some .local:=by rfl) (p:X.env.scope.names.lookup y=some .local:=by rfl)
  (hw:swappedStores [.Tuple [.Name x c, .Name y py] kt pt] (.Tuple [a,b] k2 Ig) X.env=pure (some [x,y]):=by rfl)
  (q:swapsWithSole [.Tuple [.Name x c, .Name y py] kt pt] (.Tuple [a,b] k2 Ig) pos.line X.env=pure false:=by rfl):
  DSt Z X md rn (.Assign [.Tuple [.Name x c, .Name y py] kt pt] (.Tuple [a,b] k2 Ig) pos) (WO md i j ta):=by
 refine(Rh d e g k l o p f hw q).imp ?_;intro D I H r;rfl';obtain⟨B,t,E,⟨G,L,S⟩,h,M⟩:=r;ac_rfl;exists G,cn md t,_,S.ex.sub,S.rY,h;rintro _ ⟨a,b,rfl,w⟩ O z P x A;obtain⟨v,u,rfl,C,F⟩:=A.CW;exact#[v,u,rfl,M.nx _ w _ _ #[z,_,((S.grow x).oU m C).oU n F]]
end
section
variable {Z:DC} {X:Cx} {e:Expr} {te:aR} {pos p:Pos}
variable {o:Expr} {ta:aR} {m:Str} {f:Addr} {fd:FuncData} {ps:List Str} {sd:cH} {k n:Nat} {apos:Pos}
def Um(b:cH)(c:aR):iz:=λg P=>c g λd=>∃w,d= .cD w/\b [.cD w] λd=>∃a,d= .lst a/\P a
def Kl(T:Ea Z)(l:DE Z X o ta)(r:Meth Z.K Z.C m f)(F:FnOk X.prog X.w X.K X.mg X.base cg k f fd ps (fh Z n sd))(t:bN k X.A)(a:Binds X.K fd ps [])(d:X.K=Z.K:=by rfl)
  (u:([("rows",V.ref 0)]:List (Str×V)).lookup m=none:=by decide)
  (x:eval (.Call (.Attribute o m apos) [] [] pos) X.env=(do
   let i <-eval o X.env
   standAt apos.atName
   let (f,first) <-holding [i] (getMethod i m pl)
   callWith pos f first (backTo pos (starEach [] X.env)) (backToKw pos (keywordEach [] X.env))):=by rfl):DF Z X n (.Call (.Attribute o m apos) [] [] pos) (Um sd ta):=by
 refine(AK (pl:=pl) l (by rw[d];exact T.cl) (by rw[d];exact r) F t a .nil kS x).imp ?_
 rintro σ H Q ⟨G,y,P,s,B,h,q⟩;exists G,y,_,s,B,h;rintro _ ⟨w,rfl,E⟩ v I J c dv;have L:=dv;cases dv with
 | @cD p M R w N xJ g h1 h2=>
  refine#[p,M,_,rfl,c.sub _ _ N,?_,?_]
  .have O:(m==("rows":Str))=false:=by
    cases z:(m==("rows":Str)) with
    |false=>rfl
    |true=>simp[aP,z] at u
   simp[aP,O]
  .show fh Z n sd (V.ref p::([]++ [])) J Q E0
   exists I,_,_,c.sub, .cons L .nil,E;rintro _ ⟨ds,rfl,S⟩ v f U Y e o nd j;exact q _ S v f U Y (c.trans e) o nd λb a=>#[c.hh.free (j b a).1,(j b a).2]
end
section
variable {Z:DC} {X:Cx} {pins:List (Addr×Obj)} {σ:St} {H:Hp} {s:Shared} {o e:Expr} {ta tb:aR} {apos:Pos}
theorem Au(I:Inv X pins σ H s):∀{c:List V}{f:List PyData}{g:List Value},DpAll X.K H c f->Vals c g->∀(i:Nat)(e:PyData)(u:Value),f[i]? =some e->g[i]? =some u->vz s.heap d u=PyData.eqv e d
 |_,_,_, .nil, .nil,i,e,u,h,_=>by simp at h
 |_,_,_, .cons (d:=n) a j, .cons r k,0,e,u,h,b=>by
  simp at h b;subst h;subst b;obtain⟨⟨p,l⟩,m⟩:=a.reads I r;exact BG (d:=d) l m
 |_,_,_, .cons a j, .cons r k,i+1,e,u,h,b=>Au I j k i e u (by simpa using h) (by simpa using b)
theorem DpAll.len{K:ac}{H:Hp}:∀{a:List V}{b:List PyData},DpAll K H a b->a.length=b.length
 |_,_, .nil=>rfl
 |_,_, .cons _ t=>GE (·+1) t.len
def HL(J:X.A.units+64<cLine):D2 X "list.index" (λx B H Q=>∃l i y d b j,x= .ref l/\B= [y]/\H l=some (.lst i)/\Dp X.K H y d/\DpAll X.K H i b/\d.depth<=60/\(∃e,b[j]? =some e/\PyData.eqv e d=true)/\(∀(m:Nat) e,m<j->b[m]? =some e->PyData.eqv e d=false)/\Q (.int (j:Nat)) H):=by
 intro C s o H x B v Z Q I L k h;obtain⟨l,i,y,d,b,j,rfl,rfl,M,N,p,O,⟨ej,E,t⟩,P,q⟩:=h;cases L;obtain⟨u,rfl,R⟩:=k.one;obtain⟨⟨bs,k⟩,S⟩:=N.reads I R;obtain⟨fw,a,n,r,hl,e⟩:=I.qf M;obtain⟨_,T⟩:=pF I k S O J p r;have ll:=r.length;have ld:=p.len;have zH:j<b.length:=(dm.mp E).1;have G:j<a.toArray.size:=by rw[cJ];lia
 have at_:∀m,(f:m<a.toArray.size)->∃c,b[m]? =some c/\vz s.heap d a.toArray[m]=PyData.eqv c d:=λm f=>by
  have U:m<a.length:=by simpa using f
  refine#[b[m]'(by lia),eI (by lia),Au I p r m _ _ (eI (by lia)) ?_]
  rw[eI U];simp
 have bT:=kD;refine aaG F.slot_list_index #[_,e,rfl] F.entry_list_index (F.args_list_index_2 _ _) (SeqAt.list_indexAt l a.toArray n none #[] u (vz s.heap d) j G (by lia) ?_ ?_) #[e,λw hw=>T w (by simpa using hw),?_]
 .obtain⟨c,g,z⟩:=at_ j G
  rw[E] at g;cases g;rw[z];exact t
 .intro m f Y
  obtain⟨c,g,z⟩:=at_ m f;rw[z];exact P m c Y g
 .exact#[.int j,H,I.tok _,#[_,rfl],q]
def Mh(f g:aR):aR:=λc P=>f c λd=>∃l,d= .lst l/\g c λy=>∃(b:List PyData)(a:PyData)(j:Nat),dH l=some b/\y.py=some a/\a.depth<=60/\(∃e,b[j]? =some e/\PyData.eqv e a=true)/\(∀(m:Nat) e,m<j->b[m]? =some e->PyData.eqv e a=false)/\P (.int (j:Nat))
theorem GO(m:X.A.units+64<cLine)(n:DE Z X o ta)(r:DE Z X e tb)
  (t:attributeBase o "index" X.env (eval o X.env)=eval o X.env:=by rfl)
  (w:((backTo b (starEach [e] X.env)).all (λx=>!x.1)&&(backToKw b (keywordEach [] X.env)).all (λx=>x.1.isSome)&&decide (([e]:List Expr).length+([]:List Keyword).length+(if ([]:List Keyword).isEmpty then 0 else 1)<30))=true:=by rfl)
  (z:(apos.endLine==b.line)=true:=by rfl) (f:starEach [e] X.env=(false,eval e X.env)::starEach [] X.env:=by rfl) (B:(backTo b (starEach [] X.env)).any (·.1)=false:=by rfl):
  DE Z X (.Call (.Attribute o "index" apos) [e] [] b) (Mh ta tb):=by
 refine(oi Pi acn aco (HL m) n (bq r cp f) t w z f B).imp ?_;rintro σ H Q ⟨G,g,P,s,i,h,q⟩;exists G,g,_,s,i,h;rintro _ ⟨l,rfl,C⟩ v E H1 c dv;cases dv with
 | @lst p F ds k e=>
  refine#[ty_list (c.sub _ _ k),E,g,_,c.sub,i.mono c.gg,C,λy I u J L d M=>?_];obtain⟨N,a,j,O,R,S,T,U,Y⟩:=I;exact#[p,F,u,a,N,j,rfl,rfl,d.hh _ _ (c.sub _ _ k),(M.dp R).mono d.sub,((e.mono d.gg).dp O).mono d.sub,S,T,U,q _ Y _ J L (c.trans d) (.int _)]
end
def eN.ok{P:Program}{w:World}{H:Hp}{a:Addr}{vs:List FV}(x:eN a c vs h):ck P w H h a (.ext (eN a c vs)):=by
 refine#[x,let #[_,o,_,_,b,_]:=x;#[o,b],λf g p k=>?_];obtain⟨z,o,d,e,b,r⟩:=p;exact#[z,o,d,e,k o b,r]
inductive j9 (H:Hp):List (Int×Addr)->List (Int×Int)->List FV->List (List Int×Addr×Value)->Prop
 |nil:j9 H [] [] [] []
 |cons {a:Addr} {p:Int×Int} {v:FV} {u:Value} {es:List (Int×Addr)} {ks:List (Int×Int)} {vs:List FV} {xs:List (List Int×Addr×Value)}:H a=some (.tup [.int p.1, .int p.2])->J5 v u->j9 H es ks vs xs->j9 H ((cC p,a)::es) (p::ks) (v::vs) (([p.1,p.2],a,u)::xs)
theorem j9.keys:∀{c:List (Int×Addr)}{a:List (Int×Int)}{d:List FV}{b:List (List Int×Addr×Value)},j9 H c a d b->b.map (·.1)=a.map λp=> [p.1,p.2]
 |_,_,_,_, .nil=>rfl
 |_,_,_,_, .cons _ _ t=>by rw[cf,cf,t.keys]
theorem j9.len:∀{c:List (Int×Addr)}{a:List (Int×Int)}{d:List FV}{b:List (List Int×Addr×Value)},j9 H c a d b->b.length=a.length
 |_,_,_,_, .nil=>rfl
 |_,_,_,_, .cons _ _ t=>GE (·+1) t.len
theorem j9.snoc(b:H a=some (.tup [.int p.1, .int p.2]))(h:J5 v u):∀{c:List (Int×Addr)}{d:List (Int×Int)}{e:List FV}{f:List (List Int×Addr×Value)},j9 H c d e f->j9 H (c++ [(cC p,a)]) (d++ [p]) (e++ [v]) (f++ [([p.1,p.2],a,u)])
 |_,_,_,_, .nil=> .cons b h .nil
 |_,_,_,_, .cons k' g t=> .cons k' g (j9.snoc b h t)
def uR(P:Program)(w:World)(p:Int×Int)(a:Addr)(u:Value):entryOfKey (tupleKind (intKind P w)) ([p.1,p.2],a,u)=#[cC p, .ref a,u]:=by
 unfold entryOfKey;rw[show(tupleKind (intKind P w)).hash [p.1,p.2]=cC p from mn P w p]
def Uh(d:JZ l b g):∀{c:List (Int×Int)},gk H b c->∃f,j9 H b c g f/\∀(P:Program)(w:World),l=f.map (entryOfKey (tupleKind (intKind P w))):=by
 induction d with
 |nil=>intro c i;cases i;exact#[[], .nil,λ_ _=>rfl]
 | @cons e l h a v b g j k m d n=>
  intro c i;cases i with
  | @cons _ p _ r h t=>
   obtain⟨f,o,q⟩:=n t;refine#[([p.1,p.2],a,e.val)::f, .cons h m o,λP w=>?_];rw[cf,<-q P w,uR];obtain⟨s,u,ev⟩:=e;simp only at j k ⊢;rw[j,k]
def MV{e:List (Int×Int)}(d:j9 H a e b c):JZ (c.map (entryOfKey (tupleKind (intKind P w)))) a b:=by
 induction d with
 |nil=>exact .nil
 |cons _ h t f=>
  rw[cf,uR];exact .cons rfl rfl h f
def j9.isKey(I:Inv X a e H s)(d:j9 H f g i c):∀x∈c,IsTupleKey (intKind X.prog X.w) s.heap x.1 x.2.1:=by
 induction d with
 |nil=>intro x b;cases b
 |cons h _ _ j=>
  intro x b
  rcases eF.mp b with rfl|b
  .exact I.tw h
  .exact j x b
def nj{K:Type} [DecidableEq K] {b:List (K×Addr×Value)} {k:K}:(atKey b k).isSome=true↔k∈b.map (·.1):=by
 unfold atKey;rw[Option.isSome_map,List.find?_isSome,cz]
 constructor
 .rintro⟨x,a,e⟩;exact#[x,a,KM e]
 .rintro⟨x,a,e⟩;exact#[x,a,IR e]
def pN{p:Int×Int}{a:List (Int×Int)}: [p.1,p.2]∈a.map (λp=> [p.1,p.2])↔p∈a:=by
 rw[cz]
 constructor
 .rintro⟨q,b,e⟩
  simp at e;rw[<-show q=p from aau e.1 e.2];exact b
 .intro h;exact#[p,h,rfl]
def Ft{c:List (Int×Int)}(h:c.Nodup):(c.map λp=> [p.1,p.2]).Nodup:=by
 rw[y8,i3];rw[y8] at h;exact h.imp λ {a b} n e=>n (by simp at e;exact aau e.1 e.2)
section
variable {X:Cx} {pins:List (Addr×Obj)} {σ:St} {H:Hp} {s:Shared}
def Inv.T6(I:Inv X pins σ H s)(h:H a=some (.ext (eN a b e)))(f:gk H b c)(g:c.Nodup):
  (a==sysModules)=false/\∃xs,j9 H b c e xs/\s.heap.DictOfH (tupleKind (intKind X.prog X.w)) a xs:=by
 rfl';obtain⟨z,o,j,k,l,m,n,p⟩:=(I.hok a _ h).1;obtain⟨xs,d,q⟩:=Uh p f;ac_rfl;exact#[z,xs,d,o,j,k,l,m,n,q _ _,d.isKey I,by rw[d.keys];exact Ft g]
def Qq(t:X.A.units+64<cLine)(I:Inv X pins σ H s)(i:H c=some (.tup [.int p.1, .int p.2]))(j:H a=some (.ext (eN a d g)))(l:gk H d b)(m:b.Nodup)
  (h:∀n,Q (.bool (decide (p∈b))) {s with toks:=n}):wpAny (model X.prog X.w) X.A (compareOp .In (.ref c) (.ref a)) Q E s:=by
 rfl';obtain⟨z,q,f,r⟩:=I.T6 j l m;ac_rfl;refine wpAny_in_heap (knd:=tupleKind (intKind X.prog X.w)) (k:= [p.1,p.2]) (by show X.A.units+1<cLine;lia) (I.tw i) z r ?_
 have:(atKey q [p.1,p.2]).isSome=decide (p∈b):=by
  by_cases e:p∈b
  .rw[IR e];exact nj.mpr (by rw[f.keys];exact pN.mpr e)
  .rw[GT e]
   apply vh.mpr;exact λz=>e (pN.mp (by rw[<-f.keys];exact nj.mp z))
 rw[this];exact h _
def Oo(g:X.A.units+64<cLine):OpR X (compareOp .In) (λx y H Q=>∃c a d b e p,x= .ref c/\y= .ref a/\H c=some (.tup [.int p.1, .int p.2])/\H a=some (.ext (eN a d e))/\gk H d b/\b.Nodup/\Q (.bl (decide (p∈b))) H):=by
 intro f s r H x y v u Q I i j h;rfl';obtain⟨c,a,d,b,e,p,rfl,rfl,l,m,n,o,q⟩:=h;ac_rfl;cases i;cases j;exact Qq g I l m n o λw=>#[.bl _,H,I.tok _,rfl,q]
def Ov:PE X (.Dict [] [] b) (λd H Q=>∀q,H q=none->Q (.ref q) (upd H q (.ext (eN q [] [])))):=by
 intro c s d H Q I h;have e:=I.hok.fresh (bJ s.heap.objs.size);refine wpAny_Dict_empty #[.ref s.heap.objs.size,_,I.laid (a:=s.heap.objs.size) (t':=s.toks) (λ_ _ q=>Da _ q) (bJ _) (o:= .ext (eN s.heap.objs.size [] [])) (eN.ok #[?_,_, #[],0,GM _ rfl,#[rfl,rfl,rfl],rfl, .nil]),rfl,h _ e];have f:mainGlobals<s.heap.objs.size:=(I.mod.glob.keeps I.bk).lt;have g:sysModules<s.heap.objs.size:=Nat.lt_trans (by decide) f
 exact aaq.mpr (Ne.symm (bQ g))
def vF:FV->V
 | .int i=> .int i
 | .bl b=> .bl b
def Qa(h:RelV (vF f) u):J5 f u:=by
 cases f with
 |int i=>exact h
 |bl b=>exact h
variable {o i value:Expr} {td ti tv:TE} {pos pos':Pos}
def VV(j k l:TE):TS:=λD b H=>l b H λv m=>j b m λx n=>k b n λy d=>∃a c f e g p h,x= .ref a/\y= .ref c/\v=vF h/\d a=some (.ext (eN a f g))/\d c=some (.tup [.int p.1, .int p.2])/\gk d f e/\e.Nodup/\p∉e/\e.length<=300/\D.nx b (upd d a (.ext (eN a (f++ [(cC p,c)]) (g++ [h]))))
def OI(hu:X.A.units+64<cLine)(J:PE X o td)(L:PE X i ti)(M:PE X value tv)(N:swapsWith value (some (.Subscript o i pos')) pos.line X.env=pure false:=by rfl):PS X (.Assign [.Subscript o i pos'] value pos) (VV td ti tv):=by
 intro d s f H D I h;refine wpAny_Assign_Subscript (thn (M d s f H _ I h) λr O #[v,P,Q,R,S]=>thn (J d O f P _ Q S) λu T #[x,U,Y,Z,q2]=>thn (L d T f U _ Y q2) λiv s3 #[y,H3,g,ry,a,c,m,ks,n,p,t,e1,e2,e3,B,C,pe,nd,np,hz,q3]=>?_) N;subst e1 e2 e3;cases Z;cases ry;obtain⟨z,j,l,hm⟩:=g.T6 B pe nd;refine wpAny_setItem_heap (knd:=tupleKind (intKind X.prog X.w)) (k:= [p.1,p.2]) (by show X.A.units+1<cLine;lia) (g.tw C) hm (λh' E sb=>?_) (small (by rw[l.len];lia))
 have na:atKey j [p.1,p.2]=none:=by
  cases e:atKey j [p.1,p.2] with
  |none=>rfl
  |some q=>exact absurd (pN.mp (by rw[<-l.keys];exact nj.mp (by rw[e];rfl))) np
 rw[storedH_new na] at E;rfl';have x2:j9 H3 (m++ [(cC p,c)]) (ks++ [p]) (n++ [t]) (j++ [([p.1,p.2],c,r)]):=l.snoc C (Qa R);obtain⟨F,Ui,xf,G,B4,iU,xE,_,_⟩:=E;have I':=g.write (h':=h') (t':=s3.toks+(tupleKind (intKind X.prog X.w)).draws [p.1,p.2]) (x:=a) (e:=a) (o:= .ext (eN a (m++ [(cC p,c)]) (n++ [t]))) (by rw[B];trivial) (.inl rfl) (λb u hb e=>sb.extBut b u hb e) #[F,G] (eN.ok #[z,F,Ui,xf,G,B4,iU,by rw[xE];exact MV x2])
 ac_rfl;exact#[f,_,I',q3]
end
section
variable {Z:DC} {X:Cx} {B:Bs} {md:List Nat} {rn:Nat} {ρ:DN} {σ:St} {H G:Hp} {fp:Nat->List Addr} {a e k o:Expr} {ta te tk tp:aR} {pos apos aB p2:Pos}
def WD(c:Bool):gG:=λa b P=>∃p d f,a=Lg p/\b= .x (.lI d f)/\P (.bl (if c=true then !decide (p∈d) else decide (p∈d)))
def QO(d:X.A.units+64<cLine):OpR X (compareOp .In) (bP Z (WD false)):=by
 refine(Oo d).imp ?_;rintro x y H Q ⟨G,a,b,P,s,f,g,⟨p,i,j,rfl,rfl,h⟩,q⟩;obtain⟨c,rfl,l⟩:=f.Fl;cases g with
 |x m ok=>
  rfl';obtain⟨r,t,rfl,u⟩:=ok;ac_rfl;exact#[c,_,t,i,j,p,rfl,rfl,s _ _ l,s _ _ m,u.mono s,r,q _ h _ G H (.refl s) (.bl _)]
def TB(i:Nat):cx:=λE b=>E.nx (b.set i (some (.x (.lI [] []))))
def MG(i:Nat)(n:X.N.Nodup)(p:q.getD i 0=98:=by rfl)(r:X.N[i]? =some x:=by rfl)(s:Loc X.env.scope x:=by subst_eqs)(t:swapsWith (.Dict [] [] u) (some (.Name x d)) m.line X.env=pure false:=by rfl)
  (v:X.fn x=true\/X.env.scope.names.lookup x=some .local:=by subst_eqs):DSt Z X q F (.Assign [.Name x d] (.Dict [] [] u) m) (TB i):=by
 refine(jv n r s Ov t v).imp ?_;intro D I H w;rfl';obtain⟨B,L,E,⟨G,O,S⟩,h,M⟩:=w;ac_rfl;intro c g;have A:G c=none:=S.ex.sub.free g;have x:Ext G H G (upd H c (.ext (eN c [] []))):=#[.refl _,S.ex.sub.trans (aO g _),aO g _,λ_ _ z=>z];refine M.nx _ h _ _ #[G,_,(S.grow x).OX p (f:= [c]) (.inr (.inr #[c,_,rfl,av,rfl, .inr #[rfl,_,rfl,gB,[],rfl, .nil]])) (by simp) (λb l=>?_) λb l j _ C=>?_]
 .rw[dD] at l;subst l
  exact#[S.ex.hh.free g,(by rw[av];exact λz=>nomatch z),A]
 .rw[dD] at l;subst l
  exact(S.nw j _ C).2.1 g
def Xh:FV->D
 | .int i=> .int i
 | .bl b=> .bl b
def Dv.YU(h:Dv Z G v (Xh f)):v=vF f:=by
 cases f with
 |int i=>exact h.ofInt
 |bl b=>exact h.yd
def TZ(f:List Nat)(i:Nat)(j l:aR):cx:=λE b=>l (cn f b) λd=>∃g c h,d=Xh g/\b[i]? =some (some (.x (.lI c h)))/\j (cn f b) λm=>∃p,m=Lg p/\p∉c/\c.length<=300/\E.nx (b.set i (some (.x (.lI (c++ [p]) (h++ [g])))))
def ML(i:Nat)(U:X.A.units+64<cLine)(Y:DE Z X k tk)(o:DE Z X e te)(m:md.getD i 0=98:=by rfl)(hi:X.N[i]? =some x:=by rfl)(hv:lR X.env.scope x:=by subst_eqs)(n:(x==("__debug__":Str))=false:=by decide)(dW:(x==("__classdict__":Str))=false:=by decide)
  (hs:swapsWith e (some (.Subscript (.Name x s) k g)) pos.line X.env=pure false:=by rfl):DSt Z X md rn (.Assign [.Subscript (.Name x s) k g] e pos) (TZ md i tk te):=by
 refine(OI U (pv i hi hv n dW) Y o hs).imp ?_;intro D σ H aI;rfl';obtain⟨B,ρ,E,⟨G,fp,S⟩,h,M⟩:=aI;ac_rfl;refine S.ev false h λd n=>#[trivial,λv G1 H1 t x1 dv=>?_];rfl';obtain⟨fv,ks,vs,rfl,w,h2⟩:=n;ac_rfl;obtain rfl:=dv.YU;rfl';obtain⟨v0,q,y⟩:=t.at_ i _ w;rw[m] at y;obtain⟨l,φ,rfl,hl,_,nd,es,rfl,pe⟩:=y.xA;ac_rfl;refine#[_,q,t.ev false h2 λkd r=>#[trivial,λu G2 H2 C F du=>?_]];rfl';obtain⟨p,rfl,I,hz,hn⟩:=r;obtain⟨c,rfl,J⟩:=du.Fl;obtain⟨v1,L,O⟩:=C.at_ i _ w;rw[q] at L;ac_rfl;cases Fk L;rfl';rw[m] at O;obtain⟨l',ZS,e',Ny,P,Q,jO,rfl,R⟩:=O.xA;cases e';ac_rfl;refine#[l,c,jO,ks,vs,p,fv,rfl,rfl,rfl,Ny,F.sub _ _ J,R.mono F.sub,Q,I,hz,M.nx _ hn _ _ #[G2,fp,C.mut q (b:=l) (by rw[P];simp) ?_]]
 rw[m,P];refine .inr (.inr #[l,_,rfl,av,rfl, .inr #[rfl,_,rfl,?_,_,rfl,R.snoc J]]);rw[gz];refine#[Q,by simp,λa ha b T z=>I ?_]
 rw[dD] at T;rw[<-T,<-z];exact ha
end
end L2
namespace Wb
def iQ(w:W)(d:Nat×Nat)(r:List (Nat×Nat)):Prop:=∃k,0<k/\bh w k d=d/\(∀j,0<j->j<k->bh w j d≠d)/\r=walk w d k
def bX:e∈walk w d k↔∃i,i<k/\e=bh w i d:=by
 unfold walk;rw[cz]
 constructor
 .rintro⟨i,a,rfl⟩;exact#[i,gD.mp a,rfl]
 .rintro⟨i,a,rfl⟩;exact#[i,gD.mpr a,rfl]
def iQ.first(h:iQ w d r):d∈r:=by
 obtain⟨k,a,_,_,rfl⟩:=h;exact bX.mpr #[0,a,rfl]
def iQ.next(h:iQ w d r)(a:e∈r):CT w e∈r:=by
 obtain⟨k,b,f,_,rfl⟩:=h;obtain⟨i,g,rfl⟩:=bX.mp a
 by_cases c:i+1<k
 .exact bX.mpr #[i+1,c,rfl]
 .have:i+1=k:=by lia
  refine bX.mpr #[0,b,?_];show bh w (i+1) d=d;rw[this];exact f
theorem iQ.iter(h:iQ w d r)(a:e∈r):∀n,bh w n e∈r
 |0=>a
 |n+1=>h.next (h.iter a n)
def iQ.back(h:iQ w d r)(a:e∈r):∃n,bh w n e=d:=by
 obtain⟨k,c,b,_,rfl⟩:=h;obtain⟨i,f,rfl⟩:=bX.mp a;exists k-i;rw[<-sI i (k-i),show k-i+i=k by lia]
 exact b
def iQ.nodup(g:Good w)(h:iQ w d r)(a:bK w d):r.Nodup:=by
 obtain⟨k,c,e,b,rfl⟩:=h;exact oZ g a b
def iQ.bE(g:Good w)(h:iQ w d r)(a:bK w d):∀e∈r,bK w e:=by
 obtain⟨k,b,c,f,rfl⟩:=h;exact mH g a
structure Wk (w:W) (ds:List (Nat×Nat)) (i:Nat) (rs:List (List (Nat×Nat))):Prop where
 rnd:∀r∈rs,∃d,iQ w d r/\bK w d/\∀e∈r,lexLe d e
 nod:rs.flatten.Nodup
 met:∀j e,j<i->ds[j]? =some e->e∈rs.flatten
def Wk.zero(w:W)(a:List (Nat×Nat)):Wk w a 0 []:=#[(λr h=>by cases h),gB,(λj e h=>by lia)]
def Wk.skip(h:Wk w a i b)(g:a[i]? =some d)(k:d∈b.flatten):Wk w a (i+1) b:=
 #[h.rnd,h.nod,λj e l f=>by
  by_cases c:j=i
  .subst c;rw[g] at f;cases f;exact k
  .exact h.met j e (by lia) f]
def Wk.take(g:Good w){k:List (Nat×Nat)}(all:∀e,bK w e->e∈k)(dart:∀e∈k,bK w e)(u:k.Pairwise lexLe){i:Nat}{o:List (List (Nat×Nat))}(h:Wk w k i o)(p:k[i]? =some d)(v:d∉o.flatten)(l:iQ w d r):Wk w k (i+1) (o++ [r]):=by
 have s:bK w d:=dart d (fm p)
 have off:∀e∈r,e∉o.flatten:=λe f x=>by
  obtain⟨q,t,y⟩:=A5.mp x;obtain⟨M,A,_,_⟩:=h.rnd q t;obtain⟨n,B⟩:=l.back f;exact v (A5.mpr #[q,t,by rw[<-B];exact A.iter y n])
 refine#[λq C=>?_,?_,λj e m f=>?_]
 .rcases dh.mp C with z|z
  .exact h.rnd q z
  .rw[dD.mp z]
   refine#[d,l,s,λe f=>?_];obtain⟨j,m⟩:=tU (all e (l.bE g s e f))
   by_cases c:j<i
   .exact absurd (h.met j e c m) (off e f)
   .by_cases E:j=i
    .subst E;rw[p] at m;cases m
     exact .inr #[rfl,bJ _]
    .obtain⟨F,G⟩:=dm.mp p
     obtain⟨H,I⟩:=dm.mp m;rw[<-G,<-I];exact Gd.mp u i j F H (by lia)
 .rw[Gj,gz]
  refine#[h.nod,by simpa using l.nodup g s,λa J b L e=>?_]
  subst e;exact off a (by simpa using L) J
 .rw[Gj,dh]
  by_cases c:j=i
  .subst c;rw[p] at f;cases f
   exact .inr (by simpa using l.first)
  .exact .inl (h.met j e (by lia) f)
def Wk.fin(g:Good w)(all:∀e,bK w e->e∈a)(h:Wk w a a.length b):b.flatten.Perm (bE w):=by
 have sub:∀e,e∈b.flatten↔e∈bE w:=λe=>by
  rw[bI]
  constructor
  .intro c
   obtain⟨r,k,f⟩:=A5.mp c;obtain⟨d,R,l,_⟩:=h.rnd r k;exact R.bE g l e f
  .intro c
   obtain⟨j,i⟩:=tU (all e c);exact h.met j e (dm.mp i).1 i
 exact(Gb h.nod (hJ g)).mpr sub
structure b7 (w:W) (rs:List (List (Nat×Nat))):Prop where
 rnd:∀r∈rs,∃d,iQ w d r/\bK w d/\∀e∈r,lexLe d e
 perm:rs.flatten.Perm (bE w)
def b7.Oh(R:b7 w a)(p:b.Perm a):b7 w b:=
 #[λr c=>R.rnd r (p.mem_iff.mp c),(p.flatten).trans R.perm]
def Ew(g:Good w)(h:bK w d):d.1≠d.2:=λe=>g.irr d.1 (by have:d.2∈row w d.1:=h;rw[<-e] at this;exact this)
def wD{w:W}(g:Good w){f:List (Nat×Nat)}(l:f.Perm (jy (row w) w.length)):(f++f.map λt=>(t.2,t.1)).Perm (bE w):=by
 have e:=oY w;have n:=hJ g
 have m:∀t,t∈f↔bK w t/\t.1<t.2:=λt=>by
  rw[l.mem_iff,e,y4,bI,decide_eq_true_eq]
 have i:f.Nodup:=l.nodup_iff.mpr (by rw[e];exact n.filter _)
 refine(Gb ?_ n).mpr λd=>?_
 .rw[gz]
  refine#[i,?_,λa o b p z=>?_]
  .rw[y8,i3]
   rw[y8] at i;exact i.imp λ {a b} h z=>h (aau (aaR z).2 (aaR z).1)
  .obtain⟨c,j,rfl⟩:=cz.mp p
   have k:=((m a).mp o).2;have q:=((m c).mp j).2;rw[z] at k;have k:c.2<c.1:=k;lia
 .rw[dh,cz,bI]
  constructor
  .rintro(h| ⟨c,j,rfl⟩)
   .exact((m d).mp h).1
   .exact g.sym _ _ ((m c).mp j).1
  .intro h
   rcases Nat.lt_or_gt_of_ne (Ew g h) with c|c
   .exact .inl ((m d).mpr #[h,c])
   .exact .inr #[(d.2,d.1),(m _).mpr #[g.sym _ _ h,c],rfl]
def iQ.uniq(h:iQ w d r)(b:iQ w d a):r=a:=by
 obtain⟨k,e,f,g,rfl⟩:=h;obtain⟨m,i,j,l,rfl⟩:=b
 rcases Nat.lt_trichotomy k m with c|c|c
 .exact absurd f (l k e c)
 .rw[c]
 .exact absurd j (g m i c)
def b7.sub{c a:List (List (Nat×Nat))}(R:b7 w c)(f:b7 w a):∀r∈c,r∈a:=λr j=>by
 obtain⟨d,b,k,l⟩:=R.rnd r j;have m:d∈a.flatten:=f.perm.mem_iff.mpr (bI.mpr k);obtain⟨o,g,h⟩:=A5.mp m;obtain⟨p,i,u,q⟩:=f.rnd o g;obtain⟨n,s⟩:=i.back h;have t:lexLe d p:=by rw[<-s];exact l _ (b.iter b.first n)
 have e:=um t (q d h);subst e;rw[b.uniq i];exact g
def b7.ne{w:W}{a:List (List (Nat×Nat))}(R:b7 w a):∀r∈a,r≠ []:=λr b z=>by
 obtain⟨d,c,_⟩:=R.rnd r b
 have:=c.first
 rw[z] at this;cases this
theorem uU:∀{l:List (List c)},l.flatten.Nodup->(∀r∈l,r≠ [])->l.Nodup
 | [],_,_=>gB
 |a::l,h,b=>by
  rw[qo,gz] at h;refine lP.mpr #[λd=>?_,uU h.2.1 λr e=>b r (eJ _ e)];cases a with
  |nil=>exact b [] (dq ..) rfl
  |cons x a=>exact h.2.2 x (dq ..) x (A5.mpr #[_,d,dq ..]) rfl
def b7.nodup(g:Good w)(R:b7 w a):a.Nodup:=uU (R.perm.nodup_iff.mpr (hJ g)) R.ne
abbrev f7(a:List (List (Nat×Nat))):List (List Nat):=a.map λr=>r.map (·.1)
def HG(h:L2.nX a b)(c:L2.nX b a):a=b:=by
 have:=L2.sR (L2.jb a) (L2.jb b) c h
 exact L2.FY (by rw[this])
def b7.uniq(g:Good w)(R:b7 w a)(c:b7 w b)(s:(f7 a).Pairwise L2.nX)(d:(f7 b).Pairwise L2.nX):f7 a=f7 b:=by
 have e:a.Perm b:=(Gb (R.nodup g) (c.nodup g)).mpr λr=>#[R.sub c r,c.sub R r];exact aci (λ_ _ _ _=>HG) s d (e.map _)
open Classical in
noncomputable def l3(w:W):List (List Nat):=if h:∃rs,b7 w rs/\(f7 rs).Pairwise L2.nX then f7 h.choose else[]
def Av(g:Good w)(R:b7 w a)(s:(f7 a).Pairwise L2.nX):l3 w=f7 a:=by
 have h:∃a,b7 w a/\(f7 a).Pairwise L2.nX:=#[a,R,s];unfold l3;rw[dif_pos h];exact h.choose_spec.1.uniq g R h.choose_spec.2 s
def Ku(r:List (Nat×Nat))(i:Nat):(r.map (·.1)).getD i 0=(r.getD i (0,0)).1:=by
 rw[fz,fz,df];cases r[i]? <;>rfl
def getD_inj{l:List Nat}(a:l.Nodup)(b:i<l.length)(c:j<l.length)(e:l.getD i 0=l.getD j 0):i=j:=by
 have f:l.getD i 0=l[i]:=by rw[fz,eI b];rfl
 have g:l.getD j 0=l[j]:=by rw[fz,eI c];rfl
 rw[f,g] at e;have d:=a.idxOf_getElem i b;have h:=a.idxOf_getElem j c;rw[e,h] at d;exact d.symm
def qC{l:List Nat}{i:Nat}(h:i<l.length):l.getD i 0∈l:=by
 rw[fz,eI h];exact qp h
section
variable {w:W} {R:List Nat} {A:Nat×Nat->Prop}
end
def yp(h:i<w.length):row (w.set i r) x=if i=x then r else row w x:=by
 unfold row;rw[fz,mX,fz]
 by_cases e:i=x
 .subst e;rw[tz rfl,tz h,tz rfl];rfl
 .rw[mo e,mo e]
open Classical in
structure ZZ (w v:W) (φ:Nat->Nat):Prop where
 len:v.length=w.length
 lt:∀p,p<w.length->φ p<w.length
 inj:∀p q,p<w.length->q<w.length->φ p=φ q->p=q
 sur:∀y,y<w.length->∃p,p<w.length/\φ p=y
 row:∀p,p<w.length->∃b,Wb.row v (φ p)=((Wb.row w p).map φ).drop b++((Wb.row w p).map φ).take b
end Wb
namespace L2
open PySem PySem.Spec PyProof.Rows
theorem nI(f:b->c):∀(l:List b)(i:Nat),(l.map f).eraseIdx i=(l.eraseIdx i).map f
 | [],_=>rfl
 |_::_,0=>rfl
 |a::l,i+1=>by rw[cf,JX,JX,cf,nI f l i]
section
variable {prog:Program} {w:World} {KT:Type} [DecidableEq KT] {knd:HeapKind prog w KT} {A:Around} {E:Value->Shared->Prop} {s:Shared}
def zZ(n:knd.room A)(q:knd.is s.heap k a)(u:s.heap.DictOfH knd d b)(v:k∈b.map (·.1))
  (y:∀j p i,b[j]? =some (k,p)->i.DictOfH knd d (b.eraseIdx j)->Heap.SameBut d s.heap i->Q (some (entryOfKey knd (k,p))) {s with heap:=i,toks:=s.toks+knd.draws k})
  (G:b.length<=sizeLine):wpAny (model prog w) A (Builtin.Dict.takeOut d (.ref a)) Q E s:=by
 obtain⟨o,z,B,g,C,c,f,r,t⟩:=u;unfold Builtin.Dict.takeOut
 try with_reducible refine On ?_
 refine ir (knd.pyHash n q (ir (wpAny_dictFind_heap (s:={s with toks:=s.toks+knd.draws k}) n q g c f r t (λF=>?_) λj p h=>?_)))
 .obtain⟨x,m,rfl⟩:=cz.mp v
  obtain⟨j,h,e⟩:=List.getElem_of_mem m;exact absurd (by rw[eI h,e]) (F j x.2)
 .refine ir (wpAny_dictEntries (s:={s with toks:=s.toks+knd.draws k}) g c ?_)
  rw[entry_at f j,h];have H:=size_of_entries f
  refine ir (wpAny_updateDictKeys (hz:=by lia) (s:={s with toks:=s.toks+knd.draws k}) g c (AC (y j p _ h #[_,_,B+1,SZ _ g (Obj.isFreed_of_dict (Obj.data_mapDictKeys c _)),
   C.mapDictKeys _,Obj.data_mapDictKeys c _,?_,λx m=>knd.keeps (r x (List.mem_of_mem_eraseIdx m)) g c (aaS ..),?_] (aaS ..))))
  .obtain⟨l⟩:=z
   have f:l=b.map (entryOfKey knd):=f;subst f;simp[nI]
  .rw[<-nI];exact t.eraseIdx _
def Le{k:KT}(n:knd.room A.in1)(q:knd.is s.heap k a)(c:s.heap.DictOfH knd d b)(f:k∈b.map (·.1))
  (r:∀j p e,b[j]? =some (k,p)->e.DictOfH knd d (b.eraseIdx j)->Heap.SameBut d s.heap e->Q p.2 {s with heap:=e,toks:=s.toks+knd.draws k})
  (t:b.length<=sizeLine):wpAny (model prog w) A (call (.builtin "dict.pop") [.ref d, .ref a]) Q E s:=by
 refine aav PySem.F.slot_dict_pop c.typeIs PySem.F.entry_dict_pop ?_ (PySem.F.args_dict_pop_2 _ _);have u:=c.typeIs;obtain⟨o,g,v,h,x,i,m,y,B⟩:=c;have c:s.heap.DictOfH knd d b:=#[o,g,v,h,x,i,m,y,B];unfold Builtin.«dict.pop»;refine ir ?_;unfold Builtin.Dict.keyAndDefault;refine ir (wpAny_notOrdered_dict u ?_);show wpAny _ _ (pure (d,Value.ref a,none)) _ _ s;refine AC ?_;have C:(keyPart (Value.ref a)).isSome=false:=rfl
 have ne:g.isEmpty=false:=by
  have:=size_of_entries m
  have l:0<b.length:=by
   have:=zb f
   rwa [aL] at this
  rw[Array.isEmpty_eq_false_iff];exact λz=>by rw[z] at this;exact absurd this (by show 0≠_;lia)
 simp only[C,eZ,Os];refine ir (wpAny_dictEntries h i (ir (AC ?_)));rw[ne];simp only[eZ,Os];refine ir (zZ n q c f (λj p e G H I=>?_) t);simp only[Option.isNone_some,eZ,Os];exact ir (wpAny_letGo (AC #[p.2,rfl,r j p e G H I]))
end
def j9.erase{e:List (List Int×Addr×Value)}(d:j9 H a b c e):∀j:Nat,j9 H (a.eraseIdx j) (b.eraseIdx j) (c.eraseIdx j) (e.eraseIdx j):=by
 induction d with
 |nil=>exact λj=> .nil
 |cons f g t h=>
  intro j;cases j with
  |zero=>exact t
  |succ j=>exact .cons f g (h j)
def j9.at_{b:List (List Int×Addr×Value)}(d:j9 H c a e b):∀{j:Nat}{k:List Int}{p:Addr×Value},b[j]? =some (k,p)->∃q v,a[j]? =some q/\k= [q.1,q.2]/\J5 v p.2:=by
 induction d with
 |nil=>intro j k p h;cases h
 |cons i f t g=>
  intro j k p h;cases j with
  |zero=>cases h;exact#[_,_,rfl,rfl,f]
  |succ j=>exact g h
theorem gk.erase:∀{a:List (Int×Addr)}{b:List (Int×Int)},gk H a b->∀j:Nat,gk H (a.eraseIdx j) (b.eraseIdx j)
 |_,_, .nil,_=> .nil
 |_,_, .cons _ t,0=>t
 |_,_, .cons h t,j+1=> .cons h (t.erase j)
theorem Aj [BEq b] [LawfulBEq b]:∀{l:List b}{j:Nat},l.Nodup->l[j]? =some x->l.erase x=l.eraseIdx j
 | [],_,_,h=>by simp at h
 |a::l,0,_,h=>by
  cases Fk h;rw[List.erase_cons_head,List.eraseIdx_cons_zero]
 |a::l,j+1,c,h=>by
  have h:l[j]? =some x:=by simpa using h
  have c:=lP.mp c;rw[List.erase_cons_tail (by simpa using λz=>c.1 (by rw[z];exact fm h)),JX,Aj c.2 h]
def Us(h:J5 f u):RelV (vF f) u:=by
 cases f with
 |int i=>exact h
 |bl b=>exact h
section
variable {X:Cx} {pins:List (Addr×Obj)} {σ:St} {H:Hp} {s:Shared}
def Oa(hu:X.A.units+64<cLine):D2 X "dict.pop" (λx r H Q=>∃l c d a g p,x= .ref l/\r= [.ref c]/\H c=some (.tup [.int p.1, .int p.2])/\H l=some (.ext (eN l d g))/\gk H d a/\a.Nodup/\p∈a/\a.length<=300/\
  ∀j v,a[j]? =some p->Q v (upd H l (.ext (eN l (d.eraseIdx j) (g.eraseIdx j))))):=by
 intro t s σ H x r v ws Q I F G h;rfl';obtain⟨l,c,d,a,g,p,rfl,rfl,L,B,M,N,O,hz,q⟩:=h;subst F;obtain⟨u,rfl,P⟩:=G.one;subst P;obtain⟨z,xs,i,R⟩:=I.T6 B M N;ac_rfl;refine Le (knd:=tupleKind (intKind X.prog X.w)) (k:= [p.1,p.2]) (by show X.A.units+1<cLine;lia) (I.tw L) R (by rw[i.keys];exact pN.mpr O) (λj y h' S T U=>?_) (small (by rw[i.len];lia))
 rfl';obtain⟨n,Y,Z,f,e3⟩:=i.at_ S
 have ep:n=p:=by
  have f:=f;simp only[List.cons.injEq,and_true] at f;exact aau f.1.symm f.2.symm
 subst ep;obtain⟨C,Ui,xf,E,B4,iU,xE,_,_⟩:=T;have I':=I.write (h':=h') (t':=s.toks+(tupleKind (intKind X.prog X.w)).draws [n.1,n.2]) (x:=l) (e:=l) (o:= .ext (eN l (d.eraseIdx j) (g.eraseIdx j))) (by rw[B];trivial) (.inl rfl) (λb u hb e=>U.extBut b u hb e) #[C,E] (eN.ok #[z,C,Ui,xf,E,B4,iU,by rw[xE];exact MV (i.erase j)])
 ac_rfl;exact#[vF Y,_,I',Us e3,q j _ Z]
def Zq(r:V->List V->Hp->VK->Prop)(c:TE)(t:TA):TE:=λa H Q=>c a H λx b=>(∃p d e,x= .ref p/\b p=some (.ext (eN p d e)))/\t a b λf g=>r x f g Q
variable {o e:Expr} {es:List Expr} {to:TE} {t:TA} {name:Str} {apos aB:Pos} {id:String} {r:V->List V->Hp->VK->Prop}
def Q1(m:PlainAttrs "dict")(slot:Slot "dict" name id)(n:typeOf (.builtin id)=pure (.type "method_descriptor"))(q:D2 X id r)(u:PE X o to)(w:PA X (e::c) t)
  (y:attributeBase o name X.env (eval o X.env)=eval o X.env:=by rfl)
  (z:((backTo d (starEach (e::c) X.env)).all (λx=>!x.1)&&(backToKw d (keywordEach [] X.env)).all (λx=>x.1.isSome)
   &&decide ((e::c).length+([]:List Keyword).length+(if ([]:List Keyword).isEmpty then 0 else 1)<30))=true:=by rfl)
  (A:(apos.endLine==d.line)=true:=by rfl) (B:starEach (e::c) X.env=(false,eval e X.env)::starEach c X.env:=by rfl) (C:(backTo d (starEach c X.env)).any (·.1)=false:=by rfl):
  PE X (.Call (.Attribute o name apos) (e::c) [] d) (Zq r to t):=by
 intro b s f H Q I h;refine aa5 y z A rfl (thn (u b s f H _ I h) λv E F=>?_);rfl';obtain⟨x,J,i,L,M,N⟩:=F;ac_rfl;rfl';obtain⟨p,jO,RX,rfl,O⟩:=M;subst L;obtain⟨_,j,_,_,k,S,_⟩:=(i.hok p _ O).1;ac_rfl;refine#["dict",id,m,slot,n,#[j,k,S.1],λa P=>?_,?_]
 .cases P;exact#[j,k,S.2.1]
 have l:=w d b E f J _ i N;rw[B] at l ⊢;refine aaI (by show(false|| (backTo d (starEach c X.env)).any (·.1))=false;rw[C]<;>rfl) (abo ?_)
 exact thn l λR T #[U,Y,Z,r2,q2]=>q b T f Y (.ref p) U (.ref p) R Q Z rfl r2 q2
end
section
variable {Z:DC} {X:Cx} {md:List Nat} {rn:Nat} {e:Expr} {te:aR} {pos apos aB:Pos}
def TU(c:List Nat)(i:Nat)(f:aR):cx:=λE b=>∃a g,b[i]? =some (some (.x (.lI a g)))/\f (cn c b) λd=>∃p,d=Lg p/\p∈a/\a.length<=300/\∀h,E.nx (b.set i (some (.x (.lI (a.erase p) h))))
def MH(i:Nat)(I:X.A.units+64<cLine)(J:DE Z X e te)(f:md.getD i 0=98:=by rfl)(L:X.N[i]? =some x:=by rfl)(O:lR X.env.scope x:=by subst_eqs)(g:(x==("__debug__":Str))=false:=by decide)(P:(x==("__classdict__":Str))=false:=by decide)
  (Q:attributeBase (.Name x a) "pop" X.env (eval (.Name x a) X.env)=eval (.Name x a) X.env:=by rfl)
  (R:((backTo aB (starEach [e] X.env)).all (λx=>!x.1)&&(backToKw aB (keywordEach [] X.env)).all (λx=>x.1.isSome)&&decide (([e]:List Expr).length+([]:List Keyword).length+(if ([]:List Keyword).isEmpty then 0 else 1)<30))=true:=by rfl)
  (T:(apos.endLine==aB.line)=true:=by rfl) (q:starEach [e] X.env=(false,eval e X.env)::starEach [] X.env:=by rfl) (U:(backTo aB (starEach [] X.env)).any (·.1)=false:=by rfl)
  (Y:swapsWith (.Call (.Attribute (.Name x a) "pop" apos) [e] [] aB) none pos.line X.env=pure false:=by rfl):
  DSt Z X md rn (.Expr (.Call (.Attribute (.Name x a) "pop" apos) [e] [] aB) pos) (TU md i te):=by
 refine(fO (Q1 PySem.F.plainAttrs_dict PySem.F.slot_dict_pop PySem.F.type_dict_pop (Oa I) (pv i L O g P) (bq J cp q) Q R T q U) Y).imp ?_;intro D σ H aI;rfl';obtain⟨B,ρ,E,⟨G,fp,S⟩,⟨m,r,s,h⟩,M⟩:=aI;obtain⟨v0,n,t⟩:=S.at_ i _ s;rw[f] at t;obtain⟨l,φ,rfl,hl,_,nd,es,rfl,pe⟩:=t.xA;ac_rfl;refine#[_,n,#[l,_,_,rfl,hl],S.ev false h λd g=>#[trivial,λv G' H' u x dv=>?_]];rfl';obtain⟨p,rfl,hp,hz,hn⟩:=g;obtain⟨c,rfl,hc⟩:=dv.Fl;obtain⟨v1,w,y⟩:=u.at_ i _ s;rw[n] at w;cases Fk w;rw[f] at y;obtain⟨l',ZS,e',Ny,z,o,jO,rfl,C⟩:=y.xA;cases e';ac_rfl;refine#[l,c,jO,m,r,p,rfl,rfl,x.sub _ _ hc,Ny,C.mono x.sub,o,hp,hz,λj v hj=>M.nx _ (hn (r.eraseIdx j)) _ _ #[G',fp,u.mut n (b:=l) (by rw[z];simp) ?_]]
 have ek:m.erase p=m.eraseIdx j:=by
  exact Aj o hj
 rw[f,z,ek];exact .inr (.inr #[l,_,rfl,av,rfl, .inr #[rfl,_,rfl,o.eraseIdx _,_,rfl,C.erase j]])
end
def Py:bootBuiltins "set"=some (.type "set"):=by decide+kernel
section
variable {Z:DC} {X:Cx}
end
section
variable {Z:DC} {X:Cx} {md:List Nat}
def Mp(i:Nat)(t:cx):cx:=λE a=>(∃d,a[i]? =some (some d))/\t {nx:=λ_=>False,rt:=E.rt} a
def nF(i:Nat)(h:m9 Z X (md.set i 0) 0 f t):m9 Z X md 0 f (Mp i t):=by
 refine kc.imp h ?_;rintro p q H ⟨B,k,E,⟨G,r,S⟩,⟨⟨d,g⟩,l⟩,M⟩;obtain⟨v,m,dv,a⟩:=S.JL g;refine#[B,k,_,#[_,_,#[a.ex,a.fl,S.len,λj c b=>?_,a.nd,a.ap,a.nw]],l,#[λ_ z=>z.elim,M.rt,λ_ z=>z.elim,λ_ z=>z.elim,λ_ _ z=>z.elim]]
 by_cases e:j=i
 .subst e
  rw[g] at b;cases b;exists v,m
  have:(md.set j 0).getD j 0=0:=by
   rw[fz,mX]
   split<;>first| (split<;>rfl) |exact absurd rfl ‹_›
  rw[this,tz rfl];exact#[dv,rfl]
 .obtain⟨u,n,o⟩:=a.at_ j c (by rw[jj (Ne.symm e)];exact b)
  exists u,n
  have:(md.set i 0).getD j 0=md.getD j 0:=by rw[fz,fz,jj (Ne.symm e)]
  rw[this];exact o
end
section
variable {Z:DC} {X:Cx} {a b:Expr} {rest:List Expr} {ta tb:aR} {te tf:TE} {pos:Pos}
def Q9(m:PE X a te)(n:PE X (.BoolOp .Or (b::rest) pos) tf):PE X (.BoolOp .Or (a::b::rest) pos) (λe H Q=>te e H λx f=>∃k,LR X.K x f k/\if k=true then Q x f else tf e f Q):=by
 intro d s e H Q I h;refine BoolOp_or (thn (m d s e H _ I h) λv o #[x,g,p,i,r]=>?_);obtain⟨k,t,q⟩:=r
 exact thn (JS d o e g x v (λc f=>c=k/\f=g) p i #[k,t,rfl,rfl]) λc u #[j,l,w,y]=>by
  subst w y;cases c with
  |false=>exact n d u e j Q l q
  |true=>exact#[x,j,l,i,q]
def WN(e f:aR):aR:=λc P=>e c λd=>∃l,d= .lst l/\(l≠ []->P (.lst l))/\(l= []->f c P)
def PQ(k:DE Z X a ta)(d:DE Z X (.BoolOp .Or (b::rest) pos) tb):DE Z X (.BoolOp .Or (a::b::rest) pos) (WN ta tb):=by
 refine(Q9 k d).imp ?_;rintro B H Q ⟨G,i,P,s,e,h,q⟩;exists G,i,_,s,e,h;rintro _ ⟨l,rfl,m,n⟩ v j o c dv;obtain⟨p,f,rfl,r,t⟩:=dv.fN;exists !f.isEmpty, .inl #[_,cy.of (c.sub _ _ r),rfl];have g:=t.length;cases f with
 |nil=>
  obtain rfl:l= []:=JY.mp g.symm;exact cc #[j,i,P,c.sub,e.mono c.gg,n rfl,λb d v u w x A=>q b d v u w (c.trans x) A]
 |cons y f=>exact bL (q _ (m λz=>by rw[z] at g;cases g) _ j o c dv)
end
end L2
namespace Wb
def EK(g:Good w){ps:List Nat}(ne:0<ps.length)(lt:∀p∈ps,p<w.length)(len:v.length=w.length+1)(k:(row v w.length).Nodup)(last:∀x,x∈row v w.length↔x∈ps)(nod:∀p,p<w.length->(row v p).Nodup)(mem:∀p,p<w.length->∀q,q∈row v p↔q∈row w p\/(q=w.length/\p∈ps)):Good v:=by
 have l:w.length∉ps:=λh=>j8 _ (lt _ h)
 have d:∀{p q},q∈row v p->(p<w.length/\(q∈row w p\/(q=w.length/\p∈ps)))\/(p=w.length/\q∈ps):=λ {p q} h=>by
  have:=cw h
  by_cases z:p=w.length
  .subst z;exact .inr #[rfl,(last q).mp h]
  .have:p<w.length:=by lia
   exact .inl #[this,(mem p this q).mp h]
 have i:∀{a b},Reach w a b->Reach v a b:=λ {a b} h=>by
  induction h with
  |refl=>exact .refl _
  |step _ j m=>exact .step m ((mem _ (cw j) _).mpr (.inl j))
 refine#[λp q h=>?_,λp h=>?_,λp=>?_,λp q h=>?_,λp n=>?_]
 .rcases d h with ⟨_,h| ⟨h,_⟩⟩ | ⟨_,h⟩
  .have:=g.rng p q h;lia
  .lia
  .have:=lt q h;lia
 .rcases d h with ⟨_,h| ⟨_,h⟩⟩ | ⟨e,h⟩
  .exact g.irr p h
  .have:=lt p h;lia
  .subst e;exact l h
 .by_cases z:p<w.length
  .exact nod p z
  .by_cases e:p=w.length
   .subst e;exact k
   .have:row v p= []:=aby.mpr λq h=>by have:=cw h;lia
    rw[this];exact gB
 .rcases d h with ⟨n,c| ⟨e,c⟩⟩ | ⟨e,c⟩
  .have s:=g.sym p q c
   exact(mem q (cw s) p).mpr (.inl s)
  .subst e;exact(last p).mpr c
  .subst e;exact(mem q (lt q c) _).mpr (.inr #[rfl,c])
 .by_cases z:p<w.length
  .exact i (g.con p z)
  .obtain rfl:p=w.length:=by lia
   obtain⟨x,f⟩:=abz ne;exact .step (i (g.con x (lt x f))) ((mem x (lt x f) _).mpr (.inr #[rfl,f]))
def nV(w:W)(p x:Nat):W:=w.set p (ins (row w p) ((row w p).idxOf x+1) w.length)++ [[p]]
def mz(d:p<w.length)(q:Nat):row (nV w p x) q=if q=p then ins (row w p) ((row w p).idxOf x+1) w.length else if q=w.length then[p] else row w q:=by
 unfold nV;generalize ins (row w p) ((row w p).idxOf x+1) w.length=b;have a:(w.set p (b)).length=w.length:=fJ ..
 by_cases c:q<w.length
 .have:row (w.set p (b)++ [[p]]) q=row (w.set p (b)) q:=by
   unfold row;rw[fz,fz,kL (by rw[a];exact c)]
  rw[this,yp d]
  by_cases z:p=q
  .subst z;rw[tz rfl,tz rfl]
  .rw[mo z,mo (Ne.symm z),mo (by lia)]
 .rw[mo (by lia)]
  by_cases z:q=w.length
  .subst z
   rw[tz rfl];unfold row;rw[fz,mW (by rw[a];exact bJ _),a,qr];rfl
  .rw[mo z]
   unfold row;rw[fz,j7 (by rw[dB,a];show w.length+1<=q;lia),fz,j7 (by lia)]
def l5(w:W)(p x:Nat):(nV w p x).length=w.length+1:=by unfold nV;rw[dB,fJ];rfl
def uY(g:Good w){p x:Nat}(a:p<w.length):Good (nV w p x):=by
 have d:w.length∉row w p:=λz=>by have:=g.rng _ _ z;lia
 refine EK (ps:= [p]) g (by simp) (λq b=>by rw[dD] at b;rw[b];exact a) (l5 ..) ?_ (λq=>?_) (λq b=>?_) λq b z=>?_
 .rw[mz a,mo (by lia),tz rfl];simp
 .rw[mz a,mo (by lia),tz rfl]
 .rw[mz a]
  split
  .exact mh (g.nod p) d
  .rw[mo (by lia)];exact g.nod q
 .rw[mz a]
  by_cases c:q=p
  .subst c
   rw[tz rfl,fi,dD];exact#[λh=>h.elim (λh=> .inr #[h,rfl]) .inl,λh=>h.elim .inr λh=> .inl h.1]
  .rw[mo c,mo (by lia),dD]
   exact#[.inl,λh=>h.elim id λh=>absurd h.2 c]
end Wb
namespace L2
open PySem PySem.Spec PyProof.Rows
open Classical in
noncomputable def iF(H:Hp)(a:Addr):Hp:=λb=>if b=a then none else H b
def fW(h:b≠a):iF H a b=H b:=mo h
def ui:iF H a a=none:=tz rfl
def uZ:aJ (iF H a) H:=λb o e=>by
 by_cases z:b=a
 .subst z;rw[ui] at e;cases e
 .rw[fW z] at e;exact e
section
variable {P:Program} {w:World} {K:ac} {mg:Str->Option Value} {base:Heap} {Z:DC}
end
section
variable {Z:DC} {X:Cx} {md:List Nat} {rn:Nat} {e e1 e2 e3 k:Expr} {pos p2:Pos} {te t1 t2:aR} {t3:iz}
end
abbrev uL:=DN->(List (List D)->Prop)->Prop
def QC(Z:DC)(t:uL):TA:=λg H Q=>∃(G:Hp)(d:DN)(P:List (List D)->Prop),aJ G H/\cL Z G g d/\t d P/\∀e,P e->∀f fs c a,Ext G H c a->c9 (Own Z c a 1) f (e.map D.lst) fs->fs.Nodup->(∀b∈fs,H b=none/\a b≠none/\c b=none)->Q f a
def Pn(Z:DC)(X:Cx)(a:List Expr)(t:uL):Prop:=PA X a (QC Z t)
section
variable {Z:DC} {X:Cx} {md:List Nat} {rn:Nat} {e k k2:Expr} {es:List Expr} {pos:Pos} {te tk tp:aR} {t:iz} {u:uL}
def Up:uL:=λ_ P=>P []
def P8(t:iz)(u:uL):uL:=λa P=>t a λl=>u a λb=>P (l::b)
def MA:Pn Z X [] Up:=cp.imp λc H Q #[G,d,P,s,f,h,q]=>q [] h [] [] G H (.refl s) .nil gB λb a=>by cases a
def Ab(i:DF Z X 1 e t)(c:Pn Z X es u)(n:starEach (e::es) X.env=(false,eval e X.env)::starEach es X.env:=by rfl):Pn Z X (e::es) (P8 t u):=by
 refine(bq i c n).imp ?_;rintro I H Q ⟨G,l,P,s,m,h,q⟩;refine#[G,l,_,s,m,h,λJ p L r v w g x y d=>?_];refine#[v,l,_,g.sub,m.mono g.gg,p,λM A N fs B C f E F j=>?_];refine q _ A _ (r++fs) B C (g.trans f) (.cons (x.keep f.gg λb c=>?_) E) ?_ ?_
 .cases z:w b with
  |none=>exact absurd z (d b c).2.1
  |some o=>exact f.hh _ _ z
 .rw[gz]
  refine#[y,F,λa i b c z=>?_];subst z;exact(d a i).2.1 (j a c).1
 .intro b c
  rcases dh.mp c with c|c
  .exact#[(d b c).1,dO f.hh (d b c).2.1,f.off b (d b c).2.1 (d b c).2.2]
  .exact#[g.hh.free (j b c).1,(j b c).2]
end
open Classical in
section
variable {P:Program} {w:World} {K:ac} {mg:Str->Option Value} {base:Heap} {Z:DC}
end
section
variable {Z:DC} {X:Cx} {md:List Nat} {rn:Nat} {e:Expr} {es:List Expr} {pos aB:Pos} {t:gH} {tf:iz}
end
structure eH (a:Addr) (G H G' H':Hp):Prop where
 gg:∀b o,b≠a->G b=some o->G' b=some o
 hh:∀b o,b≠a->H b=some o->H' b=some o
 off:∀b,b≠a->H b≠none->G b=none->G' b=none
def eH.of{a:Addr}(x:Ext G H c d):eH a G H c d:=#[λb o _ e=>x.gg b o e,λb o _ e=>x.hh b o e,λb _ f g=>x.off b f g]
def eH.trans{G H c d f g:Hp}(x:eH a G H c d)(y:eH a c d f g):eH a G H f g:=
 #[λb o n e=>y.gg b o n (x.gg b o n e),λb o n e=>y.hh b o n (x.hh b o n e),λb n h i=>y.off b n (by
  cases e:H b with
  |none=>exact absurd e h
  |some o=>rw[x.hh b o n e];exact λz=>nomatch z) (x.off b n h i)]
def eH.put(o:HO):eH a G H (upd G a o) (upd H a o):=#[λb o n e=>by rw[ax n];exact e,λb o n e=>by rw[ax n];exact e,λb n _ h=>by rw[ax n];exact h]
section
variable {Z:DC} {G H G' H':Hp} {a:Addr} {xs:List V} {w:List (List Nat)}
structure Rw (Z:DC) (a:Addr) (w:List (List Nat)) (G H:Hp) (xs:List V):Prop where
 sub:aJ G H
 at_:G a=some (.lst xs)
 dv:DvAll Z G xs (w.map aq)
 ne:w≠ []
def Rw.ext(h:Rw Z a w G H xs)(x:Ext G H G' H'):Rw Z a w G' H' xs:=#[x.sub,x.gg _ _ h.at_,h.dv.mono x.gg,h.ne]
def yo(h:Rw Z a w G H xs)(d:Dv Z G v (aq r))(s:∀b o,b≠a->G b=some o->G' b=some o):Dv Z G' v (aq r):=by
 obtain⟨b,c,rfl,e,f⟩:=d.fN
 have ne:b≠a:=λz=>by
  subst z;rw[h.at_] at e;cases e;have dv:=h.dv
  match w,h.ne with
  |t::u,_=>
   obtain⟨y,g,rfl,i,_⟩:=dv.pL;obtain⟨A,_,rfl,_,_⟩:=i.fN
   match r with
   | []=>exact absurd f.CV (by simp)
   |x::B=>
    obtain⟨C,j,k,l,_⟩:=f.pL;cases k
    have:=l.ofInt
    cases this
 refine .lst (s _ _ ne e) ?_;clear e d
 have m:∀{r:List Nat}{c:List V},DvAll Z G c (r.map af)->DvAll Z G' c (r.map af):=λ {r}=>by
  induction r with
  |nil=>intro c h;rw[h.CV];exact .nil
  |cons x r n=>
   intro c h;obtain⟨v,g,rfl,p,q⟩:=h.pL;rw[p.ofInt];exact .cons (.int _) (n q)
 exact m f
theorem pR(h:Rw Z a w G H xs)(s:∀b o,b≠a->G b=some o->G' b=some o):∀{c:List (List Nat)}{e:List V},DvAll Z G e (c.map aq)->DvAll Z G' e (c.map aq)
 | [],_,d=>by rw[d.CV];exact .nil
 |r::c,_,d=>by
  obtain⟨v,i,rfl,f,g⟩:=d.pL;exact .cons (yo h f s) (pR h s g)
def Rw.put(h:Rw Z a w G H xs){d:List (List Nat)}(dv:DvAll Z G c (d.map aq))(ne:d≠ []):Rw Z a d (upd G a (.lst c)) (upd H a (.lst c)) c:=by
 have k:∀b o,b≠a->G b=some o->upd G a (.lst c) b=some o:=λb o n e=>by rw[ax n];exact e
 refine#[λb o e=>?_,av,pR h k dv,ne]
 by_cases z:b=a
 .subst z;rw[av] at e ⊢;exact e
 .rw[ax z] at e ⊢;exact h.sub b o e
end
def Fd(Z:DC)(e:List (List Nat)->Int->(List (List Nat)->Prop)->Prop):Sp:=λf H Q _=>∃(G:Hp)(a:Addr)(n:Int)(w:List (List Nat))(g:List V)(P:List (List Nat)->Prop),f= [.ref a, .int n]/\Rw Z a w G H g/\e w n P/\∀c,P c->∀d b h,Rw Z a c d b h->eH a G H d b->Q (.bl true) b
section
variable {Z:DC} {X:Cx} {md:List Nat} {rn:Nat} {e:Expr} {te:aR} {pos aB:Pos}
def TL(b:List Nat)(i:Nat)(c:List (List Nat)->Int->(List (List Nat)->Prop)->Prop)(f:aR):cx:=λE a=>∃w,a[i]? =some (some (.lst (w.map aq)))/\w≠ []/\f (cn b a) λd=>∃n,d= .int n/\c w n λg=>E.nx (a.set i (some (.lst (g.map aq))))
def PX(i:Nat){sd:List (List Nat)->Int->(List (List Nat)->Prop)->Prop}{k j:Nat}{x y:Str}{st:Stmt}{ps:List Str}{py p:Pos}(d:dQ X.K X.mg x st ps)(F:FnOk X.prog X.w X.K X.mg X.base cg k d.f d.fd ps (Fd Z sd))(hr:bN j X.A)(he:DE Z X e te)(R:Gl X x:=by rfl)(hk:k<=j:=by first|decide|lia)
  (dG:(x==("__debug__":Str))=false:=by decide) (kg:starEach [e] X.env=(false,eval e X.env)::starEach [] X.env:=by rfl) (nS:starEach [.Name y py,e] X.env=(false,eval (.Name y py) X.env)::starEach [e] X.env:=by rfl) (T:(backTo aB (starEach [e] X.env)).any (·.1)=false:=by rfl) (kO:swapsWith (.Call (.Name x p) [.Name y py,e] [] aB) none pos.line X.env=pure false:=by rfl)
  (J:md.getD i 0=1:=by rfl) (hi:X.N[i]? =some y:=by rfl) (r:lR X.env.scope y:=by subst_eqs) (hd:(y==("__debug__":Str))=false:=by decide) (dW:(y==("__classdict__":Str))=false:=by decide):
  DSt Z X md rn (.Expr (.Call (.Name x p) [.Name y py,e] [] aB) pos) (TL md i sd te):=by
 refine(fO (oj F (hr.mono hk) R d.m d.F.kp d.b .nil kS (bq (pv i hi r hd dW) (bq he cp kg) nS) dG nS T) kO).imp ?_;intro D σ H aI;rfl';obtain⟨B,ρ,E,⟨G,fp,S⟩,⟨w,L,hw,h⟩,M⟩:=aI;obtain⟨a,_,_,_,O,_⟩:=S.one J L;ac_rfl;exists _,O;exists G,_,_,S.ex.sub,S.rY,h;rintro _ ⟨n,rfl,q⟩ v P U x1 dv;cases dv.ofInt;have g:=S.grow x1;obtain⟨a',xs,ds,e1,i5,e3,br,put⟩:=g.one J L;rw[O] at i5;cases i5;cases e1
 have Y:a∈fp i:=by
  obtain⟨v,r,o⟩:=g.at_ i _ L;rw[J] at o;obtain⟨b,_,_,_,rfl,_,_,hf,_⟩:=o.one;rw[O] at r;cases r;rw[hf];exact dq ..
 have ga:P a=none:=(g.nw i a Y).2.2;have gn:∀b,U b=none->P b=none:=λb e=>g.ex.sub.free e;refine#[upd P a (.lst xs),a,n,w,xs,_,rfl,#[λb o c=>?_,av,br.mono (aO ga _),hw],q,λw' hq C H2 gO s I=>?_]
 .by_cases z:b=a
  .subst z;rw[av] at c;cases c;exact e3
  .rw[ax z] at c;exact x1.sub b o c
 have k2:∀b o,b≠a->C b=some o->iF C a b=some o:=λb o n e=>by rw[fW n];exact e
 have qy:DvAll Z (iF C a) gO (w'.map aq):=pR s k2 s.dv
 have GX:aJ P (iF C a):=λb o c=>by
  have n:b≠a:=λz=>by rw[z,ga] at c;cases c
  rw[fW n];exact I.gg b o n (by rw[ax n];exact c)
 have S2:=put gO (w'.map aq);have nA:∀b,B.H₀ b≠none->b≠a:=λb l z=>l (by rw[z];exact(g.nw i a Y).1)
 have Uk:Ext B.G₀ B.H₀ (iF C a) H2:=#[g.ex.gg.trans GX,λb o c=>s.sub b o (uZ b o c),λb o c=>I.hh b o (nA b (by rw[c];exact λz=>nomatch z)) (g.ex.hh b o c),λb l R=>by
  have n:=nA b l;rw[fW n];exact I.off b n (dO g.ex.hh l) (by rw[ax n];exact g.ex.off b l R)]
 refine M.nx _ hq _ _ #[iF C a,fp,Uk,g.fl.trans GX,by rw[fJ];exact g.len,λt d' Q=>?_,g.nd,g.ap,λt b l=>?_]
 .by_cases z:t=i
  .subst z
   have bT:=(dm.mp L).1;rw[ji bT] at Q;cases Q;exists .ref a,O;obtain⟨v,r,o⟩:=g.at_ t _ L;rw[J] at o;obtain⟨b,_,_,iT,rfl,_,_,hf,ol⟩:=o.one;rw[O] at r;cases r;rw[J,hf,ol.flat.2];exact .inl #[a,gO,_,[],rfl,rfl,s.sub _ _ s.at_,rfl,qy.own]
  .rw[jj (Ne.symm z)] at Q
   obtain⟨u,hu,ou⟩:=g.at_ t d' Q;refine#[u,hu,ou.keep GX λb l=>?_];have n:b≠a:=λy=>g.ap t i b z l (y▸Y);cases c:U b with
   |none=>exact absurd c (g.nw t b l).2.1
   |some o=>exact I.hh b o n c
 .obtain⟨q1,q2,q3⟩:=g.nw t b l
  by_cases z:b=a
  .subst z
   exact#[q1,(by rw[s.sub _ _ s.at_];exact λz=>nomatch z),ui]
  .refine#[q1,?_,?_]
   .cases c:U b with
    |none=>exact absurd c q2
    |some o=>rw[I.hh b o z c];exact λz=>nomatch z
   .rw[fW z]
    exact I.off b z q2 (by rw[ax z];exact q3)
end
open PySem.Calls PySem.W
section
variable {Z:DC} {X:Cx} {md:List Nat} {rn:Nat} {x:Str} {p pos aB:Pos}
def Mo(C:Addr):cx:=λE a=>E.xc a (.err C [] [])
def qv{k1}(f:X.calm=true)(M:Eb X.K C (.builtin "ValueError.__init__"))(d:XE X.K C)(g:X.mg x=some (.ref C))(i:Gl X x:=by rfl)(j:(x==("__debug__":Str))=false:=by decide)
  (e:starEach [.Constant (.str a) k1 b] X.env=(false,eval (.Constant (.str a) k1 b) X.env)::starEach [] X.env:=by rfl) (c:(backTo aB (starEach [] X.env)).any (·.1)=false:=by rfl):
  DSt Z X md rn (.Raise (some (.Call (.Name x p) [.Constant (.str a) k1 b] [] aB)) none pos) (Mo C):=by
 refine(AM f (Ia M i g (bq C5 cp e) j e c)).imp ?_;rintro D l H ⟨B,m,E,⟨G,n,S⟩,h,M⟩;exact#[by show 1<=1000;decide,λa k=>#[a,C,none,rfl,av,d.obj,d.cls.be,FC S h M k]]
end
def uM(a:Addr)(n:Nat)(h:Heap):Prop:=∃o b c t,h.get? a=some o/\o.ExactSet/\o.data= .set b c t/\t.fits b.size=true/\b.size=n
def uM.ok{P:Program}{w:World}{H:Hp}{a:Addr}{n:Nat}(x:uM a n h):ck P w H h a (.ext (uM a n)):=by
 refine#[x,let #[o,_,_,_,b,_]:=x;#[o,b],λe f p k=>?_];obtain⟨o,c,d,t,b,r⟩:=p;exact#[o,c,d,t,k o b,r]
def dist(a:List Int):Nat:=(a.foldl step_dedup []).length
def MD(a:List Int):(firstMet (λi=>a.getD i 0) a.length).length=dist a:=by
 unfold firstMet dist
 have e:(aM a.length).map (λi=>a.getD i 0)=a:=by
  refine List.ext_getElem (by simp) λi c b=>?_
  simp[eI b]
 rw[e]
theorem wZ:∀(f d:List Int),(f.foldl step_dedup d).length<=d.length+f.length/\(d.Nodup->((f.foldl step_dedup d).length=d.length+f.length↔(d++f).Nodup))
 | [],d=>#[bJ _,λh=>by simpa using h]
 |n::f,d=>by
  rw[abp];have g:=wZ f (step_dedup d n);have any:d.any (·==n)=true↔n∈d:=by simp
  by_cases c:n∈d
  .have e:step_dedup d n=d:=tz (any.mpr c)
   rw[e] at g ⊢;rw[cU];refine#[by lia,λh=>#[λz=>by lia,λz=>?_]]
   have:=(gz.mp z).2.2 n c n (dq ..)
   exact absurd rfl this
  .have e:step_dedup d n=d++ [n]:=mo (λz=>c (any.mp z))
   rw[e] at g ⊢;rw[dB,kM] at g;rw[cU];refine#[by have:=g.1;simp only[Gg] at this;lia,λh=>?_]
   have:=g.2 (gz.mpr #[h,by simp,λa i b j z=>c (by rw[<-dD.mp j,<-z];exact i)])
   rw[show d.length+(f.length+1)=d.length+ [n].length+f.length by simp;lia]
   exact this
def w4(a:List Int):dist a<=a.length:=by have:=(wZ a []).1;simpa [dist] using this
def Ey(a:List Int):dist a=a.length↔a.Nodup:=by have:=(wZ a []).2 gB;simpa [dist] using this
section
variable {Z:DC} {X:Cx}
def GF(k:X.calm=true):CallR X (.type "set") (λm H Q=>∃l c,m= [.ref l]/\cy X.K H l (c.map V.int)/\c.length<=300/\∀a,H a=none->Q (.ref a) (upd H a (.ext (uM a (dist c))))):=by
 intro i s L H M N Q I n h;obtain⟨l,c,rfl,p,O,q⟩:=h;obtain⟨u,rfl,v⟩:=n.one;subst v;obtain⟨d,r,pl,_⟩:=I.list p;have w:=intsAre_of r;have x:d.length=c.length:=by have:=r.length;rw[aL] at this;exact this.symm
 have P:301<scanBound:=by decide
 refine call_set_list (I.ok.hd k) pl.isList w (by show d.length+1<_;lia) λR y z f=>?_
 have A:=I.hok.fresh (bJ s.heap.objs.size);obtain⟨o,j,B,t,C,E,F,_,_,_,g,G⟩:=z
 have J:j.size=dist c:=by
  rw[<-MD,G];show(firstMet _ d.length).length=_;rw[x]
 exact#[.ref s.heap.objs.size,_,I.laid (t':=y) (λb o e=>f b o (FB e) e) (bJ _) (o:= .ext (uM s.heap.objs.size (dist c))) (uM.ok #[o,j,B,t,C,E,F,g,J]),rfl,q _ A]
def GA:CallR X (.builtin "len") (λd H Q=>∃a n,d= [.ref a]/\H a=some (.ext (uM a n))/\n<=1000/\Q (.int n) H):=by
 intro c s m H p r Q I e h;obtain⟨a,n,rfl,f,v,q⟩:=h;obtain⟨u,rfl,g⟩:=e.one;subst g;obtain⟨o,w,x,t,i,j,k,b,l⟩:uM a n s.heap:=(I.hok a _ f).1;exact call_len_set i j k b (by lia) #[.int n,H,I.tok _,#[_,by rw[l]],q]
def Mi(b:aR):aR:=λc P=>b c λd=>∃a:List Int,d= .lst (a.map D.int)/\a.length<=300/\P (.int (dist a))
def wW(t:X.calm=true)(u:X.mg "len"=none)(g:X.mg "set"=none)(he:DE Z X e m)(i:Gl X "len":=by rfl)(j:Gl X "set":=by rfl)
  (n:starEach [e] X.env=(false,eval e X.env)::starEach [] X.env:=by rfl) (o:starEach [.Call (.Name "set" f) [e] [] c] X.env=(false,eval (.Call (.Name "set" f) [e] [] c) X.env)::starEach [] X.env:=by rfl)
  (w:(backTo c (starEach [] X.env)).any (·.1)=false:=by rfl) (x:(backTo b (starEach [] X.env)).any (·.1)=false:=by rfl):
  DE Z X (.Call (.Name "len" p) [.Call (.Name "set" f) [e] [] c] [] b) (Mi m):=by
 refine(pO GA i u bx (bq (yk (GF t) j g Py (bq he cp n) (he:=n) (hpl:=w)) cp o) (he:=o) (hpl:=x)).imp ?_;rintro J H Q ⟨G,y,P,s,z,h,q⟩;refine#[G,y,_,s,z,h,λd A v B L r dv=>?_];obtain⟨k,rfl,C,E⟩:=A;obtain⟨l,M,rfl,F,e⟩:=dv.fN;have dl:=w4 k;refine#[l,k,rfl,cy.of (by rw[<-lA e];exact r.sub _ _ F),C,λa I=>?_]
 exact#[a,dist k,rfl,av,by lia,q _ E _ B _ (r.side I) (.int _)]
end
section
variable {Z:DC} {X:Cx} {es:List Expr} {k:Expr} {u:uL} {tk:aR}
def Uo(u:uL)(c:aR):iz:=λa P=>u a λb=>b.length<=sizeLine/\c a λd=>∃n l,d= .int n/\dR b n=some l/\P l
def c9.get{f:List Addr}(o:c9 R g j f):∀{i:Nat}{d:D},j[i]? =some d->∃v c,g[i]? =some v/\R v d c/\(∀b∈c,b∈f)/\(f.Nodup->c.Nodup):=by
 induction o with
 |nil=>intro i d h;cases h
 |cons a _ l=>
  intro i d h;cases i with
  |zero=>cases h;exact#[_,_,rfl,a,λb e=>iu _ e,λn=>(gz.mp n).1]
  |succ i=>
   obtain⟨v,c,m,p,q,r⟩:=l h;exact#[v,c,m,p,λb e=>gW _ (q b e),λn=>r (gz.mp n).2.1]
def My(L:Pn Z X es u)(M:DE Z X k tk)(N:wk k:=by exact λ_ _=>rfl):DF Z X 1 (.Subscript (.List es pl) k J) (Uo u tk):=by
 refine(Ox E8 (vX L) M N).imp ?_;rintro σ H Q ⟨G,r,P,s,t,h,q⟩;refine#[G,r,_,s,t,h,λj x m fs O y A o R f=>?_];have le:=o.length;rw[aL] at le;refine#[by rw[le];exact x.1,λp B=>?_]
 have C:=A.side (o:= .lst m) B;refine#[O,r,_,C.sub,t.mono A.gg,x.2,λd S v T U c dv=>?_];obtain⟨n,l,rfl,g,Y⟩:=S;cases dv.ofInt;have E:∀b∈fs,b≠p:=λb a z=>(f b a).2.1 (by rw[z];exact B)
 obtain⟨i,vA,vB⟩:∃i,kh j.length n=some i/\j[i]? =some l:=by
  unfold dR at g;cases e:kh j.length n with
  |none=>rw[e] at g;cases g
  |some i=>rw[e] at g;exact#[i,rfl,g]
 obtain⟨w,f',h1,h2,F,h4⟩:=o.get (i:=i) (d:= .lst l) (by rw[df,vB];rfl)
 exists p,m,n,w,rfl,rfl,cy.of (c.hh _ _ av),Jc le vA h1;refine q _ Y w f' T U (C.trans c) (h2.keep c.gg λb a=>?_) (h4 R) λb a=>?_
 .have a:=F b a
  cases e:y b with
  |none=>exact absurd e (f b a).2.1
  |some o'=>exact c.hh _ _ (by rw[ax (E b a)];exact e)
 .have a:=F b a
  have I:upd y p (.lst m) b≠none:=by rw[ax (E b a)];exact(f b a).2.1
  exact#[(f b a).1,dO c.hh I,c.off b I (f b a).2.2]
end
def Fe(Z:DC)(f:List (List Nat)->D->(List (List Nat)->Prop)->Prop):Sp:=λg H Q _=>∃(G:Hp)(a:Addr)(u:V)(d:D)(w:List (List Nat))(h:List V)(P:List (List Nat)->Prop),g= [.ref a,u]/\Rw Z a w G H h/\Dv Z G u d/\f w d P/\∀c,P c->∀e b i,Rw Z a c e b i->eH a G H e b->Q .bb b
section
variable {Z:DC} {X:Cx} {md:List Nat} {rn:Nat} {e:Expr} {te:aR} {pos aB:Pos}
def TK(b:List Nat)(i:Nat)(c:List (List Nat)->D->(List (List Nat)->Prop)->Prop)(f:aR):cx:=λE a=>∃w,a[i]? =some (some (.lst (w.map aq)))/\w≠ []/\f (cn b a) λd=>c w d λg=>E.nx (a.set i (some (.lst (g.map aq))))
def PV(i:Nat){sd:List (List Nat)->D->(List (List Nat)->Prop)->Prop}{k j:Nat}{x y:Str}{st:Stmt}{ps:List Str}{py p:Pos}(d:dQ X.K X.mg x st ps)(F:FnOk X.prog X.w X.K X.mg X.base cg k d.f d.fd ps (Fe Z sd))(hr:bN j X.A)(he:DE Z X e te)(Q:Gl X x:=by rfl)(hk:k<=j:=by first|decide|lia)
  (dG:(x==("__debug__":Str))=false:=by decide) (kg:starEach [e] X.env=(false,eval e X.env)::starEach [] X.env:=by rfl) (nS:starEach [.Name y py,e] X.env=(false,eval (.Name y py) X.env)::starEach [e] X.env:=by rfl) (R:(backTo aB (starEach [e] X.env)).any (·.1)=false:=by rfl) (kO:swapsWith (.Call (.Name x p) [.Name y py,e] [] aB) none pos.line X.env=pure false:=by rfl)
  (J:md.getD i 0=1:=by rfl) (hi:X.N[i]? =some y:=by rfl) (r:lR X.env.scope y:=by subst_eqs) (hd:(y==("__debug__":Str))=false:=by decide) (dW:(y==("__classdict__":Str))=false:=by decide):
  DSt Z X md rn (.Expr (.Call (.Name x p) [.Name y py,e] [] aB) pos) (TK md i sd te):=by
 refine(fO (oj F (hr.mono hk) Q d.m d.F.kp d.b .nil kS (bq (pv i hi r hd dW) (bq he cp kg) nS) dG nS R) kO).imp ?_;intro D σ H aI;rfl';obtain⟨B,ρ,E,⟨G,fp,S⟩,⟨w,L,hw,h⟩,M⟩:=aI;obtain⟨a,_,_,_,O,_⟩:=S.one J L;ac_rfl;exists _,O;exists G,_,_,S.ex.sub,S.rY,h;rintro d q v T H1 x1 dv;have g:=S.grow x1;obtain⟨a',xs,ds,e1,i5,e3,br,put⟩:=g.one J L;rw[O] at i5;cases i5;cases e1
 have U:a∈fp i:=by
  obtain⟨v,r,o⟩:=g.at_ i _ L;rw[J] at o;obtain⟨b,_,_,_,rfl,_,_,Y,_⟩:=o.one;rw[O] at r;cases r;rw[Y];exact dq ..
 have ga:T a=none:=(g.nw i a U).2.2;refine#[upd T a (.lst xs),a,v,d,w,xs,_,rfl,#[λb o c=>?_,av,br.mono (aO ga _),hw],dv.mono (aO ga _),q,λw' hq C H2 gO s I=>?_]
 .by_cases z:b=a
  .subst z;rw[av] at c;cases c;exact e3
  .rw[ax z] at c;exact x1.sub b o c
 have k2:∀b o,b≠a->C b=some o->iF C a b=some o:=λb o n e=>by rw[fW n];exact e
 have qy:DvAll Z (iF C a) gO (w'.map aq):=pR s k2 s.dv
 have GX:aJ T (iF C a):=λb o c=>by
  have n:b≠a:=λz=>by rw[z,ga] at c;cases c
  rw[fW n];exact I.gg b o n (by rw[ax n];exact c)
 have nA:∀b,B.H₀ b≠none->b≠a:=λb l z=>l (by rw[z];exact(g.nw i a U).1)
 have Uk:Ext B.G₀ B.H₀ (iF C a) H2:=#[g.ex.gg.trans GX,λb o c=>s.sub b o (uZ b o c),λb o c=>I.hh b o (nA b (by rw[c];exact λz=>nomatch z)) (g.ex.hh b o c),λb l Q=>by
  have n:=nA b l;rw[fW n];exact I.off b n (dO g.ex.hh l) (by rw[ax n];exact g.ex.off b l Q)]
 refine M.nx _ hq _ _ #[iF C a,fp,Uk,g.fl.trans GX,by rw[fJ];exact g.len,λt d' P=>?_,g.nd,g.ap,λt b l=>?_]
 .by_cases z:t=i
  .subst z
   have bT:=(dm.mp L).1;rw[ji bT] at P;cases P;exists .ref a,O;obtain⟨v,r,o⟩:=g.at_ t _ L;rw[J] at o;obtain⟨b,_,_,iT,rfl,_,_,Y,ol⟩:=o.one;rw[O] at r;cases r;rw[J,Y,ol.flat.2];exact .inl #[a,gO,_,[],rfl,rfl,s.sub _ _ s.at_,rfl,qy.own]
  .rw[jj (Ne.symm z)] at P
   obtain⟨u,hu,ou⟩:=g.at_ t d' P;refine#[u,hu,ou.keep GX λb l=>?_];have n:b≠a:=λy=>g.ap t i b z l (y▸U);cases c:H1 b with
   |none=>exact absurd c (g.nw t b l).2.1
   |some o=>exact I.hh b o n c
 .obtain⟨q1,q2,q3⟩:=g.nw t b l
  by_cases z:b=a
  .subst z
   exact#[q1,(by rw[s.sub _ _ s.at_];exact λz=>nomatch z),ui]
  .refine#[q1,?_,?_]
   .cases c:H1 b with
    |none=>exact absurd c q2
    |some o=>rw[I.hh b o z c];exact λz=>nomatch z
   .rw[fW z]
    exact I.off b z q2 (by rw[ax z];exact q3)
end
section
variable {Z:DC} {X:Cx} {md:List Nat} {st j4:Stmt} {t:gH} {e:Expr} {es:List Expr} {sd:zk} {sf:cH} {k k2 j:Nat} {x y z:Str} {ps Y1:List Str} {p p2 py pos aB Ma:Pos}
def PF(c:List Nat)(i:Nat)(d:cH)(f:zk)(t:gH):cx:=λE a=>∃b,a[i]? =some (some b)/\t (cn c a) λg=>f g (λh=>d [b,h] E.rt) (E.xc a)
def Kn(i:Nat)(c:dQ X.K X.mg z j4 Y1)(Q:FnOk X.prog X.w X.K X.mg X.base cg k2 c.f c.fd Y1 (bg Z sf))(d:dQ X.K X.mg x st ps)(F:FnOk X.prog X.w X.K X.mg X.base (rm X.prog X.w) k d.f d.fd ps (iW Z sd))(I:bN j X.A)(R:DA Z X (e::es) t)(l:Gl X z:=by rfl)(T:Gl X x:=by rfl)(n:k2<=j:=by first|decide|lia)(o:k<=j:=by first|decide|lia)
  (U:(z==("__debug__":Str))=false:=by decide) (Y:(x==("__debug__":Str))=false:=by decide) (he:starEach (e::es) X.env=(false,eval e X.env)::starEach es X.env:=by rfl) (q:(backTo aB (starEach es X.env)).any (·.1)=false:=by rfl)
  (kg:starEach [.Call (.Name x p) (e::es) [] aB] X.env=(false,eval (.Call (.Name x p) (e::es) [] aB) X.env)::starEach [] X.env:=by rfl) (J:starEach [.Name y py, .Call (.Name x p) (e::es) [] aB] X.env=(false,eval (.Name y py) X.env)::starEach [.Call (.Name x p) (e::es) [] aB] X.env:=by rfl) (Yj:(backTo Ma (starEach [.Call (.Name x p) (e::es) [] aB] X.env)).any (·.1)=false:=by rfl)
  (hm:md.getD i 0=0:=by rfl) (hi:X.N[i]? =some y:=by rfl) (hv:lR X.env.scope y:=by subst_eqs) (g:(y==("__debug__":Str))=false:=by decide) (dW:(y==("__classdict__":Str))=false:=by decide):
  DSt Z X md 0 (.Return (some (.Call (.Name z p2) [.Name y py, .Call (.Name x p) (e::es) [] aB] [] Ma)) pos) (PF md i sf sd t):=by
 refine(pQ (oj Q (I.mono n) l c.m c.F.kp c.b .nil kS (bq (pv i hi hv g dW) (bq (AJ F (I.mono o) T d.m d.F.kp d.b R Y he q) cp kg) J) U J Yj)).imp ?_;intro D σ H aI;rfl';obtain⟨B,L,E,⟨G,fp,S⟩,⟨d0,h0,h⟩,M⟩:=aI;obtain⟨v0,lY,O⟩:=S.at_ i _ h0;rw[hm] at O;ac_rfl;refine#[_,lY,G,_,_,S.ex.sub,S.rY,h,λds g vs G1 H1 r br=>?_];have P:=S.grow r;refine#[G1,ds,_,E.xc L,r.sub,br,g,λd1 UI v1 G2 H2 s rW=>?_,λd o a u C x dv=>#[a,rfl,M.xc L d o σ C u fp a (P.grow x) dv]];have S2:=P.grow s;exact#[G2,[d0,d1],E.rt,s.sub, .cons ((O.1.mono r.gg).mono s.gg) (.cons rW .nil),UI,λd g v u C x dv=>M.rt d g v [] u C (S2.ex.trans x) #[dv,rfl] gB (λb hb=>by cases hb)]
end
open Classical in
theorem Mz{Z:DC}{X:Cx}{e:Expr}{t:iz}(h:DF Z X 2 e t):DF Z X 1 e t:=by
 refine h.imp ?_;rintro σ H Q ⟨G,ρ,P,s,en,ht,q⟩;refine#[G,ρ,P,s,en,ht,λds hp v f G' H' x o nd nw=>?_];obtain⟨a,xs,m6,iT,rfl,ed,ha,rfl,ol⟩:=o.lst;cases ed;obtain⟨na,vE⟩:=lP.mp nd
 let G2:Hp:=λb=>if b∈iT then H' b else G' b
 have Xo:∀b,b∈iT->G2 b=H' b:=λb hb=>tz hb;have Jv:∀b,b∉iT->G2 b=G' b:=λb hb=>mo hb
 have s1:aJ G' G2:=λb o e=>by
  rw[Jv b λz=>by rw[(nw b (eJ _ z)).2.2] at e;cases e];exact e
 have x2:Ext G H G2 H':=#[x.gg.trans s1,λb o e=>by
  by_cases z:b∈iT
  .rw[Xo b z] at e;exact e
  .rw[Jv b z] at e;exact x.sub b o e,x.hh,λb hb hg=>by
  rw[Jv b λz=>hb (nw b (eJ _ z)).1];exact x.off b hb hg]
 have dv:DvAll Z G2 xs ds:=ol.MQ λv d f hf r=>r.dv s1 λb hb o e=>by rw[Xo b (hf b hb)];exact e
 refine q ds hp (.ref a) [a] G2 H' x2 (.inl #[a,xs,ds,[],rfl,rfl,ha,rfl,dv.own]) (by simp) λb hb=>?_
 obtain rfl:=dD.mp hb
 have:=nw b (dq ..)
 exact#[this.1,this.2.1,by rw[Jv b na];exact this.2.2]
section
variable {Z:DC} {X:Cx} {pins:List (Addr×Obj)} {σ:St} {H:Hp} {s:Shared} {o e:Expr} {ta tb:aR} {apos:Pos}
theorem count_at(I:Inv X pins σ H s){d:PyData}:∀{b:List V}{c:List PyData}{f:List Value},DpAll X.K H b c->Vals b f->f.countP (vz s.heap d)=c.countP (λe=>PyData.eqv e d)
 |_,_,_, .nil, .nil=>rfl
 |_,_,_, .cons (d:=k) a g, .cons r h=>by
  obtain⟨⟨l,i⟩,j⟩:=a.reads I r;rw[List.countP_cons,List.countP_cons,count_at I g h,BG (d:=d) i j]
def HK(k:X.A.units+64<cLine):D2 X "list.count" (λx g H Q=>∃l b y d c,x= .ref l/\g= [y]/\H l=some (.lst b)/\Dp X.K H y d/\DpAll X.K H b c/\d.depth<=60/\Q (.int (c.countP (λe=>PyData.eqv e d):Nat)) H):=by
 intro i s G H x g v J Q I m f h;obtain⟨l,b,y,d,c,rfl,rfl,p,t,j,z,q⟩:=h;cases m;obtain⟨u,rfl,B⟩:=f.one;obtain⟨⟨bs,f⟩,C⟩:=t.reads I B;obtain⟨L,a,n,r,M,e⟩:=I.qf p;obtain⟨_,E⟩:=pF I f C z k j r;refine aaG acp #[_,e,rfl] PySem.F.entry_list_count (PySem.F.args_list_count_2 _ _) (SeqAt.list_countAt l a.toArray n none #[] u (vz s.heap d)) #[e,λw hw=>E w (by simpa using hw),?_]
 rw[show a.toArray.toList=a from rfl,count_at I j r];exact#[.int _,H,I.tok _,#[_,rfl],q]
def Mc(f g:aR):aR:=λb P=>f b λd=>∃l,d= .lst l/\g b λy=>∃(c:List PyData)(a:PyData),dH l=some c/\y.py=some a/\a.depth<=60/\P (.int (c.countP (λe=>PyData.eqv e a):Nat))
def GN(k:X.A.units+64<cLine)(m:DE Z X o ta)(n:DE Z X e tb)
  (r:attributeBase o "count" X.env (eval o X.env)=eval o X.env:=by rfl)
  (t:((backTo b (starEach [e] X.env)).all (λx=>!x.1)&&(backToKw b (keywordEach [] X.env)).all (λx=>x.1.isSome)&&decide (([e]:List Expr).length+([]:List Keyword).length+(if ([]:List Keyword).isEmpty then 0 else 1)<30))=true:=by rfl)
  (w:(apos.endLine==b.line)=true:=by rfl) (f:starEach [e] X.env=(false,eval e X.env)::starEach [] X.env:=by rfl) (z:(backTo b (starEach [] X.env)).any (·.1)=false:=by rfl):
  DE Z X (.Call (.Attribute o "count" apos) [e] [] b) (Mc ta tb):=by
 refine(oi Pi acp PySem.F.type_list_count (HK k) m (bq n cp f) r t w f z).imp ?_;rintro U H Q ⟨G,g,P,s,i,h,q⟩;exists G,g,_,s,i,h;rintro _ ⟨l,rfl,B⟩ v C Y c dv;obtain⟨p,E,rfl,j,e⟩:=dv.fN;refine#[ty_list (c.sub _ _ j),C,g,_,c.sub,i.mono c.gg,B,λy I u J L d M=>?_];obtain⟨N,a,O,R,S,T⟩:=I;exact#[p,E,u,a,N,rfl,rfl,d.hh _ _ (c.sub _ _ j),(M.dp R).mono d.sub,((e.mono d.gg).dp O).mono d.sub,S,q _ T _ J L (c.trans d) (.int _)]
end
end L2
namespace Gn
open PySem L2 Wb
variable {P:Program} {w:World} {mg:Str->Option Value} {base:Heap} {Z:DC} (T:Txt Z mg)
def qM(a b:Int)(h:0<b):0<=a%b/\a%b<b:=#[acs _ (by lia),abP _ h]
def zB{P:D->Prop}(h:P (.bl (decide (i=j)))):dC (.int j) a (λb=>Bu (.int i) b P):=wQ h
def lM(w:W)(i:Nat)(r:List Nat):(w.map aq).set i (aq r)=(w.set i r).map aq:=by rw[uK]
def lU(l:List a)(k:Nat)(h:k<=l.length):cutD l (some (k:Int)) none=l.drop k:=by
 unfold cutD
 have b:HT.bZ l.length 0 (some (k:Int))=k:=by
  simp only[HT.bZ]
  split<;>lia
 have c:HT.bZ l.length l.length none=l.length:=rfl;rw[b,c];exact vf (by simp)
def gw{w:W}{p:Nat}(h:p<w.length):dR (w.map aq) (p:Int)=some (aq (row w p)):=ft (yM h)
def eS{a:List Nat}(h:p<a.length):dR (a.map af) (p:Int)=some (af (a.getD p 0)):=ft (by rw[df,fz,eI h];rfl)
def Ao(I:Nat->DN->Prop)(c:I 0 a)(d:∀(j:Nat)(a:DN),j<n->I j a->∀A:DN->Prop,(∀a,I (j+1) a->A a)->g (af j) a λe=>b {nx:=A,ct:=A,bk:=E.nx,rt:=E.rt,xc:=E.xc} e)
  (f:∀a,I n a->E.nx a):qd g b E (fY 0 n) a:=M4 I c (λj a i h A k=>by
 have:=d j a i h A k
 unfold af at this;rw[Int.zero_add];exact this) f
def KN(r:List Nat)(i x:Nat):ins (r.map af) i (af x)=(ins r i x).map af:=by
 unfold ins;simp[tX,vp]
def wg(n:Nat)(a:List Nat):Prop:=a.length=n/\a.Nodup/\∀x∈a,x<n
def HM(N:wg n a)(h:x<n):x∈a:=by
 apply Gc;intro c
 have:(x::a).length<=(aM n).length:=aZ (lP.mpr #[c,N.2.1]) λy b=>by
  rcases eF.mp b with rfl|b
  .exact gD.mpr h
  .exact gD.mpr (N.2.2 y b)
 rw[yY,cU,N.1] at this;lia
def Oe{f:DN->Prop}{a:DN}(b:DN)(e:a=b)(h:f b):f a:=by rw[e];exact h
theorem CK:∀(b:List Nat)(m:Nat),m<b.idxOf x->b[m]? ≠some x
 | [],m,h=>by simp at h
 |a::b,m,h=>by
  rw[List.idxOf_cons] at h
  by_cases e:(a==x)=true
  .rw[e] at h;simp at h
  .rw[vh.mpr e] at h
   cases m with
   |zero=>intro z;simp at z;exact e (by simp[z])
   |succ m=>rw[ve];exact CK b m (by simpa using h)
def Hr{a:List Nat}{x:Nat}{P:D->Prop}(h:x∈a)(q:P (af (a.idxOf x))):e9 (af x)=true/\(a.map af).all e9=true/\∃(j:Nat)(z:D),(a.map af)[j]? =some z/\kA z (af x)=true/\(∀(m:Nat) z,m<j->(a.map af)[m]? =some z->kA z (af x)=false)/\P (.int (j:Nat)):=by
 have b:=y9.mpr h;have e:a[a.idxOf x]? =some x:=by rw[eI b];exact GE some (DY b)
 refine#[rfl,dJ _,a.idxOf x,af x,by rw[df,e];rfl,by simp[kA,af],λm z c d=>?_,q]
 obtain⟨y,f,rfl⟩:=cX d
 have:y≠x:=by
  rintro rfl;exact CK _ _ c f
 have:¬((y:Int)=(x:Int)):=by lia
 simpa [kA,af] using this
def bM{a:List Nat}{x:Nat}(h:x∈a):(a.map af)[a.idxOf x]? =some (af x)/\kA (af x) (af x)=true/\∀(m:Nat) z,m<a.idxOf x->(a.map af)[m]? =some z->kA z (af x)=false:=by
 have:=Hr (P:=λd=>d=af (a.idxOf x)) h rfl
 obtain⟨_,_,j,z,i,k,l,n⟩:=this;have b:=y9.mpr h;have e:a[a.idxOf x]? =some x:=by rw[eI b];exact GE some (DY b)
 refine#[by rw[df,e];rfl,by simp[kA,af],λm z c f=>?_]
 obtain⟨y,g,rfl⟩:=cX f
 have:y≠x:=by
  rintro rfl;exact CK _ _ c g
 have:¬((y:Int)=(x:Int)):=by lia
 simpa [kA,af] using this
theorem qS{g:b->PyData}(h:∀a,(f a).py=some (g a)):∀l:List b,dH (l.map f)=some (l.map g)
 | []=>rfl
 |a::l=>by
  have:=qS h l
  rw[cf,dH,h a,this];rfl
def jw(r:List Nat):(aq r).py=some (kE r):=by
 unfold aq kE;rw[D.py,qS (g:=nD) (λn=>rfl)];rfl
def xh(a b:List Nat):PyData.eqv (kE a) (kE b)=decide (a=b):=by
 by_cases e:a=b
 .rw[IR e];exact(Ai a b).mpr e
 .rw[GT e]
  apply vh.mpr;exact λz=>e ((Ai a b).mp z)
def Md{v w:List Nat}{P:D->Prop}(h:P (.bl (decide (v=w)))):Bu (aq v) (aq w) P:=by
 refine#[_,_,jw v,jw w,by have:=iR v;lia,?_]
 rw[mo eD,xh];exact h
def Mj{v w:List Nat}{P:D->Prop}(h:P (.bl (!decide (v=w)))):nv (aq v) (aq w) P:=by
 refine#[_,_,jw v,jw w,by have:=iR v;lia,?_]
 rw[tz rfl,xh];exact h
variable {P:Program} {w:World} {mg:Str->Option Value} {base:Heap} {Z:DC} (T:Txt Z mg)
def Lo{P:D->Prop}(g:L.length<64)(h:∀M:List Nat,M.Perm L->M.Pairwise (·<=·)->P (aq M)):Je [aq L] P:=by
 refine#[L.map λ(n:Nat)=>(n:Int),by unfold aq;rw[eG];rfl,by rw[aL];exact g,λc f i=>?_]
 have e:∀m∈c,((m.toNat:Nat):Int)=m:=λm d=>by
  obtain⟨n,_,rfl⟩:=cz.mp (f.mem_iff.mp d);simp
 have j:(c.map Int.toNat).Perm L:=by
  have:=f.map Int.toNat
  rw[eG] at this;rw[show(Int.toNat∘λ(n:Nat)=>(n:Int))=id from by funext n;simp] at this
  simpa using this
 have:=h (c.map Int.toNat) j (by
  rw[i3];exact i.imp λ {a b} k=>Int.toNat_le_toNat k)
 unfold aq at this;rw[eG] at this;rw[show c.map D.int=c.map (af∘Int.toNat) from abC λm d=>by show D.int m=af m.toNat;unfold af;rw[e m d]]
 exact this
def qQ(k:Nat×Nat):PyData:= .tuple [nD k.1,nD k.2]
def OO(k:Nat×Nat):(pairD k).py=some (qQ k):=by
 unfold pairD;rw[D.py,dH,dH,dH];rfl
def Ah(a b:Nat×Nat):PyData.eqv (qQ a) (qQ b)=true↔a=b:=by
 unfold qQ nD;simp[PyData.eqv,PyData.eqvAll]
 constructor
 .rintro⟨c,d⟩;exact aau (by lia) (by lia)
 .rintro rfl;exact#[rfl,rfl]
variable {P:Program} {w:World} {mg:Str->Option Value} {base:Heap} {Z:DC} (T:Txt Z mg)
def zz(d:Nat×Nat):Int×Int:=(d.1,d.2)
def DZ(h:zz a=zz b):a=b:=aau (by have:=(aaR h).1;lia) (by have:=(aaR h).2;lia)
def t4{d:Nat×Nat}{l:List (Nat×Nat)}:zz d∈l.map zz↔d∈l:=by
 rw[cz];exact#[λ#[a,b,e]=>by rw[<-DZ e];exact b,λh=>#[d,h,rfl]]
def RH:cH:=λb P=>∃(w:W),b= [.cD w]/\Good w/\w.length<=14/\∀a:List (Nat×Nat),a.Perm (jy (row w) w.length)->a.Pairwise lexLe->P (.lst (a.map pairD))
theorem SE(I:DN->Prop)(J:o->DN->Prop)(m:o->D)(f:o->List u)(v:u->D)(p:o->u->Bool)(k:o->u->B)(i:B->D)(G:∀y H,J y H->I H):∀(l:List o)(j:DN)(a:List B)(P:List D->Prop),
  (∀y∈l,∀j,I j->∀(Y:DN->List D->Prop),(∀d,J y d->Y d ((f y).map v))->g (m y) j λd=>A d (Y d))->
  (∀y∈l,∀b∈f y,∀j,J y j->∀(Y:DN->D->Prop)(x:DN->Prop),(∀d,J y d->p y b=true->Y d (i (k y b)))->(∀d,J y d->p y b=false->x d)->r (v b) j λd=>s d λc=>if c=true then t d (Y d) else x d)->
  I j->a.length+(l.flatMap λy=>((f y).filter (p y)).map (k y)).length<=sizeLine->(∀y∈l,a.length+(l.flatMap λy=>((f y).filter (p y)).map (k y)).length+(f y).length<=sizeLine)->P ((a++l.flatMap λy=>((f y).filter (p y)).map (k y)).map i)->qe g wU A r s t (l.map m) j (a.map i) P
 | [],j,a,P,_,_,L,_,_,h=>by
  show P (a.map i);simpa using h
 |y::l,j,a,P,M,N,L,n,O,h=>by
  have C:=O y (dq ..);rw[A3,dB] at n C;refine M y (dq ..) j L (λd Q=>lcW r s t Q d (a.map i) λq R=>qe g wU A r s t (l.map m) q R P) λd E=>?_;refine pG (J y) v (p y) (λb=>i (k y b)) (f y) d (a.map i) _ (λb S q F Y x U X=>?_) E (by rw[aL];lia) λq F=>?_
  .exact N y (dq ..) b S q F Y x U X
  .have e:a.map i++((f y).filter (p y)).map (λb=>i (k y b))=(a++((f y).filter (p y)).map (k y)).map i:=by rw[eE,eG];rfl
   rw[e];refine SE I J m f v p k i G l q (a++((f y).filter (p y)).map (k y)) P (λz n=>M z (eJ _ n)) (λz n=>N z (eJ _ n)) (G y q F) (by rw[dB];lia) (λz n=>?_) ?_
   .have:=O z (eJ _ n)
    rw[A3,dB] at this;rw[dB];lia
   .rw[A3] at h
    rw[kM];exact h
def mj:FnOk P w Z.K mg base cg 1 T.m_ties.f T.m_ties.fd ["self"] (bg Z RH):=by
 have L:=tG.nd;refine bD T.m_ties.F tG [0] (by decide) (λu R h=>by obtain⟨_,rfl,_⟩:=h;rfl) (λM A outer s H E u R v h=>?_)
 have N:=v.units;refine#[_,(ar (bf (aE z7 rfl T.B.sorted lS (ae (PL (NC:= ["p","row","q"]) (src:= [none,none,none]) rfl (vv (aw kF)) trivial (eO rfl T.B.enumerate (ae (lj T.W (aa 0)) ag)) (λ_ _ _=>(BC 2 rfl (jz (cW 0 (show(["p","row","q"]:List Str).Nodup from by decide+kernel)) (jz (cW 1 (show(["p","row","q"]:List Str).Nodup from by decide+kernel)) wY)))) (λ_ _ _=>gq) (λ_ _ _=>(bR (aa 1))) (λ_ _ _=>(cW 2 (show(["p","row","q"]:List Str).Nodup from by decide+kernel))) (λ_ _ _=>(EB (aX jU (aa 0) (aa 2) (ba _)))) (λ_ _ _=>(bU (ae (aa 0) (ae (aa 2) ag))))) ag)))),?_]
 obtain⟨a,rfl,g,O,q⟩:=h
 have x:fM (a.map aq)=(aM a.length).map λ(j:Nat)=>D.tup [.int (j:Int),aq (row a j)]:=by
  refine yZ λj=>?_;rw[df]
  by_cases lt:j<a.length
  .rw[Gi lt]
   cases e:(fM (a.map aq))[j]? with
   |none=>
    have:=List.getElem?_eq_none_iff.mp e
    rw[jN,aL] at this;lia
   |some d=>rw[(u7 e).2];rfl
  .rw[j7 (by rw[jN,aL];lia),j7 (by rw[yY];lia)];rfl
 have k:((aM a.length).flatMap λp=>((row a p).filter λq=>decide (p<q)).map λq=>(p,q))=jy (row a) a.length:=rfl
 have z:∀n,n<=a.length->(jy (row a) n).length<=n*14:=λn=>by
  induction n with
  |zero=>intro _;exact bJ _
  |succ n C=>
   intro h
   have:=C (by lia)
   have Q:=eV g n;have S:=List.length_filter_le (λq=>decide (n<q)) (row a n);unfold jy at this ⊢;rw[acr,List.flatMap_append,dB];simp only[A3,List.flatMap_nil,fI,aL];lia
 have G:=z a.length (bJ _);exists _,rfl,a,rfl;refine(?_:qe _ _ _ _ _ _ (fM (a.map aq)) _ _ _);rw[x];refine SE (λi=>∃o r c,i= [o,r,c]) (λp i=>∃c,i= [some (af p),some (aq (row a p)),c]) _ (λp=>row a p) af (λp q=>decide (p<q)) (λp q=>(p,q)) pairD (λy i #[c,e]=>#[_,_,_,e]) (aM a.length) _ [] _ (λp t I l Y m=>?_) (λp t b U I l Y X m J=>?_) #[none,none,none,rfl] ?_ (λp t=>?_) ?_
 .obtain⟨o,r,c,rfl⟩:=l
  exact#[rfl,rfl,_,rfl,m _ #[_,rfl]]
 .obtain⟨c,rfl⟩:=l
  exists _,rfl,_,rfl,_,rfl;refine(?_:if decide ((p:Int)<(b:Int))=true then _ else _);rw[show decide ((p:Int)<(b:Int))=decide (p<b) from abd.mpr (by lia)]
  exact bz (λe=>#[_,rfl,_,rfl,by show 2<=sizeLine;decide,m _ #[_,rfl] e]) (λe=>J _ #[_,rfl] e)
 .rw[k,lO,tY];exact small (by lia)
 .have:=eV g p
  rw[k,lO,tY];exact small (by lia)
 .rw[k,vn]
  exact#[_,rfl,by lia,q]
def Lp:cH:=λa P=>∃(w:W)(p q:Nat),a= [.cD w,af p,af q]/\Good w/\q∈row w p/\P (af (j5 (row w p) q))
def n6:FnOk P w Z.K mg base cg 1 T.m_behind.f T.m_behind.fd ["self","p","q"] (bg Z Lp):=by
 have k:=oI.nd;refine bD T.m_behind.F oI [0,0,0,0] (by decide) (λl R h=>by obtain⟨_,_,_,rfl,_⟩:=h;rfl) (λt A outer s H E l R m h=>?_)
 have u:=m.units
 refine#[_,(ao (aH false 3 k (aY (lj T.W (aa 0)) (aa 1)))
   (ar (bf (aY (aa 3) (aN dN (aN b9 (lh (aa 3) (aa 2)) ay) (aE bB rfl T.B.len bx (ae (aa 3) ag))))))),?_]
 obtain⟨a,p,b,rfl,g,c,q⟩:=h;have n:=cw c;have v:=eV g p;have e:((row a p).map af).length=(row a p).length:=aL _;have d:0<(row a p).length:=zb c;have o:(0:Int)<(((row a p).map af).length:Int):=by rw[e];lia
 exists _,rfl,a,rfl,_,rfl,_,gw n,trivial;exists _,rfl,_,rfl,_,rfl,_,rfl,rfl,dJ _,_,_,(bM c).1,(bM c).2.1,(bM c).2.2;exists _,rfl,o;have em:(((row a p).idxOf b:Nat):Int)+1=(((row a p).idxOf b+1:Nat):Int):=by lia
 have r:((((row a p).idxOf b:Nat):Int)+1)%(((row a p).map af).length:Int)=((((row a p).idxOf b+1)%(row a p).length:Nat):Int):=by rw[e,em,acj]
 refine#[af (j5 (row a p) b),?_,q];show dR ((row a p).map af) ((λi j=>i%j) _ _)=_;dsimp only;rw[r];exact eS (tZ _ d)
def Kg{P:D->Prop}(h:P (.bl (!decide (a=b)))):nv (pairD a) (pairD b) P:=by
 refine#[_,_,OO a,OO b,by unfold qQ nD;simp[PyData.depth,PyData.depthAll],?_]
 have:PyData.eqv (qQ a) (qQ b)=decide (a=b):=by
  by_cases e:a=b
  .rw[IR e];exact(Ah a b).mpr e
  .rw[GT e]
   apply vh.mpr;exact λz=>e ((Ah a b).mp z)
 rw[tz rfl,this];exact h
def O2:cH:=λa P=>∃(w:W)(d:Nat×Nat),a= [.cD w,pairD d]/\Good w/\w.length<=14/\bK w d/\∀r,iQ w d r->P (.lst (r.map pairD))
def yg:FnOk P w Z.K mg base cg 2 T.d_round_from.f T.d_round_from.fd ["web","side"] (bg Z O2):=by
 have i:=oR.nd;refine bD T.d_round_from.F oR [0,0,1,0,0] (by decide) (λv R h=>by obtain⟨_,_,rfl,_⟩:=h;rfl) (λB A outer s H E v R n h=>?_)
 have x:=n.units
 refine#[_,(ao (gF 2 i (fU (ae (aa 1) ag)))
   (ao (BD (aa 1) (fB 2 rfl (aV (aK 3 i) (aV (aK 4 i) cQ))))
   (ao (BE 3 4 rfl i (ae (aa 4) (ae (rT T.W (aa 0) T.m_behind.m (n6 T) (n.mono (by decide)) T.m_behind.b (ae (aa 4) (ae (aa 3) ag))) ag)))
   (ao (lu FS (aX (n4 x) (bU (ae (aa 3) (ae (aa 4) ag))) (aa 1) (ba _)) (ao (pz false 2 (bU (ae (aa 3) (ae (aa 4) ag))))
   (ar (BE 3 4 rfl i (ae (aa 4) (ae (rT T.W (aa 0) T.m_behind.m (n6 T) (n.mono (by decide)) T.m_behind.b (ae (aa 4) (ae (aa 3) ag))) ag))))))
   (ar (bf (aa 2))))))),?_]
 obtain⟨a,d,rfl,g,t,o,q⟩:=h;have C:=fL g;have G:a.length*a.length<=14*14:=vo t t;refine#[_,rfl,by show 1<=sizeLine;decide,?_]
 exists _,rfl,rfl,rfl;exists _,rfl,_,rfl,a,rfl,_,rfl,_,rfl,a,d.2,d.1,rfl,g,g.sym _ _ o,_,_,rfl;refine j6 (λm y=>∃k,0<k/\m+k=(bE a).length+1/\(∀j,0<j->j<k->bh a j d≠d)/\y= [some (.cD a),some (pairD d),some (.lst ((walk a d k).map pairD)),some (af (bh a k d).1),some (af (bh a k d).2)]) (bE a).length #[1,by lia,rfl,λj l u=>by lia,rfl] ?_
 rintro m _ ⟨k,z,I,p,rfl⟩;have r:=cT g o k;refine#[_,rfl,_,rfl,by show 2<=sizeLine;decide,_,rfl,?_]
 refine(?_:nv (pairD (bh a k d)) (pairD d) _);refine Kg #[_,rfl,bz (λe=>?_) (λe=>?_)]
 .have ne:bh a k d≠d:=by simpa using e
  have lt:k<(bE a).length:=by
   have:=yL g o (k:=k+1) λj l u=>by
    by_cases c:j=k
    .subst c;exact ne
    .exact p j l (by lia)
   lia
  refine#[_,rfl,_,rfl,_,rfl,by show 2<=sizeLine;decide,trivial,eu (by rw[aL,iL];lia),?_]
  exists _,rfl,_,rfl,a,rfl,_,rfl,_,rfl,a,(bh a k d).2,(bh a k d).1,rfl,g,g.sym _ _ r,_,_,rfl;refine#[m-1,by lia,k+1,by lia,by lia,λj l u=>?_,?_]
  .by_cases c:j=k
   .subst c;exact ne
   .exact p j l (by lia)
  .rw[rh,eE];rfl
 .have e:bh a k d=d:=by simpa using e
  exact#[_,rfl,q _ #[k,z,e,p,rfl]]
def vV(a:List (List (Nat×Nat))):D:= .lst ((a.map λr=>r.map (·.1)).map aq)
def yC:cH:=λb P=>∃(w:W),b= [.cD w]/\Good w/\1<=w.length/\w.length<=14/\(w.length=1->P (.lst [aq [0]]))/\(2<=w.length->∀a,b7 w a->l3 w=f7 a->P (.lst ((l3 w).map aq)))
def KL(h:d∉l):E1 (l.map zz) (zz d)=(l++ [d]).map zz:=by
 unfold E1;rw[mo (λz=>h (t4.mp z)),eE];rfl
def lH:FnOk P w Z.K mg base cg 3 T.d_lands.f T.d_lands.fd ["web"] (bg Z yC):=by
 have I:=AU.nd;refine bD T.d_lands.F AU [0,98,1,0,0,0] (by decide) (λv R h=>by obtain⟨_,rfl,_⟩:=h;rfl) (λbo A outer s H E v R o h=>?_)
 have Q:=o.units
 refine#[_,(ao (bH (aX (jT Q) (iB T.W (aa 0) T.m_many.m (js T) (o.mono (by decide)) T.m_many.b) ay (ba _)) (ar (bf (c5 (ae (c5 (ae ay ag)) ag)))) aU)
   (ao (Ko 1 I rfl T.x_set)
   (ao (gF 2 I (fU ag))
   (ao (cO rfl FS (bR (aE z7 rfl T.B.sorted lS (ae (aN b9 (iB T.W (aa 0) T.m_ties.m (mj T) (o.mono (by decide)) T.m_ties.b) (wV (NC:= ["a","b"]) (src:= [none,none]) rfl (vv (aw oH)) trivial (bR (iB T.W (aa 0) T.m_ties.m (mj T) (o.mono (by decide)) T.m_ties.b)) (λ_ _ _=>(BC 2 rfl (jz (cW 0 (show(["a","b"]:List Str).Nodup from by decide+kernel)) (jz (cW 1 (show(["a","b"]:List Str).Nodup from by decide+kernel)) wY)))) (λ_ _ _=>gq) (λ_ _ _=>(bU (ae (aa 1) (ae (aa 0) ag)))))) ag))) (aK 3 I) (ar (bH (aX (HU Q) (aa 3) (aa 1) (by with_unfolding_all rfl)) (ao (aH false 4 I (aC T.d_round_from (yg T) o (ae (aa 0) (ae (aa 3) ag))))
   (ao (cO rfl FS (bR (aa 4)) (aK 5 I) (ar (ME false 1 Q (aa 5))))
   (ar (pz false 2 (wV (NC:= ["p","q"]) (src:= [none,none]) rfl (vv (aw oH)) trivial (bR (aa 4)) (λ_ _ _=>(BC 2 rfl (jz (cW 0 (show(["p","q"]:List Str).Nodup from by decide+kernel)) (jz (cW 1 (show(["p","q"]:List Str).Nodup from by decide+kernel)) wY)))) (λ_ _ _=>gq) (λ_ _ _=>(aa 0))))))) aU)))
   (ar (bf (aE (GH Q) rfl T.B.sorted lS (ae (aa 2) ag)))))))),?_]
 obtain⟨n,rfl,g,h1,J,q1,q2⟩:=h;have c1:=fL g;have c2:n.length*n.length<=14*14:=vo J J;have lw:(n.map aq).length=n.length:=aL _;exists _,rfl,n,rfl,n,rfl;refine zB #[_,rfl,bz (λe=>?_) (λe=>?_)]
 .have e:n.length=1:=by have:=KM e;lia
  exact#[by show 1<=sizeLine;decide,by show 1<=sizeLine;decide,q1 e]
 have n2:2<=n.length:=by have:=M2 e;lia
 refine#[by show 0<=sizeLine;decide,?_]
 refine#[_,rfl,n,rfl,n,rfl,g,J,λts G S=>?_];have tl:=IC g;rw[<-lV] at tl;have tl2:=G.length_eq;refine#[_,rfl,n,rfl,n,rfl,g,J,λy YZ SW=>?_];have e2:y=ts:=aci (λ_ _ _ _=>um) SW S (YZ.trans G.symm);subst e2;refine pG (λC=>∃L N,C= [L,N]) pairD (λ_=>true) (λt=>pairD (t.2,t.1)) y _ [] _ (λt ht aG O Y Nn hY hN=>?_) #[none,none,rfl] (by rw[lO,tY];exact small (by lia)) λaG O=>?_
 .obtain⟨L,N,rfl⟩:=O
  exact#[rfl,rfl,Ta #[_,rfl,_,rfl,by show 2<=sizeLine;decide,hY _ #[_,_,rfl] rfl]]
 have pd:=wD g G;have pl:=pd.length_eq;rw[dB,aL] at pl;have ef:y.filter (λ_=>true)=y:=by simp
 rw[vn,ef];refine#[by rw[aL,aL];exact small (by lia),?_]
 have ej:(.lst (y.map pairD++y.map λt=>pairD (t.2,t.1)):D)= .lst ((y++y.map λt=>(t.2,t.1)).map pairD):=by rw[eE,eG];rfl
 dsimp only[jf];rw[ej];refine#[_,rfl,by rw[dB,aL];lia,λv U Zl=>?_]
 have U:=U.trans pd;have all:∀e,bK n e->e∈v:=λe h=>U.mem_iff.mpr (bI.mpr h);have dart:∀e∈v,bK n e:=λe h=>bI.mp (U.mem_iff.mp h);clear G YZ S SW ej pd ef;refine bS (λi C=>∃(j:List (List (Nat×Nat)))(o3 o4 q:Option D),C= [some (.cD n),some (.x (.tq (gJ w) (j.flatten.map zz))),some (vV j),o3,o4,q]/\Wk n v i j) #[[],none,none,none,rfl,Wk.zero n v] ?_ ?_
 .rintro i d _ hd ⟨j,o3,o4,q,rfl,hw⟩ A X
  obtain⟨e,he,rfl⟩:=cX hd;have de:=dart e (fm he);exists _,rfl,_,rfl,zz e,j.flatten.map zz,rfl,rfl,_,rfl;refine(?_:if (if true=true then !decide (zz e∈j.flatten.map zz) else _)=true then _ else _);rw[tz rfl,show decide (zz e∈j.flatten.map zz)=decide (e∈j.flatten) from abd.mpr t4]
  have sub:∀x∈j.flatten,x∈bE n:=λx u=>by
   obtain⟨r,o,hxr⟩:=A5.mp u;obtain⟨d,R,dd,_⟩:=hw.rnd r o;exact bI.mpr (R.bE g dd x hxr)
  have fl:=aZ hw.nod sub;refine bz (λc=>?_) (λc=>?_)
  .have c:e∉j.flatten:=by simpa using c
   refine#[_,rfl,_,rfl,n,e,rfl,g,J,de,λr R=>#[trivial,?_]];have Yn:=hw.take g all dart Zl he c R;have rd:∀x∈r,x∈bE n:=λx u=>bI.mpr (R.bE g de x u);have rl:=aZ (R.nodup g de) rd;have Vb:(j.flatten++r).Nodup:=by have:=Yn.nod;rw[Gj] at this;simpa using this
   have fl2:(j.flatten++r).length<=(bE n).length:=aZ Vb λx u=>(dh.mp u).elim (sub x) (rd x);rw[dB] at fl2;exists _,rfl;refine bS (λk C=>∃q,C= [some (.cD n),some (.x (.tq (gJ w) ((j.flatten++r.take k).map zz))),some (vV j),some (pairD e),some (.lst (r.map pairD)),q]) #[q,by rw[zh,fI];rfl] ?_ ?_
   .rintro k d _ hd ⟨q,rfl⟩ A X
    obtain⟨x,u,rfl⟩:=cX hd;have hk:=(dm.mp u).1;have tk:r.take (k+1)=r.take k++ [x]:=by rw[abJ,u];rfl
    have nx:x∉j.flatten++r.take k:=λz=>by
     have sp:j.flatten++r=(j.flatten++r.take k)++(x::r.drop (k+1)):=by
      rw[kM,<-dm.mp u|>.2,List.getElem_cons_drop,lN]
     rw[sp] at Vb;exact(gz.mp Vb).2.2 x z x (dq ..) rfl
    refine#[_,rfl,_,rfl,zz x,rfl,by rw[aL,dB,iw];lia,?_]
    rw[KL nx,kM,<-tk];exact X _ #[_,rfl]
   .rintro _ ⟨q,rfl⟩
    rw[aL,abe]
    have dl:j.length<=300:=by
     have h:∀p:List (List (Nat×Nat)),(∀r∈p,r≠ [])->p.length<=p.flatten.length:=λp=>by
      induction p with
      |nil=>intro _;exact bJ _
      |cons a l ih=>
       intro h;have h1:=DV.mpr (h a (dq ..));have h2:=ih λr o=>h r (eJ _ o);rw[qo,dB,cU];lia
     have:=h j λr o z=>by
      obtain⟨d,R,_,_⟩:=hw.rnd r o
      have:=R.first
      rw[z] at this;cases this
     lia
    exists _,rfl,_,rfl;refine pG (λC=>∃L N,C= [L,N]) pairD (λ_=>true) (λt=>af t.1) r _ [] _ (λt ht aG O Y Nn hY hN=>?_) #[none,none,rfl] (by rw[lO,tY];exact small (by lia)) λaG O=>?_
    .obtain⟨L,N,rfl⟩:=O
     exact#[rfl,rfl,Ta #[_,rfl,hY _ #[_,_,rfl] rfl]]
    rw[vn,show r.filter (λ_=>true)=r by simp]
    refine#[trivial,eu (by rw[aL,aL];lia),?_]
    refine X _ #[j++ [r],some (pairD e),some (.lst (r.map pairD)),q,?_,Yn]
    have e1:vV (j++ [r])= .lst ((j.map λr=>r.map (·.1)).map aq++ [.lst (r.map λt=>af t.1)]):=by
     unfold vV aq;rw[eE,eE];simp only[cf,abn,eG];rfl
    rw[e1,Gj,show[r].flatten=r by simp];rfl
  .have c:e∈j.flatten:=by simpa using c
   exact X _ #[j,_,_,_,rfl,hw.skip he c]
 .rintro _ ⟨j,o3,o4,q,rfl,hw⟩
  have hw:Wk n v v.length j:=by rw[aL] at hw;exact hw
  have fin:=hw.fin g all;have R:b7 n j:=#[hw.rnd,fin]
  have dl:j.length<=300:=by
   have h:∀p:List (List (Nat×Nat)),(∀r∈p,r≠ [])->p.length<=p.flatten.length:=λp=>by
    induction p with
    |nil=>intro _;exact bJ _
    |cons a l ih=>
     intro h;have h1:=DV.mpr (h a (dq ..));have h2:=ih λr o=>h r (eJ _ o);rw[qo,dB,cU];lia
   have:=h j λr o z=>by
    obtain⟨d,R,_,_⟩:=hw.rnd r o
    have:=R.first
    rw[z] at this;cases this
   have:=fin.length_eq
   lia
  refine#[_,rfl,j.map (λr=>r.map (·.1)),rfl,by rw[aL];lia,λM G S=>?_]
  obtain⟨p,p',rfl⟩:=L2.jt (λr:List (Nat×Nat)=>r.map (·.1)) M j G;have R':=R.Oh p';have e:=Av g R' S
  have:=q2 n2 p R' e
  rw[e] at this;exact this
variable {P:Program} {w:World} {mg:Str->Option Value} {base:Heap} {Z:DC} (T:Txt Z mg)
def pT(I:DN->Prop)(h:∀b:dE,(∀a,I a->b.nx a)->Mf c t GJ b a)(k:∀a,I a->u E a):Jk (Mf c t GJ) u E a:=h _ k
def rB(b:DN)(e:a=b)(h:Jk t u E b):Jk t u E a:=by rw[e];exact h
def vU(h:p<n):kh n (p:Int)=some p:=by
 unfold kh;rw[tz (by lia),tz (by lia)]
 exact GE some (by lia)
variable {P:Program} {w:World} {mg:Str->Option Value} {base:Heap} {Z:DC} (T:Txt Z mg)
def Lq:cH:=λa P=>∃(b:List Int)(k:Nat),a= [.gy b,af k]/\∀v:Int,P (.int v)
def eU:FnOk P w Z.K mg base cg 1 T.d__law_cell_at.f T.d__law_cell_at.fd ["_law_script","_law_k"] (bg Z Lq):=by
 have g:=lL.nd;refine bD T.d__law_cell_at.F lL [0,0] (by decide) (λa R h=>by obtain⟨_,_,rfl,_⟩:=h;rfl) (λi A outer s H E a R b h=>?_)
 have j:=b.units;exists _,(ar (bf (T3 (aX jU (aa 1) (aE bB rfl T.B.len bx (ae (aa 0) ag)) (ba _)) (aY (aa 0) (aa 1)) ay)));obtain⟨c,k,rfl,q⟩:=h;exists _,rfl,_,rfl;refine#[_,rfl,bz (λe=>?_) (λe=>?_)]
 .have d:k<c.length:=by
   have:=KM e
   lia
  exact#[_,rfl,_,rfl,_,Eh (eI d),q _]
 .exact q 0
def gf(l:List Int):List D:=l.map D.int
def Hs(l:List Int):(gf l).length=l.length:=aL _
def E3(l:List Int)(x:Int):gf (l++ [x])=gf l++ [.int x]:=eE ..
def E2{l:List Int}{p:Nat}(h:p<l.length):dR (gf l) (p:Int)=some (.int (l.getD p 0)):=ft (by unfold gf;rw[df,fz,eI h];rfl)
def wx(x:Int):0<=x%2147483647/\x%2147483647<2147483647:=#[acs _ (by decide),abP _ (by decide)]
def VJ:cH:=λc P=>∃(d:List Int)(k n b:Nat),c= [.gy d,af k,af n,af b]/\k<=10/\n<=40/\0<b/\b<10000000/\∀a:List Int,a.length=n->(∀x∈a,0<=x)->P (.lst (gf a))
def ml:FnOk P w Z.K mg base cg 2 T.d__law_row.f T.d__law_row.fd ["_law_script","_law_k","_law_many","_law_base"] (bg Z VJ):=by
 have d:=tH.nd;refine bD T.d__law_row.F tH [0,0,0,0,0,0,0,1,0] (by decide) (λL R h=>by obtain⟨_,_,_,_,rfl,_⟩:=h;rfl) (λY A outer s H E L R l h=>?_)
 have M:=l.units
 refine#[_,(ao (aH false 4 d (aC T.d__law_cell_at (eU T) l (ae (aa 0) (ae (aa 1) ag))))
   (ao (aH false 5 d (vR (jT M) (aN dN (aC T.d__law_cell_at (eU T) l (ae (aa 0) (ae ay ag))) ay) ay (ba _)))
   (ao (aH false 6 d (aN dN (aa 4) ay))
   (ao (gF 7 d (fU ag))
   (ao (Ez rfl FS (qu rfl T.B.range (ae (aa 2) ag)) (aK 8 d) (ao (aH false 6 d (aN dN (aN b9 (aN b9 (aN CU (aa 6) ay) (aC T.d__law_cell_at (eU T) l (ae (aa 0) (ae (aN b9 (aa 1) (aa 8)) ag)))) (aa 8)) ay))
   (ao (aH false 6 d (aN dN (aN b9 (aN CU (aa 6) ay) (aN CU ay (aa 8))) ay))
   (ao (bH (DW.dt (ub (iN (e8 (aa 5))) (pB (aX jU (aa 4) ay (ba _))))) (ar (aH false 4 d (aN jr (aa 6) ay))) aU)
   (ao (pz false 7 (aN dN (aa 4) (aa 3)))
   (ar (aH false 4 d (aN jr (aa 4) (aa 3)))))))))
   (ar (bf (aa 7)))))))),?_]
 obtain⟨e,k,n,b,rfl,hk,hn,b0,b1,q⟩:=h;refine#[_,rfl,_,rfl,e,k,rfl,λc=>#[trivial,?_]];refine#[_,rfl,e,0,rfl,λN=>#[(by show(0:Int)<2;decide),zB #[trivial,?_]]]
 refine#[_,rfl,(by show(0:Int)<2147483647;decide),trivial,?_]
 refine#[by show 0<=sizeLine;decide,?_]
 refine#[_,rfl,#[by show-(2^62)<=(n:Int);lia,by show(n:Int)<2^62;lia],?_]
 rw[show((n:Int)).toNat=n by lia]
 generalize decide (N%2=0)=m;refine Ao (λj p=>∃(x y:Int)(a:List Int)(r:Option D),p= [some (.gy e),some (af k),some (af n),some (af b),some (.int x),some (.bl m),some (.int y),some (.lst (gf a)),r]/\a.length=j/\(∀x∈a,0<=x)/\0<=y/\y<2147483647) #[c,_,[],_,rfl,rfl,(λx h=>nomatch h),wx c] ?_ ?_
 .rintro j _ hj ⟨x,y,a,r,rfl,t,u,O⟩ A Q
  refine#[_,rfl, .inl #[by lia,by lia],_,rfl,_,rfl,_,rfl,e,k+j,rfl,λv=>#[_,rfl,(by show(0:Int)<2147483647;decide),trivial,?_]]
  have h1:=wx (y*48271+v+(j:Int));refine#[_,rfl, .inl #[by dsimp only;lia,by dsimp only;lia],_,rfl, .inl #[by decide,by decide],(by show(0:Int)<2147483647;decide),trivial,?_]
  have C:=wx ((y*48271+v+(j:Int))%2147483647*69621+7*(j:Int));obtain⟨g,G⟩:∃g,g=((y*48271+v+(j:Int))%2147483647*69621+7*(j:Int))%2147483647:=#[_,rfl];rw[<-G] at C;dsimp only;refine rB [some (.gy e),some (af k),some (af n),some (af b),some (.int x),some (.bl m),some (.int g),some (.lst (gf a)),some (af j)] (by rw[G];rfl) ?_
  refine pT (λp=>∃o:Int,p= [some (.gy e),some (af k),some (af n),some (af b),some (.int o),some (.bl m),some (.int g),some (.lst (gf a)),some (af j)]) (λS I=>?_) ?_
  .have i:Mq [0,0,0,0,0,0,0,1,0] false 4 (GK Sl (Ms 6) (dC (D.int 5))) S [some (.gy e),some (af k),some (af n),some (af b),some (.int x),some (.bl m),some (.int g),some (.lst (gf a)),some (af j)]:=#[_,rfl,#[by decide,by decide],trivial,I _ #[_,rfl]]
   exact#[_,rfl,rfl,bz (λ_=>bL i) (λ_=>#[_,rfl,_,rfl,bz (λ_=>i) (λ_=>I _ #[_,rfl])])]
  .rintro _ ⟨o,rfl⟩
   have J:(0:Int)<(b:Int):=by lia
   have U:=qM o (b:Int) J;refine#[_,rfl,_,rfl,_,rfl,J,trivial,eu (by rw[Hs];lia),?_]
   refine#[_,rfl,_,rfl,#[by lia,by lia],trivial,?_]
   refine Q _ #[_,g,a++ [o%(b:Int)],some (af j),by rw[E3];rfl,by rw[dB,t];rfl,λz X=>?_,C]
   rcases dh.mp X with h|h
   .exact u z h
   .rw[dD] at h;rw[h];exact U.1
 .rintro _ ⟨x,y,a,r,rfl,t,u,O⟩
  exact#[_,rfl,q a t u]
variable {P:Program} {w:World} {mg:Str->Option Value} {base:Heap} {Z:DC} (T:Txt Z mg)
structure kj (w:W) (r:List Nat):Prop where
 ne:0<r.length
 sz:r.length<=196
 lt:∀k,k<r.length->r.getD k 0<w.length
 tie:2<=w.length->∀k,k<r.length->r.getD ((k+(r.length-1))%r.length) 0∈row w (r.getD k 0)
structure Cl (w:W) (ds:List (Nat×Nat)):Prop where
 nd:ds.Nodup
 dart:∀e∈ds,bK w e
 step:∀e,bK w e->(e∈ds↔CT w e∈ds)
theorem Cl.bh{w:W}(c:Cl w a)(g:Good w)(b:bK w d):∀k,Wb.bh w k d∈a↔d∈a
 |0=>Iff.rfl
 |k+1=>(c.step _ (cT g b k)).symm.trans (c.bh g b k)
def bX{w:W}:e∈walk w d k↔∃i,i<k/\bh w i d=e:=by
 unfold walk;rw[cz];exact#[λ#[i,a,e]=>#[i,gD.mp a,e],λ#[i,a,e]=>#[i,gD.mpr a,e]]
def Cl.len{w:W}(c:Cl w a)(g:Good w)(b:w.length<=14):a.length<=196:=by
 have f:=fL g;have h:w.length*w.length<=14*14:=vo b b
 have:=aZ c.nd λe d=>bI.mpr (c.dart e d)
 lia
def Cl.nodup{w:W}(c:Cl w e)(g:Good w)(f:bK w d)(l:0<k->d∉e)(m:∀j,0<j->j<k->Wb.bh w j d≠d):(e++walk w d k).Nodup:=by
 rw[gz];refine#[c.nd,oZ g f m,λa h b n z=>?_];obtain⟨i,o,rfl⟩:=bX.mp n;rw[z] at h;exact l (by lia) ((c.bh g f i).mp h)
def Cl.back{w:W}(c:Cl w a)(g:Good w)(b:bK w d)(o:0<k)(l:d∉a)(m:∀j,0<j->j<k->Wb.bh w j d≠d)(h:Wb.bh w k d∈a++walk w d k):Wb.bh w k d=d:=by
 rcases dh.mp h with h|h
 .exact absurd ((c.bh g b k).mp h) l
 .obtain⟨i,p,e⟩:=bX.mp h
  have n:Wb.bh w i d=Wb.bh w i (Wb.bh w (k-i) d):=by rw[<-sI (k-i) i,show i+(k-i)=k by lia];exact e
  have f:=(xP g b (cT g b _) i n).symm
  by_cases z:i=0
  .subst z;exact f
  .exact absurd f (m (k-i) (by lia) (by lia))
def Cl.grow{w:W}{f:List (Nat×Nat)}(c:Cl w f)(g:Good w)(b:bK w d)(l:0<k)(n:d∉f)(o:∀j,0<j->j<k->Wb.bh w j d≠d)(e:Wb.bh w k d=d):Cl w (f++walk w d k):=by
 refine#[c.nodup g b (λ_=>n) o,λx a=>?_,λx a=>?_]
 .rcases dh.mp a with h|h
  .exact c.dart x h
  .exact mH g b x h
 .rw[dh,dh,<-c.step x a]
  refine or_congr Iff.rfl #[λh=>?_,λh=>?_]
  .obtain⟨i,p,rfl⟩:=bX.mp h
   by_cases z:i+1=k
   .exact bX.mpr #[0,l,by show d=Wb.bh w (i+1) d;rw[z,e]]
   .exact bX.mpr #[i+1,by lia,rfl]
  .obtain⟨i,p,z⟩:=bX.mp h
   cases i with
   |zero=>
    obtain⟨m,rfl⟩:∃m,k=m+1:=#[k-1,by lia]
    refine bX.mpr #[m,by lia,yb g (cT g b m) a ?_]
    exact e.trans z
   |succ i=>exact bX.mpr #[i,by lia,yb g (cT g b i) a z]
def uG{w:W}(h:i<k):((walk w d k).map (·.1)).getD i 0=(bh w i d).1:=by
 unfold walk;rw[eG,fz,df,Gi h];rfl
def E9{w:W}(g:Good w)(c:w.length<=14)(b:bK w d)(f:0<k)(h:∀j,0<j->j<k->Wb.bh w j d≠d)(e:Wb.bh w k d=d):kj w ((walk w d k).map (·.1)):=by
 have n:=fL g;have o:w.length*w.length<=14*14:=vo c c;have p:=yL g b h;have l:((walk w d k).map (·.1)).length=k:=by rw[aL,iL]
 have st:∀i,(bh w i d).1∈row w (bh w (i+1) d).1:=λi=>g.sym _ _ (cT g b i);refine#[by lia,by lia,λi a=>?_,λ_ i a=>?_]
 .rw[l] at a
  rw[uG a];exact cw (cT g b i)
 .rw[l] at a ⊢
  rw[uG a,uG (tZ _ f)];cases i with
  |zero=>
   obtain⟨m,rfl⟩:∃m,k=m+1:=#[k-1,by lia]
   have:=st m
   rw[e] at this;rw[tY,vk (by lia)];exact this
  |succ i=>
   rw[show i+1+(k-1)=i+k by lia,Nat.add_mod_right,vk (by lia)];exact st i
def Fq{w:W}(g:Good w)(h:w.length=1):w= [[]]:=by
 match w,h with
 | [r],_=>
  cases r with
  |nil=>rfl
  |cons a r=>
   have m:a∈row [a::r] 0:=dq
   have:=g.rng 0 a m
   have e:a=0:=by simpa using this
   subst e;exact absurd m (g.irr 0)
def GV{w:W}(g:Good w)(h:2<=w.length):0<(row w 0).length:=by
 apply Nat.pos_of_ne_zero;intro z;have z:row w 0= []:=JY.mp z
 have:=uO g (S:=λp=>p=0) rfl (λp q b a=>by subst b;rw[z] at a;cases a) 1 (by lia)
 lia
def AR{w:W}(a:0<k)(e:bh w k d=d)(b:∀j,0<j->j<k->bh w j d≠d):iQ w d (walk w d k):=#[k,a,e,b,rfl]
def D8(w:W)(b:List (Nat×Nat))(f:List (List Nat))(c:Nat×Nat->Prop):Prop:=∃a:List (List (Nat×Nat)),b=a.flatten/\f=f7 a/\(∀r∈a,∃d,iQ w d r/\bK w d/\(∀e∈r,lexLe d e)/\c d)/\a.Pairwise (λr g=>∀d e,iQ w d r->iQ w e g->lexLe d e)/\(∀r∈f,kj w r)/\∀d,bK w d->c d->d∈b
def D8.imp{w:W}{c i:Nat×Nat->Prop}(h:D8 w g j c)(k:∀d,bK w d->i d->c d\/d∈g)(m:∀d,c d->i d):D8 w g j i:=by
 obtain⟨n,o,p,q,s,t,u⟩:=h;exact#[n,o,p,λr v=>let #[d,a,b,e,f]:=q r v;#[d,a,b,e,m d f],s,t,λd l x=>(k d l x).elim (u d l) id]
def AQ{w:W}(h:iQ w d r)(c:iQ w e r):d=e:=by
 obtain⟨k,g,_,_,rfl⟩:=h;obtain⟨m,i,_,_,f⟩:=c
 have:=GE List.head? f
 obtain⟨a,rfl⟩:∃a,k=a+1:=#[k-1,by lia]
 obtain⟨b,rfl⟩:∃b,m=b+1:=#[m-1,by lia]
 unfold walk at this;rw[DU,DU] at this;exact Fk this
def yn{w:W}(g:Good w)(h:iQ w d r)(b:bK w d):∃t,r.map (·.1)=d.1::d.2::t:=by
 obtain⟨k,c,a,_,rfl⟩:=h
 obtain⟨m,rfl⟩:∃m,k=m+2:=by
  exists k-2;apply Gc;intro z;obtain rfl:k=1:=by lia
  have a:CT w d=d:=a;exact Ew g b (GE Prod.fst a).symm
 unfold walk;rw[DU,cf,cf,DU,cf,cf,cf];exact#[_,rfl]
def D8.lands{w:W}(g:Good w)(C:Cl w q)(h:D8 w q j c)(all:∀d,bK w d->c d):l3 w=j/\∃f,b7 w f/\j=f7 f:=by
 obtain⟨f,rfl,rfl,k,s,G,v⟩:=h;have x:f.flatten.Perm (bE w):=(Gb C.nd (hJ g)).mpr λd=>#[λi=>bI.mpr (C.dart d i),λi=>v d (bI.mp i) (all d (bI.mp i))];have R:b7 w f:=#[λr l=>let #[d,a,b,e,_]:=k r l;#[d,a,b,e],x];refine#[Av g R ?_,f,R,rfl];unfold f7;rw[i3];refine s.imp_of_mem λ {r m} l A n=>?_;obtain⟨d,a,b,_,_⟩:=k r l;obtain⟨e,o,B,_,_⟩:=k m A;have le:=n d e a o;obtain⟨t,E⟩:=yn g a b;obtain⟨H,p⟩:=yn g o B
 by_cases z:d=e
 .subst z
  rw[a.uniq o];unfold nX;cases y:HT.lexLt (jb (m.map (·.1))) (jb (m.map (·.1))) with
  |false=>rfl
  |true=>exact absurd y (by rw[xU];simp)
 .have F:d.1<e.1\/(d.1=e.1/\d.2<e.2):=by
   unfold lexLe at le
   by_cases y:d.1=e.1
   .have:d.2≠e.2:=λu=>z (aau y u)
    lia
   .lia
  rw[E,p];unfold nX jb;rw[cf,cf,cf,cf,HT.gQ]
  split
  .rw[HT.gQ]
   split
   .lia
   .exact GT (by lia)
  .exact GT (by lia)
def FP:cH:=λc P=>∃(w:W),c= [aQ w]/\Good w/\1<=w.length/\w.length<=14/\∀a:List (List Nat),0<a.length->a.length<=196->(∀r∈a,kj w r)->(2<=w.length->l3 w=a/\∃b,b7 w b/\a=f7 b)->(w.length=1->a= [[0]])->P (.lst (a.map aq))
structure Lf (w:W) (ks:List (Int×Int)) (met:List (Nat×Nat)):Prop where
 nd:ks.Nodup
 sub:∀x∈ks,∃d,bK w d/\x=zz d
 iff:∀d,bK w d->(zz d∈ks↔d∉met)
def Lf.len{w:W}(h:Lf w a met)(g:Good w)(b:w.length<=14):a.length<=196:=by
 have f:=fL g;have i:w.length*w.length<=14*14:=vo b b
 have:=aZ (m:=(bE w).map zz) h.nd λx c=>by
  obtain⟨d,e,rfl⟩:=h.sub x c;exact t4.mpr (bI.mpr e)
 rw[aL] at this;lia
def Lf.pop{w:W}(h:Lf w c met):Lf w (c.erase (zz d)) (met++ [d]):=by
 refine#[h.nd.erase _,λx f=>h.sub x (List.mem_of_mem_erase f),λe g=>?_];rw[h.nd.mem_erase_iff,h.iff e g,dh,dD];refine#[λ#[a,b] z=>z.elim b λz=>a (by rw[z]),λz=>#[λy=>z (.inr (DZ y)),λy=>z (.inl y)]]
def dU(w:W)(p:Nat):List (Nat×Nat):=(aM p).flatMap λp=>(row w p).map λq=>(p,q)
def vW{w:W}:d∈dU w p↔d.1<p/\bK w d:=by
 unfold dU;rw[ab5]
 constructor
 .rintro⟨x,a,h⟩
  obtain⟨y,b,rfl⟩:=cz.mp h;exact#[gD.mp a,b]
 .exact λh=>#[d.1,gD.mpr h.1,cz.mpr #[d.2,h.2,rfl]]
def Eu(w:W)(p:Nat):dU w (p+1)=dU w p++(row w p).map λq=>(p,q):=by
 unfold dU;rw[acr,List.flatMap_append];simp
def n9:FnOk P w Z.K mg base cg 1 T.d__law_lands.f T.d__law_lands.fd ["_law_turns_here"] (bg Z FP):=by
 have v:=oJ.nd;refine bD T.d__law_lands.F oJ [0,98,1,0,0,0,1,0,0] (by decide) (λt R h=>by obtain⟨_,rfl,_⟩:=h;rfl) (λbo A outer s H E t R X h=>?_)
 have hu:=X.units
 refine#[_,(ao (MG 1 v)
   (ao (gF 2 v (fU ag))
   (ao (cO rfl FS (eO rfl T.B.enumerate (ae (aa 0) ag)) (fB 2 rfl (aV (aK 3 v) (aV (aK 4 v) cQ))) (ar (cO rfl FS (bR (aa 4)) (aK 5 v) (ar (ML 1 hu (bU (ae (aa 3) (ae (aa 5) ag))) jL)))))
   (ao (cO rfl FS (eO rfl T.B.enumerate (ae (aa 0) ag)) (fB 2 rfl (aV (aK 3 v) (aV (aK 4 v) cQ))) (ar (cO rfl FS (bR (aE Kd rfl T.B.sorted lS (ae (aa 4) ag))) (aK 5 v) (ao (gF 6 v (fU ag))
   (ao (aH false 7 v (bU (ae (aa 3) (ae (aa 5) ag))))
   (ao (lu FS (aX (QO hu) (aa 7) (aa 1) (by with_unfolding_all rfl)) (ao (MH 1 hu (aa 7))
   (ao (pz false 6 (aY (aa 7) ay))
   (ao (aH false 8 v (aY (aa 0) (aY (aa 7) ay)))
   (ar (aH false 7 v (bU (ae (aY (aa 7) ay) (ae (aY (aa 8) (aN dN (aN b9 (lh (aa 8) (aY (aa 7) ay)) ay) (aE bB rfl T.B.len bx (ae (aa 8) ag)))) ag)))))))))
   (ar (bH (aX (n4 hu) (aa 6) (c5 ag) (ba _)) (ar (MF 2 6)) aU))))))))
   (nF 2
   (ar (bf (PQ (aa 2) (BA (c5 (ae (c5 (ae ay ag)) ag))))))))))),?_]
 obtain⟨n,rfl,g,h1,cK,q⟩:=h;have lw:(n.map aq).length=n.length:=aL _;have c1:=fL g;have c2:n.length*n.length<=14*14:=vo cK cK
 have Zj:∀{l:List (Nat×Nat)},l.Nodup->(∀e∈l,bK n e)->l.length<=196:=λ {l} v h=>by
  have:=aZ v λe he=>bI.mpr (h e he)
  lia
 refine#[by show 0<=sizeLine;decide,?_]
 exists _,rfl;refine bS (λj ρ=>∃(u:List FV)(o3 o4 N:Option D),ρ= [some (aQ n),some (.x (.lI ((dU n j).map zz) u)),some (.lst []),o3,o4,N,none,none,none]/\(dU n j).Nodup) #[[],_,_,_,rfl,gB] ?_ ?_
 .rintro p _ _ G ⟨u,o3,o4,N,rfl,v⟩ A hA
  obtain⟨hp,rfl⟩:=u7 G;exists rfl,rfl;exists _,rfl;refine bS (λm ρ=>∃(u:List FV)(N:Option D),ρ= [some (aQ n),some (.x (.lI ((dU n p++((row n p).take m).map λq=>(p,q)).map zz) u)),some (.lst []),some (af p),some (aq (row n p)),N,none,none,none]/\(dU n p++((row n p).take m).map λq=>(p,q)).Nodup) #[u,_,by rw[zh,abn,fI];rfl,by rw[zh,abn,fI];exact v] ?_ ?_
  .rintro m _ _ hd2 ⟨u,N,rfl,qN⟩ A2 Qc
   obtain⟨o,hq,rfl⟩:=cX hd2;have Du:(row n p).take (m+1)=(row n p).take m++ [o]:=by rw[abJ,hq];rfl
   have nn:(p,o)∉dU n p++((row n p).take m).map λq=>(p,q):=λz=>by
    rcases dh.mp z with z|z
    .have:=(vW.mp z).1
     exact absurd this (j8 _)
    .obtain⟨y,O,e⟩:=cz.mp z
     have e:y=o:=GE Prod.snd e;subst e;have nr:=g.nod p;rw[<-lN (m+1) (row n p),Du] at nr;exact(gz.mp (gz.mp nr).1).2.2 y O y (by simp) rfl
   have e2:dU n p++((row n p).take (m+1)).map (λq=>(p,q))=(dU n p++((row n p).take m).map λq=>(p,q))++ [(p,o)]:=by rw[Du,eE,<-kM];rfl
   have l2:=Zj qN λe he=>by
    rcases dh.mp he with h|h
    .exact(vW.mp h).2
    .obtain⟨y,O,rfl⟩:=cz.mp h
     exact abv O
   refine#[.bl true,_,_,rfl,rfl,_,rfl,_,rfl,by show 2<=sizeLine;decide,zz (p,o),rfl,λz=>nn (t4.mp z),by rw[aL];lia,?_]
   have e3:(dU n p++((row n p).take (m+1)).map λq=>(p,q)).map zz=(dU n p++((row n p).take m).map λq=>(p,q)).map zz++ [zz (p,o)]:=by rw[e2,eE (f:=zz)];rfl
   refine Qc _ #[u++ [.bl true],some (af o),by rw[e3];rfl,?_]
   rw[e2];exact gz.mpr #[qN,by simp,λa ha b hb z=>nn (by rw[<-dD.mp hb,<-z];exact ha)]
  .rintro _ ⟨u,N,rfl,qN⟩
   rw[aL,abe] at qN ⊢;refine hA _ #[u,_,_,_,by rw[Eu],by rw[Eu];exact qN]
 rintro _ ⟨u,o3,o4,N,rfl,v⟩;rw[jN,lw] at v ⊢
 have L0:Lf n ((dU n n.length).map zz) []:=#[by
   rw[y8,i3];exact(y8.mp v).imp λh z=>h (DZ z),λx hx=>by
   obtain⟨d,G,rfl⟩:=cz.mp hx;exact#[d,(vW.mp G).2,rfl],λd G=>by
   rw[t4,vW];exact#[(λ_ h=>nomatch h),λ_=>#[cw G,G]]]
 clear v;exists _,rfl
 refine bS (λj ρ=>∃(I:List (Int×Int))(t:List (Nat×Nat))(u:List FV)(J:List (List Nat))(o3 o4 N o6 o7 S:Option D),ρ= [some (aQ n),some (.x (.lI I u)),some (.lst (J.map aq)),o3,o4,N,o6,o7,S]/\Lf n I t/\Cl n t/\(0<t.length->0<J.length)/\J.length<=t.length/\D8 n t J λd=>d.1<j)
  #[_,[],u,[],_,_,_,_,_,_,rfl,L0,#[gB,(λe h=>nomatch h),λe _=>#[(λh=>nomatch h),λh=>nomatch h]],id,bJ _,[],rfl,rfl,(λr h=>nomatch h), .nil,(λr h=>nomatch h),λd _ h=>absurd h (by lia)] ?_ ?_
 .clear L0
  rintro p _ _ G ⟨I,t,u,J,o3,o4,N,o6,o7,S,rfl,M,C,rq,rl,ok⟩ A hA;obtain⟨hp,rfl⟩:=u7 G;exists rfl,rfl;have rl0:=eV g p;exists _,rfl;dsimp only[jf];refine Lo (by lia) λQ Vw tQ=>?_
  refine bS (λm ρ=>∃(I:List (Int×Int))(t:List (Nat×Nat))(u:List FV)(J:List (List Nat))(N o6 o7 S:Option D),ρ= [some (aQ n),some (.x (.lI I u)),some (.lst (J.map aq)),some (af p),some (aq (row n p)),N,o6,o7,S]/\Lf n I t/\Cl n t/\(0<t.length->0<J.length)/\J.length<=t.length/\D8 n t J λd=>d.1<p\/(d.1=p/\d.2∈Q.take m))
   #[I,t,u,J,_,_,_,_,rfl,M,C,rq,rl,ok.imp (λd _ h=> .inl (h.elim id λz=>by simp at z)) λd h=> .inl h] ?_ ?_
  .clear rq rl ok C M
   rintro Y _ _ G ⟨I,t,u,J,N,o6,o7,S,rfl,M,C,rq,rl,ok⟩ A hA;obtain⟨o,hq,rfl⟩:=cX G;have de:bK n (p,o):=Vw.mem_iff.mp (fm hq);have Du:Q.take (Y+1)=Q.take Y++ [o]:=by rw[abJ,hq];rfl
   refine#[by show 0<=sizeLine;decide,?_]
   refine#[_,rfl,_,rfl,by show 2<=sizeLine;decide,trivial,?_]
   refine j6 (λm ρ=>∃(k:Nat)(I:List (Int×Int))(u:List FV)(S:Option D),ρ= [some (aQ n),some (.x (.lI I u)),some (.lst (J.map aq)),some (af p),some (aq (row n p)),some (af o),some (aq ((walk n (p,o) k).map (·.1))),some (pairD (bh n k (p,o))),S]/\Lf n I (t++walk n (p,o) k)/\m+k=200/\(0<k->(p,o)∉t)/\(∀j,0<j->j<k->bh n j (p,o)≠(p,o))) 200 #[0,I,u,_,rfl,by rw[show walk n (p,o) 0= [] from rfl,fI];exact M,rfl,(λh=>by lia),λj h1 h2=>by lia] ?_
   clear M;rintro m _ ⟨k,I,u,S,rfl,M,mk,v,hk⟩;have kl:=yL g de hk;have nn:=C.nodup g de v hk;have nl:(t++walk n (p,o) k).length<=196:=Zj nn λe he=>(dh.mp he).elim (C.dart e) (mH g de e);have dk:=cT g de k;have hs:=g.sym _ _ dk;have kz:=M.len g cK;exists _,rfl,_,rfl,zz (bh n k (p,o)),_,_,rfl,rfl,_,rfl;refine(?_:if (if false=true then _ else decide (zz (bh n k (p,o))∈I))=true then _ else _);rw[mo eD,show decide (zz (bh n k (p,o))∈I)=decide (bh n k (p,o)∉t++walk n (p,o) k) from abd.mpr (M.iff _ dk)];refine bz (λc=>?_) (λc=>?_)
   .have c:bh n k (p,o)∉t++walk n (p,o) k:=KM c
    have bT:=cw hs;have rln:=eV g (bh n k (p,o)).2;have lr:((row n (bh n k (p,o)).2).map af).length=(row n (bh n k (p,o)).2).length:=aL _;have pos:0<(row n (bh n k (p,o)).2).length:=zb hs;have e0:(0:Int)<(((row n (bh n k (p,o)).2).map af).length:Int):=by rw[lr];lia
    refine#[_,_,rfl,_,rfl,zz (bh n k (p,o)),rfl,(M.iff _ dk).mpr c,by lia,λRX=>?_]
    refine#[_,rfl,_,rfl,_,rfl,trivial,eu (by rw[aL,aL,iL];lia),?_]
    exists _,rfl,_,rfl,_,rfl,_,gw bT,trivial;have fx:=bM hs;exists _,rfl,_,rfl,_,rfl,_,rfl,_,rfl,_,rfl,_,rfl,rfl,dJ _,_,_,fx.1,fx.2.1,fx.2.2;exists _,rfl,e0;have em:(((row n (bh n k (p,o)).2).idxOf (bh n k (p,o)).1:Nat):Int)+1=(((row n (bh n k (p,o)).2).idxOf (bh n k (p,o)).1+1:Nat):Int):=by lia
    have et:((((row n (bh n k (p,o)).2).idxOf (bh n k (p,o)).1:Nat):Int)+1)%(((row n (bh n k (p,o)).2).map af).length:Int)=((((row n (bh n k (p,o)).2).idxOf (bh n k (p,o)).1+1)%(row n (bh n k (p,o)).2).length:Nat):Int):=by rw[lr,em,acj]
    refine#[af (j5 (row n (bh n k (p,o)).2) (bh n k (p,o)).1),?_,by show 2<=sizeLine;decide,trivial,m-1,by lia,k+1,I.erase (zz (bh n k (p,o))),RX,some (aq (row n (bh n k (p,o)).2)),?_,?_,by lia,λ_=>?_,λj h1 h2=>?_]
    .show dR ((row n (bh n k (p,o)).2).map af) ((λi j=>i%j) _ _)=_
     dsimp only;rw[et];exact eS (tZ _ pos)
    .have e2:aq ((walk n (p,o) (k+1)).map (·.1))= .lst (((walk n (p,o) k).map (·.1)).map af++ [af (bh n k (p,o)).1]):=by unfold aq;rw[rh,eE,eE];rfl
     rw[e2];rfl
    .rw[rh,<-kM];exact M.pop
    .by_cases z:0<k
     .exact v z
     .obtain rfl:k=0:=by lia
      exact λh=>c (iu _ h)
    .by_cases z:j=k
     .subst z
      exact λh=>c (gW _ (bX.mpr #[0,h1,h.symm]))
     .exact hk j h1 (by lia)
   .have c:bh n k (p,o)∈t++walk n (p,o) k:=Gc (M2 c)
    refine#[_,rfl,by show 0<=sizeLine;decide,?_]
    refine(?_:nv (aq _) (aq []) _);refine Mj #[_,rfl,bz (λe=>?_) (λe=>?_)]
    .have U:0<k:=Nat.pos_of_ne_zero λz=>by subst z;exact absurd e (by simp[walk])
     have bk:=C.back g de U (v U) hk c;have C2:=C.grow g de U (v U) hk bk;have L:=E9 g cK de U hk bk;have cl:=C.len g cK;refine#[_,_,rfl,rfl,eu (by rw[aL];lia),?_]
     refine hA _ #[I,t++walk n (p,o) k,u,J++ [(walk n (p,o) k).map (·.1)],some (af o),none,some (pairD (bh n k (p,o))),S,?_,M,C2,λ_=>?_,?_,?_]
     .rw[eE (f:=aq)];rfl
     .rw[dB];exact Nat.succ_pos _
     .rw[dB,dB,iL];simp only[Gg];lia
     .obtain⟨jX,d1,d2,d3,d6,d4,d5⟩:=ok
      have leq:∀y∈Q.take Y,y<=o:=λy O=>by
       rw[<-lN (Y+1) Q,Du] at tQ
       have:=(vg.mp (vg.mp tQ).1).2.2
       exact this y O o (by simp)
      have geq:∀y∈Q,y∉Q.take Y->o<=y:=λy O hn=>by
       have ed:Q.drop Y=o::Q.drop (Y+1):=by
        obtain⟨hl,e⟩:=dm.mp hq;rw[<-e];exact qm hl
       rw[<-lN Y Q,dh] at O;have O:=O.resolve_left hn;have s2:=(vg.mp (by rw[<-lN Y Q] at tQ;exact tQ)).2.1
       rw[ed] at O s2
       rcases eF.mp O with rfl|O
       .exact bJ _
       .exact(List.pairwise_cons.mp s2).1 y O
      have lst:∀e∈walk n (p,o) k,lexLe (p,o) e:=λe he=>by
       obtain⟨i,hi,rfl⟩:=bX.mp he;have dr:=cT g de i;have nin:bh n i (p,o)∉t:=λz=>v U ((C.bh g de i).mp z);have nc:¬((bh n i (p,o)).1<p\/((bh n i (p,o)).1=p/\(bh n i (p,o)).2∈Q.take Y)):=λz=>nin (d5 _ dr z);unfold lexLe
       by_cases z:(bh n i (p,o)).1=p
       .right
        have WY:(bh n i (p,o)).2∈row n (bh n i (p,o)).1:=dr;refine#[z.symm,geq _ (Vw.mem_iff.mpr (by rw[z] at WY;exact WY)) λy=>nc (.inr #[z,y])]
       .left
        show p<_
        have:=λy=>nc (.inl y)
        lia
      refine#[jX++ [walk n (p,o) k],?_,?_,λr X=>?_,?_,λr X=>?_,λd sC G=>?_]
      .rw[d1,Gj];simp
      .rw[d2];unfold f7;rw[eE];rfl
      .rcases dh.mp X with h|h
       .obtain⟨d,a1,a2,a3,a4⟩:=d3 r h
        exact#[d,a1,a2,a3,a4.imp id λz=>#[z.1,by rw[Du];exact iu _ z.2]]
       .rw[dD] at h;rw[h]
        exact#[(p,o),AR U bk hk,de,lst, .inr #[rfl,by rw[Du];simp]]
      .refine vg.mpr #[d6,aa3 _ _,λr X r' xJ d e R1 R2=>?_]
       rw[dD] at xJ;subst xJ;obtain rfl:=AQ R2 (AR U bk hk);obtain⟨d',a1,a2,a3,a4⟩:=d3 r X;obtain rfl:=AQ R1 a1;unfold lexLe
       rcases a4 with a4|a4
       .exact .inl a4
       .exact .inr #[a4.1,leq _ a4.2]
      .rcases dh.mp X with h|h
       .exact d4 r h
       .rw[dD] at h;rw[h];exact L
      .rw[Du] at G
       by_cases z:d=(p,o)
       .rw[z];exact gW _ (bX.mpr #[0,U,rfl])
       .exact iu _ (d5 d sC (G.imp id λh=>#[h.1,(dh.mp h.2).elim id λh2=>absurd (aau h.1 (dD.mp h2)) z]))
    .have U:k=0:=by
      have e:(walk n (p,o) k).map (·.1)= []:=KM (by simpa only[Bool.not_eq_false'] using e)
      have:=GE b6 e
      rwa [aL,iL] at this
     subst U;have e0:t++walk n (p,o) 0=t:=fI _;rw[e0] at c M;refine hA _ #[I,t,u,J,_,_,_,_,rfl,M,C,rq,rl,ok.imp (λd _ G=>?_) λd G=>G.imp id λz=>#[z.1,by rw[Du];exact iu _ z.2]]
     rw[Du] at G
     by_cases z:d=(p,o)
     .rw[z];exact .inr c
     .exact .inl (G.imp id λh=>#[h.1,(dh.mp h.2).elim id λh2=>absurd (aau h.1 (dD.mp h2)) z])
  .rintro _ ⟨I,t,u,J,N,o6,o7,S,rfl,M,C,rq,rl,ok⟩
   refine hA _ #[I,t,u,J,_,_,_,_,_,_,rfl,M,C,rq,rl,ok.imp (λd sC G=> .inl ?_) λd G=>?_]
   .rw[aL,abe]
    by_cases z:d.1=p
    .exact .inr #[z,Vw.mem_iff.mpr (z▸sC)]
    .left;lia
   .rcases G with G|G<;>lia
 rintro _ ⟨I,t,u,J,o3,o4,N,o6,o7,S,rfl,M,C,rq,rl,ok⟩;rw[jN,lw] at ok;exists #[_,rfl];have cl:=C.len g cK
 by_cases n2:2<=n.length
 .have r0:=GV g n2
  obtain⟨x,hx⟩:=abz r0;have lm:=D8.lands g C ok λd G=>cw G;obtain⟨jX,d1,d2,d3,d6,d4,d5⟩:=ok;have rp:0<J.length:=rq (zb (d5 (0,x) hx (by show 0<n.length;lia)))
  refine#[_,rfl,_,rfl,λ_=>q J rp (by lia) d4 (λ_=>lm) (λz=>by lia),λz=>?_]
  have:=GE b6 z
  rw[aL,lO] at this;lia
 .obtain rfl:=Fq g (by lia)
  have d0:t= []:=by
   cases t with
   |nil=>rfl
   |cons e t=>
    have:=C.dart e (dq ..)
    have h0:=cw this
    have:e.1=0:=by have:e.1<1:=h0;lia
    have h2:=C.dart e (dq ..);unfold bK at h2;rw[this] at h2;cases h2
  have r0:J= []:=by
   rw[d0] at rl;exact JY.mp (Nat.le_zero.mp rl)
  rw[r0];refine#[_,rfl,_,rfl,(λz=>absurd rfl z),λ_=>?_];refine#[by show 1<=sizeLine;decide,by show 1<=sizeLine;decide,?_]
  refine q [[0]] (by decide) (by decide) (λr X=>?_) (λz=>absurd z (by decide)) λ_=>rfl
  rw[dD] at X;subst X;refine#[by decide,by decide,λk hk=>?_,λh=>absurd h (by decide)]
  have:k=0:=by simpa using hk
  subst this;decide
variable {P:Program} {w:World} {mg:Str->Option Value} {base:Heap} {Z:DC} (T:Txt Z mg)
def fF(l:List Nat)(x p:Nat):List Nat:=ins l (l.idxOf x+1) p
def VI:cH:=λa P=>∃(l:List Nat)(x p:Nat),a= [aq l,af x,af p]/\l.length<=100/\(l≠ []->x∈l)/\P (aq (fF l x p))
def iH:FnOk P w Z.K mg base cg 1 T.d__law_behind.f T.d__law_behind.fd ["_law_row_here","_law_ahead","_law_point"] (fh Z 1 VI):=by
 have g:=mO.nd;refine jA 1 T.d__law_behind.F mO [0,0,0,0] (by decide) (λi R h=>by obtain⟨_,_,_,rfl,_⟩:=h;rfl) (λn A outer s H E i R j h=>?_)
 have k:=j.units
 refine#[_,(ao (bH (aX (jT k) (aa 0) (c5 ag) (ba _)) (ar (nE (fU (ae (aa 2) ag)))) aU)
   (ao (aH false 3 g (aN b9 (lh (aa 0) (aa 1)) ay))
   (ar (nE (Jn (aN b9 (fT (aa 0) hV (hZ (aa 3))) (c5 (ae (aa 2) ag))) (fT (aa 0) (hZ (aa 3)) hV)))))),?_]
 obtain⟨l,x,p,rfl,o,a,q⟩:=h;refine#[_,rfl,by show 0<=sizeLine;decide,?_]
 refine(?_:Bu (aq l) (aq []) _);refine Md #[_,rfl,bz (λe=>?_) (λe=>?_)]
 .obtain rfl:l= []:=KM e
  exact#[_,rfl,by show 1<=sizeLine;decide,q]
 have a:=a (M2 e);have c:(l.map af).length=l.length:=aL _;have r:=y9.mpr a;exists _,rfl,_,rfl,_,rfl,rfl,dJ _,_,_,(bM a).1,(bM a).2.1,(bM a).2.2,trivial
 have b:cutD (l.map af) none (some (((l.idxOf x:Nat):Int)+1))=(l.take (l.idxOf x+1)).map af:=by
  have:=jK (l.map af) (l.idxOf x+1) (by rw[c];lia)
  rw[tX];exact this
 have d:cutD (l.map af) (some (((l.idxOf x:Nat):Int)+1)) none=(l.drop (l.idxOf x+1)).map af:=by
  have:=lU (l.map af) (l.idxOf x+1) (by rw[c];lia)
  rw[vp];exact this
 have sz:(cutD (l.map af) none (some (((l.idxOf x:Nat):Int)+1))).length+1<=sizeLine:=by rw[b,aL,iw];exact small (by lia)
 have m:(cutD (l.map af) none (some (((l.idxOf x:Nat):Int)+1))++ [af p]).length+(cutD (l.map af) (some (((l.idxOf x:Nat):Int)+1)) none).length<=sizeLine:=by
  rw[b,d,dB,aL,aL,iw,tV];exact small (by simp;lia)
 have e:(.lst ((cutD (l.map af) none (some (((l.idxOf x:Nat):Int)+1))++ [af p])++cutD (l.map af) (some (((l.idxOf x:Nat):Int)+1)) none):D)=aq (fF l x p):=by
  rw[b,d];unfold aq fF ins;rw[eE,cf,kM];rfl
 rw[<-e] at q;exact#[_,rfl,_,rfl,_,rfl,by show 1<=sizeLine;decide,sz,_,rfl,_,rfl,_,rfl,_,rfl,m,q]
def lsum(a:List (List Nat)):Nat:=(a.map b6).sum
def Lr:cH:=λb P=>∃(a:List (List Nat))(x:Int),b= [.lst (a.map aq), .int x]/\0<a.length/\a.length<=196/\(∀r∈a,0<r.length/\r.length<=196)/\∀r∈a,∀i,i<r.length->P (.tup [aq r,af i])
def vJ:FnOk P w Z.K mg base cg 1 T.d__law_corner.f T.d__law_corner.fd ["_law_walks","_law_number"] (bg Z Lr):=by
 have d:=mP.nd;refine bD T.d__law_corner.F mP [0,0,0] (by decide) (λv R h=>by obtain⟨_,_,rfl,_⟩:=h;rfl) (λM A outer s H E v R l h=>?_)
 have N:=l.units
 refine#[_,(ao (aH false 2 d ay)
   (ao (aH false 1 d (aN dN (aa 1) (aE (Ji rfl) rfl T.B.sum Jh (ae (wV (NC:= ["_law_walk"]) (src:= [none]) rfl (vv (aw ig)) trivial (bR (aa 0)) (λ_ _ _=>(cW 0 (show(["_law_walk"]:List Str).Nodup from by decide+kernel))) (λ_ _ _=>gq) (λ_ _ _=>(aE bB rfl T.B.len bx (ae (aa 0) ag)))) ag))))
   (ao (lu FS (aX Vf (aa 1) (aE bB rfl T.B.len bx (ae (aY (aa 0) (aa 2)) ag)) (ba _)) (ao (aH false 1 d (aN pK (aa 1) (aE bB rfl T.B.len bx (ae (aY (aa 0) (aa 2)) ag))))
   (ar (aH false 2 d (aN b9 (aa 2) ay)))))
   (ar (bf (bU (ae (aY (aa 0) (aa 2)) (ae (aa 1) ag)))))))),?_]
 obtain⟨a,x,rfl,o,y,p,q⟩:=h;have C:(a.map aq).length=a.length:=aL _;exists trivial;exists _,rfl,_,rfl;refine l4 (ρ:= [none]) aq (λr=> .int (r.length:Int)) a _ (λr l Y t=>#[_,rfl,by rw[show(.int (r.length:Int):D)= .int ((r.map af).length:Int) by rw[aL]] at t;exact t]) rfl (small (by lia)) λO=>?_
 have G:0<lsum a:=by
  cases a with
  |nil=>exact absurd o (j8 _)
  |cons r a=>
   have:=(p r (dq ..)).1
   unfold lsum;rw[cf,zi];lia
 have I:(a.map λr=>((r.length:Nat):Int)).sum=((lsum a:Nat):Int):=by
  unfold lsum;clear G o y p q C
  induction a with
  |nil=>rfl
  |cons r a J=>rw[cf,zi,J,cf,zi,Int.natCast_add]
 refine#[a.map λr=>((r.length:Nat):Int),by rw[eG];rfl,?_]
 rw[I];have m:=qM x ((lsum a:Nat):Int) (by lia)
 refine#[by show(0:Int)<((lsum a:Nat):Int);lia,trivial,?_]
 obtain⟨u,g⟩:∃n:Nat,x%((lsum a:Nat):Int)=(n:Int):=#[(x%((lsum a:Nat):Int)).toNat,by lia]
 refine j6 (λm ρ=>∃(k n:Nat),ρ= [some (.lst (a.map aq)),some (af n),some (af k)]/\m+k=a.length/\n<lsum (a.drop k)) a.length #[0,u,by rw[show af u= .int (x%((lsum a:Nat):Int)) by unfold af;rw[g]];rfl,rfl,by rw[List.drop_zero];lia] ?_
 rintro m _ ⟨k,n,rfl,mk,b⟩
 have c:k<a.length:=by
  apply Gc;intro z;rw[zc (by lia)] at b
  exact absurd b (Nat.not_lt_zero _)
 have i:dR (a.map aq) (k:Int)=some (aq (a.getD k [])):=ft (by rw[df,eI c,fz,eI c];rfl)
 have em:a.getD k []∈a:=by rw[fz,eI c];exact qp c
 have L:a.drop k=a.getD k []::a.drop (k+1):=by rw[fz,eI c];exact qm c
 generalize a.getD k []=r at*;have j:(r.map af).length=r.length:=aL _;rw[L] at b;have b:n<r.length+lsum (a.drop (k+1)):=by unfold lsum at b ⊢;rw[cf,zi] at b;exact b
 exists _,rfl,_,rfl,_,rfl,_,i;refine#[_,rfl,bz (λe=>?_) (λe=>?_)]
 .have e:((r.map af).length:Int)<=(n:Int):=by simpa using e
  exists _,rfl,_,rfl,_,rfl,_,i,trivial;refine#[_,rfl,trivial,m-1,by lia,k+1,n-r.length,?_,by lia,by lia]
  rw[show af (n-r.length)= .int ((n:Int)-((r.map af).length:Int)) by rw[j];unfold af;rw[Int.ofNat_sub (by lia)]]
  rfl
 .have e:¬((r.map af).length:Int)<=(n:Int):=by simpa using e
  exact#[_,rfl,_,rfl,_,i,_,rfl,by show 2<=sizeLine;decide,q r em n (by lia)]
def pP{r:List Nat}(h:k<r.length):dR (r.map af) ((k:Int)-1)=some (af (r.getD ((k+(r.length-1))%r.length) 0)):=by
 cases k with
 |zero=>
  rw[tY,vk (by lia)]
  refine Jc (j:=r.length-1) (n:=r.length) (aL _) ?_ ?_
  .unfold kh
   rw[mo (by lia),tz (by lia)]
   exact GE some (by lia)
  .rw[df,fz,eI (by lia:r.length-1<r.length)];rfl
 |succ k=>
  rw[show k+1+(r.length-1)=k+r.length by lia,Nat.add_mod_right,vk (by lia),show((k+1:Nat):Int)-1=(k:Int) by lia]
  exact eS (by lia)
def fC:cL Z G [] []:=#[rfl,λi d h=>by cases i<;>cases h]
def aS(d:Dv Z G v x)(h:cL Z G a b):cL Z G (some v::a) (some x::b):=#[GE (·+1) h.1,λi y e=>by
 cases i with
 |zero=>cases e;exact#[v,rfl,d]
 |succ i=>exact h.2 i y e]
def bC(h:cL Z G a b):cL Z G (o::a) (none::b):=#[GE (·+1) h.1,λi y e=>by
 cases i with
 |zero=>cases e
 |succ i=>exact h.2 i y e]
def cZ(w:W):Prop:=Good w/\1<=w.length/\w.length<=14
def RA(w:W)(n:Int)(P:W->Prop):Prop:=cZ w/\∀a,cZ a->P a
def fG(h:Rw Z a v G H b):Dv Z G (.ref a) (aQ v):= .lst h.at_ h.dv
def Oi:FnOk P w Z.K mg base cg 2 T.d__law_deed.f T.d__law_deed.fd ["_law_turns_here","_law_number"] (Fd Z RA):=by
 have nd:=qi.nd;refine T.d__law_deed.F.ok qi (λvs H Q E h=>?_) (λbo A outer s H vs Q E C h=>?_)
 .obtain⟨G,a,n,w,u,P,rfl,_⟩:=h;rfl
 have hu:=C.units;obtain⟨G,a,n,c,u,P',rfl,R0,⟨⟨g,l1,kQ⟩,q0⟩,q⟩:=h
 refine#[_,bY (ju (aC (Z:=Z) T.d__law_corner (vJ T) C (ae (aC T.d__law_lands (n9 T) C (ae (aa 0) ag)) (ae (aN jr (aa 1) ay) ag))) (vY rfl (jD (jV (i:=2) nd rfl (by subst_eqs)) (jD (jV (i:=3) nd rfl (by subst_eqs)) sZ))))
  (bY (jv (i:=4) nd rfl (by subst_eqs) (aY (Z:=Z) (aa 2) (aa 3)))
  (bY (C8 (DW.dt (Z:=Z) (ub (DW.dt (rX (aX (jT hu) (aN dN (aa 1) ay) ay (ba _)) (nG (aX jU (aE bB rfl T.B.len bx (ae (aa 0) ag)) ay (ba _))))) (pB (aX (jT hu) (aE bB rfl T.B.len bx (ae (aa 0) ag)) ay (ba _)))))
   (bY (ju (aC (Z:=Z) T.d__law_behind ((iH T).imp RB) C (ae (aY (aa 0) (aa 4)) (ae (aY (aa 2) (aN pK (aa 3) ay)) (ae (aE bB rfl T.B.len bx (ae (aa 0) ag)) ag)))) (mv (pv 0) (aa (Z:=Z) 4) set_list))
   (bY (fO (oi Pi aaZ aa0 jS (pv 0) (bq (c5 (Z:=Z) (ae (aa 4) ag)) cp)))
   (gv (pQ (jL (Z:=Z)))))) tu)
  (bY (jv (i:=5) nd rfl (by subst_eqs) (aN (Z:=Z) dN (aN jr (aa 1) ay) (aE bB rfl T.B.len bx (ae (aa 2) ag))))
  (bY (jv (i:=6) nd rfl (by subst_eqs) (aY (Z:=Z) (aa 2) (aa 5)))
  (bY (C8 (DW.dt (Z:=Z) (rX (aX (n4 hu) (aa 6) (aa 4) (ba _)) (nG (aX AG (aa 6) (aY (aa 0) (aa 4)) (by with_unfolding_all rfl)))))
   (bY (ju (aC (Z:=Z) T.d__law_behind ((iH T).imp RB) C (ae (aY (aa 0) (aa 4)) (ae (aY (aa 2) (aN pK (aa 3) ay)) (ae (aa 6) ag)))) (mv (pv 0) (aa (Z:=Z) 4) set_list))
   (gv (ju (aC (Z:=Z) T.d__law_behind ((iH T).imp RB) C (ae (aY (aa 0) (aa 6)) (ae (aY (aa 2) (aN pK (aa 5) ay)) (ae (aa 4) ag)))) (mv (pv 0) (aa (Z:=Z) 6) set_list)))) tu)
  (gv (pQ (jL (Z:=Z))))))))),?_]
 have lw:(c.map aq).length=c.length:=aL _;refine#[G,[some (aQ c),some (.int n),none,none,none,none,none],λd=>∃r i,d= .tup [aq r,af i]/\kj c r/\i<r.length,R0.sub,aS (fG R0) (aS (.int n) (bC (bC (bC (bC (bC fC)))))),?_,?_]
 .exact#[_,rfl,c,rfl,g,l1,kQ,λrs r0 rl ok _ _=>#[_,rfl,#[by decide,by decide],rs,n / 4,rfl,r0,rl,λr C=>#[(ok r C).ne,(ok r C).sz],λr C i hi=>#[r,i,rfl,ok r C,hi]]]
 rintro _ ⟨r,i,rfl,L,hi⟩ v G1 H1 x1 rW;obtain⟨t,vs,rfl,ht,ds⟩:=rW.n5;obtain⟨vw,vi,rfl,dw,di⟩:=ds.CW;cases di.ofInt;exists t,[vw, .int (i:Int)],rfl,gm.of (x1.sub _ _ ht),rfl,_,_,rfl,_,_,rfl,rfl;have R1:=R0.ext x1;have X1:=eH.of (a:=a) x1;have N:=L.lt i hi;obtain⟨p,ep⟩:∃p,p=r.getD i 0:=#[_,rfl];rw[<-ep] at N;have J9:dR (r.map af) (i:Int)=some (af p):=by rw[ep];exact eS hi
 refine#[G1,[some (aQ c),some (.int n),some (aq r),some (af i),none,none,none],λd=>d=af p,R1.sub,aS (fG R1) (aS (.int n) (aS dw (aS (.int _) (bC (bC (bC fC)))))),#[_,rfl,_,rfl,_,J9,rfl],?_];rintro _ rfl v2 G2 H2 x2 qy;cases qy.ofInt;have R2:=R1.ext x2;have X2:=X1.trans (eH.of x2);have Uc:=dw.mono x2.gg;clear R1 X1 dw rW ds di ht;refine#[G2,[some (aQ c),some (.int n),some (aq r),some (af i),some (af p),none,none],λb=>(b=true->c.length<=13)/\(b=false->2<=c.length),R2.sub,aS (fG R2) (aS (.int n) (aS Uc (aS (.int _) (aS (.int _) (bC (bC fC)))))),?_,?_]
 .have last:∀Q:Bool->Prop,(∀b,(b=true->c.length<=13)/\(b=false->2<=c.length)->Q b)->Bv (GK Bu (t8 Jd (Bt (Ms 0) jf)) (dC (D.int 1))) [some (aQ c),some (.int n),some (aq r),some (af i),some (af p),none,none] Q:=λQ hQ=>by
   exists _,rfl;dsimp only[jf,Jd,aQ];refine zB #[_,rfl,hQ _ #[λe=>?_,λe=>?_]]
   .have:=KM e;lia
   .have:=M2 e;lia
  refine#[_,rfl,(by show(0:Int)<4;decide),zB #[_,rfl,bz (λ_=>?_) (λ_=>cc (last _ λb h=>h))]]
  refine#[_,rfl,#[_,rfl,bz (λe=>#[λ_=>?_,λz=>nomatch z]) (λe=>last _ λb h=>h)]]
  have:((c.map aq).length:Int)<14:=KM e
  lia
 rintro b ⟨zE,UA⟩ G3 H3 x3;have S:=R2.ext x3;have X3:=X2.trans (eH.of x3);have Kr:=Uc.mono x3.gg;clear R2 X2 Uc;have r0:0<r.length:=by lia
 have ZE:∀{k:Nat},k<r.length->row c (r.getD k 0)≠ []->r.getD ((k+(r.length-1))%r.length) 0∈row c (r.getD k 0):=λ {k} hk ne=>by
  by_cases n2:2<=c.length
  .exact L.tie n2 k hk
  .obtain rfl:=Fq g (by lia)
   have:=L.lt k hk
   have e0:r.getD k 0=0:=by have:r.getD k 0<1:=this;lia
   rw[e0] at ne;exact absurd rfl ne
 obtain⟨x,ex⟩:∃x,x=r.getD ((i+(r.length-1))%r.length) 0:=#[_,rfl];have Wt:dR (r.map af) ((i:Int)-1)=some (af x):=by rw[ex];exact pP hi
 have tx:row c p≠ []->x∈row c p:=λne=>by rw[ex,ep];rw[ep] at ne;exact ZE hi ne
 have rlp:=eV g p;cases b with
 |true=>
  have h13:=zE rfl;refine bL ?_;refine#[G3,[some (aQ c),some (.int n),some (aq r),some (af i),some (af p),none,none],λd=>d=aq (fF (row c p) x c.length),S.sub,aS (fG S) (aS (.int n) (aS Kr (aS (.int _) (aS (.int _) (bC (bC fC)))))),?_,?_]
  .refine#[_,rfl,_,rfl,_,gw N,_,rfl,_,rfl,_,Wt,_,rfl,row c p,x,c.length,by rw[<-lw];rfl,by lia,tx,rfl]
  rintro _ rfl v4 G4 H4 X MN;exists .ref a,rfl;have U:=S.ext X;have X4:=X3.trans (eH.of X);have MR:=Kr.mono X.gg;clear S X3 Kr;refine#[G4,[some (aQ c),some (.int n),some (aq r),some (af i),some (af p),none,none],λd=>d=af p,U.sub,aS (fG U) (aS (.int n) (aS MR (aS (.int _) (aS (.int _) (bC (bC fC)))))),#[_,rfl,rfl],?_];rintro _ rfl v5 G5 H5 Y Ua;have I:=U.ext Y;have X5:=X4.trans (eH.of Y);have MN:=MN.mono Y.gg;have xl:u.length=c.length:=by rw[I.dv.length,aL]
  refine#[a,u,(p:Int),p,rfl,Ua.ofInt,I.sub _ _ I.at_,vU (by rw[xl];exact N),?_]
  have d6:DvAll Z G5 (u.set p v4) ((c.set p (fF (row c p) x c.length)).map aq):=by
   rw[<-lM];exact I.dv.set MN p
  have J:=I.put d6 (λz=>by have:=GE b6 z;rw[fJ,lO] at this;lia)
  have X6:=X5.trans (eH.put (.lst (u.set p v4)));exists .ref a,rfl,ty_list (J.sub _ _ J.at_);refine#[_,[none,none,none,none,some (af p),none,none],λd=>d=aq [p],J.sub,bC (bC (bC (bC (aS (.int _) (bC (bC fC)))))),#[_,rfl,by show 1<=sizeLine;decide,rfl],?_]
  rintro _ rfl M G7 H7 x7 MO;have O:=J.ext x7;have X7:=X6.trans (eH.of x7);refine#[a,u.set p v4,M,rfl,rfl,O.sub _ _ O.at_,by rw[fJ,xl];exact DX kQ (by decide),?_]
  have d8:DvAll Z G7 (u.set p v4++ [M]) ((nV c p x).map aq):=by
   unfold nV;rw[eE];exact O.dv.append (.cons MO .nil)
  have R:=O.put d8 (λz=>by have:=GE b6 z;rw[l5,lO] at this;lia)
  have X8:=X7.trans (eH.put (.lst (u.set p v4++ [M])));refine#[_,[none,none,none,none,none,none,none],λd=>d= .bl true,R.sub,bC (bC (bC (bC (bC (bC (bC fC)))))),rfl,?_];rintro _ rfl v9 G9 H9 x9 MP;cases MP.yd;exact q _ (q0 (nV c p x) #[uY g N,by rw[l5];lia,by rw[l5];lia]) G9 H9 _ (R.ext x9) (X8.trans (eH.of x9))
 |false=>
  have n2:=UA rfl;refine cc ?_;have lr:(r.map af).length=r.length:=aL _;have m:=qM (n / 288) ((r.map af).length:Int) (by rw[lr];lia)
  obtain⟨j,hj⟩:∃j:Nat,n / 288%((r.map af).length:Int)=(j:Int):=#[(n / 288%((r.map af).length:Int)).toNat,by lia]
  have jl:j<r.length:=by lia
  refine#[G3,[some (aQ c),some (.int n),some (aq r),some (af i),some (af p),none,none],λd=>d=af j,S.sub,aS (fG S) (aS (.int n) (aS Kr (aS (.int _) (aS (.int _) (bC (bC fC)))))),#[_,rfl,#[by decide,by decide],_,rfl,(by rw[lr];show(0:Int)<_;lia),GE D.int hj],?_]
  rintro _ rfl v4 G4 H4 X MN;cases MN.ofInt;have U:=S.ext X;have X4:=X3.trans (eH.of X);have MR:=Kr.mono X.gg;clear S X3 Kr;obtain⟨l,eq⟩:∃l,l=r.getD j 0:=#[_,rfl];have at2:dR (r.map af) (j:Int)=some (af l):=by rw[eq];exact eS jl
  have hq:l<c.length:=by rw[eq];exact L.lt j jl
  refine#[G4,[some (aQ c),some (.int n),some (aq r),some (af i),some (af p),some (af j),none],λd=>d=af l,U.sub,aS (fG U) (aS (.int n) (aS MR (aS (.int _) (aS (.int _) (aS (.int _) (bC fC)))))),#[_,rfl,_,rfl,_,at2,rfl],?_];rintro _ rfl v5 G5 H5 Y Ua;cases Ua.ofInt;have I:=U.ext Y;have X5:=X4.trans (eH.of Y);have Ud:=MR.mono Y.gg;clear U X4 MR
  have fin:∀(w2:W)(G' H':Hp)(ys:List V)(σ:St),σ.length=7->Rw Z a w2 G' H' ys->eH a G H G' H'->cZ w2->dY Z (dC (D.bl true)) σ H' Q:=λw2 G' H' ys σ sl Rx Xx ok=>by
   refine#[G',am 7 none,λd=>d= .bl true,Rx.sub,#[by rw[zd,sl],λi d h=>by rw[vd] at h;split at h<;>cases h],rfl,?_]
   rintro _ rfl v9 G9 H9 x9 MP;cases MP.yd;exact q _ (q0 w2 ok) G9 H9 _ (Rx.ext x9) (Xx.trans (eH.of x9))
  refine#[G5,[some (aQ c),some (.int n),some (aq r),some (af i),some (af p),some (af j),some (af l)],λb=>b=true->l≠p/\l∉row c p,I.sub,aS (fG I) (aS (.int n) (aS Ud (aS (.int _) (aS (.int _) (aS (.int _) (aS (.int _) fC)))))),?_,?_]
  .refine#[_,rfl,_,rfl,?_]
   refine(?_:nv (.int (l:Int)) (.int (p:Int)) _);refine wR #[_,rfl,bz (λe=>?_) (λe z=>nomatch z)];exists _,rfl,_,rfl,_,rfl,_,gw N,rfl,dJ _,_,rfl;rw[tz rfl,nU];exact λz=>#[λy=>by rw[y] at e;simp at e,by simpa using z]
  rintro b hb G6 H6 x6;have J:=I.ext x6;have X6:=X5.trans (eH.of x6);have Ue:=Ud.mono x6.gg;clear I X5 Ud;cases b with
  |false=>
   refine cc ?_;exact fin c G6 H6 u _ rfl J X6 #[g,l1,kQ]
  |true=>
   obtain⟨ne,nt⟩:=hb rfl;refine bL ?_;obtain⟨y,ey⟩:∃y,y=r.getD ((j+(r.length-1))%r.length) 0:=#[_,rfl];have aty:dR (r.map af) ((j:Int)-1)=some (af y):=by rw[ey];exact pP jl
   have rlq:=eV g l;have ty:y∈row c l:=by rw[ey,eq];exact L.tie n2 j jl
   refine#[G6,[some (aQ c),some (.int n),some (aq r),some (af i),some (af p),some (af j),some (af l)],λd=>d=aq (fF (row c p) x l),J.sub,aS (fG J) (aS (.int n) (aS Ue (aS (.int _) (aS (.int _) (aS (.int _) (aS (.int _) fC)))))),#[_,rfl,_,rfl,_,gw N,_,rfl,_,rfl,_,Wt,_,rfl,row c p,x,l,rfl,by lia,tx,rfl],?_]
   rintro _ rfl M G7 H7 x7 MO;exists .ref a,rfl;have O:=J.ext x7;have X7:=X6.trans (eH.of x7);have Ug:=Ue.mono x7.gg;clear J X6 Ue;refine#[G7,[some (aQ c),some (.int n),some (aq r),some (af i),some (af p),some (af j),some (af l)],λd=>d=af p,O.sub,aS (fG O) (aS (.int n) (aS Ug (aS (.int _) (aS (.int _) (aS (.int _) (aS (.int _) fC)))))),#[_,rfl,rfl],?_];rintro _ rfl v8 G8 H8 x8 Ub;have R:=O.ext x8;have X8:=X7.trans (eH.of x8);have MO:=MO.mono x8.gg;have dw8:=Ug.mono x8.gg;clear O X7 Ug;have xl:u.length=c.length:=by rw[R.dv.length,aL]
   refine#[a,u,(p:Int),p,rfl,Ub.ofInt,R.sub _ _ R.at_,vU (by rw[xl];exact N),?_]
   have d9:DvAll Z G8 (u.set p M) ((c.set p (fF (row c p) x l)).map aq):=by
    rw[<-lM];exact R.dv.set MO p
   have sl:(c.set p (fF (row c p) x l)).length=c.length:=fJ ..;have R9:=R.put d9 (λz=>by have:=GE b6 z;rw[sl,lO] at this;lia)
   have X9:=X8.trans (eH.put (.lst (u.set p M)));have W6:Dv Z (upd G8 a (.lst (u.set p M))) vw (aq r):=yo R dw8 λb o n e=>by rw[ax n];exact e
   have rq:row (c.set p (fF (row c p) x l)) l=row c l:=by rw[jW N,mo (Ne.symm ne)]
   have Ws:=gw (w:=c.set p (fF (row c p) x l)) (p:=l) (by rw[sl];exact hq)
   rw[rq] at Ws;refine#[_,[some (aQ (c.set p (fF (row c p) x l))),some (.int n),some (aq r),some (af i),some (af p),some (af j),some (af l)],λd=>d=aq (fF (row c l) y p),R9.sub,aS (fG R9) (aS (.int n) (aS W6 (aS (.int _) (aS (.int _) (aS (.int _) (aS (.int _) fC)))))),#[_,rfl,_,rfl,_,Ws,_,rfl,_,rfl,_,aty,_,rfl,row c l,y,p,rfl,by lia,λ_=>ty,rfl],?_]
   rintro _ rfl v10 Pp LD DM MM;exists .ref a,rfl;have LP:=R9.ext DM;have Ti:=X9.trans (eH.of DM);have aag:=W6.mono DM.gg;refine#[Pp,[none,none,none,none,none,none,some (af l)],λd=>d=af l,LP.sub,bC (bC (bC (bC (bC (bC (aS (.int _) fC)))))),#[_,rfl,rfl],?_];rintro _ rfl v11 J6 LG yV EC;have wo:=LP.ext yV;have Tj:=Ti.trans (eH.of yV);have MM:=MM.mono yV.gg;refine#[a,u.set p M,(l:Int),l,rfl,EC.ofInt,wo.sub _ _ wo.at_,vU (by rw[fJ,xl];exact hq),?_]
   have et:tie c p ((row c p).idxOf x+1) l ((row c l).idxOf y+1)=(c.set p (fF (row c p) x l)).set l (fF (row c l) y p):=rfl
   have Tu:DvAll Z J6 ((u.set p M).set l v10) ((tie c p ((row c p).idxOf x+1) l ((row c l).idxOf y+1)).map aq):=by
    rw[et,<-lM (c.set p _)];exact wo.dv.set MM l
   have Th:=wo.put Tu (λz=>by have:=GE b6 z;rw[iZ,lO] at this;lia)
   have To:=Tj.trans (eH.put (.lst ((u.set p M).set l v10)));exact fin _ _ _ _ _ rfl Th To #[Ap g N hq ne nt,by rw[iZ];lia,by rw[iZ];lia]
variable {P:Program} {w:World} {mg:Str->Option Value} {base:Heap} {Z:DC} (T:Txt Z mg)
structure D3 (w F:W) (ns:List Nat) (k:Nat):Prop where
 l:F.length=w.length
 r:∀i,i<k->∃a,row F (ns.getD i 0)=((row w i).drop a++(row w i).take a).map λx=>ns.getD x 0
def D3.step{w F:W}(a:Nat)(h:D3 w F b k)(N:wg w.length b)(d:k<w.length):D3 w (F.set (b.getD k 0) (((row w k).drop a++(row w k).take a).map λx=>b.getD x 0)) b (k+1):=by
 have lt:b.getD k 0<F.length:=by rw[h.l];exact N.2.2 _ (qC (by rw[N.1];exact d))
 refine#[by rw[fJ];exact h.l,λi f=>?_]
 by_cases c:i=k
 .subst c
  exact#[a,by rw[yp lt,tz rfl]]
 .obtain⟨x,e⟩:=h.r i (by lia)
  exact#[x,by rw[yp lt,mo (λz=>c (getD_inj N.2.1 (by rw[N.1];lia) (by rw[N.1];lia) z.symm)),e]]
def D3.nam{w F:W}(h:D3 w F c w.length)(N:wg w.length c):ZZ w F λx=>c.getD x 0:=by
 refine#[h.l,λx b=>N.2.2 _ (qC (by rw[N.1];exact b)),λx y b d e=>getD_inj N.2.1 (by rw[N.1];exact b) (by rw[N.1];exact d) e,λy d=>?_,λx b=>?_]
 .obtain⟨i,f,e⟩:=List.mem_iff_getElem.mp (HM N d)
  exact#[i,by rw[N.1] at f;exact f,by rw[fz,eI f];exact e]
 .obtain⟨a,e⟩:=h.r x b
  exact#[a,by rw[e,eE,vp,tX]]
def D3.good{w F:W}(h:D3 w F b w.length)(N:wg w.length b)(g:Good w):Good F:=by
 have M:=h.nam N
 exact Kw g M.len M.lt M.inj M.sur λp c=>by
  obtain⟨a,e⟩:=M.row p c;rw[e]
  have:=List.perm_append_comm (l₁:=((row w p).map λx=>b.getD x 0).drop a) (l₂:=((row w p).map λx=>b.getD x 0).take a)
  rwa [lN] at this
theorem Fb:∀(a:List D)(c:DN)(b:List D)(N:List D->Prop),b.length+a.length<=sizeLine->N (b++am a.length (.lst []))->NX (rV i) (Sx jf) a c b N
 | [],c,b,N,_,h=>by
  show N b;simpa using h
 |x::d,c,b,N,e,h=>by
  rw[cU] at e;refine#[by show 0<=sizeLine;decide,by lia,?_]
  refine Fb d _ (b++ [.lst []]) N (by simp;lia) ?_
  rw[kM];exact h
def Lu:cH:=λb P=>∃(w:W)(a:List Int),b= [aQ w, .lst (gf a)]/\cZ w/\a.length=28/\∀v,cZ v->v.length=w.length->P (aQ v)
def vH:FnOk P w Z.K mg base cg 1 T.d__law_named.f T.d__law_named.fd ["_law_turns_here","_law_row_here"] (fh Z 2 Lu):=by
 have m:=oK.nd;refine jA 2 T.d__law_named.F oK [0,0,1,0,2,0,0,0] (by decide) (λds R h=>by obtain⟨_,_,rfl,_⟩:=h;rfl) (λbo A outer s H E ds R hr h=>?_)
 have hu:=hr.units
 refine#[_,(ao (gF 2 m (fU ag))
   (ao (Ez rfl FS (qu rfl T.B.range (ae (aE bB rfl T.B.len bx (ae (aa 0) ag)) ag)) (aK 3 m) (ar (PY false 2 (aN dN (aY (aa 1) (aa 3)) (aN b9 (aa 3) ay)) (aa 3))))
   (ao (GP 4 (NC:= ["_law_p"]) (src:= [none]) rfl m (vv (aw gx)) trivial (bR (aa 0)) (λ_ _ _=>(cW 0 (show(["_law_p"]:List Str).Nodup from by decide+kernel))) (λ_ _ _=>(fU ag)))
   (ao (cO rfl FS (eO rfl T.B.enumerate (ae (aa 0) ag)) (fB 2 rfl (aV (aK 5 m) (aV (aK 6 m) cQ))) (ao (aH false 7 m (aN dN (aY (aa 1) (aN b9 ay (aa 5))) (aE (Ep rfl) rfl T.B.max Jf (ae ay (ae (aE bB rfl T.B.len bx (ae (aa 6) ag)) ag)))))
   (ar (EA 4 (aY (aa 2) (aa 5)) (Mx (NC:= ["_law_q","_law_order"]) (src:= [none,some 2]) rfl (vv (aw gx)) #[rfl,rfl,trivial] (bR (aN b9 (fT (aa 6) (hZ (aa 7)) hV) (fT (aa 6) hV (hZ (aa 7))))) (λ_ _ _=>(cW 0 (show(["_law_q","_law_order"]:List Str).Nodup from by decide+kernel))) (λ_ _ _=>gq) (λ_ _ _=>(aY (aa 1) (aa 0))))))))
   (ar (MK 4)))))),?_]
 obtain⟨c,e,rfl,⟨g,h1,cK⟩,xl,q⟩:=h;have C:(c.map aq).length=c.length:=aL _;refine#[by show 0<=sizeLine;decide,?_]
 refine#[_,rfl,#[by lia,by show((c.map aq).length:Int)<2^62;lia],?_]
 rw[show(((c.map aq).length:Int)).toNat=c.length by lia]
 refine Ao (λj ρ=>∃(b:List Nat)(t:Option D),ρ= [some (aQ c),some (.lst (gf e)),some (aq b),t,none,none,none,none]/\wg j b) #[[],_,rfl,rfl,gB,λx h=>by cases h] ?_ ?_
 .rintro j _ hj ⟨b,t,rfl,M,m,lt⟩ A I
  have y:=qM (e.getD j 0) ((j:Int)+1) (by lia)
  have u:(b.map af).length=j:=by rw[aL,M]
  refine#[_,rfl,_,rfl,_,rfl,_,E2 (by lia),_,rfl,by show(0:Int)<(j:Int)+1;lia,_,rfl,_,rfl,trivial,#[y.1,by rw[u];show e.getD j 0%((j:Int)+1)<=_;lia,eu (by rw[u];lia)],?_]
  refine I _ #[ins b (e.getD j 0%((j:Int)+1)).toNat j,some (af j),?_,by rw[xN,M],mh m (λz=>by have:=lt j z;lia),λx J=>?_]
  .unfold aq;rw[<-KN];rfl
  .rcases fi.mp J with rfl|J
   .lia
   .have:=lt x J;lia
 .rintro _ ⟨b,t,rfl,N⟩
  refine#[_,rfl,Fb _ _ [] _ (by rw[C];exact small (by simp;lia)) ?_]
  have e0:D.lst ([]++am (c.map aq).length (.lst []))=aQ (am c.length []):=by
   unfold aQ;rw[C,List.map_replicate];rfl
  rw[e0];refine#[_,rfl,bS (λk ρ=>∃(F:W)(o5 o6 o7:Option D),ρ= [some (aQ c),some (.lst (gf e)),some (aq b),t,some (aQ F),o5,o6,o7]/\D3 c F b k) #[_,_,_,_,rfl,by simp,λi h=>by lia] ?_ ?_]
  .rintro k d _ hd ⟨F,p5,p6,p7,rfl,n⟩ A I
   obtain⟨O,rfl⟩:=u7 hd;have rl:=eV g k;generalize Q:row c k=r at rl;have u:(r.map af).length=r.length:=aL _;exists rfl,rfl;have v:(0:Int)<(if ((r.map af).length:Int)>1 then((r.map af).length:Int) else 1):=by split<;>lia
   have y:=qM (e.getD (14+k) 0) (if ((r.map af).length:Int)>1 then((r.map af).length:Int) else 1) v;refine#[_,rfl,_,rfl,_,E2 (l:=e) (p:=14+k) (by lia),_,rfl,_,_,rfl,v,trivial,?_]
   obtain⟨a,S⟩:∃a:Nat,e.getD (14+k) 0%(if ((r.map af).length:Int)>1 then((r.map af).length:Int) else 1)=(a:Int):=#[(e.getD (14+k) 0%(if ((r.map af).length:Int)>1 then((r.map af).length:Int) else 1)).toNat,by lia]
   have al:a<=r.length:=by
    rw[S] at y;have h2:=y.2
    split at h2<;>lia
   refine Oe [some (aQ c),some (.lst (gf e)),some (aq b),t,some (aQ F),some (af k),some (aq r),some (af a)] (by rw[show af a= .int (e.getD (14+k) 0%(if ((r.map af).length:Int)>1 then((r.map af).length:Int) else 1)) by unfold af;exact GE D.int S.symm];rfl) ?_
   have U:cutD (r.map af) (some (a:Int)) none=(r.drop a).map af:=by rw[lU _ _ (by rw[u];lia),vp]
   have X:cutD (r.map af) none (some (a:Int))=(r.take a).map af:=by rw[jK _ _ (by rw[u];lia),tX]
   have l2:(r.drop a++r.take a).length=r.length:=by rw[dB,tV,iw];lia
   have Dq:(cutD (r.map af) (some (a:Int)) none).length+(cutD (r.map af) none (some (a:Int))).length<=sizeLine:=by
    rw[U,X,aL,aL];exact small (by rw[dB] at l2;lia)
   exists _,rfl,_,rfl,_,rfl,_,rfl,Dq;refine(?_:lcW _ _ _ (cutD (r.map af) (some (a:Int)) none++cutD (r.map af) none (some (a:Int))) _ _ _);rw[U,X,<-eE];refine l4 (ρ:= [none,some (aq b)]) af (λo=>af (b.getD o 0)) (r.drop a++r.take a) _ (λo ho Y hY=>?_) rfl (small (by lia)) λaG=>?_
   .have:o∈r:=by
     have:o∈r.take a++r.drop a:=List.perm_append_comm.mem_iff.mp ho
     rw[lN] at this;exact this
    have bT:o<b.length:=by rw[N.1];exact g.rng k o (by rw[Q];exact this)
    exact#[_,rfl,_,rfl,_,eS bT,hY]
   .have UP:k<b.length:=by rw[N.1];exact O
    have L:b.getD k 0<F.length:=by rw[n.l];exact N.2.2 _ (qC UP)
    refine#[?_,_,rfl,_,rfl,_,rfl,_,eS UP,_,b.getD k 0,rfl,lD (by rw[aL];exact L),?_]
    .rw[List.all_map,ab7];intro x _;rfl
    .have YO:=n.step a N O
     rw[Q] at YO;refine I _ #[_,some (af k),some (aq r),some (af a),?_,YO]
     have es:(.lst ((F.map aq).set (b.getD k 0) (.lst ((r.drop a++r.take a).map λo=>af (b.getD o 0)))):D)=aQ (F.set (b.getD k 0) ((r.drop a++r.take a).map λx=>b.getD x 0)):=by
      unfold aQ;rw[<-lM];unfold aq;rw[eG];rfl
     rw[<-es];rfl
  .rintro _ ⟨F,p5,p6,p7,rfl,n⟩
   rw[jN,C] at n;have G:=n.good N g;exact#[_,rfl,q F #[G,by rw[n.l];lia,by rw[n.l];lia] n.l]
def uc:Good [[]]:=#[λp q h=>by have:=cw h;cases p<;>simp[row] at h,λp h=>by have:=cw h;cases p<;>simp[row] at h,λp=>by cases p<;>simp[row],λp q h=>by have:=cw h;cases p<;>simp[row] at h,λp a=>by
 obtain rfl:p=0:=by simpa using a
 exact .refl _]
def Lx:cH:=λa P=>∃(b:List Int),a= [.gy b]/\∀v,cZ v->P (aQ v)
def vI:FnOk P w Z.K mg base cg 3 T.d__law_turns.f T.d__law_turns.fd ["_law_script"] (fh Z 2 Lx):=by
 have g:=oM.nd;refine jA 2 T.d__law_turns.F oM [0,1,0] (by decide) (λi R h=>by obtain⟨_,rfl,_⟩:=h;rfl) (λt A outer s H E i R a h=>?_)
 have u:=a.units
 refine#[_,(ao (gF 1 g (fU (ae (c5 ag) ag)))
   (ao (cO rfl FS (bR (aC T.d__law_row (ml T) a (ae (aa 0) (ae ay (ae ay (ae ay ag)))))) (aK 2 g) (ar (PX 1 T.d__law_deed (Oi T) a (aa 2))))
   (ar (nE (pq T.d__law_named (vH T) a (ae (aa 1) (ae (aC T.d__law_row (ml T) a (ae (aa 0) (ae ay (ae ay (ae ay ag))))) ag))))))),?_]
 obtain⟨b,rfl,q⟩:=h;refine#[by show 0<=sizeLine;decide,by show 1<=sizeLine;decide,?_]
 refine#[_,rfl,b,1,36,20736,rfl,by decide,by decide,by decide,by decide,λy B C=>?_]
 refine bS (λj k=>∃(w:W)(c:Option D),k= [some (.gy b),some (aQ w),c]/\cZ w) #[[[]],_,rfl,uc,by decide,by decide] ?_ ?_
 .rintro j _ _ l ⟨d,c,rfl,ok⟩ A m
  obtain⟨x,G,rfl⟩:=cX l;exact#[d,rfl,λz=>by have:=ok.2.1;rw[z] at this;exact absurd this (by decide),_,rfl,x,rfl,ok,λn o=>m _ #[n,_,rfl,o]]
 .rintro _ ⟨d,c,rfl,ok⟩
  exact#[_,rfl,_,rfl,b,2,28,5040,rfl,by decide,by decide,by decide,by decide,λp r I=>#[d,p,rfl,ok,r,λv e _=>#[_,rfl,q v e]]]
variable {P:Program} {w:World} {mg:Str->Option Value} {base:Heap} {Z:DC} (T:Txt Z mg)
def Ha{w v:W}(g:Good w)(len:v.length=w.length)(nod:∀p,p<w.length->(row v p).Nodup)(mem:∀p,p<w.length->∀q,q∈row v p↔q∈row w p):Good v:=by
 have all:∀{p q},q∈row v p↔q∈row w p:=λ {p q}=>by
  by_cases h:p<w.length
  .exact mem p h q
  .exact#[λz=>absurd (cw z) (by lia),λz=>absurd (cw z) h]
 refine#[λp q h=>by rw[len];exact g.rng p q (all.mp h),λp h=>g.irr p (all.mp h),λp=>?_,λp q h=>all.mpr (g.sym p q (all.mp h)),λp f=>?_]
 .by_cases z:p<w.length
  .exact nod p z
  .have:row v p= []:=aby.mpr λq h=>by have:=cw h;lia
   rw[this];exact gB
 .have c:∀{a b},Reach w a b->Reach v a b:=λ {a b} h=>by
   induction h with
   |refl=>exact .refl _
   |step _ d e=>exact .step e (all.mpr d)
  exact c (g.con p (by lia))
def i7(r:List Nat):List V:=r.map λn:Nat=>V.int (n:Int)
theorem ED:∀(r:List Nat),DvAll Z G (i7 r) (r.map af)
 | []=> .nil
 |x::r=> .cons (.int _) (ED r)
def lC(l:List Nat)(i x:Nat):(ins l i x).Perm (x::l):=by
 unfold ins;refine(List.perm_middle).trans ?_;rw[lN]
def RG(w:W)(d:D)(P:W->Prop):Prop:=∃r:List Nat,d=aq r/\r.length=14/\cZ w/\∀a,cZ a->P a
def C1:FnOk P w Z.K mg base cg 1 T.d__law_shuffled.f T.d__law_shuffled.fd ["_law_turns_here","_law_row_here"] (Fe Z RG):=by
 have nd:=kH.nd;refine T.d__law_shuffled.F.ok kH (λvs H Q E h=>?_) (λbo A outer s H vs Q E hr h=>?_)
 .obtain⟨G,a,u,d,w,C,P,rfl,_⟩:=h;rfl
 have hu:=hr.units;obtain⟨G,a,u,_,I,xs0,P',rfl,R0,du,⟨r,rfl,rl,QP,q0⟩,q⟩:=h
 refine#[_,gv (vZ FS rfl (qu (Z:=Z) rfl T.B.range (ae (aE bB rfl T.B.len bx (ae (aa 0) ag)) ag)) (jV (i:=2) nd rfl (by subst_eqs))
  (gv (C8 (aX (Z:=Z) (jT hu) (aN dN (aY (aa 1) (aa 2)) ay) ay (ba _))
   (bY (jv (i:=3) nd rfl (by subst_eqs) (vX cp))
   (bY (vZ FS rfl (eO (Z:=Z) rfl T.B.enumerate (ae (aY (aa 0) (aa 2)) ag)) (vY rfl (jD (jV (i:=4) nd rfl (by subst_eqs)) (jD (jV (i:=5) nd rfl (by subst_eqs)) sZ)))
    (gv (fO (oi Pi ace acf xY (pv 3) (bq (aN (Z:=Z) dN (aN jr (aN jr (aY (aa 1) (aa 2)) ay) (aN b9 (aa 4) ay)) (aN b9 (aa 4) ay)) (bq (pv 5) cp))))))
   (gv (ju (pv 3) (mv (pv 0) (aa (Z:=Z) 2) set_list))))) tu))),?_]
 have lw:(I.map aq).length=I.length:=aL _;obtain⟨g0,l1,kQ⟩:=id QP;refine#[G,[some (aQ I),some (aq r),none,none,none,none],λds=>ds=fY 0 I.length,R0.sub,aS (fG R0) (aS du (bC (bC (bC (bC fC))))),?_,?_]
 .exact#[_,rfl,#[by rw[lw];lia,by rw[lw];lia],by rw[lw];rfl]
 rintro _ rfl J G1 H1 x1 it;have rdl:(fY 0 I.length).length=I.length:=by unfold fY;simp
 refine#[λi m σ O=>m=I.length-i/\i<=I.length/\∃(g:W)(M:Hp)(C:List V)(o2 o3 o4 o5:Option V),σ= [some (.ref a),some u,o2,o3,o4,o5]/\Rw Z a g M O C/\Dv Z M u (aq r)/\eH a G H M O/\cZ g/\g.length=I.length,#[_,rfl,fq _,I,G1,xs0,_,_,_,_,rfl,R0.ext x1,du.mono x1.gg,eH.of x1,QP,rfl],?_];rintro i _ _ H2 ⟨rfl,hi,g,G2,C,o2,o3,o4,o5,rfl,R2,W3,X2,L,l2⟩;obtain⟨go,stop,yld⟩:=it G2 G2 H2 (.refl _) R2.sub i;rw[rdl] at go stop yld
 by_cases bT:i<I.length
 rotate_left
 .exact .inl #[stop (by lia),q _ (q0 g L) G2 H2 C R2 X2]
 refine .inr #[go bT,_,λaz O n=>#[I.length-(i+1),by lia,n],λx H3 y=>?_]
 obtain⟨G3,d,x3,sC,dv⟩:=yld x H3 bT y;rw[om bT] at sC;cases sC;cases dv.ofInt;rw[show(0:Int)+(i:Int)=(i:Int) by lia]
 have R3:=R2.ext x3;have T7:=W3.mono x3.gg;have X3:=X2.trans (eH.of x3);clear R2 W3 X2;have EY:dR (r.map af) (i:Int)=some (af (r.getD i 0)):=eS (by lia)
 have Qm:i<g.length:=by lia
 refine#[G3,[some (aQ g),some (aq r),some (af i),none,none,none],λb=>True,R3.sub,aS (fG R3) (aS T7 (aS (.int _) (bC (bC (bC fC))))),#[_,rfl,_,rfl,_,EY,(by show(0:Int)<3;decide),zB #[_,rfl,trivial]],?_]
 rintro t _ G4 H4 x4;have U:=R3.ext x4;have T8:=T7.mono x4.gg;have X4:=X3.trans (eH.of x4);clear R3 T7 X3;cases t with
 |false=>exact cc #[rfl,by lia,g,G4,C,_,_,_,_,rfl,U,T8,X4,L,l2]
 |true=>
  refine bL #[by decide,λb X=>?_]
  have nba:b≠a:=λz=>by rw[z,U.sub _ _ U.at_] at X;cases X
  have gb:G4 b=none:=U.sub.free X
  have Xt:H b=none:=by
   cases e:H b with
   |none=>rfl
   |some o=>rw[X4.hh b o nba e] at X;cases X
  have xb:Ext G4 H4 G4 (upd H4 b (.lst [])):=(Ext.refl U.sub).side X;have R5:=U.ext xb;have X5:=X4.trans (eH.of xb);have hr5:=eV L.1 i;obtain⟨v,N⟩:∃v,v=row g i:=#[_,rfl];have lrr:(v.map af).length=v.length:=aL _;refine#[G4,[some (aQ g),some (aq r),some (af i),none,none,none],λds=>ds=fM (v.map af),R5.sub,aS (fG R5) (aS T8 (aS (.int _) (bC (bC (bC fC))))),#[_,rfl,_,rfl,_,gw Qm,by rw[N];exact rfl],?_]
  rintro _ rfl J2 G6 H6 x6 U6;have edl:(fM (v.map af)).length=v.length:=by unfold fM;simp
  have R6:=R5.ext x6;have X6:=X5.trans (eH.of x6)
  refine#[λj m σ O=>m=v.length-j/\j<=v.length/\∃(M:Hp)(l:List Nat)(o4 o5:Option V),σ= [some (.ref a),some u,some (.int (i:Int)),some (.ref b),o4,o5]/\Rw Z a g M O C/\Dv Z M u (aq r)/\aJ G6 M/\eH a G H M O/\O b=some (.lst (i7 l))/\M b=none/\l.Perm (v.take j),
   #[_,rfl,fq _,G6,[],_,_,rfl,R6,T8.mono x6.gg, .refl _,X6,x6.hh _ _ av,x6.off b (by rw[av];exact λz=>nomatch z) gb, .refl _],?_]
  rintro j _ _ H7 ⟨rfl,hj,Y,l,o4,o5,rfl,R7,W4,s7,X7,UB,Xl,Ld⟩;have ll7:l.length<=j:=by rw[Ld.length_eq,iw];lia
  have aao:v.length<=14:=by rw[N];have:=eV L.1 i;have:=L.2.2;lia
  obtain⟨go2,O8,Tb⟩:=U6 Y H7 s7 R7.sub j;rw[edl] at go2 O8 Tb
  by_cases XU:j<v.length
  .refine .inr #[go2 XU,_,λaz O n=>#[v.length-(j+1),by lia,n],λx H8 y=>?_]
   obtain⟨G8,d,S,sC,dv⟩:=Tb x H8 XU y;obtain⟨z,hz,rfl⟩:=iC sC;obtain⟨R,hq,rfl⟩:=cX hz;obtain⟨t,vs,rfl,ht,ds⟩:=dv.n5;obtain⟨v1,v2,rfl,d1,d2⟩:=ds.CW;cases d1.ofInt;cases d2.ofInt;have R8:=R7.ext S;have X8:=X7.trans (eH.of S);have UC:=S.hh _ _ UB;have gb8:=S.off b (by rw[UB];exact λz=>nomatch z) Xl
   have W5:=W4.mono S.gg;exists t,_,rfl,gm.of (S.sub _ _ ht),rfl,_,_,rfl,_,_,rfl,rfl;have md:=qM ((r.getD i 0:Int) / 3 / ((j:Int)+1)) ((j:Int)+1) (by lia)
   obtain⟨k,hk⟩:∃k:Nat,(r.getD i 0:Int) / 3 / ((j:Int)+1)%((j:Int)+1)=(k:Int):=#[((r.getD i 0:Int) / 3 / ((j:Int)+1)%((j:Int)+1)).toNat,by lia]
   exists .ref b,rfl,ty_list UC;refine#[G8,[none,some (aq r),some (af i),none,some (af j),none],λd=>d=af k,R8.sub,bC (aS W5 (aS (.int _) (bC (aS (.int _) (bC fC))))),?_,?_]
   .refine#[_,rfl,_,rfl,_,EY,#[by decide,by decide],_,rfl,#[?_,?_],_,rfl,?_,GE D.int hk]
    .show(0:Int)<(j:Int)+1;lia
    .show(j:Int)+1<_;lia
    .show(0:Int)<(j:Int)+1;lia
   rintro _ rfl v9 G9 H9 x9 MP;cases MP.ofInt;have R9:=R8.ext x9;have X9:=X8.trans (eH.of x9);have hb9:=x9.hh _ _ UC;have Xm:=x9.off b (by rw[UC];exact λz=>nomatch z) gb8
   have li:∀s:List Nat,(i7 s).length=s.length:=λs=>aL _;have lle:l.length=j:=by rw[Ld.length_eq,iw];lia
   refine#[_,rfl,b,i7 l,(k:Int), .int (R:Int),rfl,rfl,hb9,by lia,by rw[li];lia,by rw[li];exact DX (show l.length<=14 by lia) (by decide),?_]
   have e1:Wb.ins (i7 l) (k:Int).toNat (.int (R:Int))=i7 (ins l k R):=by
    rw[abY];unfold ins i7;rw[eE,cf,tX,vp]
   have xw:aJ G9 (upd H9 b (.lst (i7 (ins l k R)))):=λc o e=>by
    rw[ax (λz=>by rw[z,Xm] at e;cases e)];exact R9.sub c o e
   rw[e1];refine#[rfl,by lia,G9,ins l k R,_,_,rfl,#[xw,R9.at_,R9.dv,R9.ne],W5.mono x9.gg,(s7.trans S.gg).trans x9.gg,#[X9.gg,λc o n e=>?_,X9.off],av,Xm,?_]
   .rw[ax (λz=>by rw[z,Xt] at e;cases e)];exact X9.hh c o n e
   .rw[abJ,hq,Option.toList_some]
    exact(lC l k R).trans ((List.Perm.cons R Ld).trans (List.perm_append_singleton R _).symm)
  .have ej:j=v.length:=by lia
   subst ej;rw[abe] at Ld;refine .inl #[O8 (by lia),?_]
   have sb:aJ Y (upd Y b (.lst (i7 l))):=aO Xl _
   have LP:Rw Z a g (upd Y b (.lst (i7 l))) H7 C:=#[λc o e=>by
    by_cases z:c=b
    .subst z;rw[av] at e;cases e;exact UB
    .rw[ax z] at e;exact R7.sub c o e,sb _ _ R7.at_,R7.dv.mono sb,R7.ne]
   have Ti:eH a G H (upd Y b (.lst (i7 l))) H7:=#[λc o n e=>sb _ _ (X7.gg c o n e),X7.hh,λc n h1 h2=>by
    rw[ax (λz=>h1 (by rw[z];exact Xt))];exact X7.off c n h1 h2]
   have dvb:Dv Z (upd Y b (.lst (i7 l))) (.ref b) (aq l):= .lst av (ED l);have W0:=W4.mono sb;exists _,rfl,_,rfl;refine#[_,[none,none,some (af i),none,none,none],λd=>d=af i,LP.sub,bC (bC (aS (.int _) (bC (bC (bC fC))))),#[_,rfl,rfl],?_];rintro _ rfl v11 J6 LG yV EC;have wo:=LP.ext yV;have Tj:=Ti.trans (eH.of yV);have xl:C.length=g.length:=by rw[wo.dv.length,aL]
   refine#[a,C,(i:Int),i,rfl,EC.ofInt,wo.sub _ _ wo.at_,vU (by rw[xl];exact Qm),?_]
   have Tu:DvAll Z J6 (C.set i (.ref b)) ((g.set i l).map aq):=by
    rw[<-lM];exact wo.dv.set (dvb.mono yV.gg) i
   have sl:(g.set i l).length=g.length:=fJ ..;have Th:=wo.put Tu (λz=>by have:=GE b6 z;rw[sl,lO] at this;lia)
   have To:=Tj.trans (eH.put (.lst (C.set i (.ref b))));have W2:Dv Z (upd J6 a (.lst (C.set i (.ref b)))) u (aq r):=yo wo (W0.mono yV.gg) λc o n e=>by rw[ax n];exact e
   refine#[rfl,by lia,g.set i l,_,_,_,_,_,_,rfl,Th,W2,To,#[Ha L.1 sl (λp hp=>?_) (λp hp z=>?_),by rw[sl];exact L.2.1,by rw[sl];exact L.2.2],by rw[sl];exact l2]
   .rw[jW Qm]
    split
    .rw[Ld.nodup_iff,N];exact L.1.nod i
    .exact L.1.nod p
   .rw[jW Qm]
    split
    .next e=>rw[Ld.mem_iff,N,e]
    .exact Iff.rfl
variable {P:Program} {w:World} {mg:Str->Option Value} {base:Heap} {Z:DC} (T:Txt Z mg)
def O3:cH:=λc P=>∃(w:W)(a b:Nat),c= [.cD w,af a,af b]/\Good w/\a<w.length/\b<w.length/\P (.bl (decide (b∈row w a)))
def sX:FnOk P w Z.K mg base cg 2 T.m_tied.f T.m_tied.fd ["self","a","b"] (bg Z O3):=by
 have i:=tF.nd;refine bD T.m_tied.F tF [0,0,0,0] (by decide) (λj R h=>by obtain⟨_,_,_,rfl,_⟩:=h;rfl) (λn A outer s H E j R d h=>?_)
 have o:=d.units
 refine#[_,(ao (aH false 3 i (aE bB rfl T.B.len bx (ae (lj T.W (aa 0)) ag)))
   (ar (bf (vQ (aC T.d_is_among (fb T) d (ae (aa 1) (ae (aa 3) ag))) (vQ (aC T.d_is_among (fb T) d (ae (aa 2) (ae (aa 3) ag))) (BA (vR HQ (aa 2) (aY (lj T.W (aa 0)) (aa 1)) (by with_unfolding_all rfl)))))))),?_]
 obtain⟨c,a,b,rfl,g,k,p,q⟩:=h;have e:(c.map aq).length=c.length:=aL _;exists _,rfl,c,rfl,trivial;have l:decide ((0:Int)<=(a:Int)/\(a:Int)<((c.map aq).length:Int))=true:=by rw[e];exact IR (by lia)
 have m:decide ((0:Int)<=(b:Int)/\(b:Int)<((c.map aq).length:Int))=true:=by rw[e];exact IR (by lia)
 refine#[_,rfl,_,rfl,_,_,rfl,_,GE D.bl l,bL ?_];refine#[_,rfl,_,rfl,_,_,rfl,_,GE D.bl m,bL ?_];exists _,rfl,_,rfl,c,rfl,_,rfl,_,gw k,rfl,dJ _;rw[mo eD];rw[nU];exact q
def ye:FnOk P w Z.K mg base cg 1 T.m_turns.f T.m_turns.fd ["self"] (fh Z 1 O4):=by
 have d:=qh.nd;refine jA 1 T.m_turns.F qh [0] (by decide) (λb R h=>by obtain⟨_,rfl,_⟩:=h;rfl) (λe A outer s H E b R c h=>?_)
 have g:=c.units;refine#[_,(ar (nE (Mx (NC:= ["row"]) (src:= [none]) rfl (vv (aw jx)) trivial (bR (lj T.W (aa 0))) (λ_ _ _=>(cW 0 (show(["row"]:List Str).Nodup from by decide+kernel))) (λ_ _ _=>gq) (λ_ _ _=>(jM nq rfl T.B.list nk (ae (aa 0) ag)))))),?_]
 obtain⟨a,rfl,i,q⟩:=h;exact#[_,rfl,a,rfl,l4 (ρ:= [none]) aq aq a _ (λy j Y h=>#[_,rfl,h]) rfl (small (by lia)) λk=>q]
def RD:cH:=λa P=>∃(l:List Nat)(x p:Nat),a= [aq l,af x,af p]/\l.length<=100/\x∈l/\P (aq (fF l x p))
def mK:FnOk P w Z.K mg base cg 1 T.d_put_behind.f T.d_put_behind.fd ["row","ahead","p"] (fh Z 1 RD):=by
 have g:=oQ.nd;refine jA 1 T.d_put_behind.F oQ [0,0,0,0] (by decide) (λi R h=>by obtain⟨_,_,_,rfl,_⟩:=h;rfl) (λm A outer s H E i R j h=>?_)
 have n:=j.units
 refine#[_,(ao (aH false 3 g (aN b9 (lh (aa 0) (aa 1)) ay))
   (ar (nE (Jn (aN b9 (fT (aa 0) hV (hZ (aa 3))) (c5 (ae (aa 2) ag))) (fT (aa 0) (hZ (aa 3)) hV))))),?_]
 obtain⟨l,x,p,rfl,o,a,q⟩:=h;have c:(l.map af).length=l.length:=aL _;have r:=y9.mpr a;exists _,rfl,_,rfl,_,rfl,rfl,dJ _,_,_,(bM a).1,(bM a).2.1,(bM a).2.2,trivial
 have b:cutD (l.map af) none (some (((l.idxOf x:Nat):Int)+1))=(l.take (l.idxOf x+1)).map af:=by
  have:=jK (l.map af) (l.idxOf x+1) (by rw[c];lia)
  rw[tX];exact this
 have d:cutD (l.map af) (some (((l.idxOf x:Nat):Int)+1)) none=(l.drop (l.idxOf x+1)).map af:=by
  have:=lU (l.map af) (l.idxOf x+1) (by rw[c];lia)
  rw[vp];exact this
 have sz:(cutD (l.map af) none (some (((l.idxOf x:Nat):Int)+1))).length+1<=sizeLine:=by rw[b,aL,iw];exact small (by lia)
 have k:(cutD (l.map af) none (some (((l.idxOf x:Nat):Int)+1))++ [af p]).length+(cutD (l.map af) (some (((l.idxOf x:Nat):Int)+1)) none).length<=sizeLine:=by
  rw[b,d,dB,aL,aL,iw,tV];exact small (by simp;lia)
 have e:(.lst ((cutD (l.map af) none (some (((l.idxOf x:Nat):Int)+1))++ [af p])++cutD (l.map af) (some (((l.idxOf x:Nat):Int)+1)) none):D)=aq (fF l x p):=by
  rw[b,d];unfold aq fF ins;rw[eE,cf,kM];rfl
 rw[<-e] at q;exact#[_,rfl,_,rfl,_,rfl,by show 1<=sizeLine;decide,sz,_,rfl,_,rfl,_,rfl,_,rfl,k,q]
noncomputable def gU(w:W):List (List Nat):=if w.length=1 then[[0]] else l3 w
def NW{w:W}{P:D->Prop}(g:Good w)(f:1<=w.length)(i:w.length<=14)(h:(∀r∈gU w,∀k,k<r.length->r.getD k 0<w.length)->P (.lst ((gU w).map aq))):yC [.cD w] P:=by
 refine#[w,rfl,g,f,i,λe=>?_,λe o R j=>?_]
 .have c:gU w= [[0]]:=tz e
  rw[c] at h;refine h λr a k b=>?_;rw[dD] at a;subst a
  have:k=0:=by simpa using b
  subst this;exact f
 .have c:gU w=l3 w:=mo (by lia)
  rw[c] at h;refine h λr a k b=>?_;rw[j] at a;unfold f7 at a;obtain⟨l,m,rfl⟩:=cz.mp a;obtain⟨d,Rd,n,_⟩:=R.rnd l m;rw[aL] at b;rw[Ku];refine cw (Rd.bE g n _ ?_);rw[fz,eI b];exact qp b
def tR(w:W)(r:List Nat)(i j:Nat):W:=tie w (r.getD i 0) ((row w (r.getD i 0)).idxOf (r.getD ((i+(r.length-1))%r.length) 0)+1) (r.getD j 0) ((row w (r.getD j 0)).idxOf (r.getD ((j+(r.length-1))%r.length) 0)+1)
structure D0 (w:W) (land:Nat) (r:List Nat) (i j:Nat):Prop where
 n2:2<=w.length
 at_:(gU w)[land]? =some r
 L:kj w r
 hi:i<r.length
 hj:j<r.length
 ne:r.getD j 0≠r.getD i 0
 nt:r.getD j 0∉row w (r.getD i 0)
def D0.ok{w:W}(C:D0 w land r i j)(g:Good w)(h:w.length<=14):cZ (tR w r i j):=by
 have a:=C.L.lt i C.hi;have b:=C.L.lt j C.hj;unfold tR;exact#[Ap g a b C.ne C.nt,by rw[iZ];lia,by rw[iZ];exact h]
def RE:cH:=λa P=>∃(w:W)(land i j:Nat)(r:List Nat),a= [.cD w,af land,af i,af j]/\Good w/\w.length<=14/\D0 w land r i j/\P (.cD (tR w r i j))
def HW:FnOk P w Z.K mg base cg 6 T.d_put_in.f T.d_put_in.fd ["web","land","i","j"] (bg Z RE):=by
 have l:=yy.nd;refine bD T.d_put_in.F yy [0,0,0,0,0,0,0,0,1] (by decide) (λS R h=>by obtain⟨_,_,_,_,_,rfl,_⟩:=h;rfl) (λbo A outer s H E S R d h=>?_)
 have U:=d.units
 refine#[_,(ao (aH false 4 l (aC T.d_lands (lH T) d (ae (aa 0) ag)))
   (ao (bH (iN (e8 (aC T.d_is_among (fb T) d (ae (aa 1) (ae (aE bB rfl T.B.len bx (ae (aa 4) ag)) ag))))) (ar lq) aU)
   (ao (aH false 5 l (aY (aa 4) (aa 1)))
   (ao (bH (DW.dt (ub (iN (e8 (aC T.d_is_among (fb T) d (ae (aa 2) (ae (aE bB rfl T.B.len bx (ae (aa 5) ag)) ag))))) (pB (iN (e8 (aC T.d_is_among (fb T) d (ae (aa 3) (ae (aE bB rfl T.B.len bx (ae (aa 5) ag)) ag)))))))) (ar lq) aU)
   (ao (BE 6 7 rfl l (ae (aY (aa 5) (aa 2)) (ae (aY (aa 5) (aa 3)) ag)))
   (ao (bH (DW.dt (ub (aX (jT U) (aa 6) (aa 7) (ba _)) (pB (e8 (rT T.W (aa 0) T.m_tied.m (sX T) (d.mono (by decide)) T.m_tied.b (ae (aa 6) (ae (aa 7) ag))))))) (ar lq) aU)
   (ao (gF 8 l (Kl T.W (aa 0) T.m_turns.m (ye T) (d.mono (by decide)) T.m_turns.b))
   (ao (w6 8 (aa 6) (pq T.d_put_behind (mK T) d (ae (aY (aa 8) (aa 6)) (ae (aY (aa 5) (aN pK (aa 2) ay)) (ae (aa 7) ag)))))
   (ao (w6 8 (aa 7) (pq T.d_put_behind (mK T) d (ae (aY (aa 8) (aa 7)) (ae (aY (aa 5) (aN pK (aa 3) ay)) (ae (aa 6) ag)))))
   (ar (bf (Ex T.mkW (lG T) (d.mono (by decide)) rfl T.mC T.m___init__b (ae (aa 8) ag))))))))))))),?_]
 obtain⟨c,land,i,j,r,rfl,g,v,C,q⟩:=h;have n:=C.ok g v;obtain⟨G,e,L,o,t,ne,X⟩:=C;exists _,rfl;dsimp only[jf];refine NW g (by lia) v λ_=>#[trivial,?_]
 have Y:land<(gU c).length:=(dm.mp e).1;have I:((gU c).map aq).length=(gU c).length:=aL _;have J:dR ((gU c).map aq) (land:Int)=some (aq r):=ft (by rw[df,e];rfl)
 have ta:=L.tie G i o;have tb:=L.tie G j t;have u:=L.lt i o;have z:=L.lt j t;have ai:dR (r.map af) (i:Int)=some (af (r.getD i 0)):=eS o;have aj:dR (r.map af) (j:Int)=some (af (r.getD j 0)):=eS t;have pa:=pP o;have pb:=pP t;have M:(r.map af).length=r.length:=aL _;generalize gU c=N at Y I J;have d1:decide ((0:Int)<=(land:Int)/\(land:Int)<((N.map aq).length:Int))=true:=by rw[I];exact IR (by lia)
 exists _,rfl,_,rfl,_,_,rfl,rfl;refine(?_:if (!decide ((0:Int)<=(land:Int)/\(land:Int)<((N.map aq).length:Int)))=true then _ else _);rw[d1];refine cc ?_;exists _,rfl,_,rfl,_,J,trivial;have d2:decide ((0:Int)<=(i:Int)/\(i:Int)<((r.map af).length:Int))=true:=by rw[M];exact IR (by lia)
 have d3:decide ((0:Int)<=(j:Int)/\(j:Int)<((r.map af).length:Int))=true:=by rw[M];exact IR (by lia)
 exists _,rfl,_,rfl,_,_,rfl,rfl;refine(?_:if (!decide ((0:Int)<=(i:Int)/\(i:Int)<((r.map af).length:Int)))=true then _ else _);rw[d2];refine cc ?_;exists _,rfl,_,rfl,_,_,rfl,rfl;refine(?_:if (!decide ((0:Int)<=(j:Int)/\(j:Int)<((r.map af).length:Int)))=true then _ else _);rw[d3];refine cc ?_;exists _,rfl,_,rfl,_,ai,_,rfl,_,rfl,_,aj,_,_,rfl;unfold tR at q n;generalize r.getD i 0=a at*;generalize r.getD j 0=b at*;generalize r.getD ((i+(r.length-1))%r.length) 0=x at*;generalize r.getD ((j+(r.length-1))%r.length) 0=y at*;exists _,rfl,_,rfl;refine(?_:Bu (.int (a:Int)) (.int (b:Int)) _);refine wQ #[_,rfl,SD (GT (by lia)) ?_]
 refine#[_,rfl,c,rfl,_,rfl,_,rfl,c,a,b,rfl,g,u,z,rfl,SD (GT X) ?_];exists _,rfl,c,rfl,c,rfl,v,_,rfl;have rla:=eV g a;have rlb:=eV g b;have lw:(c.map aq).length=c.length:=aL _;have O:∀r:List Nat,(r.map af).all e9=true:=dJ;refine#[_,rfl,_,rfl,_,gw u,_,rfl,_,rfl,_,pa,_,rfl,row c a,x,b,rfl,by lia,ta,_,rfl,O _,_,rfl,_,rfl,(a:Int),a,rfl,lD (by rw[lw];exact u),?_]
 have e1:(c.map aq).set a (.lst ((fF (row c a) x b).map af))=(c.set a (fF (row c a) x b)).map aq:=by rw[uK];rfl
 have rb:row (c.set a (fF (row c a) x b)) b=row c b:=by rw[jW u,mo (Ne.symm ne)]
 have Q:(c.set a (fF (row c a) x b)).length=c.length:=fJ ..;rw[e1];have k:=gw (w:=c.set a (fF (row c a) x b)) (p:=b) (by rw[Q];exact z)
 rw[rb] at k;refine#[_,rfl,_,rfl,_,k,_,rfl,_,rfl,_,pb,_,rfl,row c b,y,a,rfl,by lia,tb,_,rfl,O _,_,rfl,_,rfl,(b:Int),b,rfl,lD (by rw[aL,Q];exact z),?_]
 have e2:((c.set a (fF (row c a) x b)).map aq).set b (.lst ((fF (row c b) y a).map af))=(tie c a ((row c a).idxOf x+1) b ((row c b).idxOf y+1)).map aq:=by
  unfold tie;rw[uK,uK,uK];rfl
 rw[e2];exact#[_,rfl,_,rfl,n.1,n.2.1,n.2.2,q]
variable {P:Program} {w:World} {mg:Str->Option Value} {base:Heap} {Z:DC} (T:Txt Z mg)
def QG{w:W}(g:Good w)(c:w.length<=14)(R:b7 w a):∀r∈f7 a,kj w r:=λr b=>by
 unfold f7 at b;obtain⟨f,h,rfl⟩:=cz.mp b;obtain⟨d,⟨k,i,e,j,rfl⟩,l,_⟩:=R.rnd f h;exact E9 g c l i j e
theorem AA:∀(l:List (List a)),(∀r∈l,r≠ [])->l.length<=l.flatten.length
 | [],_=>bJ _
 |r::l,h=>by
  have:=AA l λr b=>h r (eJ _ b)
  have c:=DV.mpr (h r (dq ..));rw[cU,qo,dB];lia
def sP{w:W}{P:D->Prop}(g:Good w)(l1:1<=w.length)(kQ:w.length<=14)(h:(∀r∈gU w,kj w r)->(gU w).length<=300->P (.lst ((gU w).map aq))):yC [.cD w] P:=by
 refine#[w,rfl,g,l1,kQ,λe=>?_,λe rs R eL=>?_]
 .have e0:gU w= [[0]]:=if_pos e
  rw[e0] at h;refine h (λr hr=>?_) (by decide)
  rw[dD] at hr;subst hr
  exact#[by decide,by decide,λk hk=>by(obtain rfl:k=0:=(by simpa using hk);exact l1),λz=>by lia]
 .have e0:gU w=l3 w:=if_neg (by lia)
  rw[e0] at h;refine h (λr hr=>QG g kQ R r (by rw[<-eL];exact hr)) ?_
  rw[eL];unfold f7;rw[aL];have c1:=fL g;have c2:w.length*w.length<=14*14:=vo kQ kQ;have c3:=R.perm.length_eq
  have c4:=AA rs λr hr z=>by
   obtain⟨d,⟨k,k0,_,_,rfl⟩,_⟩:=R.rnd r hr
   have:=congrArg b6 z
   rw[iL,lO] at this;lia
  lia
def tc(w:W):Nat:=(jy (row w) w.length).length
def RS{w:W}(g:Good w):2*tc w=(bE w).length:=by
 have:=(wD g (.refl _)).length_eq
 rw[dB,aL] at this;unfold tc;lia
theorem FU:∀w:W,(w.map λr=>(r.length:Int)).sum=((lW w:Nat):Int)
 | []=>rfl
 |r::w=>by
  rw[cf,zi,FU w];unfold lW;rw[cf,zi];lia
noncomputable def ix(w:W):D:= .tup [.int (w.length:Int), .int (tc w:Int), .int ((gU w).length:Int)]
def Ls:cH:=λa P=>∃(w:W),a= [.cD w]/\cZ w/\P (ix w)
def AI:FnOk P w Z.K mg base cg 4 T.d_count.f T.d_count.fd ["web"] (bg Z Ls):=by
 have o:=AS.nd;refine bD T.d_count.F AS [0] (by decide) (λe R h=>by obtain⟨_,rfl,_⟩:=h;rfl) (λp A outer s H E e R c h=>?_)
 have r:=c.units;refine#[_,(ar (bf (bU (ae (iB T.W (aa 0) T.m_many.m (js T) (c.mono (by decide)) T.m_many.b) (ae (aE bB rfl T.B.len bx (ae (iB T.W (aa 0) T.m_ties.m (mj T) (c.mono (by decide)) T.m_ties.b) ag)) (ae (aE bB rfl T.B.len bx (ae (aC T.d_lands (lH T) c (ae (aa 0) ag)) ag)) ag)))))),?_]
 obtain⟨a,rfl,⟨g,i,d⟩,q⟩:=h;refine#[_,rfl,a,rfl,a,rfl,_,rfl,a,rfl,a,rfl,g,d,λj k t=>?_];exists _,rfl;dsimp only[jf];refine sP g i d λ_ _=>?_;refine#[by show 3<=sizeLine;decide,?_]
 have l:(j.map pairD).length=tc a:=by rw[aL,k.length_eq];rfl
 have n:((gU a).map aq).length=(gU a).length:=aL _;unfold ix at q;rw[<-l,<-n] at q;exact q
def gZ(w:W):Prop:=(w.length:Int)+((gU w).length:Int)=(tc w:Int)+2
def Lw:cH:=λa P=>∃(w:W),a= [.cD w]/\cZ w/\((gZ w->P (.bl true))/\(¬gZ w->P (.bl false)))
def CZ:FnOk P w Z.K mg base cg 5 T.d_is_plane.f T.d_is_plane.fd ["web"] (bg Z Lw):=by
 have a:=tK.nd;refine bD T.d_is_plane.F tK [0,0,0,0] (by decide) (λe R h=>by obtain⟨_,rfl,_⟩:=h;rfl) (λi A outer s H E e R b h=>?_)
 have g:=b.units
 refine#[_,(ao (BD (aC T.d_count (AI T) b (ae (aa 0) ag)) (fB 3 rfl (aV (aK 1 a) (aV (aK 2 a) (aV (aK 3 a) cQ)))))
   (ar (bf (vR (jT g) (aN b9 (aa 1) (aa 3)) (aN b9 (aa 2) ay) (ba _))))),?_]
 obtain⟨d,rfl,ok,q⟩:=h;exists _,rfl,d,rfl,ok;unfold ix;exists rfl,rfl;exists _,rfl,_,rfl,_,rfl;refine wQ ?_
 by_cases c:gZ d
 .have:=q.1 c
  unfold gZ at c;rw[IR c];exact this
 .have:=q.2 c
  unfold gZ at c;rw[GT c];exact this
def Vi(a:List D):Prop:=∃d,a= [d]
def zQ:FnOk P w Z.K mg base cg 2 T.j_NotPlane.f T.j_NotPlane.fd ["self","counted"] (O1 Z T.e_NotPlane ["counted"] Vi):=by
 have B:=iy.nd;refine T.j_NotPlane.F.ok iy (λl H Q E h=>?_) (λC A outer s H l Q E I h=>?_)
 .obtain⟨a,n,G,p,rfl,_,_,_,dv,_,r,_⟩:=h
  have:=dv.length
  simp at r ⊢;lia
 obtain⟨a,n,G,p,rfl,g,t,j,dv,⟨d,rfl⟩,_,q⟩:=h;obtain⟨y,rfl,u⟩:=dv.ofOne;exists _,bY (fO (La rfl T.xb.m T.xb.sg T.xb.rd T.xb.fc (bq (pv 0) (bq C5 cp)))) (gv (OJ (pv 0) (pv 1) rfl));exists _,rfl,a,T.e_NotPlane,none,_,rfl,g,T.q_NotPlane.obj;refine#[_,rfl,_,rfl,a,T.e_NotPlane,[],rfl,T.q_NotPlane.cls,T.n_NotPlane_counted, .inl #[rfl,g,λi b=>?_]];have v:a≠i:=aD g b;have k:G i=none:=j.free b;refine q i [y] G _ (.refl _) (λc o e=>?_) (λc o x e=>?_) (λc _ z=>z) ?_ b av k (.cons u .nil)
 .rw[ax (aD e k),ax (aD e t)];exact j _ _ e
 .rw[ax (aD e b),ax x];exact e
 .rw[ax v,av]
def Lv(c:Addr):zk:=λa P R=>∃(w:W),a= [.cD w]/\cZ w/\(gZ w->P .bb)/\(¬gZ w->R (.err c ["counted"] [ix w]))
def mL:FnOk P w Z.K mg base (rm P w) 6 T.d_need_plane.f T.d_need_plane.fd ["web"] (iW Z (Lv T.e_NotPlane)):=by
 have j:=oP.nd;refine pD T.d_need_plane.F oP [0] (by decide) (λd R e h=>by obtain⟨_,rfl,_⟩:=h;rfl) (λk A outer s H E d R e a h=>?_)
 have l:=a.units;exists _,(ar (bH (iN (e8 (aC T.d_is_plane (CZ T) a (ae (aa 0) ag)))) (ar (GQ rfl T.j_NotPlane (zQ T) a T.q_NotPlane T.g_NotPlane (ae (aC T.d_count (AI T) a (ae (aa 0) ag)) ag))) aU));obtain⟨b,rfl,ok,g,i⟩:=h;refine#[_,rfl,b,rfl,ok,λc=>#[rfl,cc (g c)],λc=>#[rfl,bL ?_]];exact#[_,rfl,b,rfl,ok,#[_,rfl],rfl,i c]
def Gp(d:D):Prop:=d= .bb\/∃l:List Nat,d=aq l/\l.length<=300
def Kf{P:D->Prop}(k:Gp d)(h:∀b,P (.bl b)):nv (aq l) d P:=by
 rcases k with rfl| ⟨m,rfl,_⟩
 .refine#[_,_,jw l,rfl,by have:=iR l;lia,?_]
  rw[tz rfl];exact h _
 .refine#[_,_,jw l,jw m,by have:=iR l;lia,?_]
  rw[tz rfl];exact h _
def FQ:cH:=λb P=>∃(w:W)(a:D),b= [.cD w,a]/\Gp a/\cZ w/\2<=w.length/\(∀land r i j,D0 w land r i j->P (.tup [af land,af i,af j]))/\P .bb
def mN:FnOk P w Z.K mg base cg 4 T.d_next_corner.f T.d_next_corner.fd ["web","kept"] (bg Z FQ):=by
 have q:=mT.nd;refine bD T.d_next_corner.F mT [0,0,0,0,0,0,0] (by decide) (λds R h=>by obtain⟨_,_,rfl,_⟩:=h;rfl) (λbo A outer s H E ds R v h=>?_)
 have N:=v.units
 refine#[_,(ao (cO rfl FS (eO rfl T.B.enumerate (ae (aC T.d_lands (lH T) v (ae (aa 0) ag)) ag)) (fB 2 rfl (aV (aK 2 q) (aV (aK 3 q) cQ))) (ar (bH (DW.dt (rX (aX Vg (aE bB rfl T.B.len bx (ae (aa 3) ag)) ay (ba _)) (nG (aX (n4 N) (aa 3) (aa 1) (ba _))))) (ar (cO rfl FS (eO rfl T.B.enumerate (ae (aa 3) ag)) (fB 2 rfl (aV (aK 4 q) (aV (aK 5 q) cQ))) (ao (aH false 6 q (aN dN (aN b9 (aa 4) ay) (aE bB rfl T.B.len bx (ae (aa 3) ag))))
   (ar (bH (DW.dt (rX (aX (n4 N) (aa 5) (aY (aa 3) (aa 6)) (ba _)) (nG (iN (e8 (rT T.W (aa 0) T.m_tied.m (sX T) (v.mono (by decide)) T.m_tied.b (ae (aa 5) (ae (aY (aa 3) (aa 6)) ag)))))))) (ar (bf (bU (ae (aa 2) (ae (aa 4) (ae (aa 6) ag)))))) aU))))) aU)))
   (ar (bf cM))),?_]
 obtain⟨p,t,rfl,kk,⟨g,l1,kQ⟩,h2,q1,q2⟩:=h;exists _,rfl;dsimp only[jf];refine sP g l1 kQ λok _=>?_;refine bS (λk C=>∃G I l n o,C= [some (.cD p),some t,G,I,l,n,o]) #[_,_,_,_,_,rfl] ?_ ?_
 .rintro k d _ hd ⟨G,I,l,n,o,rfl⟩ A J
  obtain⟨x,hx,rfl⟩:=iC hd;obtain⟨r,O,rfl⟩:=cX hx;have L:=ok r (fm O);have Q:(r.map af).length=r.length:=aL _;have rp:=L.ne;have rs:=L.sz;exists rfl,rfl;refine#[_,rfl,_,rfl,bz (λe=>?_) (λe=>cc (J _ #[_,_,_,_,_,rfl]))];exists _,rfl,_,rfl;refine(?_:nv (aq r) t _);refine Kf kk λb=>#[_,rfl,bz (λ_=>?_) (λ_=>J _ #[_,_,_,_,_,rfl])];exists _,rfl;refine bS (λi C=>∃l n o,C= [some (.cD p),some t,some (af k),some (aq r),l,n,o]) #[_,_,_,rfl] ?_ ?_
  .rintro i _ _ M ⟨l,n,o,rfl⟩ A2 S
   obtain⟨y,hy,rfl⟩:=iC M;obtain⟨a,U,rfl⟩:=cX hy;have X:=(dm.mp U).1;have ea:a=r.getD i 0:=by rw[fz,U];rfl
   subst ea;have u:=tZ (i+2) (show 0<r.length by lia)
   exists rfl,rfl;refine#[_,rfl,_,rfl,(by rw[Q];show(0:Int)<_;lia),trivial,?_]
   have ej:((i:Int)+2)%((r.map af).length:Int)=(((i+2)%r.length:Nat):Int):=by rw[Q,show(i:Int)+2=((i+2:Nat):Int) by lia,acj]
   refine Oe [some (.cD p),some t,some (af k),some (aq r),some (af i),some (af (r.getD i 0)),some (af ((i+2)%r.length))] (by rw[show af ((i+2)%r.length)= .int (((i:Int)+2)%((r.map af).length:Int)) by rw[ej];rfl];rfl) ?_
   generalize (i+2)%r.length=j at u;have Y:dR (r.map af) (j:Int)=some (af (r.getD j 0)):=eS u;exists _,rfl,_,rfl,_,rfl,_,Y;refine(?_:nv (.int (r.getD i 0:Int)) (.int (r.getD j 0:Int)) _);refine wR #[_,rfl,bz (λe=>?_) (λe=>cc (S _ #[_,_,_,rfl]))];have ne:r.getD j 0≠r.getD i 0:=λz=>by rw[z] at e;simp at e
   exists _,rfl,p,rfl,_,rfl,_,rfl,_,rfl,_,Y,p,_,_,rfl,g,L.lt i X,L.lt j u,rfl
   by_cases c:r.getD j 0∈row p (r.getD i 0)
   .rw[IR c];exact cc (S _ #[_,_,_,rfl])
   .rw[GT c];exact bL #[_,rfl,_,rfl,_,rfl,by show 3<=sizeLine;decide,q1 k r i j #[h2,O,L,X,u,ne,c]]
  .rintro _ ⟨l,n,o,rfl⟩
   exact J _ #[_,_,_,_,_,rfl]
 .rintro _ ⟨G,I,l,n,o,rfl⟩
  exact q2
def V9(v:W)(c:D):Prop:=c= .bb\/∃land r i j,D0 v land r i j/\c= .tup [af land,af i,af j]
def Rz:cH:=λb P=>∃(w:W)(a:D),b= [.cD w,a]/\Gp a/\cZ w/\2<=w.length/\∀d,P d
def og:FnOk P w Z.K mg base cg 7 T.d_filled_but.f T.d_filled_but.fd ["web","kept"] (bg Z Rz):=by
 have d:=oN.nd;refine bD T.d_filled_but.F oN [0,0,1,0,0,0,0,0] (by decide) (λU R h=>by obtain⟨_,_,rfl,_⟩:=h;rfl) (λbo A outer s H E U R g h=>?_)
 have hu:=g.units
 refine#[_,(ao (gF 2 d (fU ag))
   (ao (aH false 3 d (aC T.d_next_corner (mN T) g (ae (aa 0) (ae (aa 1) ag))))
   (ao (lu FS (aX AF (aa 3) cM (ba _)) (ao (BD (aa 3) (fB 3 rfl (aV (aK 4 d) (aV (aK 5 d) (aV (aK 6 d) cQ)))))
   (ao (aH false 7 d (aY (aC T.d_lands (lH T) g (ae (aa 0) ag)) (aa 4)))
   (ao (pz false 2 (bU (ae (aE (L7 rfl) rfl T.B.min Jg (ae (aY (aa 7) (aa 5)) (ae (aY (aa 7) (aa 6)) ag))) (ae (aE (Ep rfl) rfl T.B.max Jf (ae (aY (aa 7) (aa 5)) (ae (aY (aa 7) (aa 6)) ag))) ag))))
   (ao (aH false 0 d (aC T.d_put_in (HW T) g (ae (aa 0) (ae (aa 4) (ae (aa 5) (ae (aa 6) ag))))))
   (ar (aH false 3 d (aC T.d_next_corner (mN T) g (ae (aa 0) (ae (aa 1) ag))))))))))
   (nF 2
   (ar (bf (bU (ae (aa 0) (ae (aa 2) ag))))))))),?_]
 obtain⟨n,p,rfl,X,ok,x,q⟩:=h;refine#[by show 0<=sizeLine;decide,?_]
 have few:∀{v:W},cZ v->lW v<=196:=λ {v} o=>by
  have c1:=fL o.1;have c2:v.length*v.length<=14*14:=vo o.2.2 o.2.2;have c3:=lV v;lia
 have y:∀{v:W}{Q:D->Prop},cZ v->2<=v.length->(∀c,V9 v c->Q c)->FQ [.cD v,p] Q:=λ {v Q} o l h=>#[v,p,rfl,X,o,l,λland r i j C=>h _ (.inr #[land,r,i,j,C,rfl]),h _ (.inl rfl)];exists _,rfl,_,rfl;dsimp only[jf];refine y ok x λY t=>#[trivial,?_];refine j6 (λm ρ=>∃(v:W)(k:List (Nat×Nat))(c:D)(z G I J:Option D),ρ= [some (.cD v),some p,some (.lst (k.map pairD)),some c,z,G,I,J]/\cZ v/\2<=v.length/\m+lW v=200/\V9 v c/\2*k.length+lW n=lW v) (200-lW n) #[n,[],Y,_,_,_,_,rfl,ok,x,by have:=few ok;lia,t,by simp] ?_
 rintro m _ ⟨v,k,c,z,G,I,J,rfl,e,h2v,hm,u,ht⟩;have fv:=few e
 rcases u with rfl| ⟨land,r,i,j,C,rfl⟩
 .refine#[_,rfl,_,rfl,cc ?_]
  exact#[#[_,rfl],_,rfl,_,rfl,by show 2<=sizeLine;decide,q _]
 .refine#[_,rfl,_,rfl,bL ?_]
  have M:=C.hi;have N:=C.hj;have tok:=C.ok e.1 e.2.2;have J9:dR ((gU v).map aq) (land:Int)=some (aq r):=ft (by rw[df,C.at_];rfl)
  have O:dR (r.map af) (i:Int)=some (af (r.getD i 0)):=eS M;have S:dR (r.map af) (j:Int)=some (af (r.getD j 0)):=eS N;have tl:k.length<=200:=by lia
  exists _,rfl,rfl,rfl;exists _,rfl;dsimp only[jf];refine sP e.1 e.2.1 e.2.2 λ_ _=>#[_,rfl,_,J9,trivial,?_];refine#[_,rfl,_,rfl,_,rfl,_,O,_,rfl,_,rfl,_,S,_,_,rfl,_,rfl,_,rfl,_,O,_,rfl,_,rfl,_,S,_,_,rfl,by show 2<=sizeLine;decide,trivial,eu (by rw[aL];lia),?_]
  have ep:∀a b:Nat,(D.tup [.int (if (b:Int)<(a:Int) then(b:Int) else(a:Int)), .int (if (b:Int)>(a:Int) then(b:Int) else(a:Int))])=pairD (min a b,max a b):=λa b=>by
   unfold pairD;dsimp only
   congr 2
   .congr 1
    split<;>lia
   .congr 2
    split<;>lia
  have dg:lW (tR v r i j)=lW v+2:=by
   unfold tR;exact Mv (C.L.lt i M) (C.L.lt j N) C.ne
  have tl2:(tR v r i j).length=v.length:=by unfold tR;exact iZ ..
  exists _,rfl,_,rfl,_,rfl,_,rfl,v,land,i,j,r,rfl,e.1,e.2.2,C,trivial;exists _,rfl,_,rfl;dsimp only[jf];refine y tok (by lia) λc u=>#[trivial,m-2,by have:=few tok;lia,tR v r i j,k++ [(min (r.getD i 0) (r.getD j 0),max (r.getD i 0) (r.getD j 0))],c,some (af land),some (af i),some (af j),some (aq r),?_,tok,by lia,by have:=few tok;lia,u,by rw[dB];simp only[Gg];lia]
  rw[eE (f:=pairD),List.map_singleton,<-ep];rfl
variable {P:Program} {w:World} {mg:Str->Option Value} {base:Heap} {Z:DC} (T:Txt Z mg)
def FD(l:List Nat)(x:Nat):List Nat:=l.drop (l.idxOf x)++l.take (l.idxOf x)
def Ry:cH:=λa P=>∃(l:List Nat)(x:Nat),a= [aq l,af x]/\l.length<=300/\x∈l/\P (aq (FD l x))
def CY:FnOk P w Z.K mg base cg 1 T.d_begun_at.f T.d_begun_at.fd ["ring","p"] (bg Z Ry):=by
 have e:=tI.nd;refine bD T.d_begun_at.F tI [0,0,0] (by decide) (λg R h=>by obtain⟨_,_,rfl,_⟩:=h;rfl) (λm A outer s H E g R i h=>?_)
 have n:=i.units
 refine#[_,(ao (aH false 2 e (lh (aa 0) (aa 1)))
   (ar (bf (aN b9 (fT (aa 0) (hZ (aa 2)) hV) (fT (aa 0) hV (hZ (aa 2))))))),?_]
 obtain⟨l,x,rfl,o,a,q⟩:=h;have b:(l.map af).length=l.length:=aL _;have p:=y9.mpr a;exists _,rfl,_,rfl,_,rfl,rfl,dJ _,_,_,(bM a).1,(bM a).2.1,(bM a).2.2,trivial;have c:cutD (l.map af) (some ((l.idxOf x:Nat):Int)) none=(l.drop (l.idxOf x)).map af:=by rw[lU _ _ (by rw[b];lia),vp]
 have d:cutD (l.map af) none (some ((l.idxOf x:Nat):Int))=(l.take (l.idxOf x)).map af:=by rw[jK _ _ (by rw[b];lia),tX]
 have j:(cutD (l.map af) (some ((l.idxOf x:Nat):Int)) none).length+(cutD (l.map af) none (some ((l.idxOf x:Nat):Int))).length<=sizeLine:=by
  rw[c,d,aL,aL,tV,iw];exact small (by lia)
 have k:(.lst (cutD (l.map af) (some ((l.idxOf x:Nat):Int)) none++cutD (l.map af) none (some ((l.idxOf x:Nat):Int))):D)=aq (FD l x):=by rw[c,d];unfold aq FD;rw[eE]
 rw[<-k] at q;exact#[_,rfl,_,rfl,_,rfl,_,rfl,j,q]
def u0{r:List Nat}:(r.map λn:Nat=>(n:Int)).Nodup↔r.Nodup:=by
 unfold cR;rw[i3];exact#[λh=>h.imp λa b=>a (by rw[b]),λh=>h.imp λa b=>a (by lia)]
def qV(r:List Nat):aq r= .lst ((r.map λn:Nat=>(n:Int)).map D.int):=by unfold aq af;rw[eG];rfl
def HH{w:W}(g:Good w)(R:b7 w a)(b:r∈f7 a):∃x t,r=x::t/\∀y∈r,x<=y:=by
 unfold f7 at b;obtain⟨c,f,rfl⟩:=cz.mp b;obtain⟨d,Rd,h,le⟩:=R.rnd c f;obtain⟨t,i⟩:=yn g Rd h;refine#[d.1,d.2::t,i,λy j=>?_];obtain⟨e,k,rfl⟩:=cz.mp j
 have:=le e k
 unfold lexLe at this;lia
def RF(c:Addr):zk:=λa P R=>∃(w:W)(r:List Nat),a= [.cD w,aq r]/\cZ w/\(∀x∈r,x<w.length)/\r.length<=300/\((r.length<3\/¬r.Nodup)->R (.err c [] []))/\(3<=r.length->r.Nodup->(r∈gU w/\∃x t,r=x::t/\∀y∈r,x<=y)/\P (aq r))
def zR:FnOk P w Z.K mg base (rm P w) 4 T.d_rim_told.f T.d_rim_told.fd ["web","ring"] (iW Z (RF T.e_NoRing)):=by
 have q:=tL.nd;refine pD T.d_rim_told.F tL [0,0,0,0] (by decide) (λC R G h=>by obtain⟨_,_,rfl,_⟩:=h;rfl) (λbo A outer s H E C R G c h=>?_)
 have I:=c.units
 refine#[_,(ao (Ae 2 (NC:= ["p","web"]) (src:= [none,some 0]) rfl q (vv (aw kG)) #[rfl,rfl,trivial] (bR (aa 1)) (λ_ _ _=>(cW 0 (show(["p","web"]:List Str).Nodup from by decide+kernel))) (λ_ _ _=>(EB (e8 (aC T.d_is_among (fb T) c (ae (aa 0) (ae (iB T.W (aa 1) T.m_many.m (js T) (c.mono (by decide)) T.m_many.b) ag)))))) (λ_ _ _=>(aa 0)))
   (ao (bH (DW.dt (ub (aX jU (aE bB rfl T.B.len bx (ae (aa 1) ag)) ay (ba _)) (pB (aX jU (wW rfl T.B.len T.x_set (aa 2)) (aE bB rfl T.B.len bx (ae (aa 1) ag)) (ba _))))) (ar (qv rfl T.k_NoRing T.q_NoRing T.g_NoRing)) aU)
   (ao (aH false 3 q (aC T.d_begun_at (CY T) c (ae (aa 2) (ae (aE (L8 rfl) rfl T.B.min Jg (ae (aa 2) ag)) ag))))
   (ao (bH (aX (HS I) (aa 3) (aC T.d_lands (lH T) c (ae (aa 0) ag)) (by with_unfolding_all rfl)) (ar (qv rfl T.k_NoRing T.q_NoRing T.g_NoRing)) aU)
   (ar (bf (aa 3))))))),?_]
 obtain⟨a,r,rfl,⟨g,J,L⟩,lt,u,v,j⟩:=h;have lr:(r.map af).length=r.length:=aL _;exists _,rfl;refine pG (aG:= [none,some (.cD a)]) (λM=>∃o,M= [o,some (.cD a)]) af (λ_=>true) af r [] _ (λy i bG N Y Nn O _=>?_) #[_,rfl] (by show 0+r.length<=_;exact small (by lia)) ?_
 .obtain⟨o,rfl⟩:=N
  exists _,rfl,_,rfl,a,rfl,a,rfl,_,_,rfl;have Q:decide ((0:Int)<=(y:Int)/\(y:Int)<(a.length:Int))=true:=IR (by have:=lt y i;lia)
  rw[Q];exact#[rfl,bL #[_,rfl,O _ #[_,rfl] rfl]]
 rintro _ _;rw[vn,List.filter_eq_self.mpr (λ_ _=>rfl)];exists trivial;have k:(r.map λn:Nat=>(n:Int)).length=r.length:=aL _;have dl:=w4 (r.map λn:Nat=>(n:Int));have l:=Ey (r.map λn:Nat=>(n:Int));rw[k,u0] at l;rw[k] at dl;refine#[_,rfl,_,rfl,bz (λe=>bL (v (.inl ?_))) (λe=>?_)]
 .have:((r.map af).length:Int)<3:=KM e
  lia
 have r3:¬((r.map af).length:Int)<3:=M2 e;refine#[_,rfl,_,qV r,by rw[k];exact u,_,rfl,_,rfl,bz (λe=>v (.inr λz=>?_)) (λe=>?_)]
 .have:(dist (r.map λn:Nat=>(n:Int)):Int)<((r.map af).length:Int):=KM e
  have:=l.mpr z
  lia
 have r4:¬(dist (r.map λn:Nat=>(n:Int)):Int)<((r.map af).length:Int):=M2 e;obtain⟨⟨S,x,t,p,U⟩,j⟩:=j (by lia) (l.mp (by lia))
 refine#[_,rfl,_,rfl,_,GE (λd=> [d]) (qV r),by rw[p];simp,λn X hl=>?_]
 obtain⟨y,i,rfl⟩:=cz.mp X
 have ey:y=x:=by
  have h1:=hl (x:Int) (cz.mpr #[x,by rw[p];exact dq ..,rfl])
  have h2:=U y i;lia
 subst ey;exists r,y,rfl,u,i
 have er:FD r y=r:=by
  unfold FD;rw[p,List.idxOf_cons_self];simp
 rw[er];exists trivial;exists _,rfl,_,rfl;dsimp only[jf];refine sP g J L λ_ _=>#[_,_,jw r,qS (g:=kE) jw _,by have:=iR r;lia,?_]
 have an:((gU a).map kE).any (λe=>PyData.eqv e (kE r))=true:=by
  rw[List.any_map,acg];exact#[r,S,by show PyData.eqv (kE r) (kE r)=true;rw[xh,IR rfl]]
 rw[tz rfl,an];exact#[_,rfl,cc #[_,rfl,j]]
def Ip(a b:Addr):zk:=λc P R=>∃(w:W),c= [.cD w]/\cZ w/\(w.length<3->R (.err a [] []))/\(3<=w.length->¬gZ w->R (.err b ["counted"] [ix w]))/\(3<=w.length->gZ w->∀d,P d)
def Fn:FnOk P w Z.K mg base (rm P w) 8 T.d_filled.f T.d_filled.fd ["web"] (iW Z (Ip T.e_TooSmall T.e_NotPlane)):=by
 have o:=yx.nd;refine pD T.d_filled.F yx [0] (by decide) (λi R j h=>by obtain⟨_,rfl,_⟩:=h;rfl) (λp A outer s H E i R j g h=>?_)
 have q:=g.units
 refine#[_,(ao (bH (aX jU (iB T.W (aa 0) T.m_many.m (js T) (g.mono (by decide)) T.m_many.b) ay (ba _)) (ar (qv rfl T.k_TooSmall T.q_TooSmall T.g_TooSmall)) aU)
   (ao (pA T.d_need_plane (mL T) g (ae (aa 0) ag))
   (ar (bf (aC T.d_filled_but (og T) g (ae (aa 0) (ae cM ag))))))),?_]
 obtain⟨a,rfl,ok,k,l,n⟩:=h;refine#[_,rfl,a,rfl,a,rfl,_,rfl,bz (λe=>k ?_) (λe=>?_)]
 .have:(a.length:Int)<3:=KM e
  lia
 have r:¬(a.length:Int)<3:=M2 e;refine#[_,rfl,a,rfl,ok,λc=>?_,λc=>l (by lia) c]
 exact#[_,rfl,a, .bb,rfl, .inl rfl,ok,by lia,λd=>n (by lia) c d]
def Ir(a b:Addr):zk:=λc P R=>∃(w:W)(r:List Nat),c= [.cD w,aq r]/\cZ w/\(∀x∈r,x<w.length)/\r.length<=300/\(¬gZ w->R (.err a ["counted"] [ix w]))/\(gZ w->(r.length<3\/¬r.Nodup)->R (.err b [] []))/\(gZ w->3<=r.length->r.Nodup->(r∈gU w/\∃x t,r=x::t/\∀y∈r,x<=y)/\∀d,P d)
def qO:FnOk P w Z.K mg base (rm P w) 8 T.d_filled_within.f T.d_filled_within.fd ["web","ring"] (iW Z (Ir T.e_NotPlane T.e_NoRing)):=by
 have e:=kI.nd;refine pD T.d_filled_within.F kI [0,0] (by decide) (λm R n h=>by obtain⟨_,_,rfl,_⟩:=h;rfl) (λq A outer s H E m R n i h=>?_)
 have u:=i.units
 refine#[_,(ao (pA T.d_need_plane (mL T) i (ae (aa 0) ag))
   (ar (Kn 0 T.d_filled_but (og T) T.d_rim_told (zR T) i (ae (aa 0) (ae (aa 1) ag))))),?_]
 obtain⟨j,r,rfl,ok,lt,l,o,p,k⟩:=h;refine#[_,rfl,j,rfl,ok,λc=>?_,λc=>o c];refine#[_,rfl,_,rfl,_,rfl,j,r,rfl,ok,lt,l,p c,λg e=>#[(k c g e).1,?_]];refine#[j,_,rfl, .inr #[r,rfl,l],ok,?_,λd=>(k c g e).2 d];obtain⟨⟨_,x,t,v,_⟩,_⟩:=k c g e
 match r,e,lt,g with
 |a::b::t,e,lt,_=>
  have y:=lt a (by simp)
  have B:=lt b (by simp)
  have:a≠b:=λz=>by rw[z] at e;simp at e
  lia
variable {P:Program} {w:World} {mg:Str->Option Value} {base:Heap} {Z:DC} (T:Txt Z mg)
def Me{P:D->Prop}(h:P (.bl (decide (a=b)))):Bu (.str a) (.str b) P:=#[.str a, .str b,rfl,rfl,by simp[PyData.depth],by
 have:PyData.eqv (.str a) (.str b)=decide (a=b):=by
  rw[PyData.eqv]
  by_cases z:a=b<;>simp[z]
 rw[mo eD,this];exact h]
def P6{P:D->Prop}(h:P (.bl (decide (i=j)))):dC (.str j) a (λb=>Bu (.str i) b P):=Me h
noncomputable def lT(w:W):D:= .tup [.str "bent",ix w]
def jc:D:= .tup [.str "told", .bb]
def tO:D:= .tup [.str "small", .bb]
def qU:D:= .tup [.str "ring", .bb]
def Wd(r:List Nat):Prop:=∃x t,r=x::t/\∀y∈r,x<=y
def Di:cH:=λb P=>∃(w:W)(a:D),b= [.cD w,a]/\cZ w/\((a= .bb/\(w.length<3->P tO)/\(3<=w.length->¬gZ w->P (lT w))/\(3<=w.length->gZ w->P jc))\/(∃r:List Nat,a=aq r/\(∀x∈r,x<w.length)/\r.length<=300/\(¬gZ w->P (lT w))/\(gZ w->(r.length<3\/¬r.Nodup)->P qU)/\(gZ w->3<=r.length->r.Nodup->(r∈gU w/\Wd r)/\P jc)))
def qg:FnOk P w Z.K mg base cg 9 T.d__law_told.f T.d__law_told.fd ["_law_web","_law_ring"] (bg Z Di):=by
 have b:=qj.nd;refine bD T.d__law_told.F qj [0,0,0,0,0,0] (by decide) (λt R h=>by obtain⟨_,_,rfl,_⟩:=h;rfl) (λy A outer s H E t R l h=>?_)
 have j:=l.units
 refine#[_,(ao (aH false 2 b cF)
   (ao (aH false 3 b cM)
   (ao (P0 (λ_ _=>by exact(ar (bH (aX yc (aa 1) cM (ba _)) (ar (pA T.d_filled (Fn T) l (ae (aa 0) ag))) (ar (pA T.d_filled_within (qO T) l (ae (aa 0) (ae (aa 1) ag))))))) aU (T4 4 b T.g_MapError T.q_MapError (λ_=>by exact(ao (aH false 5 b (c5 (ae (gP T.iX (.own _) (mr T.g_TooSmall) (aa 4) rfl T.B.isinstance) (ae (gP T.iX (.own _) (mr T.g_NotPlane) (aa 4) rfl T.B.isinstance) (ae (gP T.iX (.own _) (mr T.g_NoRing) (aa 4) rfl T.B.isinstance) (ae (gP T.iX (.own _) (mr T.g_TooMany) (aa 4) rfl T.B.isinstance) ag))))))
   (ao (aH false 5 b (aN b9 (aa 5) (c5 (ae (gP T.iX (.own _) (mr T.g_NoCorner) (aa 4) rfl T.B.isinstance) (ae (gP T.iX (.own _) (mr T.g_NotFilled) (aa 4) rfl T.B.isinstance) (ae (gP T.iX (.own _) (mr T.g_TooFew) (aa 4) rfl T.B.isinstance) ag))))))
   (ao (aH false 2 b cF)
   (ao (bH (DW.dt (rX (aX (jT j) (GN j (aa 5) jL) ay (ba _)) (nG (e8 (gP T.iX (.blt _) (Vr T.x_ValueError) (aa 4) rfl T.B.isinstance))))) (ar (aH false 2 b (aY (c5 (ae cF (ae cF (ae cF (ae cF (ae cF (ae cF (ae cF ag)))))))) (GO j (aa 5) jL)))) aU)
   (ar (bH (aX (jT j) (aa 2) cF (ba _)) (ar (aH false 3 b (Mu T.iX (aa 4)))) aU))))))) PR))
   (ar (bf (bU (ae (aa 2) (ae (aa 3) ag)))))))),?_]
 obtain⟨p,z,rfl,ok,u⟩:=h;exists trivial,trivial
 rcases u with ⟨rfl,n,o,k⟩ | ⟨r,rfl,lt,v,n,o,k⟩
 .refine#[_,rfl,_,rfl,bL ?_]
  refine#[_,rfl,p,rfl,ok,λg=>?_,λg c=>?_,λg c d=>?_]
  .have q:=n g
   refine#[T.q_TooSmall.obj,true,T.m_TooSmall_MapError,bL ?_];have x:=T.q_TooSmall.cls;refine#[_,rfl,x,_,T.z_TooSmall_TooSmall,_,rfl,x,_,T.z_TooSmall_NotPlane,_,rfl,x,_,T.z_TooSmall_NoRing,_,rfl,x,_,T.z_TooSmall_TooMany,by show 4<=sizeLine;decide,trivial,?_]
   refine#[_,rfl,_,rfl,x,_,T.z_TooSmall_NoCorner,_,rfl,x,_,T.z_TooSmall_NotFilled,_,rfl,x,_,T.z_TooSmall_TooFew,by show 3<=sizeLine;decide,?_]
   refine#[by show 7<=sizeLine;decide,trivial,trivial,?_]
   refine#[_,rfl,_,rfl,_,_,rfl,rfl,by decide,?_]
   refine zB #[_,rfl,bz (λ_=>?_) (λe=>absurd e (by decide))]
   refine#[_,rfl,x,_,T.z_TooSmall_ValueError,rfl,bL ?_];refine#[by show 7<=sizeLine;decide,_,rfl,_,rfl,_,_,0,rfl,rfl,by decide,#[_,rfl,rfl],λm e i a=>?_,?_]
   .lia
   exists _,rfl,trivial;refine#[_,rfl,P6 #[_,rfl,bz (λe=>absurd e (by decide)) (λ_=>?_)]]
   exact#[_,rfl,_,rfl,by show 2<=sizeLine;decide,q]
  .have q:=o g c
   refine#[T.q_NotPlane.obj,true,T.m_NotPlane_MapError,bL ?_];have x:=T.q_NotPlane.cls;refine#[_,rfl,x,_,T.z_NotPlane_TooSmall,_,rfl,x,_,T.z_NotPlane_NotPlane,_,rfl,x,_,T.z_NotPlane_NoRing,_,rfl,x,_,T.z_NotPlane_TooMany,by show 4<=sizeLine;decide,trivial,?_]
   refine#[_,rfl,_,rfl,x,_,T.z_NotPlane_NoCorner,_,rfl,x,_,T.z_NotPlane_NotFilled,_,rfl,x,_,T.z_NotPlane_TooFew,by show 3<=sizeLine;decide,?_]
   refine#[by show 7<=sizeLine;decide,trivial,trivial,?_]
   refine#[_,rfl,_,rfl,_,_,rfl,rfl,by decide,?_]
   refine zB #[_,rfl,bz (λ_=>?_) (λe=>absurd e (by decide))]
   refine#[_,rfl,x,_,T.z_NotPlane_ValueError,rfl,bL ?_];refine#[by show 7<=sizeLine;decide,_,rfl,_,rfl,_,_,1,rfl,rfl,by decide,#[_,rfl,rfl],λm e i a=>?_,?_]
   .revert a;match m,i with
    |0,_=>exact λa=>by cases a;rfl
   exists _,rfl,trivial;refine#[_,rfl,P6 #[_,rfl,bz (λ_=>?_) (λe=>absurd e (by decide))]]
   exists _,rfl,x,T.n_NotPlane_counted,_,rfl,trivial;exact#[_,rfl,_,rfl,by show 2<=sizeLine;decide,q]
  .exact#[_,rfl,_,rfl,by show 2<=sizeLine;decide,k g c]
 .refine#[_,rfl,_,rfl,cc ?_]
  refine#[_,rfl,_,rfl,p,r,rfl,ok,lt,v,λc=>?_,λc h=>?_,λc g b=>#[(k c g b).1,λd=>?_]]
  .have q:=n c
   refine#[T.q_NotPlane.obj,true,T.m_NotPlane_MapError,bL ?_];have x:=T.q_NotPlane.cls;refine#[_,rfl,x,_,T.z_NotPlane_TooSmall,_,rfl,x,_,T.z_NotPlane_NotPlane,_,rfl,x,_,T.z_NotPlane_NoRing,_,rfl,x,_,T.z_NotPlane_TooMany,by show 4<=sizeLine;decide,trivial,?_]
   refine#[_,rfl,_,rfl,x,_,T.z_NotPlane_NoCorner,_,rfl,x,_,T.z_NotPlane_NotFilled,_,rfl,x,_,T.z_NotPlane_TooFew,by show 3<=sizeLine;decide,?_]
   refine#[by show 7<=sizeLine;decide,trivial,trivial,?_]
   refine#[_,rfl,_,rfl,_,_,rfl,rfl,by decide,?_]
   refine zB #[_,rfl,bz (λ_=>?_) (λe=>absurd e (by decide))]
   refine#[_,rfl,x,_,T.z_NotPlane_ValueError,rfl,bL ?_];refine#[by show 7<=sizeLine;decide,_,rfl,_,rfl,_,_,1,rfl,rfl,by decide,#[_,rfl,rfl],λm e i a=>?_,?_]
   .revert a;match m,i with
    |0,_=>exact λa=>by cases a;rfl
   exists _,rfl,trivial;refine#[_,rfl,P6 #[_,rfl,bz (λ_=>?_) (λe=>absurd e (by decide))]]
   exists _,rfl,x,T.n_NotPlane_counted,_,rfl,trivial;exact#[_,rfl,_,rfl,by show 2<=sizeLine;decide,q]
  .have q:=o c h
   refine#[T.q_NoRing.obj,true,T.m_NoRing_MapError,bL ?_];have x:=T.q_NoRing.cls;refine#[_,rfl,x,_,T.z_NoRing_TooSmall,_,rfl,x,_,T.z_NoRing_NotPlane,_,rfl,x,_,T.z_NoRing_NoRing,_,rfl,x,_,T.z_NoRing_TooMany,by show 4<=sizeLine;decide,trivial,?_]
   refine#[_,rfl,_,rfl,x,_,T.z_NoRing_NoCorner,_,rfl,x,_,T.z_NoRing_NotFilled,_,rfl,x,_,T.z_NoRing_TooFew,by show 3<=sizeLine;decide,?_]
   refine#[by show 7<=sizeLine;decide,trivial,trivial,?_]
   refine#[_,rfl,_,rfl,_,_,rfl,rfl,by decide,?_]
   refine zB #[_,rfl,bz (λ_=>?_) (λe=>absurd e (by decide))]
   refine#[_,rfl,x,_,T.z_NoRing_ValueError,rfl,bL ?_];refine#[by show 7<=sizeLine;decide,_,rfl,_,rfl,_,_,2,rfl,rfl,by decide,#[_,rfl,rfl],λm e i a=>?_,?_]
   .revert a;match m,i with
    |0,_=>exact λa=>by cases a;rfl
    |1,_=>exact λa=>by cases a;rfl
   exists _,rfl,trivial;refine#[_,rfl,P6 #[_,rfl,bz (λe=>absurd e (by decide)) (λ_=>?_)]]
   exact#[_,rfl,_,rfl,by show 2<=sizeLine;decide,q]
  .exact#[_,rfl,_,rfl,by show 2<=sizeLine;decide,(k c g b).2]
end Gn
namespace L2
open PySem PySem.Spec PyProof.Rows
def gd(K:ac)(x:Str)(st:Stmt):Prop:=∃(d:Addr)(b c:Option Addr)(e:Array (Option Value))(f kV g h a i:Value),Pu K x d/\A7 K x x st d b c e f kV g h a i/\bc K a x=true/\aA K (.ref d)=true
def Gr(K:ac)(C:Addr)(m a:Str)(st:Stmt):Prop:=∃(d:Addr)(c e:Option Addr)(f:Array (Option Value))(g kV h i b j:Value),ak K (.ref C) m=some (some (.ref d))/\bw K (.ref d)=true/\A7 K m a st d c e f g kV h i b j/\bc K b a=true/\aA K (.ref d)=true
abbrev pX(K:ac)(x:Str):Prop:=bd K mainGlobals x=some none
section
variable {K:ac} {h:Heap} {mg:Str->Option Value}
def dfH{x:Str}{st:Stmt}{d:Addr}{e f:Option Addr}{g:Array (Option Value)}{i kV j m b n:Value}(a:Pu K x d)(l:A7 K x x st d e f g i kV j m b n)(c:bc K b x=true)(k:aA K (.ref d)=true):gd K x st:=#[_,_,_,_,_,_,_,_,_,_,a,l,c,k]
def mfH{C:Addr}{m b:Str}{st:Stmt}{d:Addr}{g i:Option Addr}{j:Array (Option Value)}{n kV o p e q:Value}(a:ak K (.ref C) m=some (some (.ref d)))(f:bw K (.ref d)=true)(l:A7 K m b st d g i j n kV o p e q)(c:bc K e b=true)(k:aA K (.ref d)=true):Gr K C m b st:=#[_,_,_,_,_,_,_,_,_,_,a,f,l,c,k]
noncomputable def dQ.ch{x:Str}{st:Stmt}{ps:List Str}(X:K.In h)(G:h.Ns mainGlobals mg)(e:gd K x st)
  (b:∀(kV d g:Value)(i:Option Addr)(j m:Value)(f:List Value),f.length=ps.length->bindArgs (b4 x x (hU st) (dM st) (aw st) .none kV d g i j m) #[f,[]]=pure (ps.zip f)):dQ K mg x st ps:=
 Classical.choice (by
  obtain⟨_,_,_,_,_,_,_,_,_,_,a,l,c,k⟩:=e;exact#[.of X G a l c k b])
noncomputable def A8.ch{Z:DC}{m d:Str}{st:Stmt}{ps:List Str}(e:Gr Z.K Z.C m d st)
  (b:∀(kV g j:Value)(n:Option Addr)(o p:Value)(i:List Value),i.length=ps.length->bindArgs (b4 m d (hU st) (dM st) (aw st) .none kV g j n o p) #[i,[]]=pure (ps.zip i)):A8 Z m d st ps:=
 Classical.choice (by
  obtain⟨_,_,_,_,_,_,_,_,_,_,a,f,l,c,k⟩:=e;exact#[.of a f l c k b])
end
end L2
namespace Gn
open PySem L2 Wb
variable {P:Program} {w:World} {mg:Str->Option Value} {base:Heap} {Z:DC} (T:Txt Z mg)
def yw{P:D->Prop}(h:P (.bl false)):nv jc jc P:=#[.tuple [.str "told", .none],_,rfl,rfl,by simp[PyData.depth,PyData.depthAll],by rw[tz rfl];simpa [PyData.eqv,PyData.eqvAll] using h]
def FH{P:D->Prop}(h:P (.bl false)):nv tO tO P:=#[.tuple [.str "small", .none],_,rfl,rfl,by simp[PyData.depth,PyData.depthAll],by rw[tz rfl];simpa [PyData.eqv,PyData.eqvAll] using h]
def Il{P:D->Prop}(h:P (.bl false)):nv qU qU P:=#[.tuple [.str "ring", .none],_,rfl,rfl,by simp[PyData.depth,PyData.depthAll],by rw[tz rfl];simpa [PyData.eqv,PyData.eqvAll] using h]
def yv{w:W}{P:D->Prop}(h:P (.bl false)):nv (lT w) (lT w) P:=#[.tuple [.str "bent", .tuple [.int (w.length:Int), .int (tc w:Int), .int ((gU w).length:Int)]],_,rfl,rfl,by simp[PyData.depth,PyData.depthAll],by rw[tz rfl];simpa [PyData.eqv,PyData.eqvAll] using h]
def Kx:Good [[1],[0]]:=uY (x:=0) uc (p:=0) (by decide)
structure Rg (w:W) (r:List Nat):Prop where
 lt:∀x∈r,x<w.length
 sz:r.length<=300
 ok:3<=r.length->r.Nodup->r∈gU w/\Wd r
def Rg.land{w:W}(g:Good w)(n:1<=w.length)(a:r∈b)(L:kj w r)(h:b=gU w)(i:2<=w.length->∃c,b7 w c/\b=f7 c)(j:w.length=1->b= [[0]]):Rg w r:=by
 refine#[λx l=>?_,by have:=L.sz;lia,λd o=>#[by rw[<-h];exact a,?_]]
 .obtain⟨k,f,rfl⟩:=List.getElem_of_mem l
  have:=L.lt k f
  rwa [fz,eI f] at this
 .by_cases m:w.length=1
  .rw[j m,dD] at a
   rw[a] at d;simp at d
  .obtain⟨c,R,e⟩:=i (by lia)
   rw[e] at a;exact HH g R a
def KO(h:∀x∈a,0<=x):(.lst (gf a):D)=aq (a.map Int.toNat):=by
 unfold aq gf af;rw[eG];refine GE D.lst (abC λx b=>?_);show D.int x=D.int ((x.toNat:Nat):Int);rw[Int.toNat_of_nonneg (h x b)]
def Vd{P:D->Prop}{ρ:DN}(h:P (.bl (!decide (a=n+c)))):dC (.int c) ρ (λb=>Mb (.int n) b (λb=>nv (.int a) b P)):=wR h
def Ka{a:Type}{l:List a}(h:0<l.length):dR l (-1)=some l[l.length-1]:=by
 unfold dR kh;rw[mo (by lia),tz (by lia),y3,show(-1+(l.length:Int)).toNat=l.length-1 by lia,eI]
def QQ:FnOk P w Z.K mg base cg 10 T.d_law.f T.d_law.fd ["_law_script"] (bg Z JO):=by
 have l:=JN.nd;refine bD T.d_law.F JN [0,1,0,0,0,0,0,0] (by decide) (λds R h=>by obtain⟨_,rfl,_⟩:=h;rfl) (λbo A outer s H E ds R C h=>?_)
 have Q:=C.units
 refine#[_,(ao (gF 1 l (Mz (pq T.d__law_turns (vI T) C (ae (aa 0) ag))))
   (ao (bH (aX (jT Q) (aN dN (aN jr (aC T.d__law_cell_at (eU T) C (ae (aa 0) (ae ay ag))) ay) ay) ay (ba _)) (ar (gF 1 l (My (Ab (fU (ae (c5 ag) ag)) (Ab (fU (ae (c5 (ae ay ag)) (ae (c5 (ae ay ag)) ag))) MA)) (aN dN (aN jr (aC T.d__law_cell_at (eU T) C (ae (aa 0) (ae ay ag))) ay) ay)))) aU)
   (ao (PV 1 T.d__law_shuffled (C1 T) C (aC T.d__law_row (ml T) C (ae (aa 0) (ae ay (ae ay (ae ay ag))))))
   (nF 1
   (ao (aH false 2 l (aC T.d__law_lands (n9 T) C (ae (aa 1) ag)))
   (ao (aH false 3 l (bU (ae (aE bB rfl T.B.len bx (ae (aa 1) ag)) (ae (aN jr (aE (Ji rfl) rfl T.B.sum Jh (ae (wV (NC:= ["_law_row_here"]) (src:= [none]) rfl (vv (aw yt)) trivial (bR (aa 1)) (λ_ _ _=>(cW 0 (show(["_law_row_here"]:List Str).Nodup from by decide+kernel))) (λ_ _ _=>gq) (λ_ _ _=>(aE bB rfl T.B.len bx (ae (aa 0) ag)))) ag)) ay) (ae (aE bB rfl T.B.len bx (ae (aa 2) ag)) ag)))))
   (ao (aH false 4 l (vR (n4 Q) (aN b9 (aY (aa 3) ay) (aY (aa 3) ay)) (aN b9 (aY (aa 3) ay) ay) (ba _)))
   (ao (aH false 5 l (Ex T.mkW (lG T) (C.mono (by decide)) rfl T.mC T.m___init__b (ae (wV (NC:= ["_law_row_here"]) (src:= [none]) rfl (vv (aw yt)) trivial (bR (aa 1)) (λ_ _ _=>(cW 0 (show(["_law_row_here"]:List Str).Nodup from by decide+kernel))) (λ_ _ _=>gq) (λ_ _ _=>(jM nq rfl T.B.list nk (ae (aa 0) ag)))) ag)))
   (ao (aH false 6 l (bU (ae cF (ae cM ag))))
   (ao (bH (e8 (aa 4)) (ar (aH false 6 l (bU (ae cF (ae (aa 3) ag))))) aU)
   (ao (bH (aX jU (aE bB rfl T.B.len bx (ae (aa 1) ag)) ay (ba _)) (ar (aH false 6 l (bU (ae cF (ae cM ag))))) aU)
   (ao (bH (aX (n4 Q) (aC T.d__law_told (qg T) C (ae (aa 5) (ae cM ag))) (aa 6) (ba _)) (ar (bf jL)) aU)
   (ao (cO rfl FS (bR (c5 (ae (jM nq rfl T.B.list nk (ae (aY (aa 2) ay) ag)) (ae (jM nq rfl T.B.list nk (ae (aY (aa 2) (PM ay)) ag)) (ae (c5 ag) (ae (c5 (ae ay (ae ay (ae ay ag)))) ag)))))) (aK 7 l) (ao (aH false 6 l (bU (ae cF (ae cM ag))))
   (ao (bH (DW.dt (ub (aX jU (aE bB rfl T.B.len bx (ae (aa 7) ag)) ay (ba _)) (pB (aX jU (wW rfl T.B.len T.x_set (aa 7)) (aE bB rfl T.B.len bx (ae (aa 7) ag)) (ba _))))) (ar (aH false 6 l (bU (ae cF (ae cM ag))))) aU)
   (ao (bH (e8 (aa 4)) (ar (aH false 6 l (bU (ae cF (ae (aa 3) ag))))) aU)
   (ar (bH (aX (n4 Q) (aC T.d__law_told (qg T) C (ae (aa 5) (ae (aa 7) ag))) (aa 6) (ba _)) (ar (bf jL)) aU))))))
   (ar (bf jL))))))))))))))),?_]
 obtain⟨o,rfl,BZ,q⟩:=h;refine#[_,rfl,o,rfl,λv0 QP=>#[_,rfl,?_]];dsimp only;refine rB [some (.gy o),some (aQ v0),none,none,none,none,none,none] rfl ?_;refine pT (λρ=>∃a:W,ρ= [some (.gy o),some (aQ a),none,none,none,none,none,none]/\cZ a) (λJ u=>?_) ?_
 .refine#[_,rfl,o,0,rfl,λy=>#[#[by decide,by decide],(by show(0:Int)<4;decide),zB #[_,rfl,bz (λ_=>?_) (λ_=>u _ #[v0,rfl,QP])]]]
  refine#[by show 0<=sizeLine;decide,by show 1<=sizeLine;decide,by show 1<=sizeLine;decide,by show 1<=sizeLine;decide,by show 2<=sizeLine;decide,by show 2<=sizeLine;decide,?_]
  refine#[_,rfl,o,0,rfl,λS=>#[#[by decide,by decide],(by show(0:Int)<2;decide),?_]]
  have m:=qM (S / 8) 2 (by decide)
  have L:S / 8%2=0\/S / 8%2=1:=by lia
  exists S / 8%2
  rcases L with L|L
  .exact#[[.lst []],rfl,by rw[L];rfl,u _ #[[[]],rfl,uc,by decide,by decide]]
  .exact#[[.lst [.int 1], .lst [.int 0]],rfl,by rw[L];rfl,u _ #[[[1],[0]],rfl,Kx,by decide,by decide]]
 rintro _ ⟨w1,rfl,YW⟩;refine#[w1,rfl,λz=>by have:=YW.2.1;rw[z] at this;exact absurd this (by decide),?_]
 refine#[_,rfl,o,3,14,362880,rfl,by decide,by decide,by decide,by decide,λxs xl x0=>#[xs.map Int.toNat,KO x0,by rw[aL];exact xl,YW,λa ok=>?_]]
 exists #[aQ a,rfl];obtain⟨g,U,kQ⟩:=id ok;refine#[_,rfl,a,rfl,g,U,kQ,λi r0 r1 Zc e2 e1=>#[trivial,?_]]
 have el:i=gU a:=by
  unfold gU
  by_cases c:a.length=1
  .rw[tz c];exact e1 c
  .rw[mo c];exact(e2 (by lia)).1.symm
 have lw:(a.map aq).length=a.length:=aL _;have lrs:(i.map aq).length=i.length:=aL _;exists _,rfl;refine#[_,rfl,l4 (ρ:= [none]) aq (λr=> .int (r.length:Int)) a _ (λx X Y hY=>?_) rfl (small (by lia)) λaG=>?_]
 .refine#[_,rfl,?_]
  refine(?_:Y (.int ((x.map af).length:Int)));rw[aL];exact hY
 refine#[a.map λr=>(r.length:Int),by rw[eG];rfl,#[by decide,by decide],?_]
 refine#[_,rfl,by show 3<=sizeLine;decide,trivial,?_]
 have es:(a.map λr=>(r.length:Int)).sum / 2=((tc a:Nat):Int):=by
  have t2:=RS g;have dg:=lV a;rw[FU];lia
 have ec:D.tup [.int ((a.map aq).length:Int), .int ((a.map λr=>(r.length:Int)).sum / 2), .int ((i.map aq).length:Int)]=ix a:=by unfold ix;rw[lw,es,lrs,el]
 refine rB [some (.gy o),some (aQ a),some (.lst (i.map aq)),some (ix a),none,none,none,none] (by rw[<-ec];rfl) ?_
 obtain⟨b,M,UA⟩:∃b:Bool,(b=true↔¬gZ a)/\(!decide ((a.length:Int)+((gU a).length:Int)=(tc a:Int)+2))=b:=#[_,by unfold gZ;simp,rfl]
 exists _,rfl,_,rfl,_,rfl,_,rfl,_,rfl,_,rfl;refine Vd ?_;rw[UA];exists trivial;refine#[_,rfl,l4 (ρ:= [none]) aq aq a _ (λy hy Y h=>#[_,rfl,h]) rfl (small (by lia)) λaG=>?_]
 exists a,rfl,g,U,kQ,trivial;refine#[by show 2<=sizeLine;decide,trivial,?_]
 dsimp only;refine rB [some (.gy o),some (aQ a),some (.lst (i.map aq)),some (ix a),some (.bl b),some (.cD a),some jc,none] rfl ?_;refine pT (λρ=>ρ= [some (.gy o),some (aQ a),some (.lst (i.map aq)),some (ix a),some (.bl b),some (.cD a),some (if b then lT a else jc),none]) (λJ u=>?_) ?_
 .refine#[_,rfl,rfl,?_]
  cases b with
  |true=>exact bL #[_,rfl,by show 2<=sizeLine;decide,trivial,u _ rfl]
  |false=>exact cc (u _ rfl)
 rintro _ rfl;refine pT (λρ=>ρ= [some (.gy o),some (aQ a),some (.lst (i.map aq)),some (ix a),some (.bl b),some (.cD a),some (if a.length<3 then tO else if b then lT a else jc),none]) (λJ u=>?_) ?_
 .refine#[_,rfl,_,rfl,bz (λe=>?_) (λe=>?_)]
  .have e:((a.map aq).length:Int)<3:=KM e
   refine#[by show 2<=sizeLine;decide,trivial,u _ ?_]
   rw[tz (show a.length<3 by lia)];rfl
  .have e:¬((a.map aq).length:Int)<3:=M2 e
   refine u _ ?_;rw[mo (show ¬a.length<3 by lia)]
 rintro _ rfl;obtain⟨v,k⟩:∃v,v=(if a.length<3 then tO else if b then lT a else jc):=#[_,rfl];rw[<-k]
 have key:∀P:D->Prop,P (.bl false)->nv v v P:=λP h=>by
  rw[k]
  split
  .exact FH h
  .split
   .exact yv h
   .exact yw h
 have Dw:∀P:D->Prop,P v->Di [.cD a, .bb] P:=λP h=>by
  rw[k] at h;refine#[a, .bb,rfl,ok, .inl #[rfl,λI=>?_,λI c=>?_,λI c=>?_]]
  .rwa [tz I] at h
  .rwa [mo (by lia),tz (M.mpr c)] at h
  .rwa [mo (by lia),mo (λz=>M.mp z c)] at h
 exists _,rfl;dsimp only[Bt,dC,jf];refine Dw _ ?_;refine#[_,rfl,key _ ?_];refine#[_,rfl,cc ?_];clear Dw key k;have Wq:dR (i.map aq) 0=some (aq i[0]):=ft (p:=0) (by rw[df,eI r0];rfl)
 have Wr:dR (i.map aq) (-1)=some (aq (i[i.length-1]'(by lia))):=by
  rw[Ka (by lia),ach]
  congr 3
  rw[aL]
 have g0:Rg a i[0]:= .land g U (qp r0) (Zc _ (qp r0)) el (λh=>(e2 h).2) e1;have gl:Rg a (i[i.length-1]'(by lia)):= .land g U (qp _) (Zc _ (qp _)) el (λh=>(e2 h).2) e1
 generalize i[0]=ra at Wq g0;generalize i[i.length-1]=rb at Wr gl;refine#[_,rfl,_,Wq,_,rfl,_,Wr,by show 0<=sizeLine;decide,by show 3<=sizeLine;decide,by show 4<=sizeLine;decide,?_]
 refine bS (λj ρ=>∃(o6 o7:Option D),ρ= [some (.gy o),some (aQ a),some (.lst (i.map aq)),some (ix a),some (.bl b),some (.cD a),o6,o7]) #[_,_,rfl] ?_ ?_
 .rintro j d _ k ⟨o6,o7,rfl⟩ A hA
  obtain⟨r,rfl,G⟩:∃r:List Nat,d=aq r/\Rg a r:=by
   match j,k with
   |0,k=>exact#[ra,(Fk k).symm,g0]
   |1,k=>exact#[rb,(Fk k).symm,gl]
   |2,k=>exact#[[],(Fk k).symm,λx X=>(nomatch X),by decide,λh=>absurd h (by decide)]
   |3,k=>exact#[[0,0,0],(Fk k).symm,λx X=>by simp at X;lia,by decide,λ_ h=>absurd h (by decide)]
   |n+4,k=>cases k
  refine#[by show 2<=sizeLine;decide,trivial,?_]
  have lr:(r.map af).length=r.length:=aL _;have li:(r.map λn:Nat=>(n:Int)).length=r.length:=aL _;have dl:=w4 (r.map λn:Nat=>(n:Int));have de:=Ey (r.map λn:Nat=>(n:Int));rw[li,u0] at de;rw[li] at dl;obtain⟨t,N⟩:∃t:Bool,(t=true↔(r.length<3\/¬r.Nodup)):=#[decide (r.length<3\/¬r.Nodup),by simp]
  dsimp only;refine rB [some (.gy o),some (aQ a),some (.lst (i.map aq)),some (ix a),some (.bl b),some (.cD a),some jc,some (aq r)] rfl ?_;refine pT (λρ=>ρ= [some (.gy o),some (aQ a),some (.lst (i.map aq)),some (ix a),some (.bl b),some (.cD a),some (if t then qU else jc),some (aq r)]) (λJ u=>?_) ?_
  .have O:t=true->J.nx [some (.gy o),some (aQ a),some (.lst (i.map aq)),some (ix a),some (.bl b),some (.cD a),some qU,some (aq r)]:=λz=>u _ (by rw[tz z])
   refine#[_,rfl,_,rfl,bz (λe=>bL ?_) (λe=>?_)]
   .have:((r.map af).length:Int)<3:=KM e
    exact#[by show 2<=sizeLine;decide,trivial,O (N.mpr (.inl (by lia)))]
   have r3:¬((r.map af).length:Int)<3:=M2 e;refine#[_,rfl,_,qV r,by rw[li];exact G.sz,_,rfl,_,rfl,bz (λe=>?_) (λe=>?_)]
   .have:(dist (r.map λn:Nat=>(n:Int)):Int)<((r.map af).length:Int):=KM e
    exact#[by show 2<=sizeLine;decide,trivial,O (N.mpr (.inr λz=>by have:=de.mpr z;lia))]
   .have r4:¬(dist (r.map λn:Nat=>(n:Int)):Int)<((r.map af).length:Int):=M2 e
    refine u _ ?_;rw[mo (λz=>(N.mp z).elim (λh=>by lia) λh=>h (de.mp (by lia)))]
  rintro _ rfl;refine pT (λρ=>ρ= [some (.gy o),some (aQ a),some (.lst (i.map aq)),some (ix a),some (.bl b),some (.cD a),some (if b then lT a else if t then qU else jc),some (aq r)]) (λJ u=>?_) ?_
  .refine#[_,rfl,rfl,?_]
   cases b with
   |true=>exact bL #[_,rfl,by show 2<=sizeLine;decide,trivial,u _ rfl]
   |false=>exact cc (u _ rfl)
  rintro _ rfl;obtain⟨v,k⟩:∃v,v=(if b then lT a else if t then qU else jc):=#[_,rfl];rw[<-k]
  have key:∀P:D->Prop,P (.bl false)->nv v v P:=λP h=>by
   rw[k]
   split
   .exact yv h
   .split
    .exact Il h
    .exact yw h
  have Dw:∀P:D->Prop,P v->Di [.cD a,aq r] P:=λP h=>by
   rw[k] at h;refine#[a,_,rfl,ok, .inr #[r,rfl,G.lt,G.sz,λc=>?_,λc I=>?_,λc I l=>#[G.ok I l,?_]]]
   .rwa [tz (M.mpr c)] at h
   .rwa [mo (λz=>M.mp z c),tz (N.mpr I)] at h
   .rwa [mo (λz=>M.mp z c),mo (λz=>(N.mp z).elim (λy=>by lia) λy=>y l)] at h
  exists _,rfl,_,rfl;dsimp only[Bt,dC,jf];refine Dw _ ?_;refine#[_,rfl,key _ ?_];exact#[_,rfl,cc (hA _ #[_,_,rfl])]
 .rintro _ ⟨o6,o7,rfl⟩
  exact q
set_option hygiene false in
local macro_rules| `(tactic|and_intros)=> `(tactic| (intro _ _ _ _ _ _ _ hl;first| (obtain⟨_,rfl⟩:=L2.SG hl;rfl) | (obtain⟨_,_,rfl⟩:=L2.SH hl;rfl) | (obtain⟨_,_,_,rfl⟩:=L2.SJ hl;rfl) | (obtain⟨_,_,_,_,rfl⟩:=L2.YB hl;rfl) | (obtain⟨_,_,_,_,_,rfl⟩:=L2.aan hl;rfl)))
def all_mk{l:cq}{w:World}(X:K.In h)(G:h.Ns mainGlobals f)(o:f "law"=some (.ref fa)) 
  
  
  
  
  
  
  
  
  
  
  
  
  
  
  
  (gC:bd K mainGlobals "Web"=some (some (.ref C)))
  (a0:gd K "round_from" k7)
  (a1:gd K "lands" oH)
  (a2:gd K "count" yr)
  (a3:gd K "is_plane" oG)
  (a4:gd K "need_plane" k4)
  (a5:gd K "is_among" oF)
  (a6:gd K "alien_fault" jZ)
  (a7:gd K "self_fault" k8)
  (a8:gd K "twice_fault" j3)
  (a9:gd K "lone_fault" kZ)
  (Z1:gd K "reached_from_first" dA)
  (Z2:gd K "apart_fault" j0)
  (Z3:gd K "first_fault" j1)
  (Z4:gd K "begun_at" oE)
  (Z5:gd K "rim_told" kG)
  (Z6:gd K "put_behind" k6)
  (Z7:gd K "put_in" uF)
  (Z8:gd K "next_corner" j2)
  (Z9:gd K "filled_but" kY)
  (B:gd K "filled" uE)
  (E:gd K "filled_within" iK)
  (F:gd K "_law_cell_at" ja)
  (H:gd K "_law_row" oz)
  (I:gd K "_law_lands" kW)
  (J:gd K "_law_behind" jY)
  (L:gd K "_law_corner" ig)
  (M:gd K "_law_deed" mB)
  (N:gd K "_law_named" gx)
  (O:gd K "_law_turns" kX)
  (Q:gd K "_law_shuffled" iJ)
  (R:gd K "_law_told" mD)
  (Wm:Pu K "law" p)
  (S:A7 K "law" "law" yt p YT Wo Zi YS Yx WW Y0 Sk Wz)
  (U:bc K Sk "law"=true)
  (Y:aA K (.ref p)=true)
  (m0:ak K (.ref C) "__init__"=some (some (.ref g)))
  (f0:bw K (.ref g)=true)
  (ml0:A7 K "__init__" "Web.__init__" fj g q r t u x y z Yw A)
  (mc0:bc K Yw "Web.__init__"=true)
  (mk0:aA K (.ref g)=true)
  (m1:Gr K C "many" "Web.many" oq)
  (m2:Gr K C "turns" "Web.turns" jx)
  (m3:Gr K C "ties" "Web.ties" kF)
  (m4:Gr K C "tied" "Web.tied" ot)
  (m5:Gr K C "behind" "Web.behind" kU)
  (pgC:ce K C Str.empty=true)
  (Qe:bi K C=true)
  (poC:cv K C=true)
  (saC:ak K (.ref C) "__setattr__"=some (some (.builtin "object.__setattr__")))
  (mkC:db K C=true)
  (kpC:aA K (.ref C)=true)
  (nR:ak K (.ref C) "rows"=some none)
  (xn:aW K (.builtin "object.__class__") "__get__"=some (some (.builtin "getset_descriptor.__get__")))
  (xt:cS K (.builtin "object.__class__")=some true)
  (zVE:bd K mainGlobals "ValueError"=some none)
  (sh:bd K mainGlobals "MapError"=some (some (.ref d)))
  (EI:bd K mainGlobals "TooMany"=some (some (.ref i)))
  (BN:bd K mainGlobals "TooSmall"=some (some (.ref b)))
  (BM:bd K mainGlobals "NotPlane"=some (some (.ref a)))
  (BL:bd K mainGlobals "NoCorner"=some (some (.ref j)))
  (GY:bd K mainGlobals "NoRing"=some (some (.ref c)))
  (GZ:bd K mainGlobals "TooFew"=some (some (.ref k)))
  (zD:bd K mainGlobals "NotFilled"=some (some (.ref m)))
  (BP:bi K d=true)
  (BK:ak K (.ref d) "__getattribute__"=some (some (.builtin "BaseException.__getattribute__")))
  (BO:ak K (.ref d) "__getattr__"=some none)
  (Dc:ak K (.ref d) "__setattr__"=some (some (.builtin "object.__setattr__")))
  (Bn:ak K (.ref d) "__class__"=some (some (.builtin "object.__class__")))
  (Bq:cm K d=some rJ)
  (Bo:rJ.mro= .ref d:: [.type "ValueError", .type "Exception", .type "BaseException", .type "object"])
  (CJ:K.lookup d=some (excClassObj CO q_MapError d D4 Be rD xB Df zW Ba zw Bx Cf Cj Co Cr Cu "ValueError.__new__"))
  (Bl:rD= [.type "ValueError", .type "Exception", .type "BaseException", .type "object"])
  (sA:bi K b=true)
  (se:ak K (.ref b) "__getattribute__"=some (some (.builtin "BaseException.__getattribute__")))
  (sj:ak K (.ref b) "__getattr__"=some none)
  (tD:ak K (.ref b) "__setattr__"=some (some (.builtin "object.__setattr__")))
  (rN:ak K (.ref b) "__class__"=some (some (.builtin "object.__class__")))
  (rR:cm K b=some rL)
  (rP:rL.mro= .ref b:: [.ref d, .type "ValueError", .type "Exception", .type "BaseException", .type "object"])
  (sV:K.lookup b=some (excClassObj CQ q_TooSmall b D6 Bg rF xD Dh zY Bc zy Bz Ci Cn Cq Ct Cw "ValueError.__new__"))
  (rH:rF= [.ref d, .type "ValueError", .type "Exception", .type "BaseException", .type "object"])
  (sv:bi K a=true)
  (r9:ak K (.ref a) "__getattribute__"=some (some (.builtin "BaseException.__getattribute__")))
  (si:ak K (.ref a) "__getattr__"=some none)
  (tB:ak K (.ref a) "__setattr__"=some (some (.builtin "object.__setattr__")))
  (rM:ak K (.ref a) "__class__"=some (some (.builtin "object.__class__")))
  (rQ:cm K a=some rK)
  (rO:rK.mro= .ref a:: [.ref d, .type "ValueError", .type "Exception", .type "BaseException", .type "object"])
  (sU:K.lookup a=some (excClassObj CP q_NotPlane a D5 Bf rE xC Dg zX Bb zx By Cg Ck Cp Cs Cv "ValueError.__new__"))
  (rG:rE= [.ref d, .type "ValueError", .type "Exception", .type "BaseException", .type "object"])
  (xy:bi K c=true)
  (xq:ak K (.ref c) "__getattribute__"=some (some (.builtin "BaseException.__getattribute__")))
  (xr:ak K (.ref c) "__getattr__"=some none)
  (yu:ak K (.ref c) "__setattr__"=some (some (.builtin "object.__setattr__")))
  (wI:ak K (.ref c) "__class__"=some (some (.builtin "object.__class__")))
  (wO:cm K c=some wH)
  (wJ:wH.mro= .ref c:: [.ref d, .type "ValueError", .type "Exception", .type "BaseException", .type "object"])
  (xW:K.lookup c=some (excClassObj HN q_NoRing c J7 Gx wC BQ Io FT Gv Es GL Hw Hx Hy Hz HA "ValueError.__new__"))
  (wG:wC= [.ref d, .type "ValueError", .type "Exception", .type "BaseException", .type "object"])
  (sgM:aW K (.ref d) "__getattribute__"=some (some (.builtin "type.__getattribute__")))
  (rdM:da K d (.type "type")=true)
  (fcM:dc K (.ref d) (.type "type") "__init__"=some (.val (.builtin "ValueError.__init__")))
  (Bi:aW K (.ref b) "__call__"=some (some (.builtin "type.__call__")))
  (Dy:cu K (.ref b) (.type "type")=some true)
  (B6:ak K (.ref b) "__init__"=some (some (.builtin "ValueError.__init__")))
  (Cz:aA K (.ref b)=true)
  (z_TooSmall_TooMany:ad K (.ref b) (.ref i)=some false)
  (z_TooSmall_NotPlane:ad K (.ref b) (.ref a)=some false)
  (z_TooSmall_NoCorner:ad K (.ref b) (.ref j)=some false)
  (z_TooSmall_NoRing:ad K (.ref b) (.ref c)=some false)
  (z_TooSmall_TooFew:ad K (.ref b) (.ref k)=some false)
  (z_TooSmall_NotFilled:ad K (.ref b) (.ref m)=some false)
  (z_TooSmall_ValueError:ad K (.ref b) (.type "ValueError")=some true)
  (m_TooSmall_MapError:bv K b (.ref d)=some true)
  (Bh:aW K (.ref a) "__call__"=some (some (.builtin "type.__call__")))
  (Dx:cu K (.ref a) (.type "type")=some true)
  (B5:ak K (.ref a) "__init__"=some (some (.ref n)))
  (Cy:aA K (.ref a)=true)
  (BI:bw K (.ref n)=true)
  (sM:A7 K "__init__" "NotPlane.__init__" fP n B8 Ca Cd B7 B9 Cb Cc sO Ce)
  (sN:bc K sO "NotPlane.__init__"=true)
  (sL:aA K (.ref n)=true)
  (n_NotPlane_counted:ak K (.ref a) "counted"=some none)
  (z_NotPlane_TooMany:ad K (.ref a) (.ref i)=some false)
  (z_NotPlane_TooSmall:ad K (.ref a) (.ref b)=some false)
  (z_NotPlane_NoCorner:ad K (.ref a) (.ref j)=some false)
  (z_NotPlane_NoRing:ad K (.ref a) (.ref c)=some false)
  (z_NotPlane_TooFew:ad K (.ref a) (.ref k)=some false)
  (z_NotPlane_NotFilled:ad K (.ref a) (.ref m)=some false)
  (z_NotPlane_ValueError:ad K (.ref a) (.type "ValueError")=some true)
  (m_NotPlane_MapError:bv K a (.ref d)=some true)
  (Gy:aW K (.ref c) "__call__"=some (some (.builtin "type.__call__")))
  (IF:cu K (.ref c) (.type "type")=some true)
  (Ho:ak K (.ref c) "__init__"=some (some (.builtin "ValueError.__init__")))
  (HB:aA K (.ref c)=true)
  (z_NoRing_TooMany:ad K (.ref c) (.ref i)=some false)
  (z_NoRing_TooSmall:ad K (.ref c) (.ref b)=some false)
  (z_NoRing_NotPlane:ad K (.ref c) (.ref a)=some false)
  (z_NoRing_NoCorner:ad K (.ref c) (.ref j)=some false)
  (z_NoRing_TooFew:ad K (.ref c) (.ref k)=some false)
  (z_NoRing_NotFilled:ad K (.ref c) (.ref m)=some false)
  (z_NoRing_ValueError:ad K (.ref c) (.type "ValueError")=some true)
  (m_NoRing_MapError:bv K c (.ref d)=some true)
  (Wy:bd K mainGlobals "__name__"=some (some (.str "law_mapdye_k24_not_filled" ZG)))
  (cc1:bd K mainGlobals "MOST_POINTS"=some (some (.int 14 Pe)))
  (ZM:pX K "len")
  (Sb:pX K "range")
  (ZN:pX K "max")
  (ZO:pX K "min")
  (F9:pX K "enumerate")
  (ZR:pX K "zip")
  (Pl:pX K "sorted")
  (ZK:pX K "all")
  (DS:pX K "isinstance")
  (ZL:pX K "int")
  (V4:pX K "bool")
  (V5:pX K "list")
  (Sd:pX K "tuple")
  (ZQ:pX K "sum")
  (IW:pX K "reversed")
  (ZP:pX K "set")
  :∃fd:FuncData,(∀(s:Shared)(v:Value),BindsTo s fd #[[v],[]] [("_law_script",v)])/\∀base:Heap,K.In base->base.Ns mainGlobals f->FnOk l.prog w K f base cg 40 fa fd ["_law_script"] (L2.tP K):=by
 have e:=o.symm.trans (Re X G Wm);cases e;have E0:=lX (st:=fj) ml0 mc0 mk0;have e0:=E0.binds (ps:= ["self","turns"]) (by and_intros)
 let Z:DC:=#[K,C]
 let T:Txt Z f:=#[#[KB X G ZM,KB X G Sb,KB X G ZN,KB X G ZO,KB X G F9,KB X G ZR,KB X G Pl,KB X G ZK,KB X G DS,KB X G ZL,KB X G V4,KB X G V5,KB X G Sd,KB X G ZQ,KB X G IW],KB X G ZP, .ch X G a0 (by and_intros), .ch X G a1 (by and_intros), .ch X G a2 (by and_intros), .ch X G a3 (by and_intros), .ch X G a4 (by and_intros), .ch X G a5 (by and_intros), .ch X G a6 (by and_intros), .ch X G a7 (by and_intros), .ch X G a8 (by and_intros), .ch X G a9 (by and_intros), .ch X G Z1 (by and_intros), .ch X G Z2 (by and_intros), .ch X G Z3 (by and_intros), .ch X G Z4 (by and_intros), .ch X G Z5 (by and_intros), .ch X G Z6 (by and_intros), .ch X G Z7 (by and_intros), .ch X G Z8 (by and_intros), .ch X G Z9 (by and_intros), .ch X G B (by and_intros), .ch X G E (by and_intros), .ch X G F (by and_intros), .ch X G H (by and_intros), .ch X G I (by and_intros), .ch X G J (by and_intros), .ch X G L (by and_intros), .ch X G M (by and_intros), .ch X G N (by and_intros), .ch X G O (by and_intros), .ch X G Q (by and_intros), .ch X G R (by and_intros), .of X G Wm S U Y (by and_intros),#[#[pgC,Qe,poC,saC],nR],Re X G gC,g,_,E0,#[mkC,m0,f0,kpC],e0, .ch m1 (by and_intros), .ch m2 (by and_intros), .ch m3 (by and_intros), .ch m4 (by and_intros), .ch m5 (by and_intros),#[xn,xt],KB X G zVE,d,Re X G sh,i,Re X G EI,b,Re X G BN,a,Re X G BM,j,Re X G BL,c,Re X G GY,k,Re X G GZ,m,Re X G zD,rk BP BK BO Dc Bn Bq Bo CJ Bl rfl,rk sA se sj tD rN rR rP sV rH rfl,rk sv r9 si tB rM rQ rO sU rG rfl,rk xy xq xr yu wI wO wJ xW wG rfl,#[Re X G sh,sgM,rdM,fcM],#[(rk sA se sj tD rN rR rP sV rH rfl).obj,Bi,Dy,B6,Cz],z_TooSmall_TooMany,by unfold ad;exact tz (aaO _),z_TooSmall_NotPlane,z_TooSmall_NoCorner,z_TooSmall_NoRing,z_TooSmall_TooFew,z_TooSmall_NotFilled,z_TooSmall_ValueError,m_TooSmall_MapError,#[n,_,lX sM sN sL,(lX sM sN sL).binds (ps:= ["self","counted"]) (by and_intros),#[(rk sv r9 si tB rM rQ rO sU rG rfl).obj,Bh,Dx,B5,Cy],BI],n_NotPlane_counted,z_NotPlane_TooMany,z_NotPlane_TooSmall,by unfold ad;exact tz (aaO _),z_NotPlane_NoCorner,z_NotPlane_NoRing,z_NotPlane_TooFew,z_NotPlane_NotFilled,z_NotPlane_ValueError,m_NotPlane_MapError,#[(rk xy xq xr yu wI wO wJ xW wG rfl).obj,Gy,IF,Ho,HB],z_NoRing_TooMany,z_NoRing_TooSmall,z_NoRing_NotPlane,z_NoRing_NoCorner,by unfold ad;exact tz (aaO _),z_NoRing_TooFew,z_NoRing_NotFilled,z_NoRing_ValueError,m_NoRing_MapError,#[ZG,Re X G Wy],#[Pe,Re X G cc1]]
 exact#[_,λs v=> .of_eq rfl,λbase _ _=>(((QQ (P:=l.prog) (w:=w) (base:=base) T).mono (by decide)).imp (L2.QA (Z:=Z)))]
def walk{l:cq}{q:Program}{a:List Str}{i:(Str->Option Value)->Heap->Prop}{c:World->Heap->Prop}{d:DefRec}{K:Params->ac}(j:l.most=some 63)(k:d.params.defaults= [])
  (m:∀(w:World)(h:Heap),c w h->(K w.params).In h)
  (F:∀(w:World)(b:Str->Option Value)(e:Addr)(h:Heap),(K w.params).In h->h.Ns mainGlobals b->b d.name=some (.ref e)->
   ∃g:FuncData,(∀(s:Shared)(u:Value),BindsTo s g #[[u],[]] [("_law_script",u)])/\∀base:Heap,(K w.params).In base->base.Ns mainGlobals b->FnOk l.prog w (K w.params) b base cg 40 e g ["_law_script"] (tP (K w.params))):
  dV q a i c l.row.toRowW d [] (λf n=>dL f n):=L2.VX 40 (by decide) j k m F
end Gn
namespace PySem.W.Fast
def tw1345576643469201191:=0
def tw18144253250011895906:=0
def tw5455991835908599792:=0
def tw9744909038755689047:=0
def tw5078974568495212090:=0
def tw15039043223479269388:=0
def tw12259973446815129822:=0
def tw17825123439216554383:=0
def tw15493174079284572021:=0
def tw11483372679683146373:=0
def tw10397311234733631613:=0
def tw11995522166040365730:=0
def tw12659137334145003991:=0
def tw10511749905920813508:=0
def tw1417809955399700717:=0
def tw4452752064248841649:=0
def tw8448567561255262023:=0
def tw9807320298949074731:=0
def tw2938275611151881911:=0
def tw2336328073432518359:=0
def tw2024494598422691808:=0
def tw10763167549048361957:=0
def tw12090203620092820706:=0
def tw360427626189006676:=0
def tw5767994748861492445:=0
def tw10171515941350622252:=0
def tw14962851919862626088:=0
def tw4293061246310312940:=0
def tw9252751562739604624:=0
def tw17404059732482525770:=0
def tw1250398480085973586:=0
def tw10872431373533470843:=0
def tw10748212115049853341:=0
def tw10135731155502453836:=0
def tw5038107197495334389:=0
def tw8954821345239556574:=0
def tw17009184675406406946:=0
def tw11624152751269892077:=0
def tw16170372010828757410:=0
def tw18315830219458974493:=0
def tw4421427092140760571:=0
def tw15480244788329863975:=0
def tw13428053673702715688:=0
def tw9933233448092554313:=0
def tw10285536185241554614:=0
def tw14962069601862454055:=0
def tw8834942736566217554:=0
def tw2502976832546862799:=0
def tw9809703406223657954:=0
def tw13080249179628798898:=0
def tw17057518769435082335:=0
def tw19528687378791208:=0
def tw3020998823864537018:=0
def tw12871472201014937803:=0
def tw1004490936305065138:=0
def tw14973517080045006803:=0
def tw9916900579024760631:=0
def tw14811299269719085027:=0
def tw1819104267481216886:=0
def tw4926663754780665594:=0
def tw8025441960508919274:=0
def tw4947352442677759727:=0
def tw10333749398807994769:=0
def tw9588030011316888066:=0
def tw16900158098793678236:=0
def tw11042480962845173370:=0
def tw3817132807868804219:=0
def tw5862486548223066280:=0
def tw17219729133681904059:=0
def tw14803195018627162727:=0
def tw8591399240067992324:=0
def tw3010020387451995592:=0
def tw15333089115962226038:=0
def tw16926829687572465751:=0
def tw9083686932018332168:=0
def tw8019330495748393300:=0
def tw11746398472114617512:=0
def tw6746599679447597628:=0
def tw15445261389635351751:=0
def tw17736404859300070658:=0
def tw1877429571076750284:=0
def tw13475138600505350519:=0
def tw15134472254310944831:=0
def tw14265122305599910567:=0
def tw1087009604057975629:=0
def tw17161946305391069742:=0
def tw13760760510447151541:=0
def tw3249573304205832387:=0
def tw7335630563048397566:=0
def tw10524160332205623961:=0
def tw16046339638638998333:=0
def tw12490199332073104508:=0
def tw13295477000850423212:=0
def tw8781629235670061767:=0
def tw207353499352935870:=0
def tw7718258630895328571:=0
def tw16984185696812902751:=0
def tw1402858409638164067:=0
def tw1267809817031609314:=0
def tw4901164715123676022:=0
def tw18302319331546161428:=0
def tw14138474142239847795:=0
def tw14482128723705778309:=0
def tw7820347043302681792:=0
def tw11869349860569473819:=0
def tw2922405237077781597:=0
def tw18445770003706486365:=0
def tw12119193062227346383:=0
def tw13337229594253927107:=0
def tw13008245108212975180:=0
def tw2477468401009448457:=0
def tw10771338231839388314:=0
def tw16079742207827522310:=0
def tw11253020238641853581:=0
def tw5977332071102081462:=0
def tw17252543032838447947:=0
def tw14357050340068187620:=0
def tw5072646440544984383:=0
def tw822920884590305950:=0
def tw15295693858857392915:=0
def tw13370776671817364412:=0
def tw16154072210318786912:=0
def tw3670723050237868134:=0
def tw16409413590539470177:=0
def tw4870156668683803073:=0
def tw1036953030320019571:=0
def tw10611263284096771421:=0
def tw2361577425358495112:=0
def tw14662436599627757019:=0
def tw15810027076627542319:=0
def tw17983587326480817439:=0
def tw2954030290894167437:=0
def tw277257882656767019:=0
def tw17805757858483653952:=0
def tw4951584764026801300:=0
def tw3335195185190356193:=0
def tw12230106109752018149:=0
def tw3737458939966645666:=0
def tw15636273710216418411:=0
def tw2434111652762742011:=0
def tw11056747197411549068:=0
def tw11127275899324835342:=0
def tw9918374920710523272:=0
def tw148986483409700469:=0
def tw10710569467492800516:=0
def tw9699425726586953969:=0
def tw10117827521407173122:=0
def tw9532164252298232662:=0
def tw18131889691037822130:=0
def tw11326979149546420368:=0
def tw14090072121884935150:=0
def tw3254369340863350777:=0
def tw8514435885767007146:=0
def tw5429543707487414648:=0
def tw7724816498965593563:=0
def tw1357119202716671250:=0
def tw874226538011571412:=0
def tw5414449672350014883:=0
def tw13440746056592008476:=0
def tw13240439940035355504:=0
def tw533585649711154556:=0
def tw1024062100766088263:=0
def tw6010419400897814239:=0
def tw15588689955574669608:=0
def tw7738719158212684677:=0
def tw15194749848938205591:=0
def tw373663754292087062:=0
def tw9262954801023758004:=0
def tw127222983399343928:=0
def tw14975342987714454263:=0
def tw1248409973581366076:=0
def tw12232338144351073532:=0
def tw16759364636787500906:=0
def tw8578711356453358635:=0
def tw5311473041191470453:=0
def tw1187368413778223616:=0
def tw8276635151823842229:=0
def tw8063217659179126929:=0
def tw9284302395075109248:=0
def tw1988706372967811212:=0
def tw17599283490022651555:=0
def tw10440586557237207567:=0
def tw15964724408149922731:=0
def tw6697660327794055798:=0
def tw15363852658326894239:=0
def tw5460207356196759606:=0
def tw2789169809678369633:=0
def tw16674765454836710396:=0
def tw6521407761179556581:=0
def tw11757334148117852741:=0
def tw15515455422366294145:=0
def tw5547442260458906629:=0
def tw1022391502933252137:=0
def tw146383852722186646:=0
def tw2186194693272687859:=0
def tw7049991547187107863:=0
def tw8893306317867405469:=0
def tw16132021169935376763:=0
def tw14339341341407744154:=0
def tw8075616898011401771:=0
def tw13282263380263336057:=0
def tw12598785610182677355:=0
def tw11618161947790406296:=0
def tw7334462470132353079:=0
def tw3976107677419427333:=0
def tw5046336290888725346:=0
def tw11196040340765910568:=0
def tw8320927091155547708:=0
def tw9962500636301564942:=0
def tw11389729272282633079:=0
def tw15020467083360405937:=0
def tw13340662265092172908:=0
def tw4378835949892865238:=0
def tw12437507341772993167:=0
def tw16056431985462479507:=0
def tw763716832777504017:=0
def tw17763924648833524631:=0
def tw6471709738480043510:=0
def tw3125282258566435855:=0
def tw11519836279022357664:=0
def tw13148401475548274610:=0
def tw6100748236890392453:=0
def tw13538201046470329377:=0
def tw13193969720117048470:=0
def tw10624875816167331430:=0
def tw11171131674981187224:=0
def tw8518095870084150014:=0
def tw18108793985560553116:=0
def tw1753204700472730785:=0
def tw8656778875875340777:=0
def tw5714595354407434434:=0
def tw6742150814959576821:=0
def tw3511264765027524654:=0
def tw7462626957225975910:=0
def tw11177118358893024520:=0
def tw1636265498735992008:=0
def tw4986793919025355705:=0
def tw2453805684401764735:=0
def tw2150402339425954048:=0
def tw4617454145355903757:=0
def tw238526205784560050:=0
def tw1152793586250759534:=0
end PySem.W.Fast
open PySem PySem.W PyProof.Rows
set_option maxRecDepth 100000 in
set_option maxHeartbeats 0 in
theorem PySem.Challenge.cw_mapdye_k24_not_filled_holds : PySem.Challenge.rw_mapdye_k24_not_filled.Holds := by
 w_on;o_law;k_head;(case hw=>w_witness2)
 k_fill
 refine Gn.walk (l:=PySem.Challenge.rw_mapdye_k24_not_filled) rfl rfl (λw h Y=>PySem.W.kIn_of Y) ?F
 case F=>
  intro w mg fa h KX G Hh
  refine' Gn.all_mk KX G Hh ?_ ?_ ?_ ?_ ?_ ?_ ?_ ?_ ?_ ?_ ?_ ?_ ?_ ?_ ?_ ?_ ?_ ?_ ?_ ?_ ?_ ?_ ?_ ?_ ?_ ?_ ?_ ?_ ?_ ?_ ?_ ?_ ?_ ?_ ?_ ?_ ?_ ?_ ?_ ?_ ?_ ?_ ?_ ?_ ?_ ?_ ?_ ?_ ?_ ?_ ?_ ?_ ?_ ?_ ?_ ?_ ?_ ?_ ?_ ?_ ?_ ?_ ?_ ?_ ?_ ?_ ?_ ?_ ?_ ?_ ?_ ?_ ?_ ?_ ?_ ?_ ?_ ?_ ?_ ?_ ?_ ?_ ?_ ?_ ?_ ?_ ?_ ?_ ?_ ?_ ?_ ?_ ?_ ?_ ?_ ?_ ?_ ?_ ?_ ?_ ?_ ?_ ?_ ?_ ?_ ?_ ?_ ?_ ?_ ?_ ?_ ?_ ?_ ?_ ?_ ?_ ?_ ?_ ?_ ?_ ?_ ?_ ?_ ?_ ?_ ?_ ?_ ?_ ?_ ?_ ?_ ?_ ?_ ?_ ?_ ?_ ?_ ?_ ?_ ?_ ?_ ?_ ?_ ?_ ?_ ?_ ?_ ?_ ?_ ?_ ?_ ?_ ?_ ?_ ?_ ?_ ?_ ?_ ?_ ?_ ?_ ?_
  all_goals (try (first| (show _=_;k_is) | (refine' L2.dfH ?_ ?_ ?_ ?_<;>(try (show _=_;k_is))) | (refine' L2.mfH ?_ ?_ ?_ ?_ ?_<;>(try (show _=_;k_is))) | (refine' L2.ZU ?_ ?_ ?_ ?_ ?_ ?_ ?_<;>first| (show _=_;k_is) |rfl) | (refine' L2.ZV ?_ ?_ ?_ ?_<;>first| (show _=_;k_is) |rfl) |rfl))


