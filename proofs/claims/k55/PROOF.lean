import PyProof.Rows.All
import Wide.All
import OpenK.AllK
import Wide.FinOn
import Lean
import PyProof.EqAt
import PyProof.EqKinds
import PyProof.TupleCall
import PyProof.RaisesMany
import KE.KSortTup
import PyProof.NeKinds
import PyProof.SetKind
import PyProof.SetRoads
import PyProof.SetNew
import PyProof.WalksS
import PyProof.CollectWalk
import PyProof.TupleKey
import PyProof.IsRules
import PyProof.InstEq
import KE.KRevIter
import PyProof.FitsBits
import PyProof.P3Eq
import PyProof.ListRange
import PyProof.RulesAs
import PyProof.NsDelKeeps
import PyProof.PassesOwn
import PyProof.FString
import PyProof.MeetsSeq
import PyProof.DictRoadsH
import PyProof.DictTruth
import PyProof.MinMaxWalk
import PySem.Challenge.RW_mapdye_k55_chains_refused
local macro_rules|`(tactic|subst_eqs)=>`(tactic|first|exact Or.inl rfl|exact Or.inr rfl|exact Or.inr (Or.inl rfl)|exact Or.inr (Or.inr rfl)|assumption)
local macro_rules|`(tactic|bv_omega)=>`(tactic|exact ⟨rfl,rfl,rfl,by decide+kernel,rfl,by decide+kernel,by decide+kernel⟩)
local macro_rules|`(#[$x,$y,*])=>`(⟨$x,$y,*⟩)
local macro_rules|`(#[$x])=>`(⟨$x⟩)
local macro_rules|`(tactic|exists $x,*)=>`(tactic|refine⟨$x,* ,?_⟩)
local macro_rules|`(())=>`((by lia))
local macro_rules|`(∅)=>`((by decide))
local macro_rules|`(~~~$x)=>`((by simpa using $x))
local macro_rules|`($a\$b)=>`($a=some $b)
set_option genInjectivity false
set_option genSizeOf false
open PySem.W renaming Frag→ac,kitOne→aj,findIn→ak,keepIn→aA,nsIn→aJ,codeIn→bb,specialIn→bd,emptyDict→bi,isFn→bj,hasDictIn→bu,fnOf→bv,instObj→bN,mroIn→bT,plainGet→b3,kitAny→b4,OpenLaw→b5,lookIn→ce,clsIn→ci,plainOver→ck,methodObj→cq,takesIn→cr,takerIn→cv,readsIn→c3,makesIn→da,findCls→db,instIn→dg,WalkO→dL
open List renaming range→am,replicate→ar,lookup→bc,Nodup→dz
open PySem renaming Spec→aT,Within→b0,SetTable→dm,call→dy
open Array renaming replicate→dc
abbrev tz:=@if_neg
abbrev AC:=@if_pos
abbrev GM:=@decide_eq_false
abbrev GT:=@decide_eq_true
abbrev KB:=@of_decide_eq_true
abbrev KF:=@congrArg
abbrev PP:=@of_decide_eq_false
abbrev SZ:=@if_false
abbrev aaH:=@beq_eq_false_iff_ne
abbrev aaN:=@beq_iff_eq
abbrev aaU:=@if_true
abbrev aa3:=@decide_eq_true_eq
abbrev aa8:=@decide_eq_decide
abbrev abr:=@bne_self_eq_false
abbrev abI:=@beq_self_eq_true
abbrev ab1:=@getElem?_pos
open PySem renaming wpAny_bind→ir,wpAny_pure→mo,wpAny_holding→KM,wpAny_newObj_type→Pi,wpAny_call_entry→P3,wpAny_truthy_bool→SC,wpAny_setState_of→SL,wpAny_Call_Name_kw→UV,wpAny_loadPart_at→aaF,codeAny_builtin→aaG,wpAny_isSubtype_exc→aaJ,codeAny_mono→aaL,wpAny_standAt→aaM,plainId_quiet→aaO,mem_of_lookup→aaP,wpAny_call→aaQ,wpAny_passesOwn→aaT,wpAny_rule→aaX,wpAny_askSetting→aaZ,sizeLine_eq→aa1,wpAny_setField→aa4,call_meets→aa5,codeAny_call_builtin→aa7,wpAny_newList→aa9,wpAny_attempt→aba,wpAny_field→abb,wpAny_of_eq→abc,wpAny_updateSeq→abg,wpAny_comprehension_free→abi,wpAny_seqItems→abn,wpAny_tryCatch→abo,wpAny_callSpecial?_slot→abp,wpAny_storeSet_of→abt,fits_of_scanBound→abu,wpAny_Call_method_late→aby,wpAny_forIn_list→abG,plainObj_wpAny_Assign_Attribute→abT,wpAny_execs_nil→abV,codeAny_of_tree→abZ,wpAny_ite_false→ab2,wpAny_setEntries_of→ab9,wpAny_loadPart→acd,wpAny_ite_true→acg,wpAny_newFunctionEnv_cells→acp,wpAny_pyIter_list→acy,wpAny_lookBehind→acD,pastItsLine_dict→acE,wpAny_typeOf→acG,wpAny_specialOf→acY,codeAny_compStart_list→ac2,wpAny_letGo→ac9,wpAny_nsSet1→ade,codeAny_loop→adg
open PySem.Heap renaming get?_push_of_some→Da,lt_size→Do,get?_push_size→Gc,get?_update_other→IR,get?_update_self→On,get?_update_ne→aaI,size_update→aa0,get?_push_ne→abw,size_push→ace
open PyProof.Rows renaming wpS_bind→Fk,wpS_pure→FS,wpS_mono→Re,wpS_forRange→SB,callWith_type1→aaR,size_push'→aa6,wpS_get→abe,args_list_sort→abl,wpS_modify→abm,wpS_lift→abL,slot_tuple_getitem→abU,callWith_builtin1→abX,get?_update_seq→ab0,assignInOrder_cons→aci,listUpdate_at→acq,callWith_type→acv,evalArgs_nil3→acw,plain_sorted→acL,entry_sorted→acM,args_sorted1→acN,subscriptTail_builtinR→ac1,seqEpoch_at→ac3,kind_sorted→ac4,collect_list→adh
open Classical renaming byContradiction→FB
open Option.some renaming inj→FM
open PySem.PassesOwn renaming never→GE
open PySem.W renaming mg_none_of→M2,mg_of→Os,kia_one→UF,callWith_K→aaS,cellsFrom_some→abx,methodCall_KW→abM,plainGet_of→ab8,any_some→acO
open PySem.Around renaming under_plainId→Wp,in1_units→acT
open PySem.F renaming plain_min_loop→W1,plainAttrs_list→aaE,entry_min_loop→abC,excBase_ValueError→acr,args_tuple_add_2→acF,slot_list_append→acP,type_list_append→acQ,entry_tuple_add→acV,slot_tuple_add→ac0,plainAttrs_set→ac8
open PySem.Obj renaming data_mapFields→aat,isFreed_of_fields→aaV
open PySem.Heap.SameBut renaming update→aaK
open Prod renaming ext→aaW
open PySem.Calls renaming call_function_entry→aaY,callWith_builtin→aa2,evalArgs_plain→abY,Name_function_global→aco
open Prod.mk renaming inj→abd
open Iff renaming rfl→abf
open PySem.SeqAt.EqAt renaming int_int→abh
open Array renaming size_setIfInBounds→abj,getElem?_setIfInBounds→acf,toList_filterMap→ac5
open PySem.SetTable renaming toList_insertAt→abk,insertAt_perm→abB
open List renaming length_eq_zero_iff→abq,reverse_perm→abv,pairwise_lt_range→abz,drop_of_length_le→abA,all_cons→abD,any_cons→abE,isEmpty_nil→abJ,take_succ_eq_append_getElem→abK,set_getElem_self→abO,countP_mono_left→abP,eq_nil_or_concat→abQ,concat_eq_append→abR,set_append_right→abS,of_mem_zip→abW,set_set→ab4,mem_of_mem_take→ab5,eq_nil_iff_forall_not_mem→ab6,filterMap_cons→ab7,length_reverse→aca,map_congr_left→acb,count_set→ach,mem_filterMap→acj,getElem?_take→acm,map_drop→acu,take_sublist→acz,count_replicate_self→acC,all_eq_true→acK,not_mem_nil→acS,map_reverse→acU,foldl_cons→acW,getElem_replicate→ac6,getElem?_eraseIdx→ac7,map_nil→adf
open Bool renaming not_true→abF,or_eq_true→ab3,eq_iff_iff→acZ,false_and→ada,not_false→adb
open Option renaming bind_some→abH
open List.Perm renaming append_left→abN
open PySem.Code renaming quiet_builtin→ack
open Int renaming emod_lt_of_pos→acn,emod_nonneg→acX
open PySem.MeetsSeq3 renaming plain_eq_loop→acs
open PySem.Value renaming isInt_shape→acx
open Nat renaming lt_trichotomy→acA,add_mod_right→acB,add_comm→acH,mod_self→acJ
open List.Pairwise renaming imp_of_mem→acI
open Nat.succ renaming inj→acR
def ah{g:Prop}(h:∀G:Prop,(g->G)->G):g:=h g id
set_option hygiene false in
local macro_rules|`(tactic|rfl')=>`(tactic|refine ah fun G0 k0=>?_)
set_option hygiene false in
local macro_rules|`(tactic|ac_rfl)=>`(tactic|refine k0 ?_)
set_option Elab.async false
set_option linter.all false
set_option maxRecDepth 100000
abbrev aS:= @List.length_map
abbrev cW:= @List.getD_eq_getElem?_getD
abbrev cZ:= @List.getElem?_eq_getElem
abbrev dZ:= @List.getElem?_eq_some_iff
abbrev cI:= @List.length_append
abbrev eM:= @List.mem_cons_of_mem
abbrev dH:= @List.mem_cons_self
abbrev bM:= @Nat.le_refl
abbrev fB:= @List.mem_singleton
abbrev fi:= @List.getElem?_map
abbrev dP:= @List.mem_append_right
abbrev cQ:= @Bool.false_ne_true
abbrev cx:= @List.length_cons
abbrev bJ:= @Nat.ne_of_lt
abbrev cR:= @List.size_toArray
abbrev bY:= @List.mem_cons
abbrev dY:= @Array.length_toList
abbrev cF:= @List.mem_append
abbrev fb:= @List.mem_of_getElem?
abbrev cX:= @List.map_append
abbrev gE:= @Array.getElem?_toList
abbrev fZ:= @List.mem_append_left
abbrev f7:= @List.getElem?_set_ne
abbrev fG:= @Nat.lt_of_lt_of_le
abbrev i5:= @List.getElem?_append_left
abbrev cM:= @List.mem_map
abbrev gQ:= @List.getElem?_eq_none
abbrev iS:= @List.getElem?_set_self
abbrev f9:= @Bool.false_eq_true
abbrev eJ:= @List.mem_range
abbrev kN:= @List.getElem?_append_right
abbrev dQ:= @List.map_map
abbrev gb:= @List.length_set
abbrev iT:= @List.nodup_append
abbrev gd:= @List.nodup_nil
abbrev gR:= @List.append_nil
abbrev iU:= @Nat.le_of_not_lt
abbrev fg:= @Nat.zero_le
abbrev gF:= @List.map_cons
abbrev iV:= @List.nodup_cons
abbrev qh:= @Array.getElem?_eq_getElem
abbrev jR:= @List.length_range
abbrev jS:= @List.length_take
abbrev jH:= @List.length_nil
abbrev n5:= @List.length_singleton
abbrev n6:= @List.take_append_drop
abbrev rg:= @List.drop_eq_getElem_cons
abbrev iA:= @Nat.le_trans
abbrev lD:= @List.append_assoc
abbrev kO:= @List.mem_filter
abbrev lE:= @Nat.mod_eq_of_lt
abbrev mO:= @List.pairwise_map
abbrev wB:= @Array.getElem?_eq_some_iff
abbrev n9:= @List.flatten_cons
abbrev og:= @List.getElem?_set
abbrev kP:= @Nat.lt_irrefl
abbrev qi:= @Bool.eq_false_iff
abbrev wC:= @List.getElem?_replicate
abbrev wD:= @List.getElem?_cons_succ
abbrev oh:= @List.nil_append
abbrev wF:= @List.length_pos_of_mem
abbrev zO:= @List.idxOf_lt_length_iff
abbrev Bu:= @List.countP_eq_length_filter
abbrev rh:= @List.getElem_mem
abbrev Bv:= @List.nodup_iff_pairwise_ne
abbrev Bw:= @List.perm_ext_iff_of_nodup
abbrev ur:= @Nat.lt_succ_of_lt
abbrev wG:= @List.replicate_succ
abbrev wH:= @List.getElem?_range
abbrev zP:= @List.length_replicate
abbrev uu:= @Bool.and_eq_true
abbrev uv:= @List.lookup_cons
abbrev Bx:= @List.set_eq_of_length_le
abbrev zQ:= @List.getElem?_of_mem
abbrev wI:= @List.ext_getElem?
abbrev wJ:= @Int.toNat_natCast
abbrev Hj:= @Array.getD_eq_getD_getElem?
abbrev By:= @List.drop_eq_nil_of_le
abbrev rj:= @Nat.sub_self
abbrev Bz:= @List.length_pos_iff
abbrev BA:= @Array.toList_append
abbrev wK:= @List.nodup_range
abbrev zR:= @List.mem_flatten
abbrev Hk:= @List.take_of_length_le
abbrev uw:= @Nat.zero_add
abbrev BB:= @List.getElem_idxOf
abbrev Hl:= @List.perm_append_comm
abbrev KP:= @Array.perm_iff_toList_perm
abbrev BC:= @List.flatMap_cons
abbrev BD:= @Array.toList_push
abbrev rm:= @Nat.mod_lt
abbrev ux:= @Nat.le_succ
abbrev zS:= @List.take_succ
abbrev wL:= @List.map_set
abbrev BE:= @List.length_drop
abbrev BF:= @List.filter_cons
abbrev BG:= @List.take_length
abbrev KQ:= @List.getElem?_take_of_lt
abbrev Hm:= @List.flatten_append
abbrev KR:= @List.eraseIdx_cons_succ
abbrev Et:= @Array.getElem?_eq_none
abbrev sr:= @Nat.le_of_lt
abbrev Eu:= @List.length_filter_le
abbrev zK:= @Nat.lt_succ_self
abbrev Ew:= @List.length_eraseIdx
abbrev zL:= @List.mem_reverse
abbrev vw:= @List.map_take
abbrev JM:= @List.pairwise_iff_getElem
abbrev vx:= @Nat.ne_of_gt
abbrev Ex:= @List.zip_cons_cons
abbrev Ey:= @List.getElem?_drop
abbrev zM:= @Bool.and_false
abbrev zN:= @Nat.mul_le_mul
namespace L2
open PySem PySem.Spec PyProof.Rows
abbrev Key:=Sum Int Str
def OJ:Key->Value->Bool
 | .inl k,v=>Value.isInt k v
 | .inr x,v=>Value.isStrOf x v
def Za(w:World):Key->Int
 | .inl k=>hashInt k
 | .inr x=>hashStr w x
theorem dA:∀{k:Key}{v:Value},OJ k v=true->(∃i t,k=Sum.inl i/\v=Value.int i t)\/(∃x t,k=Sum.inr x/\v=Value.str x t)
 | .inl i,v,h=>by
  obtain⟨t,e⟩:=acx (k:=i) (v:=v) h;exact .inl #[i,t,rfl,e]
 | .inr x,v,h=>by
  obtain⟨t,e⟩:=Value.isStrOf_shape (x:=x) (v:=v) h;exact .inr #[x,t,rfl,e]
def RB(a b:Int):decide ((Sum.inl a:Key)=Sum.inl b)=(a==b):=by
 by_cases e:a=b
 .subst e;simp
 .have h:¬(Sum.inl a:Key)=Sum.inl b:=λq=>e (Sum.inl.inj q)
  rw[GM h];exact(aaH.mpr e).symm
def RF(a b:Str):decide ((Sum.inr a:Key)=Sum.inr b)=decide (a=b):=by
 by_cases e:a=b
 .subst e;simp
 .have h:¬(Sum.inr a:Key)=Sum.inr b:=λq=>e (Sum.inr.inj q)
  rw[GM h,GM e]
def RC(a:Int)(b:Str):decide ((Sum.inl a:Key)=Sum.inr b)=false:=GM (λq=>nomatch q)
def RE(a:Str)(b:Int):decide ((Sum.inr a:Key)=Sum.inl b)=false:=GM (λq=>nomatch q)
def yT(prog:Program)(w:World):PySem.KeyKind prog w Key where
 is:=OJ
 hash:=Za w
 inj:=λv a b g f=>by
  rcases dA g with ⟨i,t,rfl,rfl⟩ | ⟨x,t,rfl,rfl⟩
  .rcases dA f with ⟨j,u,rfl,e⟩ | ⟨y,u,rfl,e⟩
   .injection e with c _;rw[c]
   .exact nomatch e
  .rcases dA f with ⟨j,u,rfl,e⟩ | ⟨y,u,rfl,e⟩
   .exact nomatch e
   .injection e with c _;rw[c]
 byValue:=λk v h=>by
  rcases dA h with ⟨i,t,rfl,rfl⟩ | ⟨x,t,rfl,rfl⟩<;>rfl
 pyHash:=λd h=>by
  rcases dA d with ⟨i,t,rfl,rfl⟩ | ⟨x,t,rfl,rfl⟩
  .exact wpAny_pyHash_int h
  .exact wpAny_pyHash_str h
 eqBool:=λl d h=>by
  rcases dA l with ⟨i,t,rfl,rfl⟩ | ⟨x,t,rfl,rfl⟩
  .rcases dA d with ⟨j,u,rfl,rfl⟩ | ⟨y,u,rfl,rfl⟩
   .rw[RB] at h;exact wpAny_eqBool_int h
   .rw[RC] at h;exact SeqAt.EqAt.int_str i t y u _ _ _ _ h
  .rcases dA d with ⟨j,u,rfl,rfl⟩ | ⟨y,u,rfl,rfl⟩
   .rw[RE] at h;exact SeqAt.EqAt.str_int x t j u _ _ _ _ h
   .rw[RF] at h;exact wpAny_eqBool_str h
 «strs»:=λk x t v h=>by
  rcases dA h with ⟨i,u,rfl,e⟩ | ⟨y,u,rfl,e⟩
  .exact nomatch e
  .injection e with c _
   subst c;cases v<;>rfl
set_option genInjectivity true in
inductive V where
 |bo|bl (b:Bool) |int (i:Int) |str (x:Str) |K5 (b:Array UInt8) |HU (b:UInt64) |ref (a:Addr) |ty (n:String)
 deriving DecidableEq
def RelV:V->Value->Prop
 | .bo,u=>u=Value.none
 | .bl b,u=>u=Value.bool b
 | .int i,u=>∃t,u=Value.int i t
 | .str x,u=>∃t,u=Value.str x t
 | .K5 b,u=>∃t,u=Value.bytes b t
 | .HU b,u=>∃t,u=Value.float b t
 | .ref a,u=>u=Value.ref a
 | .ty n,u=>u=Value.type n
abbrev Vals:List V->List Value->Prop:=Paired RelV
theorem Vals.length(r:Vals a b):a.length=b.length:=Paired.length r
theorem Vals.get:∀{a:List V}{b:List Value}{i:Nat}{x:V},Vals a b->a[i]?\x->∃u,b[i]?\u/\RelV x u
 |_,_,_,_, .nil,e=>by simp at e
 |_,_,0,_, .cons r _,e=>by simp at e;subst e;exact#[_,rfl,r]
 |_,_,i+1,x, .cons _ t,e=>by
  obtain⟨u,c,d⟩:=Vals.get (i:=i) (x:=x) t (~~~e)
  exact#[u,by simpa using c,d]
theorem Vals.set{x:V}(r:RelV x u):∀{a:List V}{b:List Value}(i:Nat),Vals a b->Vals (a.set i x) (b.set i u)
 |_,_,_, .nil=> .nil
 |_,_,0, .cons _ t=> .cons r t
 |_,_,i+1, .cons q t=> .cons q (Vals.set r i t)
theorem Vals.append:∀{a b:List V}{c d:List Value},Vals a c->Vals b d->Vals (a++b) (c++d)
 |_,_,_,_, .nil,s=>s
 |_,_,_,_, .cons r t,s=> .cons r (Vals.append t s)
theorem Vals.take:∀{xs:List V}{a:List Value}(n:Nat),Vals xs a->Vals (xs.take n) (a.take n)
 |_,_,0,_=> .nil
 |_,_,_+1, .nil=> .nil
 |_,_,n+1, .cons r t=> .cons r (Vals.take n t)
theorem Vals.drop:∀{xs:List V}{a:List Value}(n:Nat),Vals xs a->Vals (xs.drop n) (a.drop n)
 |_,_,0,r=>r
 |_,_,_+1, .nil=> .nil
 |_,_,n+1, .cons _ t=>Vals.drop n t
def kW:Option V->Option Value->Prop
 |some v,some u=>RelV v u
 |none,none=>True
 |_,_=>False
def KV{a:Type}:List (a×V)->List (a×Value)->Prop:=Paired λ(p:a×V)(q:a×Value)=>p.1=q.1/\RelV p.2 q.2
def kV:Key->V
 | .inl i=> .int i
 | .inr x=> .str x
inductive HO where
  |lst (xs:List V)
  |tup (xs:List V)
  |dK (fE:List (Key×V)) |dT (fE:List (List Key×V))
  |set (S:Int->Bool) (n:Nat)
  |ins (C dx:Addr) (fs:List (Str×V))
  |own (x:Addr)
  |xd (fs:List (Str×V))
  |met (f x:Addr)
  |rng (lo hi:Int)
  |rH (o:Obj) (u:HO)
  |GY (ps:Array Value)
  |ext (φ:Heap->Prop)
abbrev Hp:=Addr->Option HO
def upd(H:Hp)(a:Addr)(o:HO):Hp:=λb=>if b=a then some o else H b
def aw{a:Addr}{o:HO}:upd H a o a\o:=by unfold upd;rw[AC rfl]
def aB{a b:Addr}{o:HO}(h:b≠a):upd H a o b=H b:=by unfold upd;rw[tz h]
def aF{H:Hp}{a b:Addr}{o:HO}(h:H a\o)(h':H b=none):a≠b:=by
 intro e;subst e;rw[h] at h';cases h'
section
variable (P:Program) (w:World)
def cp(H:Hp)(h:Heap)(a:Addr):HO->Prop
 | .lst c=>c.length<=sizeLine/\∃(b:List Value)(n:Nat),Vals c b/\h.get? a\{cls:= .type "list",data:= .seq b.toArray n}
 | .tup c=>c.length<=sizeLine/\∃b:List Value,Vals c b/\IsTup h a b.toArray
 | .dK e=>e.length<=sizeLine/\(a==sysModules)=false/\∃j,KV e j/\h.DictOf (yT P w) a j
 | .dT e=>e.length<=sizeLine/\(a==sysModules)=false/\∃c:List (List Key×Addr×Value),
   Paired (λ(p:List Key×V)(q:List Key×Addr×Value)=>p.1=q.1/\H q.2.1\(.tup (p.1.map kV))/\RelV p.2 q.2.2) e c/\
   ∃o k r,h.get? a\o/\o.ExactDict/\o.data= .dict k r/\k.toList=c.map (entryOfKey (tupleKind (yT P w)))/\(c.map (·.1)).Nodup
 | .set S n=>h.SetOf (intKind P w) a S n
 | .ins C g fs=>H g\(.own a)/\fs.length<=1000/\g≠a/\h.get? a\(bN C g)/\
   ∃d,h.Ns1 g d/\(∀f,kW (fs.lookup f) (d f))/\b0 d (fs.map (·.1))
 | .own _=>∃o,h.get? a\o
 | .xd fs=>∃d,h.Ns1 a d/\∀f,kW (fs.lookup f) (d f)
 | .rng lo s=>∃t u v,h.get? a\{cls:= .type "range",data:= .fields [.int lo t, .int s u, .int 1 v].toArray}
 | .rH o u=>h.get? a\o/\cp H h a u
 | .GY y=>h.get? a\{cls:= .none,data:= .fields y}
 | .met f x=>h.get? a\(cq (.ref f) (.ref x))
 | .ext i=>i h/\(∃o,h.get? a\o)/\∀l m:Heap,i l->(∀o,l.get? a\o->m.get? a\o)->i m
def gZ(H:Hp)(h:Heap):Prop:=∀a o,H a\o->cp P w H h a o
end
section
variable {P:Program} {w:World} {H H':Hp} {h h':Heap} {a:Addr} {o:HO}
theorem cp.lt(x:cp P w H h a o):a<h.objs.size:=by
 cases o with
 |lst b=>obtain⟨_,_,_,_,e⟩:=x;exact Do e
 |tup b=>obtain⟨_,_,_,p⟩:=x;exact p.lt
 |dK c=>obtain⟨_,_,_,_,o,_,_,e,_⟩:=x;exact Do e
 |dT c=>obtain⟨_,_,_,_,o,_,_,e,_⟩:=x;exact Do e
 |set S n=>obtain⟨o,_,_,_,e,_⟩:=x;exact Do e
 |ins C d fs=>obtain⟨_,_,_,e,_⟩:=x;exact Do e
 |own y=>obtain⟨_,e⟩:=x;exact Do e
 |xd fs=>obtain⟨_,⟨_,_,_,e,_⟩,_⟩:=x;exact Do e
 |rng lo g=>obtain⟨_,_,_,e⟩:=x;exact Do e
 |rH i u=>obtain⟨e,_⟩:=x;exact Do e
 |GY j=>exact Do (show h.get? a\_ from x)
 |met f y=>exact Do (show h.get? a\_ from x)
 |ext k=>obtain⟨_,⟨_,e⟩,_⟩:=x;exact Do e
theorem Paired.T9:∀{c:List e}{d:List g},Paired F c d->(∀a b,F a b->G a b)->Paired G c d
 |_,_, .nil,_=> .nil
 |_,_, .cons r t,f=> .cons (f _ _ r) (Paired.T9 t f)
theorem cp.mM(x:cp P w H h a o)(k:∀b u,(b=a\/H b\(.own a))->h.get? b\u->h'.get? b\u)
  (E:∀b,H b\(.own a)->H' b\(.own a)) (F:∀b m,H b\(.tup m)->H' b\(.tup m)):cp P w H' h' a o:=by
 induction o with
 |lst m=>obtain⟨z,l,n,r,e⟩:=x;exact#[z,l,n,r,k _ _ (.inl rfl) e]
 |tup m=>obtain⟨z,l,r,g,e,c⟩:=x;exact#[z,l,r,g,k _ _ (.inl rfl) e,c]
 |dK G=>obtain⟨z,y,I,r,g,i,j,e,c⟩:=x;exact#[z,y,I,r,g,i,j,k _ _ (.inl rfl) e,c]
 |dT G=>
  obtain⟨z,y,m,r,g,i,j,e,c⟩:=x;exact#[z,y,m,Paired.T9 r λp q z=>#[z.1,F _ _ z.2.1,z.2.2],g,i,j,k _ _ (.inl rfl) e,c]
 |set S n=>obtain⟨g,i,j,t,e,c⟩:=x;exact#[g,i,j,t,k _ _ (.inl rfl) e,c]
 |ins C N fs=>
  rfl';obtain⟨d,z,ne,e,s,⟨A,i,j,L,c⟩,r⟩:=x;ac_rfl;exact#[E _ d,z,ne,k _ _ (.inl rfl) e,s,#[A,i,j,k _ _ (.inr d) L,c],r]
 |own y=>obtain⟨g,e⟩:=x;exact#[g,k _ _ (.inl rfl) e]
 |xd fs=>obtain⟨s,⟨A,i,j,e,c⟩,r⟩:=x;exact#[s,#[A,i,j,k _ _ (.inl rfl) e,c],r]
 |rng lo Q=>obtain⟨t,u,v,e⟩:=x;exact#[t,u,v,k _ _ (.inl rfl) e]
 |rH g u M=>obtain⟨e,q⟩:=x;exact#[k _ _ (.inl rfl) e,M q]
 |GY B=>
  have e:h.get? a\{cls:= .none,data:= .fields B}:=x;show h'.get? a\{cls:= .none,data:= .fields B};exact k a _ (.inl rfl) e
 |met f y=>
  have e:h.get? a\(cq (.ref f) (.ref y)):=x;show h'.get? a\(cq (.ref f) (.ref y));exact k a _ (.inl rfl) e
 |ext R=>obtain⟨p,⟨o,e⟩,st⟩:=x;exact#[st _ _ p λo q=>k _ _ (.inl rfl) q,#[o,k _ _ (.inl rfl) e],st]
theorem gZ.lt(x:gZ P w H h)(e:H a\o):a<h.objs.size:=(x a o e).lt
def gZ.fresh(x:gZ P w H h)(e:h.objs.size<=a):H a=none:=by
 cases q:H a with
 |none=>rfl
 |some u=>exact absurd (fG (x.lt q) e) (kP _)
def gZ.kept(x:gZ P w H h)(k:∀b u,h.get? b\u->h'.get? b\u):gZ P w H h':=λa o e=>
 (x a o e).mM (λb u _ q=>k b u q) (λ_ q=>q) λ_ _ q=>q
def gZ.laid(x:gZ P w H h)(k:∀b u,h.get? b\u->h'.get? b\u)(g:h.objs.size<=a)(new:cp P w (upd H a o) h' a o):gZ P w (upd H a o) h':=λb u e=>by
 have d:=x.fresh g
 by_cases f:b=a
 .subst f;rw[aw] at e;cases e;exact new
 .rw[aB f] at e
  exact(x b u e).mM (λc v _ q=>k c v q) (λc q=>by rw[aB (aF q d)];exact q) λc i q=>by rw[aB (aF q d)];exact q
end
def Rd(H:Hp)(a:Addr)(u:HO):Prop:=H a\u\/∃o,H a\(.rH o u)
def Rd.ok{P:Program}{w:World}{H:Hp}{a:Addr}(r:Rd H a u)(x:gZ P w H h):cp P w H h a u:=by
 rcases r with r| ⟨o,r⟩
 .exact x a u r
 .obtain⟨_,q⟩:=x a _ r
  exact q
def MJ:Option HO->Prop
 |some (.lst _)=>True
 |some (.dK _)=>True
 |some (.dT _)=>True
 |some (.set _ _)=>True
 |some (.ins _ _ _)=>True
 |some (.ext _)=>True
 |_=>False
section
variable {P:Program} {w:World} {H:Hp} {h h':Heap} {x e:Addr} {o':HO}
def gZ.write(ok:gZ P w H h)(a:MJ (H x))(j:e=x\/H e\(.own x))(k:∀b u,b≠e->h.get? b\u->h'.get? b\u)(n:∃u,h'.get? e\u)
  (new:cp P w (upd H x o') h' x o'):gZ P w (upd H x o') h':=λb u q=>by
 have l:∀c y,H c\(.own y)->c≠x:=λc y r z=>by subst z;rw[r] at a;exact a
 have o:∀c d,H c\(.tup d)->c≠x:=λc d r z=>by subst z;rw[r] at a;exact a
 by_cases f:b=x
 .subst f;rw[aw] at q;cases q;exact new
 .rw[aB f] at q
  by_cases g:b=e
  .have m:H b\(.own x):=by
    rcases j with z|z
    .exact absurd (g.trans z) f
    .rw[g];exact z
   obtain⟨v,p⟩:=n;rw[q] at m;cases m;exact#[v,by rw[g];exact p]
  .refine(ok b u q).mM (λc v i r=>k c v ?_ r) (λc r=>by rw[aB (l c b r)];exact r) λc d r=>by rw[aB (o c d r)];exact r
   rcases i with rfl|i
   .exact g
   .rintro rfl
    rcases j with z|z
    .exact l c b i z
    .rw[i] at z;cases z;exact f rfl
end
structure Un (fs ex:List Addr) (H H':Hp) (h h':Heap):Prop where
 keep:∀b o,h.get? b\o->H b=none->b∉fs->b∉ex->h'.get? b\o
 slot:∀b o,h.get? b\o->H b=none->b∈fs->b∉ex->∃sl,h'.get? b\{o with slots:=sl}
 free:∀b o,h.get? b\o->H b=none->b∉ex->H' b=none
 there:∀b o,h.get? b\o->b∉ex->∃o',h'.get? b\o'
 tups:∀b xs,H b\(.tup xs)->H' b\(.tup xs)
 frzs:∀b o u,H b\(.rH o u)->H' b\(.rH o u)
 tbls:∀b ps,H b\(.GY ps)->∃more,H' b\(.GY (ps++more))
section
variable {fs fs' ex ex':List Addr} {H H1 H2:Hp} {h h1 h2 h':Heap} {a x e:Addr} {o:HO}
def Un.any(u:Un fs ex H H1 h h1)(q:h.get? b\c)(n:H b=none)(d:b∉ex):∃g,h1.get? b\{c with slots:=g}:=by
 by_cases f:b∈fs
 .exact u.slot b c q n f d
 .exact#[c.slots,u.keep b c q n f d]
def Un.kept(k:∀b u,h.get? b\u->h'.get? b\u):Un fs ex H H h h':=
 #[λb c q _ _ _=>k b c q,λb c q _ _ _=>#[c.slots,k b c q],λ_ _ _ n _=>n,λb c q _=>#[c,k b c q],λ_ _ q=>q,λ_ _ _ q=>q,λ_ d q=>#[#[],by rw[q];simp]]
def Un.refl:Un fs ex H H h h:=Un.kept λ_ _ q=>q
def Un.laid(k:∀b u,h.get? b\u->h'.get? b\u)(d:h.objs.size<=a)(c:H a=none):Un fs ex H (upd H a o) h h' where
 keep:=λb u q _ _ _=>k b u q
 slot:=λb u q _ _ _=>#[u.slots,k b u q]
 free:=λb u q n _=>by rw[aB (bJ (fG (Do q) d))];exact n
 there:=λb u q _=>#[u,k b u q]
 tups:=λb f q=>by rw[aB (aF q c)];exact q
 frzs:=λb u f q=>by rw[aB (aF q c)];exact q
 tbls:=λb g q=>#[#[],by rw[aB (aF q c),q];simp]
def Un.write(c:MJ (H x))(j:e=x\/H e\(.own x))(k:∀b u,b≠e->h.get? b\u->h'.get? b\u)(l:∃u,h'.get? e\u):Un fs ex H (upd H x o) h h':=by
 have f:∀b,H b=none->b≠x:=λb n z=>by subst z;rw[n] at c;exact c
 have g:∀b,H b=none->b≠e:=λb n z=>by
  subst z
  rcases j with r|r
  .exact f b n r
  .rw[n] at r;cases r
 have d:∀b u,H b\u->¬MJ (some u)->b≠x:=λb u q m z=>by subst z;rw[q] at c;exact m c
 refine#[λb u q n _ _=>k b u (g b n) q,λb u q n _ _=>#[u.slots,k b u (g b n) q],λb u q n _=>by rw[aB (f b n)];exact n,λb u q _=>?_,
  λb p q=>by rw[aB (d b _ q λz=>z)];exact q,λb u p q=>by rw[aB (d b _ q λz=>z)];exact q,λb s q=>#[#[],by rw[aB (d b _ q λz=>z),q];simp]]
 by_cases i:b=e
 .subst i;exact l
 .exact#[u,k b u i q]
end
def SY(h:Heap)(H:Hp):List Addr:=(am h.objs.size).filter λa=>(H a).isSome
def tG(h:Heap)(H:Hp):Heap:=PySem.W.hideAll h (SY h H)
def Ii(h:Heap)(H:Hp):(tG h H).objs.size=h.objs.size:=PySem.W.hideAll_size _ _
def LC(e:h.get? b\o)(n:H b=none):(tG h H).get? b\o:=
 PySem.W.hideAll_get _ e λa=>by
  have q:(H b).isSome=true:=(kO.mp a).2;rw[n] at q;simp at q
def O2(e:(tG h H).get? b\o):h.get? b\o/\H b=none:=by
 have a:h.get? b\o:=PySem.W.of_hideAll (SY h H) e;exists a;cases q:H b with
 |none=>rfl
 |some x=>
  have c:b∈SY h H:=kO.mpr #[eJ.mpr (Do a),by simp[q]]
  have z:(tG h H).get? b=none:=PySem.W.hideAll_none (SY h H) c;rw[z] at e;cases e
structure Mod (K:ac) (mg:Str->Option Value) (base:Heap):Prop where
 kin:K.In base
 glob:base.Ns mainGlobals mg
 blt:∃mb,base.Ns builtinsNs mb/\∀x:Str,x≠"__name__"->mb x=bootBuiltins x
 nolimit:base.NoLimit
structure Cx where
 prog:Program
 w:World
 K:ac
 mg:Str->Option Value
 base:Heap
 A:Around
 N:List Str
 s₀:Shared
 H₀:Hp
 env:Env
 outer:List Env
 stack:List Env
 ex:List Addr
 fn:Str->Bool
 calm:Bool
 pn:List (Addr×Obj)
 xe:Value->Shared->Prop
def tj(l:List Env):List Addr:=l.filterMap (·.frame)
abbrev Cx.fs(X:Cx):List Addr:=tj X.outer
def l5(a:Scope)(x:Str):Prop:=a.names.lookup x\.local\/a.names.lookup x\.cell\/a.names.lookup x\.free
def Loc(a:Scope)(x:Str):Prop:=a.names.lookup x\.local\/a.names.lookup x\.cell
def Look(env:Env)(h:Heap)(m:Str->Option Value)(x:Str)(u:Value):Prop:=
 (env.kindOf x\.local/\m x\u)\/((env.kindOf x\.cell\/env.kindOf x\.free)/\∃c,env.cells.lookup x\c/\h.IsCell c (some u))
structure Cx.Ok (X:Cx):Prop where
 mod:Mod X.K X.mg X.base
 kind:X.env.scope.kind= .function
 glob:X.env.globals=mainGlobals
 blt:X.env.builtins=builtinsNs
 above:X.s₀.heap.objs.size<=X.env.locals
 inj:∀x y c,X.env.cells.lookup x\c->X.env.cells.lookup y\c->x=y
 has:∀x,(X.env.kindOf x\.cell\/X.env.kindOf x\.free)->∃c,X.env.cells.lookup x\c
 cab:∀x c,X.fn x=true->X.env.cells.lookup x\c->X.s₀.heap.objs.size<=c
 hd:X.calm=true->X.A.handled=none
 frames:X.A.frames\X.stack
 stk:X.stack=X.outer\/(X.stack=X.env::X.outer/\X.env.frame\X.env.locals)
 exf:∀b∈X.ex,b≠X.env.locals/\∀x c,X.env.cells.lookup x\c->c≠b
 bs:∀b o,X.base.get? b\o->X.s₀.heap.get? b\o/\X.H₀ b=none
 bsz:X.base.objs.size<=X.s₀.heap.objs.size
 noex:∀b o,X.base.get? b\o->b∉X.ex
 exfs:∀b∈X.ex,b∉X.fs
 funs:X.s₀.heap.FunFrames X.base X.outer
 frf:∀b∈X.fs,X.H₀ b=none
structure Inv (X:Cx) (pins:List (Addr×Obj)) (σ:List (Option V)) (H:Hp) (s:Shared):Prop where
 ok:X.Ok
 os:s.os=X.s₀.os
 bare:AllBare s.gens
 base:Un X.fs X.ex X.H₀ H X.s₀.heap s.heap
 loc:∃m,s.heap.Ns X.env.locals m/\∀(i:Nat)(x:Str)(v:V),X.N[i]?\x->σ[i]?\(some v)->l5 X.env.scope x->∃u,RelV v u/\Look X.env s.heap m x u
 cell:∀x c,X.env.cells.lookup x\c->∃v,s.heap.IsCell c v
 free:H X.env.locals=none
 freeC:∀x c,X.env.cells.lookup x\c->H c=none
 pin:∀p∈X.pn++pins,s.heap.get? p.1\p.2/\H p.1=none/\p.1≠X.env.locals/\p.1∉X.fs/\∀v,p.2.data≠ .cell v
 hok:gZ X.prog X.w H s.heap
 len:σ.length=X.N.length
section
variable {X:Cx} {pins:List (Addr×Obj)} {σ:List (Option V)} {H H':Hp} {s:Shared} {h':Heap}
def Cx.Ok.Zn(ok:X.Ok)(e:X.base.get? b\o):b∉X.fs:=λa=>by
 have:=(ok.funs.mem a).1
 rw[e] at this;cases this
theorem Inv.bs(I:Inv X pins σ H s):∀b o,X.base.get? b\o->s.heap.get? b\o/\H b=none:=λb o e=>
 #[I.base.keep b o (I.ok.bs b o e).1 (I.ok.bs b o e).2 (I.ok.Zn e) (I.ok.noex b o e),I.base.free b o (I.ok.bs b o e).1 (I.ok.bs b o e).2 (I.ok.noex b o e)]
def Inv.bk(I:Inv X pins σ H s):∀b o,X.base.get? b\o->s.heap.get? b\o:=λb o e=>(I.bs b o e).1
theorem Inv.mod(I:Inv X pins σ H s):Mod X.K X.mg X.base:=I.ok.mod
def Inv.dW(I:Inv X pins σ H s):X.K.In s.heap:=I.ok.mod.kin.keeps I.bk
theorem Inv.lt(I:Inv X pins σ H s):X.env.locals<s.heap.objs.size:=let #[_,a,_]:=I.loc;a.lt
def Inv.sz(I:Inv X pins σ H s):X.s₀.heap.objs.size<=s.heap.objs.size:=iA I.ok.above (sr I.lt)
def Inv.Uc(I:Inv X pins σ H s)(h:s.heap.objs.size<=a):a∉X.fs:=λb=>by
 obtain⟨_,o,c,_⟩:=I.ok.funs.mem b;exact absurd (fG (Do c) (iA I.sz h)) (kP _)
def Inv.xY(I:Inv X pins σ H s):∀x c,X.env.cells.lookup x\c->c≠X.env.locals:=λx c e z=>by
 obtain⟨v,o,a,b⟩:=I.cell x c e;obtain⟨m,⟨g,h,i,d,f,_⟩,_⟩:=I.loc;rw[z,d] at a;cases a;rw[f] at b;cases b
theorem Inv.funs(I:Inv X pins σ H s):s.heap.FunFrames X.base X.outer:=by
 have all:∀(l:List Env),(∀b∈tj l,b∈X.fs)->X.s₀.heap.FunFrames X.base l->s.heap.FunFrames X.base l:=by
  intro l
  induction l with
  |nil=>intro _ _;trivial
  |cons env r g=>
   intro f h;rfl';obtain⟨j,⟨L,o,a,k,m,n⟩,p⟩:=h;have c:L∈X.fs:=f L (by unfold tj;rw[ab7,a];exact dH)
   obtain⟨t,e⟩:=I.base.slot L o m (I.ok.frf L c) c λz=>I.ok.exfs L z c;ac_rfl;exact#[j,#[L,_,a,k,e,n],g (λb d=>f b (by unfold tj;rw[ab7,a];exact eM _ d)) p]
 exact all X.outer (λ_ d=>d) I.ok.funs
theorem Inv.stack(I:Inv X pins σ H s):s.heap.FunFrames X.base X.stack:=by
 rcases I.ok.stk with e| ⟨e,a⟩
 .rw[e];exact I.funs
 .rw[e]
  obtain⟨m,b,_⟩:=I.loc;refine .cons (by rw[I.ok.kind];decide) a b ?_ I.funs
  exact Heap.get?_none_of_le (iA I.ok.bsz I.ok.above)
def Inv.Ee(I:Inv X pins σ H s):∀b∈tj X.stack,b∈X.env.locals::X.fs:=λb a=>by
 rcases I.ok.stk with e| ⟨e,c⟩
 .rw[e] at a;exact eM _ a
 .rw[e] at a
  unfold tj at a;rw[ab7,c] at a;exact a
def Inv.zC(I:Inv X pins σ H s):∀b∈tj X.stack,H b=none:=λb a=>by
 rcases bY.mp (I.Ee b a) with e|a
 .rw[e];exact I.free
 .obtain⟨_,o,c,_⟩:=I.ok.funs.mem a
  exact I.base.free b o c (I.ok.frf b a) λz=>I.ok.exfs b z a
def Inv.step{g':Array GenState}{t':Nat}{d':Drawn}{ch:List Addr}(I:Inv X pins σ H s)
  (t:∀b∈ch,(b∈X.ex\/X.s₀.heap.objs.size<=b)/\b≠X.env.locals/\(∀x c,X.env.cells.lookup x\c->c≠b)/\∀p∈X.pn++pins,p.1≠b)
  (keep:∀b o,b≠X.env.locals->b∉X.fs->b∉ch->s.heap.get? b\o->H b=none->h'.get? b\o)
  (slot:∀b o,b≠X.env.locals->b∈X.fs->b∉ch->s.heap.get? b\o->H b=none->∃F,h'.get? b\{o with slots:=F}) (free:∀b o,b∉ch->s.heap.get? b\o->H b=none->H' b=none)
  (there:∀b o,b∉ch->s.heap.get? b\o->∃y,h'.get? b\y)
  (tups:∀b xs,H b\(.tup xs)->H' b\(.tup xs)) (frzs:∀b o u,H b\(.rH o u)->H' b\(.rH o u)) (tbls:∀b C,H b\(.GY C)->∃more,H' b\(.GY (C++more)))
  (O:∀m,s.heap.Ns X.env.locals m->h'.Ns X.env.locals m) (hok:gZ X.prog X.w H' h') (P:AllBare g'):
  Inv X pins σ H' {s with heap:=h',gens:=g',drawn:=d',toks:=t'}:=by
 have J:∀b o,X.s₀.heap.get? b\o->b≠X.env.locals:=λb o e=>bJ (fG (Do e) I.ok.above)
 have E:∀b o,X.s₀.heap.get? b\o->b∉X.ex->b∉ch:=λb o e a h=>by
  rcases(t b h).1 with z|z
  .exact a z
  .exact absurd (fG (Do e) z) (kP _)
 have f:∀x c,X.env.cells.lookup x\c->∀v,s.heap.IsCell c v->h'.IsCell c v:=λx c e v #[o,j,G]=>by
  have A:c∉ch:=λz=>(t c z).2.2.1 x c e rfl
  by_cases L:c∈X.fs
  .obtain⟨F,q⟩:=slot c o (I.xY x c e) L A j (I.freeC x c e)
   exact#[_,q,G]
  .exact#[o,keep c o (I.xY x c e) L A j (I.freeC x c e),G]
 refine#[I.ok,I.os,P,#[λb o e n h a=>?_,λb o e n h a=>?_,λb o e n a=>?_,λb o e a=>?_,λb xs e=>tups b xs (I.base.tups b xs e),λb o xs e=>frzs b o xs (I.base.frzs b o xs e),λb C e=>?_],?_,λx c e=>?_,?_,λx c e=>?_,λp M=>?_,hok,I.len]
 .exact keep b o (J b o e) h (E b o e a) (I.base.keep b o e n h a) (I.base.free b o e n a)
 .obtain⟨F,g⟩:=I.base.slot b o e n h a
  obtain⟨Q,B⟩:=slot b _ (J b o e) h (E b o e a) g (I.base.free b o e n a);exact#[Q,B]
 .obtain⟨y,g⟩:=I.base.there b o e a
  exact free b y (E b o e a) g (I.base.free b o e n a)
 .obtain⟨y,g⟩:=I.base.there b o e a
  exact there b y (E b o e a) g
 .obtain⟨R,g⟩:=I.base.tbls b C e
  obtain⟨S,B⟩:=tbls b _ g;exact#[R++S,by rw[B,Array.append_assoc]]
 .obtain⟨m,T,U⟩:=I.loc
  refine#[m,O m T,λi x v g B Y=>?_];obtain⟨u,r,l⟩:=U i x v g B Y;exists u,r
  rcases l with l| ⟨k,c,e,z⟩
  .exact .inl l
  .exact .inr #[k,c,e,f x c e _ z]
 .obtain⟨v,z⟩:=I.cell x c e
  exact#[v,f x c e v z]
 .obtain⟨m,⟨o,_,_,j,_⟩,_⟩:=I.loc
  exact free _ o (λz=>(t _ z).2.1 rfl) j I.free
 .obtain⟨v,o,j,G⟩:=I.cell x c e
  exact free c o (λz=>(t c z).2.2.1 x c e rfl) j (I.freeC x c e)
 .obtain⟨e,n,ne,N,d⟩:=I.pin p M
  have A:p.1∉ch:=λz=>(t p.1 z).2.2.2 p M rfl;exact#[keep p.1 p.2 ne N A e n,free p.1 p.2 A e n,ne,N,d]
def Inv.un{t':Nat}(I:Inv X pins σ H s)(u:Un X.fs [] H H' s.heap h')(hok:gZ X.prog X.w H' h'):Inv X pins σ H' {s with heap:=h',toks:=t'}:=by
 rfl';obtain⟨m,⟨o,p,q,d,r⟩,_⟩:=id I.loc;obtain⟨t,h⟩:=u.any d I.free (by simp)
 ac_rfl
 exact I.step (g':=s.gens) (d':=s.drawn) (ch:= []) (λ_ z=>nomatch z) (λb o _ c _ e n=>u.keep b o e n c (by simp)) (λb o _ c _ e n=>u.slot b o e n c (by simp)) (λb o _ e n=>u.free b o e n (by simp)) (λb o _ e=>u.there b o e (by simp)) u.tups u.frzs u.tbls (λv i=>by
  rfl';obtain⟨x,j,k,f,l⟩:=i;ac_rfl;rw[d] at f;cases f;exact#[_,j,k,h,l]) hok I.bare
def Inv.call{g':Array GenState}{t':Nat}{d':Drawn}{ch:List Addr}(I:Inv X pins σ H s)(u:Un (tj X.stack) ch H H' s.heap h')(hok:gZ X.prog X.w H' h')(j:AllBare g')
  (g:∀b∈ch,(b∈X.ex\/X.s₀.heap.objs.size<=b)/\b≠X.env.locals/\(∀x c,X.env.cells.lookup x\c->c≠b)/\∀p∈X.pn++pins,p.1≠b):
  Inv X pins σ H' {s with heap:=h',gens:=g',drawn:=d',toks:=t'}:=by
 rfl';obtain⟨m,⟨o,A,B,h,r⟩,_⟩:=id I.loc;obtain⟨C,f⟩:=u.any h I.free λz=>(g _ z).2.1 rfl;ac_rfl
 exact I.step (ch:=ch) g (λb o f l a e n=>u.keep b o e n (λz=>(bY.mp (I.Ee b z)).elim f l) a) (λb o _ _ a e n=>u.any e n a) (λb o a e n=>u.free b o e n a) (λb o a e=>u.there b o e a) u.tups u.frzs u.tbls (λE q=>by
  rfl';obtain⟨F,t,v,i,y⟩:=q;ac_rfl;rw[h] at i;cases i;exact#[_,t,v,f,y]) hok j
def Inv.turned{t':Nat}{it:Addr}(I:Inv X pins σ H s)(k:∀b o,b≠it->s.heap.get? b\o->h'.get? b\o)(g:H it=none)(d:it≠X.env.locals)
  (h:it∈X.ex\/X.s₀.heap.objs.size<=it) (i:∀x c,X.env.cells.lookup x\c->c≠it) (j:∀p∈X.pn++pins,p.1≠it):Inv X pins σ H {s with heap:=h',toks:=t'}:=by
 have f:∀b u,H b\u->b≠it:=λb u e z=>by rw[z,g] at e;cases e
 refine I.step (g':=s.gens) (d':=s.drawn) (ch:= [it]) (λb l=>?_) (λb o _ _ a e _=>k b o (λz=>a (by simp[z])) e) (λb o _ _ a e _=>#[o.slots,k b o (λz=>a (by simp[z])) e]) (λ_ _ _ _ n=>n)
  (λb o a e=>#[o,k b o (λz=>a (by simp[z])) e]) (λ_ _ e=>e) (λ_ _ _ e=>e) (λb B e=>#[#[],by rw[e];simp]) (λm t=>?_) (λb u e=>?_) I.bare
 .have e:b=it:=by simpa using l
  subst e;exact#[h,d,i,j]
 .obtain⟨o,w,y,A,r⟩:=t
  exact#[o,w,y,k _ o (Ne.symm d) A,r]
 .refine(I.hok b u e).mM (λc v a q=>k c v ?_ q) (λ_ q=>q) λ_ _ q=>q
  rcases a with z|z
  .rw[z];exact f b u e
  .exact f c _ z
def Inv.tok(I:Inv X pins σ H s)(t:Nat):Inv X pins σ H {s with toks:=t}:=I.un (h':=s.heap) (t':=t) Un.refl I.hok
theorem Inv.kept{t':Nat}(I:Inv X pins σ H s)(k:∀b u,s.heap.get? b\u->h'.get? b\u):Inv X pins σ H {s with heap:=h',toks:=t'}:=I.un (Un.kept k) (I.hok.kept k)
theorem Inv.laid{a:Addr}{o:HO}{t':Nat}(I:Inv X pins σ H s)(k:∀b u,s.heap.get? b\u->h'.get? b\u)(c:s.heap.objs.size<=a)(new:cp X.prog X.w (upd H a o) h' a o):
  Inv X pins σ (upd H a o) {s with heap:=h',toks:=t'}:=I.un (Un.laid k c (I.hok.fresh c)) (I.hok.laid k c new)
theorem Inv.write{x e:Addr}{o:HO}{t':Nat}(I:Inv X pins σ H s)(a:MJ (H x))(c:e=x\/H e\(.own x))(k:∀b u,b≠e->s.heap.get? b\u->h'.get? b\u)(d:∃u,h'.get? e\u)
  (new:cp X.prog X.w (upd H x o) h' x o):Inv X pins σ (upd H x o) {s with heap:=h',toks:=t'}:=I.un (Un.write a c k d) (I.hok.write a c k d new)
def Inv.tV(I:Inv X pins σ H s)(h:∀p∈a,s.heap.get? p.1\p.2/\H p.1=none/\p.1≠X.env.locals/\p.1∉X.fs/\∀v,p.2.data≠ .cell v):Inv X a σ H s:=
 #[I.ok,I.os,I.bare,I.base,I.loc,I.cell,I.free,I.freeC,λp b=>(cF.mp b).elim (λz=>I.pin p (fZ _ z)) (h p),I.hok,I.len]
def u0{N:List Str}(c:N.Nodup){i j:Nat}{x:Str}(a:N[i]?\x)(b:N[j]?\x):i=j:=by
 obtain⟨f,d⟩:=dZ.mp a;obtain⟨g,e⟩:=dZ.mp b;exact(List.getElem_inj c).mp (d.trans e.symm)
def store_ok2(I:Inv X pins σ H s)(hN:X.N.Nodup)(O:X.N[i]?\x)(B:Loc X.env.scope x)(r:RelV v u)
  (h:∀S,Inv X pins (σ.set i (some v)) H S->(∃a,Heap.SameBut a s.heap S.heap/\(a=X.env.locals\/X.env.cells.lookup x\a))->Q ⟨⟩ S) (hf:X.fn x=true\/X.env.scope.names.lookup x\.local:=by subst_eqs):wpAny M A (storeName X.env x u) Q E s:=by
 obtain⟨m,T,hl⟩:=id I.loc;have Fz:(X.env.scope.kind== .class|| (X.env.scope.kind== .module&&X.env.locals !=X.env.globals))=false:=by rw[I.ok.kind];rfl
 have Kc:i<σ.length:=by rw[I.len];exact(dZ.mp O).1
 have xY:=I.xY
 have g:∀{a:Addr}{L:Heap},(∃o,s.heap.get? a\o/\H a=none)->Heap.SameBut a s.heap L->gZ X.prog X.w H L:=λ {a L} ha f b ob e=>by
  obtain⟨_,_,Cz⟩:=ha;refine(I.hok b ob e).mM (λc P t q=>(f.2 c ?_).trans q) (λ_ q=>q) λ_ _ q=>q;rintro rfl
  rcases t with rfl|t
  .rw[Cz] at e;cases e
  .rw[Cz] at t;cases t
 rcases B with F|F
 .refine wpAny_storeName_local F T (λL CG f=>?_) Fz
  obtain⟨oL,_,_,rO,_⟩:=id T;refine h _ #[I.ok,I.os,I.bare,#[λb o e n G B=>?_,λb o e n G B=>?_,I.base.free,λb o e B=>?_,I.base.tups,I.base.frzs,I.base.tbls],#[_,CG,λj y U l C Y=>?_],λy c e=>?_,I.free,I.freeC,λp Z=>?_,g #[oL,rO,I.free] f,by simpa using I.len] #[_,f, .inl rfl]
  .exact(f.2 b (bJ (fG (Do e) I.ok.above))).trans (I.base.keep b o e n G B)
  .obtain⟨sl,l⟩:=I.base.slot b o e n G B
   exact#[sl,(f.2 b (bJ (fG (Do e) I.ok.above))).trans l]
  .obtain⟨o',l⟩:=I.base.there b o e B
   exact#[o',(f.2 b (bJ (fG (Do e) I.ok.above))).trans l]
  .by_cases J:j=i
   .subst J
    rw[O] at l;cases l;rw[iS Kc] at C;cases C;exact#[u,r, .inl #[F,by simp]]
   .rw[f7 (Ne.symm J)] at C
    obtain⟨u',r',q⟩:=hl j y U l C Y;exists u',r'
    rcases q with ⟨k,e⟩ | ⟨k,c,e,z⟩
    .refine .inl #[k,?_]
     have:y≠x:=λe=>J (u0 hN l (e▸O))
     simp[this,e]
    .exact .inr #[k,c,e,z.sameBut f (xY y c e)]
  .obtain⟨P,z⟩:=I.cell y c e
   exact#[P,z.sameBut f (xY y c e)]
  .obtain⟨e,n,ne,nf,d⟩:=I.pin p Z
   exact#[(f.2 p.1 ne).trans e,n,ne,nf,d]
 .have VG:X.fn x=true:=by
   rcases hf with z|z
   .exact z
   .rw[z] at F;cases F
  obtain⟨c,t⟩:=I.ok.has x (.inl F);obtain⟨P,z⟩:=I.cell x c t;refine wpAny_storeName_cell I.ok.kind F t z (λL tD f=>?_);obtain⟨oc,YI,YJ⟩:=id z;refine h {s with heap:=L} #[I.ok,I.os,I.bare,#[λb o e n G B=>?_,λb o e n G B=>?_,I.base.free,λb o e B=>?_,I.base.tups,I.base.frzs,I.base.tbls],#[m,T.sameBut f (Ne.symm (xY x c t)),λj y U l C Y=>?_],λy R e=>?_,I.free,I.freeC,λp Z=>?_,g #[oc,YI,I.freeC x c t] f,by simpa using I.len] #[c,f, .inr t]
  .exact(f.2 b (bJ (fG (Do e) (I.ok.cab x c VG t)))).trans (I.base.keep b o e n G B)
  .obtain⟨sl,l⟩:=I.base.slot b o e n G B
   exact#[sl,(f.2 b (bJ (fG (Do e) (I.ok.cab x c VG t)))).trans l]
  .obtain⟨o',l⟩:=I.base.there b o e B
   exact#[o',(f.2 b (bJ (fG (Do e) (I.ok.cab x c VG t)))).trans l]
  .by_cases J:j=i
   .subst J
    rw[O] at l;cases l;rw[iS Kc] at C;cases C;exact#[u,r, .inr #[.inl F,c,t,tD]]
   .rw[f7 (Ne.symm J)] at C
    obtain⟨u',r',q⟩:=hl j y U l C Y;exists u',r'
    rcases q with q| ⟨k,R,e,z'⟩
    .exact .inl q
    .refine .inr #[k,R,e,z'.sameBut f ?_]
     rintro rfl;exact J (u0 hN l (I.ok.inj _ _ _ e t▸O))
  .by_cases Yn:R=c
   .subst Yn;exact#[_,tD]
   .obtain⟨w2,z2⟩:=I.cell y R e
    exact#[w2,z2.sameBut f Yn]
  .obtain⟨e,n,ne,nf,d⟩:=I.pin p Z
   refine#[(f.2 p.1 ?_).trans e,n,ne,nf,d];intro q;rw[q,YI] at e;have q':oc=p.2:=FM e;exact d P (by rw[<-q'];exact YJ)
def ke{x:Str}{v:V}(I:Inv X pins σ H s)(b:X.N.Nodup)(c:X.N[i]?\x)(d:Loc X.env.scope x)(r:RelV v u)
  (h:∀a,Inv X pins (σ.set i (some v)) H a->Q ⟨⟩ a) (e:X.fn x=true\/X.env.scope.names.lookup x\.local:=by subst_eqs):wpAny M A (storeName X.env x u) Q E s:=
 store_ok2 I b c d r (λa f _=>h a f) e
def Inv.HA{s':Shared}{ch:List Addr}(I:Inv X pins σ H s)(a:s'.os=s.os)(u:Un (tj X.stack) ch H H' s.heap s'.heap)(hok:gZ X.prog X.w H' s'.heap)(d:AllBare s'.gens)
  (f:∀b∈ch,(b∈X.ex\/X.s₀.heap.objs.size<=b)/\b≠X.env.locals/\(∀x c,X.env.cells.lookup x\c->c≠b)/\∀p∈X.pn++pins,p.1≠b):Inv X pins σ H' s':=by
 obtain⟨h,g',d',t',g⟩:=s';have e:g=s.os:=a;subst e;exact I.call (g':=g') (t':=t') (d':=d') u hok d f
end
abbrev XK:=Value->Option Addr->Hp->Prop
abbrev St:=List (Option V)
abbrev VK:=V->Hp->Prop
abbrev TE:=St->Hp->VK->Prop
abbrev TT:=St->Hp->(Bool->Hp->Prop)->Prop
abbrev TA:=St->Hp->(List V->Hp->Prop)->Prop
structure Ends where
 nx:St->Hp->Prop
 rt:VK
 bk:St->Hp->Prop:=λ_ _=>False
 ct:St->Hp->Prop:=λ_ _=>False
abbrev TS:=Ends->St->Hp->Prop
def EP(X:Cx)(a:List (Addr×Obj))(c:St)(Q:VK)(u:Value)(d:Shared):Prop:=∃v b,Inv X a c b d/\RelV v u/\Q v b
def TP(X:Cx)(a:List (Addr×Obj))(d:St)(Q:Bool->Hp->Prop)(b:Bool)(e:Shared):Prop:=∃c,Inv X a d c e/\Q b c
def AP(X:Cx)(a:List (Addr×Obj))(d:St)(Q:List V->Hp->Prop)(e:List Value)(f:Shared):Prop:=∃b c,Inv X a d c f/\Vals b e/\Q b c
def SP(X:Cx)(a:List (Addr×Obj))(D:Ends)(f:Flow)(d:Shared):Prop:=
 match f with
 | .next=>∃c b,Inv X a c b d/\D.nx c b
 | .brk=>∃c b,Inv X a c b d/\D.bk c b
 | .cont=>∃c b,Inv X a c b d/\D.ct c b
 | .ret u=>∃v c b,Inv X a c b d/\RelV v u/\D.rt v b
def PE(X:Cx)(e:Expr)(t:TE):Prop:=
 ∀(a:List (Addr×Obj))(s:Shared)(b:St)(H:Hp)(Q:VK),Inv X a b H s->t b H Q->wpAny (model X.prog X.w) X.A (eval e X.env) (EP X a b Q) X.xe s
def PT(X:Cx)(e:Expr)(t:TT):Prop:=
 ∀(a:List (Addr×Obj))(s:Shared)(b:St)(H:Hp)(Q:Bool->Hp->Prop),Inv X a b H s->t b H Q->wpAny (model X.prog X.w) X.A (isTrue e X.env (eval e X.env)) (TP X a b Q) X.xe s
def PW(X:Cx)(e:Expr)(t:TT):Prop:=
 ∀(b:Sem Value)(a:List (Addr×Obj))(s:Shared)(c:St)(H:Hp)(Q:Bool->Hp->Prop),Inv X a c H s->t c H Q->wpAny (model X.prog X.w) X.A (isTrue e X.env b) (TP X a c Q) X.xe s
def PW.pt(h:PW X e t):PT X e t:=h _
def PA(X:Cx)(d:List Expr)(t:TA):Prop:=
 ∀(b:Pos)(a:List (Addr×Obj))(s:Shared)(c:St)(H:Hp)(Q:List V->Hp->Prop),Inv X a c H s->t c H Q->wpAny (model X.prog X.w) X.A (spliced (backTo b (starEach d X.env))) (AP X a c Q) X.xe s
def PS(X:Cx)(st:Stmt)(t:TS):Prop:=
 ∀(a:List (Addr×Obj))(s:Shared)(b:St)(H:Hp)(D:Ends),Inv X a b H s->t D b H->wpAny (model X.prog X.w) X.A (exec st X.env) (SP X a D) X.xe s
def jU(X:Cx)(st:List Stmt)(t:TS):Prop:=
 ∀(a:List (Addr×Obj))(s:Shared)(b:St)(H:Hp)(D:Ends),Inv X a b H s->t D b H->wpAny (model X.prog X.w) X.A (execs st X.env) (SP X a D) X.xe s
def thn{t:Sem b}{Q c:b->Shared->Prop}(h:wpAny M A t Q E s)(d:∀a s,Q a s->c a s):wpAny M A t c E s:=wpAny_mono h d λ_ _ x=>x
section
variable {X:Cx}
def Uq(i:Nat):TE:=λa H Q=>∃v,a[i]?\(some v)/\Q v H
def tC(v:V):TE:=λ_ H Q=>Q v H
def DS(k:X.N[i]?\x)(n:l5 X.env.scope x)(f:(x==("__debug__":Str))=false:=by decide)(o:(x==("__classdict__":Str))=false:=by decide):PE X (.Name x d) (Uq i):=by
 intro b s p H Q I h;rfl';obtain⟨v,e,h⟩:=h;obtain⟨m,t,w⟩:=I.loc;obtain⟨u,r,l⟩:=w i x v k e n;have fin:EP X b p Q u s:=#[v,H,I,r,h];ac_rfl
 rcases l with ⟨a,y⟩ | ⟨a,c,g,j⟩
 .exact wpAny_Name (wpAny_loadName_local I.ok.kind a t y fin) f
 .rcases a with a|a
  .exact wpAny_Name (wpAny_loadName_cell I.ok.kind a g j fin) f
  .exact wpAny_Name (wpAny_loadName_free I.ok.kind a g j fin o) f
def Sg{i j pos}:PE X (.Constant (.int i) j pos) (tC (.int i)):=λ_ _ _ H _ I h=>wpAny_Constant_int #[.int i,H,I.tok _,#[_,rfl],h]
def Wk{b j pos}:PE X (.Constant (.bool b) j pos) (tC (.bl b)):=λ_ _ _ H _ I h=>Constant_bool #[.bl b,H,I,rfl,h]
def Si{j pos}:PE X (.Constant .none j pos) (tC .bo):=λ_ _ _ H _ I h=>Constant_none #[.bo,H,I,rfl,h]
def DR{x j pos}:PE X (.Constant (.str x) j pos) (tC (.str x)):=λ_ _ _ H _ I h=>Calls.Constant_str #[.str x,H,I.tok _,#[_,rfl],h]
def Gl(X:Cx)(x:Str):Prop:=X.env.kindOf x\.globalImplicit
def jx(I:Inv X a c H s)(d:Gl X x)(e:X.mg x\u)(h:Q u s)
  (f:(x==("__debug__":Str))=false:=by decide):wpAny (model X.prog X.w) X.A (eval (.Name x b) X.env) Q E s:=
 aco I.ok.kind d (Calls.loadGlobal_global (by rw[I.ok.glob];exact I.mod.glob.keeps I.bk) e h) f
def k7{u:Value}(I:Inv X a c H s)(d:Gl X x)(e:X.mg x=none)(f:bootBuiltins x\u)(h:Q u s)
  (g:x≠"__name__":=by decide) (i:(x==("__debug__":Str))=false:=by decide):wpAny (model X.prog X.w) X.A (eval (.Name x b) X.env) Q E s:=by
 obtain⟨l,j,k⟩:=I.mod.blt;exact aco I.ok.kind d (Calls.loadGlobal_builtin (by rw[I.ok.glob];exact I.mod.glob.keeps I.bk) e (by rw[I.ok.blt];exact j.keeps I.bk) ((k x g).trans f) h) i
def Gu{v:V}(b:Gl X x)(c:X.mg x\u)(r:RelV v u)(d:(x==("__debug__":Str))=false:=by decide):PE X (.Name x a) (tC v):=
 λ_ _ _ H _ I h=>jx I b c #[v,H,I,r,h] d
def Gr(b:Gl X x)(c:X.mg x=none)(d:bootBuiltins x\u)(r:RelV v u)(e:x≠"__name__":=by decide)(f:(x==("__debug__":Str))=false:=by decide):PE X (.Name x a) (tC v):=
 λ_ _ _ H _ I h=>k7 I b c d #[v,H,I,r,h] e f
variable {a b:Expr} {ta tb:TE} {pos:Pos}
variable {tA Eg:TT} {rest:List Expr}
def ZT(t u:TT):TT:=λd H Q=>t d H λc e=>if c=true then u d e Q else Q false e
def tOr(t u:TT):TT:=λd H Q=>t d H λc e=>if c=true then Q true e else u d e Q
def Z2(t:TT):TT:=λd H Q=>t d H λc e=>Q (!c) e
def PB(f:PT X a tA):PW X (.BoolOp .And [a] pos) tA:=by
 intro i d s g H Q I h;refine isTrue_and (thn (f d s g H Q I h) λc j e=>?_);cases c with
 |true=>exact isTrue_and_nil e
 |false=>exact e
def Sw(f:PT X a tA):PW X (.BoolOp .Or [a] pos) tA:=by
 intro i d s g H Q I h;refine isTrue_or (thn (f d s g H Q I h) λc j e=>?_);cases c with
 |false=>exact isTrue_or_nil e
 |true=>exact e
def Su(j:PT X a tA)(k:PW X (.BoolOp .And (b::rest) pos) Eg):PW X (.BoolOp .And (a::b::rest) pos) (ZT tA Eg):=by
 intro l d s e H Q I h;refine isTrue_and (thn (j d s e H _ I h) λc m #[f,g,i]=>?_);cases c with
 |true=>exact k l d m e f Q g i
 |false=>exact#[f,g,i]
def Wm(j:PT X a tA)(k:PW X (.BoolOp .Or (b::rest) pos) Eg):PW X (.BoolOp .Or (a::b::rest) pos) (tOr tA Eg):=by
 intro l d s e H Q I h;refine isTrue_or (thn (j d s e H _ I h) λc m #[f,g,i]=>?_);cases c with
 |true=>exact#[f,g,i]
 |false=>exact k l d m e f Q g i
def Ss(e:PT X a tA):PT X (.UnaryOp .Not a pos) (Z2 tA):=by
 intro d s f H Q I h;exact isTrue_not (e d s f H (λc g=>Q (!c) g) I h)
def WE(f g:TE):TE:=λd H Q=>f d H λx e=>∃c,x= .bl c/\if c=true then g d e Q else Q (.bl false) e
def WM(d:TE):TE:=λe H Q=>d e H λx f=>∃c,x= .bl c/\Q (.bl (!c)) f
def Sk{op}(h:PE X a t):PE X (.BoolOp op [a] pos) t:=λc s d H Q I hw=>BoolOp_one (h c s d H Q I hw)
def Sa(j:PE X a ta)(k:PE X (.BoolOp .And (b::rest) pos) tb):PE X (.BoolOp .And (a::b::rest) pos) (WE ta tb):=by
 intro d s f H Q I h;refine BoolOp_and (thn (j d s f H _ I h) λv l m=>?_);rfl';obtain⟨x,g,i,o,e⟩:=m;obtain⟨c,rfl,e⟩:=e;ac_rfl;subst o;refine SC ?_;cases c with
 |true=>exact k d l f g Q i e
 |false=>exact#[.bl false,g,i,rfl,e]
def Sj(f:PE X a ta):PE X (.UnaryOp .Not a pos) (WM ta):=by
 intro d s g H Q I h;refine UnaryOp_ (thn (f d s g H _ I h) λv n i=>?_);rfl';obtain⟨x,k,l,m,e⟩:=i;obtain⟨c,rfl,e⟩:=e;ac_rfl;subst m;exact not_of (SC #[.bl (!c),k,l,rfl,e])
end
def cK(K:ac)(H:Hp)(a:Addr)(c:List V):Prop:=
 Rd H a (.lst c)\/
  ∃(o:Obj)(b:Array Value)(n:Nat),K.lookup a\o/\o.cls= .type "list"/\o.dict=none/\o.data= .seq b n/\b.size<=sizeLine/\Vals c b.toList
def gj(K:ac)(H:Hp)(a:Addr)(c:List V):Prop:=
 Rd H a (.tup c)\/
  ∃(o:Obj)(b:Array Value)(n:Nat),K.lookup a\o/\o.cls= .type "tuple"/\o.data= .seq b n/\b.size<=sizeLine/\Vals c b.toList
def Xd:Value->Option V
 | .none=>some .bo
 | .bool b=>some (.bl b)
 | .int i _=>some (.int i)
 | .str x _=>some (.str x)
 | .bytes b _=>some (.K5 b)
 | .float b _=>some (.HU b)
 | .ref a=>some (.ref a)
 | .type n=>some (.ty n)
 |_=>none
def RelV.abs{x:V}{u:Value}(r:RelV x u):Xd u\x:=by
 cases x with
 |bo=>cases r;rfl
 |bl _=>cases r;rfl
 |int _=>obtain⟨t,rfl⟩:=r;rfl
 |str _=>obtain⟨t,rfl⟩:=r;rfl
 |K5 _=>obtain⟨t,rfl⟩:=r;rfl
 |HU _=>obtain⟨t,rfl⟩:=r;rfl
 |ref _=>cases r;rfl
 |ty _=>cases r;rfl
def RelV.inj{x y:V}(r:RelV x u)(q:RelV y u):x=y:=FM (r.abs.symm.trans q.abs)
theorem Vals.inj:∀{a b:List V}{c:List Value},Vals a c->Vals b c->a=b
 |_,_,_, .nil, .nil=>rfl
 |_,_,_, .cons r t, .cons d e=>by rw[r.inj d,Vals.inj t e]
section
variable {X:Cx} {pins:List (Addr×Obj)} {σ:St} {H:Hp} {s:Shared} {a:Addr} {xs ys:List V}
def cK.of{K:ac}(h:H a\(.lst xs)):cK K H a xs:= .inl (.inl h)
def gj.of{K:ac}(h:H a\(.tup xs)):gj K H a xs:= .inl (.inl h)
def Inv.list(I:Inv X pins σ H s)(h:cK X.K H a xs):∃its:List Value,Vals xs its/\PlainL s.heap a its.toArray/\xs.length<=sizeLine:=by
 rcases h with h| ⟨o,its,n,b,c,d,f,g,r⟩
 .obtain⟨z,its,n,r,e⟩:=h.ok I.hok
  exact#[its,r,#[_,n,e,rfl,rfl,rfl],z]
 .refine#[its.toList,r,#[o,n,I.dW a o b,c,d,by simpa using f],?_]
  have e:=r.length;simp only[dY] at e;lia
def Inv.tuple(I:Inv X pins σ H s)(h:gj X.K H a xs):∃its:List Value,Vals xs its/\IsTup s.heap a its.toArray/\xs.length<=sizeLine:=by
 rcases h with h| ⟨o,its,n,b,c,d,f,r⟩
 .obtain⟨z,its,r,p⟩:=h.ok I.hok
  exact#[its,r,p,z]
 .refine#[its.toList,r,#[o,I.dW a o b,c,n,by simpa using d],?_]
  have e:=r.length;simp only[dY] at e;lia
def Inv.uX(I:Inv X pins σ H s)(h:cK X.K H a xs)(h':cK X.K H a ys):xs=ys:=by
 rfl';obtain⟨c,r,⟨o,n,e,_,_,d⟩,_⟩:=I.list h;obtain⟨b,j,⟨m,p,f,_,_,g⟩,_⟩:=I.list h';ac_rfl;rw[e] at f;cases f;rw[d] at g
 injection g with k _
 have:c=b:=by simpa using KF Array.toList k
 subst this;exact r.inj j
end
abbrev Cx.qZ(X:Cx)(E:Value->Shared->Prop):Cx:={X with xe:=E}
abbrev Cx.lK(X:Cx):Cx:=X.qZ λ_ _=>False
theorem Cx.Ok.qZ{X:Cx}(ok:X.Ok)(E:Value->Shared->Prop):(X.qZ E).Ok:=
 #[ok.mod,ok.kind,ok.glob,ok.blt,ok.above,ok.inj,ok.has,ok.cab,ok.hd,ok.frames,ok.stk,ok.exf,ok.bs,ok.bsz,ok.noex,ok.exfs,ok.funs,ok.frf]
def Cx.Ok.lC{X:Cx}(ok:(X.qZ E).Ok):X.Ok:=
 #[ok.mod,ok.kind,ok.glob,ok.blt,ok.above,ok.inj,ok.has,ok.cab,ok.hd,ok.frames,ok.stk,ok.exf,ok.bs,ok.bsz,ok.noex,ok.exfs,ok.funs,ok.frf]
section
variable {X:Cx} {pins:List (Addr×Obj)} {σ:St} {H:Hp} {s:Shared} {E:Value->Shared->Prop}
theorem Inv.qZ(I:Inv X pins σ H s)(E:Value->Shared->Prop):Inv (X.qZ E) pins σ H s:=#[I.ok.qZ E,I.os,I.bare,I.base,I.loc,I.cell,I.free,I.freeC,I.pin,I.hok,I.len]
theorem Inv.lC(I:Inv (X.qZ E) pins σ H s):Inv X pins σ H s:=#[I.ok.lC,I.os,I.bare,I.base,I.loc,I.cell,I.free,I.freeC,I.pin,I.hok,I.len]
theorem SP.lC{D:Ends}{f:Flow}{s':Shared}(h:SP (X.qZ E) pins D f s'):SP X pins D f s':=by
 cases f with
 |next=>obtain⟨aC,H',I,q⟩:=h;exact#[aC,H',I.lC,q]
 |brk=>obtain⟨aC,H',I,q⟩:=h;exact#[aC,H',I.lC,q]
 |cont=>obtain⟨aC,H',I,q⟩:=h;exact#[aC,H',I.lC,q]
 |ret u=>obtain⟨v,aC,H',I,r,q⟩:=h;exact#[v,aC,H',I.lC,r,q]
theorem jU.lK{st:List Stmt}{t:TS}(h:jU X.lK st t):jU X st t:=λa s b H D I hw=>
 wpAny_mono (h a s b H D (I.qZ _) hw) (λ_ _ q=>q.lC) λ_ _ z=>False.elim z
end
section
variable {X:Cx} {st:Stmt} {rest:List Stmt} {t u:TS} {e:Expr} {te:TE} {pos:Pos}
def WL:TS:=λD a H=>D.nx a H
def Z5(t u:TS):TS:=λD a H=>t {D with nx:=u D} a H
def GA:jU X [] WL:=λ_ _ a H _ I h=>abV #[a,H,I,h]
def eB(h1:PS X st t)(h2:jU X rest u):jU X (st::rest) (Z5 t u):=by
 intro pins s σ H D I h;refine wpAny_execs_cons (thn (h1 pins s σ H {D with nx:=u D} I h) λf s1 q=>?_)
 cases f with
 |next=>
  obtain⟨aC,H',I',q⟩:=q;exact h2 pins s1 aC H' D I' q
 |ret v=>exact q
 |brk=>exact q
 |cont=>exact q
def pO(h1:PS X st t):jU X [st] t:=by
 intro pins s σ H D I h;refine wpAny_execs_cons (thn (h1 pins s σ H D I h) λf s1 q=>?_);cases f with
 |next=>exact wpAny_execs_nil q
 |ret v=>exact q
 |brk=>exact q
 |cont=>exact q
def Inv.quiet(I:Inv X a b H s):interactive X.env=false:=by simp[interactive,I.ok.kind]
def WI(b:TE):TS:=λD a H=>b a H λ_ c=>D.nx a c
def gN(c:PE X e te)(d:swapsWith e none pos.line X.env=pure false:=by rfl):PS X (.Expr e pos) (WI te):=by
 intro a s b H D I h;exact wpAny_Expr_any (thn (c a s b H _ I h) λv j #[x,f,g,k,i]=>#[b,f,g,i]) I.quiet d
def Z4(a:TE):TS:=λD b H=>a b H D.rt
def DY(c:PE X e te):PS X (.Return (some e) pos) (Z4 te):=by
 intro a s b H D I h;exact wpAny_Return_some (thn (c a s b H _ I h) λv j #[x,d,f,g,i]=>#[x,b,d,f,g,i])
def Z0(c:TT)(t u:TS):TS:=λD a H=>c a H λb d=>if b=true then t D a d else u D a d
def Pt(m:PT X c tc)(n:jU X a t)(o:jU X b u):PS X (.If c a b pos) (Z0 tc t u):=by
 intro f s g H D I h;refine wpAny_If (thn (m f s g H _ I h) λd i #[j,k,l]=>?_);cases d with
 |true=>exact n f i g j D k l
 |false=>exact o f i g j D k l
def SS:TS:=λ_ _ _=>False
def Mf:PS X st SS:=λ_ _ _ _ _ _ h=>h.elim
end
abbrev TG:=V->St->Hp->(St->Hp->Prop)->Prop
abbrev zW:=List V->St->Hp->(St->Hp->Prop)->Prop
def PG(X:Cx)(a:Expr)(t:TG):Prop:=
 ∀(b:List (Addr×Obj))(s:Shared)(c:St)(H:Hp)(v:V)(u:Value)(Q:St->Hp->Prop),Inv X b c H s->RelV v u->t v c H Q->
  wpAny (model X.prog X.w) X.A (assign a X.env u) (λ_ f=>∃d e,Inv X b d e f/\Q d e) X.xe s
def BM(X:Cx)(g:List Expr)(t:zW):Prop:=
 ∀(a:List (Addr×Obj))(s:Shared)(b:St)(H:Hp)(c:List V)(d:List Value)(Q:St->Hp->Prop),Inv X a b H s->Vals c d->t c b H Q->
  wpAny (model X.prog X.w) X.A (assignInOrder ((assignEach g X.env).map (·.2)) d) (λ_ h=>∃e f,Inv X a e f h/\Q e f) X.xe s
abbrev MM:=V->V->V->Hp->(Hp->Prop)->Prop
def Tn(X:Cx)(t:MM):Prop:=
 ∀(a:List (Addr×Obj))(s:Shared)(b:St)(H:Hp)(o i v:V)(c d u:Value)(Q:Hp->Prop),Inv X a b H s->RelV o c->RelV i d->RelV v u->t o i v H Q->
  wpAny (model X.prog X.w) X.A (setItem c d u) (λ_ f=>∃e,Inv X a b e f/\Q e) X.xe s
section
variable {X:Cx} {pos:Pos}
def NW(i:Nat):TG:=λv a H Q=>Q (a.set i (some v)) H
def Gv(b:X.N.Nodup)(c:X.N[i]?\x)(d:Loc X.env.scope x)(e:X.fn x=true\/X.env.scope.names.lookup x\.local:=by subst_eqs):PG X (.Name x f) (NW i):=by
 intro a s j H v u Q I r h;exact wpAny_assign_Name (ke I b c d r (λk g=>#[_,H,g,h]) e)
def X7:zW:=λa b H Q=>a= []/\Q b H
def Vp(t:TG)(u:zW):zW:=λa b H Q=>∃v r,a=v::r/\t v b H λc d=>u r c d Q
def zf:BM X [] X7:=by
 intro a s b H c d Q I r h;obtain⟨e,h⟩:=h;subst e;cases r;exact assignInOrder_nil #[b,H,I,h]
theorem qF(c:PG X e t)(d:BM X b u)
  (f:(assignEach (e::b) X.env).map (·.2)=assign e X.env::(assignEach b X.env).map (·.2):=by rfl):BM X (e::b) (Vp t u):=by
 intro a s g H w x Q I r h;obtain⟨v,y,i,h⟩:=h;subst i;cases r with
 |cons r j=>
  rw[f];refine aci (thn (c a s g H _ _ _ I r h) λ_ k l=>?_);rfl';obtain⟨n,o,p,q⟩:=l;ac_rfl;exact d a k n o _ _ Q p j q
def X9(K:ac)(n:Nat)(t:zW):TG:=λv c H Q=>∃a b,v= .ref a/\gj K H a b/\b.length=n/\t b c H Q
def DU{d:List Expr}(i:X.calm=true)(h:BM X d t)
  (j:(assignEach d X.env).length=n:=by rfl) (l:(assignEach d X.env).findIdx? (·.1)=none:=by rfl):PG X (.Tuple d k pos) (X9 X.K n t):=by
 intro c s f H v u Q I r hw;rfl';obtain⟨a,p,q,w,x,hw⟩:=hw;subst q;subst r;obtain⟨y,g,z,F⟩:=I.tuple w;ac_rfl;refine assign_Tuple_tuple (I.ok.hd i) z (by simp[j,<-x,g.length]) l λA B=>?_
 have C:Inv X c f H {s with heap:=A}:=I.kept (t':=s.toks) λb o e=>B b o (bJ (Do e)) e
 exact h c _ f H p _ Q C (g) hw
def X8(b c:TE)(t:MM):TG:=λv a H Q=>b a H λo d=>c a d λi e=>t o i v e λf=>Q a f
def xB{o i:Expr}(l:PE X o g)(m:PE X i j)(n:Tn X t)
  (p:∀v,assign (.Subscript o i pos) X.env v=(do
   let b <-holding [v] (eval o X.env)
   let c <-holding [v,b] (eval i X.env)
   standAt pos
   holding [v,b,c] (setItem b c v)
   release [v,b,c] []):=by intro _;rfl):PG X (.Subscript o i pos) (X8 g j t):=by
 intro a s f H v u Q I r h;rw[p];refine ir (KM (thn (l a s f H _ I h) λb q d=>?_));rfl';obtain⟨x,w,z,A,B⟩:=d;ac_rfl;refine ir (KM (thn (m a q f w _ z B) λc C d=>?_));rfl';obtain⟨y,E,F,G,J⟩:=d;ac_rfl;refine ir (aaM (ir (KM (thn (n a C f E x y v b c u _ F A G r J) λ_ O d=>?_))));rfl';obtain⟨L,M,N⟩:=d;ac_rfl;exact wpAny_release #[f,L,M,N]
def Ul(b:TE)(g:TG):TS:=λD a H=>b a H λx c=>g x a c D.nx
def xC(f:PE X e c)(i:PG X b g)(j:swapsWithSole [b] e pos.line X.env=pure false:=by rfl)(hw:swappedStores [b] e X.env=pure none:=by rfl)
  (k:(assignEach [b] X.env).map (·.2)= [assign b X.env]:=by rfl):PS X (.Assign [b] e pos) (Ul c g):=by
 intro a s d H D I h;refine wpAny_Assign_stores (thn (f a s d H _ I h) λv l #[x,m,n,o,p]=>?_) j hw;rw[k];exact thn (i a l d m x v _ n o p) λ_ r q=>q
def gT{i:Nat}(d:X.N.Nodup)(f:X.N[i]?\x)(g:Loc X.env.scope x)(j:PE X e c)(k:swapsWith e (some (.Name x a)) pos.line X.env=pure false:=by rfl)(l:X.fn x=true\/X.env.scope.names.lookup x\.local:=by subst_eqs):
  PS X (.Assign [.Name x a] e pos) (Ul c (NW i)):=by
 intro b s m H D I h;refine wpAny_Assign_Name (thn (j b s m H _ I h) λv t #[y,n,o,p,q]=>?_) k;exact ke o d f g p (λu r=>#[_,n,r,q]) l
def Z3(i j:Nat)(b:TA):TS:=λD a H=>b a H λc d=>∃v w,c= [v,w]/\D.nx ((a.set i (some v)).set j (some w)) d
theorem Sq{kt k2 Jk}(C:X.calm=true)(n:X.N.Nodup)(E:X.N[i]?\x)(F:X.N[j]?\y)(G:i≠j)
  (r:X.env.scope.names.lookup x\.local) (t:X.env.scope.names.lookup y\.local) (J:PA X [a,b] m)
  (hw:swappedStores [.Tuple [.Name x k, .Name y py] kt pt] (.Tuple [a,b] k2 Jk) X.env=pure (some [x,y]))
  (L:swapsWithSole [.Tuple [.Name x k, .Name y py] kt pt] (.Tuple [a,b] k2 Jk) pos.line X.env=pure false:=by rfl):
  PS X (.Assign [.Tuple [.Name x k, .Name y py] kt pt] (.Tuple [a,b] k2 Jk) pos) (Z3 i j m):=by
 intro c s u H D I h;rw[exec_Assign_arm];refine ir (aaM ?_);rw[L];refine ir (mo ?_);rw[tz ∅]
 refine ir (Tuple_ (thn (J _ c s u H _ I h) λM d O=>?_));obtain⟨vs,z,P,Q,l⟩:=O;obtain⟨v,w,R,l⟩:=l;subst R
 obtain⟨f,g,rfl,S,T⟩:∃f g,M= [f,g]/\RelV v f/\RelV w g:=by
  cases Q with
  |cons p q=>
   cases q with
   |cons U Y=>
    cases Y;exact#[_,_,rfl,p,U]
 refine Pi ?_ (by show 2<=sizeLine;decide)
 have Z:Inv X c u z {d with heap:=d.heap.push {cls:= .type "tuple",data:= .seq [f,g].toArray}}:=P.kept (t':=d.toks) λb o e=>Da _ e
 rw[hw];refine ir (mo ?_);show wpAny (model X.prog X.w) X.A (do rule "assign.swapped-stores";let items <-unpackItems (.ref d.heap.objs.size) 2 none;assignInOrder [λv=>bindName X.env y v,λv=>bindName X.env x v] items.reverse;pure Flow.next) _ _ _
 refine ir (aaX (ir (unpackItems_tuple (items:= [f,g].toArray) (I.ok.hd C) (IsTup.new d.heap _) λh' Iw=>?_)));have I3:=Z.kept (h':=h') (t':=d.toks) λb o e=>Iw b o (bJ (Do e)) e;show wpAny _ _ (assignInOrder [λv=>bindName X.env y v,λv=>bindName X.env x v] [g,f]>>=λ_=>pure Flow.next) _ _ _;refine ir (aci (wpAny_bindName (ke I3 n F (.inl t) T (λs2 I4=>?_) (.inr t))));refine aci (wpAny_bindName (ke I4 n E (.inl r) S (λs3 B=>assignInOrder_nil (mo ?_)) (.inr r)));rw[List.set_comm _ _ (Ne.symm G)] at B;exact#[_,z,B,l]
end
section
variable {X:Cx} {pos:Pos}
def SV(c:TT)(h:TS):TS:=λD a H=>∃W:Nat->St->Hp->Prop,(∃m,W m a H)/\∀m a H,W m a H->
 c a H λb d=>if b=true then ∃N:St->Hp->Prop,(∀e f,N e f->∃g,g<m/\W g e f)/\h {D with nx:=N,ct:=N,bk:=D.nx} a d else D.nx a d
def Mh{c:Expr}{body:List Stmt}{tc:TT}{tb:TS}(hp:PassesOwn (model X.prog X.w) X.A X.env X.xe)(hc:PT X c tc)(hb:jU X body tb):PS X (.While c body [] pos) (SV tc tb):=by
 intro pins s σ H D I h;obtain⟨W,⟨m0,w0⟩,turn⟩:=h;refine wpAny_While (codeAny_whileLoop (λn s'=>∃aC H',Inv X pins aC H' s'/\W n aC H') ?_ m0 #[σ,H,I,w0]);intro n s1 WX;rfl';obtain⟨JO,H1,I1,w1⟩:=WX;ac_rfl;refine wpAny_passesOwn hp (thn (hc pins s1 JO H1 _ I1 (turn n JO H1 w1)) λb s2 bH=>?_);rfl';obtain⟨H2,I2,q2⟩:=bH;ac_rfl;cases b with
 |true=>
  rfl';obtain⟨N,hN,q2⟩:=q2;ac_rfl;rw[if_pos rfl];refine wpAny_passesOwn hp (thn (hb pins s2 JO H2 _ I2 q2) λf s3 q3=>?_);cases f with
  |next=>
   obtain⟨xi,H3,I3,n3⟩:=q3;obtain⟨m',hm,w3⟩:=hN xi H3 n3;exact#[m',hm,xi,H3,I3,w3]
  |cont=>
   obtain⟨xi,H3,I3,n3⟩:=q3;obtain⟨m',hm,w3⟩:=hN xi H3 n3;exact#[m',hm,xi,H3,I3,w3]
  |brk=>exact q3
  |ret v=>exact q3
 |false=>
  rw[if_neg cQ];exact wpAny_execs_nil #[JO,H2,I2,q2]
end
structure It where
 go:Nat->Hp->Prop
 yld:Nat->Hp->V->Hp->Prop
 stop:Nat->Hp->Prop
def gz(X:Cx)(a:List (Addr×Obj))(H:Hp)(b:Addr):Prop:=
 H b=none/\b≠X.env.locals/\b∉X.fs/\(b∈X.ex\/X.s₀.heap.objs.size<=b)/\(∀x c,X.env.cells.lookup x\c->c≠b)/\∀p∈X.pn++a,p.1≠b
def Inv.Ka(I:Inv X a g H s)(d:s.heap.objs.size<=b)(h:f b=none):gz X a f b:=by
 refine#[h,vx (fG I.lt d),I.Uc d, .inr (iA I.sz d),λx c e z=>?_,λp i z=>?_]
 .obtain⟨v,q⟩:=I.cell x c e
  exact absurd (fG q.lt (by rw[z];exact d)) (kP _)
 .exact absurd (fG (Do (I.pin p i).1) (by rw[z];exact d)) (kP _)
structure Turn (P:Program) (w:World) (K:ac) (tg:Expr) (J:It) (fp:List Addr) (it:Addr) (tn:Nat->Heap->Prop):Prop where
 mem:it∈fp
 obj:∀i h,tn i h->∀b∈fp,∃o,h.get? b\o/\∀v,o.data≠ .cell v
 keep:∀i h h',tn i h->(∀b∈fp,∀o,h.get? b\o->h'.get? b\o)->tn i h'
 item:∀(X:Cx),X.prog=P->X.w=w->X.K=K->X.calm=true->∀(i:Nat)(pins:List (Addr×Obj))(s:Shared)(σ:St)(H:Hp)(E:Value->Shared->Prop),Inv X pins σ H s->(∀b∈fp,gz X pins H b)->tn i s.heap->J.go i H->
  wpAny (model P w) X.A (pyNext (.ref it)) (λr s1=>∃u,r\u/\
   wpAny (model P w) X.A (letOwnedTupleGo tg (.ref it) u) (λ_ s2=>∃x H',Inv X pins σ H' s2/\RelV x u/\J.yld i H x H'/\tn (i+1) s2.heap/\∀b∈fp,H' b=none) E s1) E s
 done:∀(X:Cx),X.prog=P->X.w=w->X.K=K->X.calm=true->∀(i:Nat)(pins:List (Addr×Obj))(s:Shared)(σ:St)(H:Hp)(E:Value->Shared->Prop),Inv X pins σ H s->(∀b∈fp,gz X pins H b)->tn i s.heap->J.stop i H->
  wpAny (model P w) X.A (pyNext (.ref it)) (λr s1=>r=none/\Inv X pins σ H s1) E s
 self:∀(A:Around)(i:Nat)(s:Shared)(Q:Value->Shared->Prop)(E:Value->Shared->Prop),tn i s.heap->Q (.ref it) s->wpAny (model P w) A (pyIter (.ref it)) Q E s
abbrev TI:=St->Hp->(It->Hp->Prop)->Prop
def W8(X:Cx)(a:List (Addr×Obj))(h:St)(i:Expr)(R:It->Hp->Prop)(j:Value)(d:Shared):Prop:=
 ∃(e:Addr)(f:List Addr)(g:Nat->Heap->Prop)(J:It)(c:Hp),j= .ref e/\Inv X a h c d/\Turn X.prog X.w X.K i J f e g/\g 0 d.heap/\(∀b∈f,gz X a c b)/\R J c
def PI(X:Cx)(c iter:Expr)(d:TI):Prop:=
 ∀(a:List (Addr×Obj))(s:Shared)(b:St)(H:Hp)(R:It->Hp->Prop),Inv X a b H s->d b H R->
  wpAny (model X.prog X.w) X.A (eval iter X.env) (λv e=>wpAny (model X.prog X.w) X.A (pyIter v) (W8 X a b c R) X.xe e) X.xe s
theorem Ib{M:Model}{A:Around}{E:Value->Shared->Prop}{s:Shared}{b:Expr}{c:Addr}{u:Value}{o:Obj}{n:String}{d:Array Value}{Q:Unit->Shared->Prop}(e:s.heap.get? c\o)(f:o.cls= .type n)(g:o.data= .fields d)
  (i: ["enumerate","zip","dict_itemiterator","dict_reverseitemiterator","odict_iterator","itertools.zip_longest","itertools.pairwise"].contains n=false) (a:Q ⟨⟩ s):wpAny M A (letOwnedTupleGo b (.ref c) u) Q E s:=by
 unfold letOwnedTupleGo
 cases b<;>first
  |exact wpAny_pure a
  | (cases u<;>first
    |exact wpAny_pure a
    | (refine wpAny_bind (wpAny_load e ?_)
       rw[f,g];show wpAny M A (if (["enumerate","zip","dict_itemiterator","dict_reverseitemiterator","odict_iterator","itertools.zip_longest","itertools.pairwise"].contains n&&d[0]? ==some (rawInt _))=true then _ else _) Q E s;rw[if_neg (by intro h;rw[i,Bool.false_and] at h;cases h)]
       exact wpAny_pure a))
def Uw(K:ac)(a:Addr):It:=
 #[λi H=>∃b x,cK K H a b/\b[i]?\x,λi H x c=>c=H/\∀b,cK K H a b->b[i]?\x,λi H=>∃b,cK K H a b/\b.length<=i]
def QH(lo:Int)(n:Nat):It:=#[λi _=>i<n,λi H x a=>a=H/\x= .int (lo+i),λi _=>n<=i]
def JH{P:Program}{w:World}{K:ac}{R:Expr}(a g:Addr):Turn P w K R (Uw K a) [g] g (λi h=>h.IsListIter g a i) where
 mem:=by simp
 obj:=λi h st b j=>by
  have e:b=g:=by simpa using j
  subst e;obtain⟨o,e,c,d⟩:=st;exact#[o,e,λv z=>by rw[d] at z;cases z]
 keep:=λi h l st k=>st.at λo e=>k g (by simp) o e
 item:=by
  intro X q hw r N i f s O H E I m st t;rfl';subst q hw r;obtain⟨T,x,n,A⟩:=t;obtain⟨B,C,p,U⟩:=I.list n;obtain⟨u,Y,Z⟩:=C.get A;obtain⟨F,G,f2,J,L,M⟩:=m g (by simp)
  ac_rfl;refine wpAny_pyNext_list_item st p.isList (x:=u) (~~~Y) λl Q sb=>?_
  have I1:Inv X f O H {s with heap:=l}:=I.turned (t':=s.toks) (λb o j e=>(sb.2 b j).trans e) F G J L M
  obtain⟨o,e,c,d⟩:=id Q;exact#[u,rfl,Ib (s:={s with heap:=l}) e c d ∅ #[x,H,I1,Z,#[rfl,λys hy=>by rw[I.uX hy n];exact A],Q,λb j=>(m b j).1]]
 done:=by
  intro X q hw r N i f s O H E I m st t;rfl';subst q hw r;obtain⟨T,n,A⟩:=t;obtain⟨B,C,p,U⟩:=I.list n;obtain⟨F,G,f2,J,L,M⟩:=m g (by simp)
  have hl:=C.length;ac_rfl;exact wpAny_pyNext_list_end (I.ok.hd N) st p.isList (by simp;lia) λl eb=>#[rfl,I.turned (t':=s.toks) (λb o j e=>eb b o j e) F G J L M]
 self:=λ_ _ _ _ _ st h=>wpAny_pyIter_listiter st h
def GZ{P:Program}{w:World}{K:ac}{G:Expr}(a:Addr)(lo:Int)(n:Nat):Turn P w K G (QH lo n) [a] a (λi h=>IsRangeIter h a (lo+(i:Nat)*1) ((n:Int)-(i:Nat)) 1) where
 mem:=by simp
 obj:=λi h st b d=>by
  have e:b=a:=by simpa using d
  subst e
  exact#[_,st,λv z=>by
   have J:Data.fields _=Data.cell v:=z;cases J]
 keep:=λi h f st k=>k a (by simp) _ st
 item:=by
  intro X j hw l m i c s B H E I g st p;subst j hw l;rfl';obtain⟨r,u,M,x,y,A⟩:=g a (by simp)
  ac_rfl;have W:=Walks.range (prog:=X.prog) (w:=X.w) (I.ok.hd m) a lo 1 n;refine W.item i s _ _ p st λv f C N F O=>?_;obtain⟨t,rfl⟩:=N;have Q:Inv X c B H {s with heap:=f,toks:=C}:=I.turned (λb o d e=>O b o (~~~d) e) r u x y A
  refine#[_,rfl,Ib (s:={s with heap:=f,toks:=C}) (n:="range_iterator") F rfl rfl ∅ #[.int (lo+i),H,Q,#[t,?_],#[rfl,rfl],F,λb d=>(g b d).1]]
  rw[Int.mul_one]
 done:=by
  intro X j hw l m i c s B H E I g st p;subst j hw l;rfl';obtain⟨r,u,M,x,y,A⟩:=g a (by simp)
  ac_rfl;exact wpAny_pyNext_range_end (I.ok.hd m) st (by have:n<=i:=p;lia) λf R=>#[rfl,I.turned (t':=s.toks) (λb o d e=>R b o d e) r u x y A]
 self:=λ_ _ _ _ _ st h=>wpAny_pyIter_rangeiter st h
section
variable {X:Cx} {tg:Expr}
def VZ(K:ac)(c:TE):TI:=λd H R=>c d H λx b=>∃a,x= .ref a/\(∃e,cK K b a e)/\R (Uw K a) b
def Po(j:PE X l i):PI X tg l (VZ X.K i):=by
 intro c s k H R I h;refine thn (j c s k H _ I h) λv d m=>?_;rfl';obtain⟨x,r,f,t,u⟩:=m;ac_rfl;rfl';obtain⟨a,e,⟨A,w⟩,q⟩:=u;subst e;subst t;obtain⟨y,B,p,C⟩:=f.list w;ac_rfl;refine acy p.isList ?_;refine#[d.heap.objs.size,[d.heap.objs.size],_,_,r,rfl,f.kept (t':=d.toks) λb o e=>Da _ e,JH a _,#[_,Gc _ rfl,rfl,rfl],λb z=>?_,q];have e:b=d.heap.objs.size:=by simpa using z
 subst e;exact f.Ka (bM _) (f.hok.fresh (bM _))
def Ml{c:List (Addr×Obj)}{d:St}{H:Hp}{s:Shared}{R:It->Hp->Prop}{E:Value->Shared->Prop}{lo a:Int}{t u v:Tok}{f:Nat}(I:Inv X c d H s)(h: -(2^62)<=lo)(i:lo<2^62)(j: -(2^62)<=a)(k:a<2^62)
  (q:R (QH lo (a-lo).toNat) H):wpAny (model X.prog X.w) X.A (pyIter (.ref s.heap.objs.size)) (W8 X c d tg R) E {s with heap:=s.heap.push {cls:= .type "range",data:= .fields [.int lo t, .int a u, .int 1 v].toArray},toks:=f}:=by
 refine wpAny_pyIter_range (IsRange.new ..) (small_one h i j k) ?_;have g:Inv X c d H {s with heap:=s.heap.push {cls:= .type "range",data:= .fields [.int lo t, .int a u, .int 1 v].toArray},toks:=f}:=I.kept λb o e=>Da _ e
 refine#[(s.heap.push {cls:= .type "range",data:= .fields [.int lo t, .int a u, .int 1 v].toArray}).objs.size,[(s.heap.push {cls:= .type "range",data:= .fields [.int lo t, .int a u, .int 1 v].toArray}).objs.size],_,_,H,rfl,
  g.kept (t':=f) λb o e=>Da _ e,GZ _ lo (a-lo).toNat,?_,λb l=>?_,q]
 .have m:lo+((0:Nat):Int)*1=lo:=by simp
  have n:(((a-lo).toNat:Nat):Int)-((0:Nat):Int)=Builtin.Range.rangeSize lo a 1:=by rw[rangeSize_one];split<;>lia
  show IsRangeIter _ _ (lo+((0:Nat):Int)*1) ((((a-lo).toNat:Nat):Int)-((0:Nat):Int)) 1;rw[m,n];exact Gc _ rfl
 .have e:b=(s.heap.push {cls:= .type "range",data:= .fields [.int lo t, .int a u, .int 1 v].toArray}).objs.size:=by simpa using l
  subst e;exact g.Ka (bM _) (g.hok.fresh (bM _))
def V0(a:TA):TI:=λb H R=>a b H λc d=>∃j:Int,c= [.int j]/\-(2^62)<=j/\j<2^62/\R (QH 0 j.toNat) d
def Jh(g:Gl X "range")(i:X.mg "range"=none)(k:PA X [a] f)(l:starEach [a] X.env= [(false,eval a X.env)]:=by rfl):PI X tg (.Call (.Name "range" p) [a] [] b) (V0 f):=by
 intro c s m H R I h;refine Call_ (k7 I g i boot_range (aaR (thn (k b c s m H _ I h) λw x #[y,z,n,o,d]=>?_) l rfl));obtain⟨j,e,d,u,q⟩:=d;subst e;cases o with
 |cons r v=>
  cases v;obtain⟨t,rfl⟩:=r;exact call_range_1 (Ml n () () d u (~~~q))
def ZZ(e:TI)(g:TG)(f:TS):TS:=λD a H=>e a H λJ h=>∃W:Nat->Nat->St->Hp->Prop,(∃m,W 0 m a h)/\∀i m a H,W i m a H->
 (J.stop i H/\D.nx a H)\/(J.go i H/\∃N:St->Hp->Prop,(∀c b,N c b->∃d,d<m/\W (i+1) d c b)/\∀x b,J.yld i H x b->g x a b λj k=>f {D with nx:=N,ct:=N,bk:=D.nx} j k)
def nv(a:List Addr)(h:Heap):List (Addr×Obj):=a.filterMap λb=>(h.get? b).map λo=>(b,o)
def fj(c:b∈a)(e:h.get? b\o):(b,o)∈nv a h:=acj.mpr #[b,c,by rw[e];rfl]
def Jb(c:p∈nv a h):p.1∈a/\h.get? p.1\p.2:=by
 obtain⟨b,d,e⟩:=acj.mp c;cases q:h.get? b with
 |none=>rw[q] at e;cases e
 |some o=>
  rw[q] at e;have f:(b,o)=p:=FM e;subst f;exact#[d,q]
def Inv.pinned(I:Inv X a f H s)(i:∀b∈c,gz X a H b)(j:∀b∈c,∃o,s.heap.get? b\o/\∀v,o.data≠ .cell v):Inv X (a++nv c s.heap) f H s:=
 I.tV λp k=>(cF.mp k).elim (λz=>I.pin p (dP _ z)) λz=>by
  rfl';obtain⟨g,e⟩:=Jb z;obtain⟨m,n,q,_⟩:=i p.1 g;obtain⟨o,h,d⟩:=j p.1 g;ac_rfl;rw[e] at h;cases h;exact#[e,m,n,q,d]
def Inv.kg(I:Inv X (a++c) b H s):Inv X a b H s:=I.tV λp d=>I.pin p (dP _ (fZ _ d))
theorem Kx(C:PassesOwn (model X.prog X.w) X.A X.env X.xe)(hc:X.calm=true)(hi:PI X tg iter Y)(hg:PG X tg g)(c:jU X t Z)
  (hs:∀x,foldedSetIterable iter X.env x=pure x:=by intro _;rfl):PS X (.For tg iter t [] O) (ZZ Y g Z):=by
 intro a s σ H D I h;refine wpAny_For (thn (hi a s σ H _ I h) λv s1 h1=>thn h1 λrP s2 h2=>?_) hs;rfl';obtain⟨it,E,tn,J,H2,e,I2,T,l4,f2,W,⟨m0,w0⟩,turn⟩:=h2;subst e;ac_rfl;have j:∀{q:Hp},(∀b∈E,q b=none)->∀b∈E,gz X a q b:=λhn b c=>#[hn b c,(f2 b c).2];refine codeAny_forLoop_any (λn s'=>∃i F q,Inv X a F q s'/\tn i s'.heap/\(∀b∈E,q b=none)/\W i n F q) ?_ m0 #[0,σ,H2,I2,l4,λb c=>(f2 b c).1,w0];intro n s3 WX;rfl';obtain⟨i,G,M,I3,xg,X5,w3⟩:=WX;ac_rfl
 rcases turn i n G M w3 with ⟨stop,qn⟩ | ⟨go,N,hN,step⟩
 .refine aaT C (thn (T.done X rfl rfl rfl hc i a s3 G M X.xe I3 (j X5) xg stop) λr s4 B=>?_)
  obtain⟨Q,I4⟩:=B;subst Q;exact abV #[G,M,I4,qn]
 .refine aaT C (thn (T.item X rfl rfl rfl hc i a s3 G M X.xe I3 (j X5) xg go) λr s4 B=>?_)
  obtain⟨u,Q,h4⟩:=B;subst Q;refine aaT C (thn h4 λ_ s5 B=>?_);rfl';obtain⟨x,H5,I5,r5,y5,R,z8⟩:=B;ac_rfl;have Uu:=I5.pinned (j z8) (T.obj _ _ R);refine aaT C (thn (hg _ s5 G H5 x u _ Uu r5 (step x H5 y5)) λ_ s6 B=>?_);rfl';obtain⟨S,H6,I6,q6⟩:=B;ac_rfl;refine aaT C (thn (c _ s6 S H6 _ I6 q6) λf U y=>?_)
  have again:∀{k:St}{l:Hp},Inv X (a++nv E s5.heap) k l U->N k l->∃m,m<n/\∃i F q,Inv X a F q U/\tn i U.heap/\(∀b∈E,q b=none)/\W i m F q:=λ {k l} p L=>by
   obtain⟨m',hm,w7⟩:=hN k l L;refine#[m',hm,i+1,k,l,p.kg,T.keep _ _ _ R λb c o e=>(p.pin (b,o) (dP _ (dP _ (fj c e)))).1,λb c=>?_,w7];obtain⟨o,e,d⟩:=T.obj _ _ R b c;exact(p.pin (b,o) (dP _ (dP _ (fj c e)))).2.1
  cases f with
  |next=>obtain⟨k,l,p,L⟩:=y;exact again p L
  |cont=>obtain⟨k,l,p,L⟩:=y;exact again p L
  |brk=>obtain⟨k,l,p,y⟩:=y;exact#[k,l,p.kg,y]
  |ret v=>obtain⟨x7,k,l,p,r7,y⟩:=y;exact#[x7,k,l,p.kg,r7,y]
end
abbrev R2:=V->V->Hp->VK->Prop
def OpR(X:Cx)(f:Value->Value->Sem Value)(r:R2):Prop:=
 ∀(a:List (Addr×Obj))(s:Shared)(b:St)(H:Hp)(x y:V)(v u:Value)(Q:VK),Inv X a b H s->RelV x v->RelV y u->r x y H Q->
  wpAny (model X.prog X.w) X.A (f v u) (EP X a b Q) X.xe s
def CallR(X:Cx)(f:Value)(r:List V->Hp->VK->Prop):Prop:=
 ∀(a:List (Addr×Obj))(s:Shared)(b:St)(H:Hp)(c:List V)(d:List Value)(Q:VK),Inv X a b H s->Vals c d->r c H Q->
  wpAny (model X.prog X.w) X.A (call f d) (EP X a b Q) X.xe s
def Xb(X:Cx)(r:V->Hp->(Bool->Hp->Prop)->Prop):Prop:=
 ∀(a:List (Addr×Obj))(s:Shared)(b:St)(H:Hp)(x:V)(v:Value)(Q:Bool->Hp->Prop),Inv X a b H s->RelV x v->r x H Q->
  wpAny (model X.prog X.w) X.A (truthy v) (TP X a b Q) X.xe s
def Qp(r:R2)(b c:TE):TE:=λa H Q=>b a H λx d=>c a d λy e=>r x y e Q
def rI(C:Int->Int->Prop)(g:Int->Int->V):R2:=λx y H Q=>∃i j,x= .int i/\y= .int j/\C i j/\Q (g i j) H
def DZ(g:Int->Int->V):R2:=λx y H Q=>∃i j,x= .int i/\y= .int j/\Q (g i j) H
section
variable {X:Cx} {a b c:Expr} {ta tb tc:TE} {pos:Pos}
def MS(l:PE X a ta)(m:PE X b tb){d:List (Addr×Obj)}{s:Shared}{e:St}{H:Hp}{R:V->V->Hp->Prop}(I:Inv X d e H s)
  (h:ta e H λx k=>tb e k λy g=>R x y g) {Q:Value->Shared->Prop} {f:Value->Value->Sem Value}
  (n:∀v u j x y g,Inv X d e g j->RelV x v->RelV y u->R x y g->wpAny (model X.prog X.w) X.A (f v u) Q X.xe j):
  wpAny (model X.prog X.w) X.A (eval a X.env) (λv i=>wpAny (model X.prog X.w) X.A (eval b X.env) (λu o=>wpAny (model X.prog X.w) X.A (f v u) Q X.xe o) X.xe i) X.xe s:=by
 refine thn (l d s e H _ I h) λv p #[x,k,q,r,t]=>?_;refine thn (m d p e k _ q t) λu j #[y,g,z,B,C]=>?_;exact n v u j x y g z r B C
def DQ(f:OpR X (binaryOp e) r)(g:PE X a ta)(i:PE X b tb):PE X (.BinOp a e b pos) (Qp r ta tb):=by
 intro d s j H Q I h;exact wpAny_BinOp (MS g i I h λv u k x y l m n o q=>f d k j l x y v u Q m n o q)
def RZ{f:Value->Value->Sem Value}{C:Int->Int->Prop}{g:Int->Int->Int}
  (rule:∀(i j:Int)(t u:Tok)(s:Shared)(Q:Value->Shared->Prop)(E:Value->Shared->Prop),C i j->Q (.int (g i j) s.toks) {s with toks:=s.toks+1}->wpAny (model X.prog X.w) X.A (f (.int i t) (.int j u)) Q E s):
  OpR X f (rI C λi j=> .int (g i j)):=by
 intro d s n H x y v u Q I e k h;obtain⟨i,j,rfl,rfl,l,q⟩:=h;obtain⟨t,rfl⟩:=e;obtain⟨m,rfl⟩:=k;exact rule i j t m s _ _ l #[.int (g i j),H,I.tok _,#[_,rfl],q]
def Uh{f:Value->Value->Sem Value}{g:Int->Int->Int}
  (rule:∀(i j:Int)(t u:Tok)(s:Shared)(Q:Value->Shared->Prop)(E:Value->Shared->Prop),Q (.int (g i j) s.toks) {s with toks:=s.toks+1}->wpAny (model X.prog X.w) X.A (f (.int i t) (.int j u)) Q E s):
  OpR X f (DZ λi j=> .int (g i j)):=by
 intro d s m H x y v u Q I e k h;obtain⟨i,j,rfl,rfl,q⟩:=h;obtain⟨t,rfl⟩:=e;obtain⟨l,rfl⟩:=k;exact rule i j t l s _ _ #[.int (g i j),H,I.tok _,#[_,rfl],q]
def O6{f:Value->Value->Sem Value}{g:Int->Int->Bool}
  (rule:∀(i j:Int)(t u:Tok)(s:Shared)(Q:Value->Shared->Prop)(E:Value->Shared->Prop),Q (.bool (g i j)) s->wpAny (model X.prog X.w) X.A (f (.int i t) (.int j u)) Q E s):
  OpR X f (DZ λi j=> .bl (g i j)):=by
 intro d s m H x y v u Q I e k h;obtain⟨i,j,rfl,rfl,q⟩:=h;obtain⟨t,rfl⟩:=e;obtain⟨l,rfl⟩:=k;exact rule i j t l s _ _ #[.bl (g i j),H,I,rfl,q]
def Ti(i j:Int):Prop:=0<j/\j<1073741824
def Tj(i j:Int):Prop:=0<=j/\j<=1000000/\i.natAbs<2^64
def JP(i j:Int):Prop:=(-(2^64)<i/\i<2^64)\/(-(2^64)<j/\j<2^64)
def JP.ok(h:JP i j):IntMulOk i j:=by
 rcases h with ⟨d,e⟩ | ⟨d,e⟩
 .exact .of_left (intBits_le_64 d e)
 .exact .of_right (intBits_le_64 d e)
def R0:OpR X (binaryOp .Add) (DZ λi j=> .int (i+j)):=Uh λ_ _ _ _ _ _ _ q=>add_int q
def R8:OpR X (binaryOp .Sub) (DZ λi j=> .int (i-j)):=Uh λ_ _ _ _ _ _ _ q=>sub_int q
def R5:OpR X (binaryOp .Mult) (rI JP λi j=> .int (i*j)):=RZ λ_ _ _ _ _ _ _ d q=>mul_int q d.ok
def O8:OpR X (binaryOp .FloorDiv) (rI Ti λi j=> .int (i / j)):=RZ λi j _ _ _ _ _ d q=>by
 have e:(0:Int)<j:=d.1;have f:j<1073741824:=d.2;exact floordiv_int () (by rw[Int.fdiv_eq_ediv_of_nonneg i ()];exact q) (.inl (PyProof.noPylong_small ()))
def R4:OpR X (binaryOp .Mod) (rI (λ_ j=>0<j) λi j=> .int (i%j)):=RZ λi j _ _ _ _ _ d q=>by
 have e:(0:Int)<j:=d;exact mod_int' () (by rw[Int.fmod_eq_emod_of_nonneg i ()];exact q)
def R7:OpR X (binaryOp .Pow) (rI Tj λi j=> .int (i^j.toNat)):=RZ λ_ _ _ _ _ _ _ d q=>pow_int_small d.1 d.2.1 d.2.2 q
end
section
variable {X:Cx} {a b c:Expr} {ta tb tc:TE} {pos:Pos}
def J8(I:Inv X d f H s)(q:Q (.bl k) H)(e:k=g):EP X d f Q (.bool g) s:=by
 subst e;exact#[.bl k,H,I,rfl,q]
def Wf:OpR X (compareOp .Lt) (DZ λi j=> .bl (decide (i<j))):=O6 λ_ _ _ _ _ _ _ q=>lt_int q
def We:OpR X (compareOp .LtE) (DZ λi j=> .bl (decide (i<=j))):=O6 λ_ _ _ _ _ _ _ q=>le_int q
def Wd:OpR X (compareOp .Gt) (DZ λi j=> .bl (decide (j<i))):=O6 λ_ _ _ _ _ _ _ q=>gt_int q
def R3:OpR X (compareOp .Is) (λx y H Q=>y= .bo/\Q (.bl (decide (x= .bo))) H):=by
 intro d s g H x y v u Q I e f h;obtain⟨rfl,q⟩:=h;subst f;refine is_none_gen (J8 I q ?_)
 cases x<;>first
  | (cases e;rfl)
  | (obtain⟨t,rfl⟩:=e;rfl)
def O9:OpR X (compareOp .IsNot) (λx y H Q=>y= .bo/\Q (.bl (!decide (x= .bo))) H):=by
 intro d s g H x y v u Q I e f h;obtain⟨rfl,q⟩:=h;subst f;refine isnot_none_gen (J8 I q ?_)
 cases x<;>first
  | (cases e;rfl)
  | (obtain⟨t,rfl⟩:=e;rfl)
def OpR.or(h:OpR X f r)(k:OpR X f e):OpR X f (λx y H Q=>r x y H Q\/e x y H Q):=by
 intro d s g H x y v u Q I i j q
 rcases q with q|q
 .exact h d s g H x y v u Q I i j q
 .exact k d s g H x y v u Q I i j q
def aZ(b:Expr)(h:d≠ .In:=by decide)(e:d≠ .NotIn:=by decide):behindInMarks d b=false:=by
 have f:(d==CmpOp.In)=false:=by cases d<;>first|rfl|exact absurd rfl h
 have g:(d==CmpOp.NotIn)=false:=by cases d<;>first|rfl|exact absurd rfl e
 cases b<;>simp[behindInMarks,f,g]
def Pe(f:OpR X (compareOp e) r)(g:PE X a ta)(i:PE X b tb)(j:behindInMarks e b=false):PE X (.Compare a [e] [b] pos) (Qp r ta tb):=by
 intro d s k H Q I h;exact wpAny_Compare1 (MS g i I h λv u l x y m n o p q=>f d l k m x y v u Q n o p q) j
def JD(t:TE):TT:=λd H Q=>t d H λx e=>∃k,x= .bl k/\Q k e
def Pw(i:OpR X (compareOp f) r)(j:PE X a ta)(l:PE X b tb)(m:behindInMarks f b=false):PT X (.Compare a [f] [b] pos) (JD (Qp r ta tb)):=by
 intro d s g H Q I h
 refine wpAny_isTrue_Compare1 (thn (j d s g H _ I h) λv n #[x,o,p,q,t]=>thn (l d n g o _ p t) λu w #[y,A,B,C,E]=>
  thn (i d w g A x y v u _ B q C E) λc M #[z,F,G,J,k,e,L]=>?_) m
 subst e;subst J;exact SC #[F,G,L]
def Eh(r f:R2)(g h tc:TE):TE:=λd H Q=>g d H λx i=>h d i λy j=>r x y j λz e=>∃k,z= .bl k/\
 (if k=true then tc d e λl m=>f y l m Q else Q (.bl false) e)
theorem L7(q:OpR X (compareOp i) r)(t:OpR X (compareOp j) l)(w:PE X a ta)(A:PE X b tb)(B:PE X c tc)
  (C:lastMarks [i,j] [b,c]=false:=by with_unfolding_all rfl):PE X (.Compare a [i,j] [b,c] pos) (Eh r l ta tb tc):=by
 intro f s g H Q I h
 refine Compare_chain (thn (w f s g H _ I h) λv E #[x,F,G,J,L]=>chain_link (thn (A f E g F _ G L) λu M #[y,N,O,m,P]=>
  thn (q f M g N x y v u _ O J m P) λd R #[z,n,o,S,k,e,p]=>?_)) C
 subst e;subst S;refine SC ?_;cases k with
 |false=>exact ite_ff #[.bl false,n,o,rfl,p]
 |true=>exact ite_tt (chain_last (thn (B f R g n _ o p) λT U #[Y,Z,I4,r4,q4]=>t f U g Z y Y u T Q I4 m r4 q4))
theorem Mi(q:OpR X (compareOp i) r)(t:OpR X (compareOp j) l)(w:PE X a ta)(A:PE X b tb)(B:PE X c tc)
  (C:lastMarks [i,j] [b,c]=false:=by with_unfolding_all rfl):PT X (.Compare a [i,j] [b,c] pos) (JD (Eh r l ta tb tc)):=by
 intro f s g H Q I h
 refine isTrue_chain (thn (w f s g H _ I h) λv E #[x,F,G,J,L]=>test_link (thn (A f E g F _ G L) λu M #[y,N,O,m,P]=>
  thn (q f M g N x y v u _ O J m P) λd R #[z,n,o,S,k,e,p]=>?_)) C
 subst e;subst S;refine SC ?_;cases k with
 |false=>
  rfl';obtain⟨k',U,Y⟩:=p;cases U;ac_rfl;exact ite_ff #[n,o,Y]
 |true=>
  refine ite_tt (test_last (thn (B f R g n _ o p) λZ s4 #[z',H4,I4,r4,q4]=>thn (t f s4 g H4 y z' u Z _ I4 m r4 q4) λd' s5 #[z2,H5,I5,r5,k2,e2,q5]=>?_));subst e2;subst r5;exact SC #[H5,I5,q5]
def Tp(K:ac)(x:V)(H:Hp)(k:Bool):Prop:=
 match x with
 | .bo=>k=false
 | .bl b=>k=b
 | .int i=>k=(i !=0)
 | .str y=>y.length<=sizeLine/\k=((y.length:Int) !=0)
 | .K5 y=>y.size<=sizeLine/\k=((y.size:Int) !=0)
 | .ref p=>(∃d,cK K H p d/\k= !d.isEmpty)\/(∃d,gj K H p d/\k= !d.isEmpty)\/∃e,H p\(.dK e)/\k= !e.isEmpty
 |_=>False
def FN(r:KV e f):(!f.isEmpty)= !e.isEmpty:=by
 cases r<;>rfl
def vY(r:Vals e d):(!d.toArray.isEmpty)= !e.isEmpty:=by
 cases r<;>simp
def qB:(sizeLine:Nat)<2^63:=by rw[aa1];decide
def S0:Xb X (λx H Q=>∃k,Tp X.K x H k/\Q k H):=by
 intro pins s σ H x v Q I rx h;obtain⟨k,e,q⟩:=h;have hl:=qB;have hs:sizeLine=16777216:=sizeLine_eq;cases x with
 |bo=>
  cases rx;have e':k=false:=e;subst e';exact truthy_none #[H,I,q]
 |bl b=>
  cases rx;have e':k=b:=e;subst e';exact wpAny_truthy_bool #[H,I,q]
 |int i=>
  obtain⟨t,rfl⟩:=rx;have e':k=(i !=0):=e;subst e';exact PySem.P.truthy_int #[H,I,q]
 |str y=>
  obtain⟨t,rfl⟩:=rx;obtain⟨hy,e'⟩:y.length<=sizeLine/\k=((y.length:Int) !=0):=e;subst e';exact PySem.P.truthy_str () #[H,I.tok _,q]
 |K5 y=>
  obtain⟨t,rfl⟩:=rx;obtain⟨hy,e'⟩:y.size<=sizeLine/\k=((y.size:Int) !=0):=e;subst e';exact PySem.W.truthy_bytes () #[H,I.tok _,q]
 |ref p=>
  subst rx;have e':(∃xs,cK X.K H p xs/\k= !xs.isEmpty)\/(∃xs,gj X.K H p xs/\k= !xs.isEmpty)\/∃fE,H p\(.dK fE)/\k= !fE.isEmpty:=e
  rcases e' with ⟨xs,hx,e'⟩ | ⟨xs,hx,e'⟩ | ⟨fE,hx,e'⟩
  .subst e'
   obtain⟨its,r,pl,hz⟩:=I.list hx;have hlen:=r.length;exact wpAny_truthy_list pl.isList (by simp only[cR];lia) #[H,I.tok _,by rw[vY r];exact q]
  .subst e'
   obtain⟨its,r,pl,hz⟩:=I.tuple hx;have hlen:=r.length;exact truthy_tuple pl (by simp only[cR];lia) #[H,I.tok _,by rw[vY r];exact q]
  .subst e'
   obtain⟨hz,hS,vs,r,m⟩:fE.length<=sizeLine/\(p==sysModules)=false/\∃vs,KV fE vs/\s.heap.DictOf (yT X.prog X.w) p vs:=I.hok p _ hx;have hlen:fE.length=vs.length:=Paired.length r;exact wpAny_truthy_dict hS m () #[H,I.tok _,by rw[FN r];exact q]
 |_=>exact(show False from e).elim
def Mj(i:PE X a ta)(j:∀d,isTrue a X.env d=(do let v <-d;standAt a.pos;holding [v] (truthy v))):
  PT X a (λf H Q=>ta f H λx g=>∃k,Tp X.K x g k/\Q k g):=by
 intro e s f H Q I h;exact isTrue_plain (thn (i e s f H _ I h) λv l #[x,m,n,o,p]=>S0 e l f m x v Q n o p) (j _)
def vals1(r:Vals [x] d):∃u,d= [u]/\RelV x u:=by
 cases r with
 |cons e f=>cases f;exact#[_,rfl,e]
def vals2(r:Vals [x,y] d):∃u e,d= [u,e]/\RelV x u/\RelV y e:=by
 cases r with
 |cons f g=>
  cases g with
  |cons h i=>cases i;exact#[_,_,rfl,f,h]
def HB(g:X.calm=true):CallR X (.builtin "max") (λe H Q=>∃i j,e= [.int i, .int j]/\Q (.int (if j>i then j else i)) H):=by
 intro f s m H e n Q I r h;rfl';obtain⟨i,j,rfl,q⟩:=h;obtain⟨u,p,rfl,⟨t,rfl⟩,⟨v,rfl⟩⟩:=vals2 r;ac_rfl;refine max_two_ints (I.ok.hd g) λw x k=>#[_,H,I.kept k,?_,q]
 by_cases d:j>i
 .rw[AC d,AC d];exact#[_,rfl]
 .rw[tz d,tz d];exact#[_,rfl]
def HD(g:X.calm=true):CallR X (.builtin "min") (λe H Q=>∃i j,e= [.int i, .int j]/\Q (.int (if j<i then j else i)) H):=by
 intro f s m H e n Q I r h;rfl';obtain⟨i,j,rfl,q⟩:=h;obtain⟨u,p,rfl,⟨t,rfl⟩,⟨v,rfl⟩⟩:=vals2 r;ac_rfl;refine min_two_ints (I.ok.hd g) λw x k=>#[_,H,I.kept k,?_,q]
 by_cases d:j<i
 .rw[AC d,AC d];exact#[_,rfl]
 .rw[tz d,tz d];exact#[_,rfl]
end
structure xJ (h:Heap) (x dx C:Addr) (mA:Str->Option Value):Prop where
 obj:h.get? x\(bN C dx)
 ns:h.Ns1 dx mA
 ne:dx≠x
def rU{h:Heap}(n:h.Ns1 c d):∃od,h.get? c\od/\∀b,ce b od\(d b):=by
 rfl';obtain⟨o,f,u,i,j,k,_,l⟩:=n;ac_rfl;refine#[o,i,λb=>?_];have e:=l b;unfold nsFind findBy at e;rw[<-Array.find?_toList] at e;unfold ce;rw[j];dsimp only
 split
 .rename_i y q
  rw[q] at e;exact KF some e
 .rename_i q
  rw[q] at e
  have a:f.toList.any (·.refKey)=false:=by
   rw[List.any_eq_false];intro y m;obtain⟨z,t,p⟩:=k y (Array.mem_toList_iff.mp m);simp[DictEntry.refKey,p]
  have r:¬f.toList.any (·.refKey)=true:=by rw[a];exact cQ
  rw[tz r];exact KF some e
def xJ.look(I:xJ h x c C d):∃b,PySem.W.InstAt h x (bN C c) C (some b)/\∀a,ce a b\(d a):=
 let #[b,e,f]:=rU I.ns
 #[b,#[I.obj,rfl,rfl,e],f]
section
variable {prog:Program} {w:World} {A:Around} {E:Value->Shared->Prop} {s:Shared} {K:ac} {x dx C f:Addr} {mA:Str->Option Value} {name:Str} {v:Value}
def get_map(X:K.In s.heap)(I:xJ s.heap x dx C mA)(b:b3 K C name=true)(c:bu K C=true)
  (d:ak K (.ref C) name\none) (e:mA name\v) (g:PySem.W.handedIn v=true) (h:Q v {s with toks:=s.toks+1}):
  wpAny (model prog w) A (getAttr (.ref x) name a) Q E s:=by
 obtain⟨j,J,i⟩:=I.look;exact PySem.W.get_value X J (ab8 b).1 (PySem.W.findObj_own c d rfl (by rw[i,e])) g h
def Ls(X:K.In s.heap)(I:xJ s.heap x dx C mA)(a:b3 K C name=true)
  (c:ak K (.ref C) name\(some (.ref f))) (d:bj K (.ref f)=true) (e:mA name=none) (h:Q (.ref f,[.ref x]) s):
  wpAny (model prog w) A (getMethod (.ref x) name b) Q E s:=by
 obtain⟨g,J,i⟩:=I.look;exact PySem.W.method_fn X J (ab8 a).1 (ab8 a).2 c (aaN.mp d) (by show(ce name g).map (·.isSome)\false;rw[i,e];rfl) h
def PV{e:List Str}(X:K.In s.heap)(I:xJ s.heap x dx C mA)
  (j:ak K (.ref C) "__setattr__"\(some (.builtin "object.__setattr__"))) (k:ck K C=true) (l:cv K C name\none) (m:bu K C=true)
  (hw:b0 mA e) (B:e.length<=sizeLine)
  (h:∀c,xJ c x dx C (λy=>if y=name then some v else mA y)->Heap.SameBut dx s.heap c->Q ⟨⟩ {s with heap:=c,toks:=s.toks+2}):
  wpAny (model prog w) A (setAttr (.ref x) name v) Q E s:=by
 rfl';obtain⟨F,J,G⟩:=I.look;obtain⟨H,o,p⟩:=PySem.W.any_some m;ac_rfl;refine PySem.W.set_plain X J j (PySem.W.osa_open (s:={s with toks:=s.toks+1}) (r:=none) X J k l λb=>?_)
 have q:s.heap.get? x\#[.ref C,some dx, .plain, #[]]:=I.obj;refine ir (mo (ir (ir (acd q (ir (PySem.W.Looks.here (s:={s with toks:=s.toks+1}) (PySem.W.looks_clsIn X o) ?_))))))
 rw[p];refine mo (a:=some dx) (ir (mo (ir ?_)));refine ade (s:={s with toks:=s.toks+1}) I.ns λc g i=>?_
 rfl';obtain⟨oD,L,M,t,u,z⟩:=g.count (PySem.Within.cons name v hw);ac_rfl;refine ir (acD t (by rw[u];exact acE (iA z (by rw[cx];lia))) ?_)
 exact mo (h _ #[(i.2 _ (Ne.symm I.ne)).trans I.obj,g,I.ne] i)
def LQ(X:K.In s.heap)(c:da K C=true)
  (e:ak K (.ref C) "__init__"\(some (.ref f))) (i:PySem.W.typeIn K (.ref f)\(.type "function"))
  (h:codeAny (model prog w) (A.under (.builtin "type.__call__" #[.ref C::a,b])) (.call (.ref f) #[.ref (s.heap.objs.size+1)::a,b]) (PySem.W.InitBack (s.heap.objs.size+1) R)
   {s with heap:=(s.heap.push bi).push (bN C s.heap.objs.size)}):
  codeAny (model prog w) A (.call (.ref C) #[a,b]) R s:=by
 obtain⟨j,g,d,t,os⟩:=s;exact PySem.W.make_core (PySem.W.makes_of X c) (PySem.W.looks_findIn X e) (λself=>PySem.W.bind_fn X self i) (.inl rfl) h
end
def jC(f:Str)(v:V):List (Str×V)->List (Str×V)
 | []=> [(f,v)]
 | (g,x)::r=>if g=f then(g,v)::r else(g,x)::jC f v r
theorem mX(f g:Str)(v:V):∀fs:List (Str×V),(jC f v fs).lookup g=if g=f then some v else fs.lookup g
 | []=>by
  show bc g [(f,v)]=_
  by_cases h:g=f
  .have a:(g==f)=true:=aaN.mpr h
   simp only[bc,a,AC h]
  .have a:(g==f)=false:=aaH.mpr h
   simp only[bc,a,tz h]
 | (k,x)::r=>by
  have c:=mX f g v r;rw[show jC f v ((k,x)::r)=(if k=f then(k,v)::r else(k,x)::jC f v r) from rfl]
  by_cases b:k=f
  .rw[AC b]
   by_cases h:g=k
   .have a:(g==k)=true:=aaN.mpr h
    simp only[bc,a,AC (h.trans b)]
   .have a:(g==k)=false:=aaH.mpr h
    simp only[bc,a,tz (λe:g=f=>h (e.trans b.symm))]
  .rw[tz b]
   by_cases h:g=k
   .have a:(g==k)=true:=aaN.mpr h
    simp only[bc,a,tz (λe:g=f=>b (h.symm.trans e))]
   .have a:(g==k)=false:=aaH.mpr h
    simp only[bc,a];exact c
theorem kE(f:Str)(v:V):∀fs:List (Str×V),f∈(jC f v fs).map (·.1)/\∀g,g∈fs.map (·.1)->g∈(jC f v fs).map (·.1)
 | []=>#[by simp[jC],λg h=>by simp at h]
 | (k,x)::r=>by
  obtain⟨b,c⟩:=kE f v r;rw[show jC f v ((k,x)::r)=(if k=f then(k,v)::r else(k,x)::jC f v r) from rfl]
  by_cases a:k=f
  .rw[AC a]
   subst a;exact#[by simp,λg h=>h]
  .rw[tz a]
   refine#[?_,λg h=>?_]
   .rw[gF]
    exact eM _ b
   .rw[gF] at h ⊢
    rcases bY.mp h with e|e
    .exact bY.mpr (.inl e)
    .exact eM _ (c g e)
theorem mU(f:Str)(v:V):∀fs:List (Str×V),(jC f v fs).length<=fs.length+1
 | []=>by simp[jC]
 | (k,x)::r=>by
  have b:=mU f v r;rw[show jC f v ((k,x)::r)=(if k=f then(k,v)::r else(k,x)::jC f v r) from rfl]
  by_cases a:k=f
  .rw[AC a,cx,cx];lia
  .rw[tz a,cx,cx];lia
def kW.some_of{v:V}{o:Option Value}(r:kW (some v) o):∃u,o\u/\RelV v u:=by
 cases o with
 |none=>exact(show False from r).elim
 |some u=>exact#[u,rfl,r]
def kW.none_of(r:kW none o):o=none:=by
 cases o with
 |none=>rfl
 |some u=>exact(show False from r).elim
def yy{v:V}{u:Value}(r:RelV v u):PySem.W.handedIn u=true:=by
 cases v with
 |bo=>cases(show u=Value.none from r);rfl
 |bl b=>cases(show u=Value.bool b from r);rfl
 |int i=>obtain⟨t,e⟩:=(show ∃t,u=Value.int i t from r);cases e;rfl
 |str x=>obtain⟨t,e⟩:=(show ∃t,u=Value.str x t from r);cases e;rfl
 |K5 b=>obtain⟨t,e⟩:=(show ∃t,u=Value.bytes b t from r);cases e;rfl
 |HU b=>obtain⟨t,e⟩:=(show ∃t,u=Value.float b t from r);cases e;rfl
 |ref a=>cases(show u=Value.ref a from r);rfl
 |ty n=>cases(show u=Value.type n from r);rfl
section
variable {P:Program} {w:World} {H H':Hp} {h h':Heap} {a C dx:Addr} {fs fs':List (Str×V)}
def tH(hok:gZ P w H h)(e:H a\(.ins C dx fs)):∃b,xJ h a dx C b/\(∀f,kW (fs.lookup f) (b f))/\b0 b (fs.map (·.1))/\fs.length<=1000/\H dx\(.own a):=by
 obtain⟨d,z,ne,c,b,n,r,q⟩:=(show cp P w H h a (.ins C dx fs) from hok a _ e);exact#[b,#[c,n,ne],r,q,z,d]
end
structure xG (K:ac) (C:Addr):Prop where
 pg:b3 K C Str.empty=true
 hd:bu K C=true
 po:ck K C=true
 sa:ak K (.ref C) "__setattr__"\(some (.builtin "object.__setattr__"))
def xG.get{K:ac}{C:Addr}(c:xG K C)(f:Str):b3 K C f=true:=c.pg
def gi(K:ac)(C:Addr)(f:Str):Prop:=ak K (.ref C) f\none
def gi.JE{K:ac}{C:Addr}{f:Str}(n:gi K C f):cv K C f\none:=by
 unfold cv;rw[show ak K (.ref C) f\none from n];rfl
structure Meth (K:ac) (C:Addr) (m:Str) (f:Addr):Prop where
 at_:ak K (.ref C) m\(some (.ref f))
 fn:bj K (.ref f)=true
 kp:aA K (.ref f)=true
section
variable {X:Cx} {pins:List (Addr×Obj)} {σ:St} {H:Hp} {s:Shared} {a C dx:Addr} {fs:List (Str×V)} {f:Str} {v:V} {A:Around} {E:Value->Shared->Prop}
def Fu(I:Inv X pins σ H s)(e:H a\(.ins C dx fs))(c:xG X.K C)(n:gi X.K C f)(l:fs.lookup f\v)
  (h:∀u d,Inv X pins σ H d->RelV v u->Q u d):wpAny (model X.prog X.w) A (getAttr (.ref a) f b) Q E s:=by
 obtain⟨i,O,r,_,_,_⟩:=tH I.hok e;obtain⟨u,j,g⟩:=kW.some_of (v:=v) (o:=i f) (by rw[<-l];exact r f)
 exact get_map I.dW O (c.get f) c.hd n j (yy g) (h u _ (I.tok _) g)
def vT{pl:Sem Bool}(I:Inv X pins σ H s)(e:H a\(.ins C dx fs))(c:xG X.K C)(k:Meth X.K C m g)(l:fs.lookup m=none)
  (h:Q (.ref g,[.ref a]) s):wpAny (model X.prog X.w) A (getMethod (.ref a) m pl) Q E s:=by
 obtain⟨b,O,r,_,_,_⟩:=tH I.hok e;have d:b m=none:=kW.none_of (by rw[<-l];exact r m)
 exact Ls I.dW O (c.get m) k.at_ k.fn d h
def GI(I:Inv X pins σ H s)(e:H a\(.ins C dx fs))(c:xG X.K C)(n:gi X.K C f)(N:fs.length<1000)(m:RelV y u)
  (h:∀i,Inv X pins σ (upd H a (.ins C dx (jC f y fs))) i->Q ⟨⟩ i):wpAny (model X.prog X.w) A (setAttr (.ref a) f u) Q E s:=by
 rfl';obtain⟨j,O,r,k,_,l⟩:=tH I.hok e;have t:(fs.map (·.1)).length<=sizeLine:=by rw[aS,aa1];lia
 ac_rfl;refine PV I.dW O c.sa c.po n.JE c.hd k t λB d F=>h _ ?_;have G:∃o,B.get? dx\o:=let #[o,_,_,J,_]:=d.ns;#[o,J];refine I.write (x:=a) (e:=dx) (by rw[e];exact True.intro) (.inr l) (λb q L z=>(F.2 b L).trans z) G ?_
 refine#[by rw[aB O.ne];exact l,?_,O.ne,d.obj,_,d.ns,λg=>?_,λg M=>?_]
 .have:=mU f y fs;lia
 .show kW ((jC f y fs).lookup g) (if g=f then some u else j g)
  rw[mX]
  by_cases q:g=f
  .rw[AC q,AC q];exact m
  .rw[tz q,tz q];exact r g
 .by_cases q:g=f
  .rw[q];exact(kE f y fs).1
  .refine(kE f y fs).2 g (k g λz=>M ?_)
   show(if g=f then some u else j g)=none;rw[tz q];exact z
def Inv.made(I:Inv X pins σ H s):Inv X pins σ (upd (upd H s.heap.objs.size (.own (s.heap.objs.size+1))) (s.heap.objs.size+1) (.ins C s.heap.objs.size []))
  {s with heap:=(s.heap.push bi).push (bN C s.heap.objs.size)}:=by
 have c:(s.heap.push bi).get? s.heap.objs.size\bi:=Gc s.heap rfl
 have d:((s.heap.push bi).push (bN C s.heap.objs.size)).get? (s.heap.objs.size+1)\(bN C s.heap.objs.size):=by
  have:=Gc (s.heap.push bi) (o:=bN C s.heap.objs.size) rfl
  rwa [ace] at this
 have g:(s.heap.push bi).Ns s.heap.objs.size (λ_=>none):=#[bi, #[],_,c,rfl,(λe h=>absurd h (by simp)),λ_=>rfl]
 have i:=I.laid (a:=s.heap.objs.size) (o:= .own (s.heap.objs.size+1)) (h':=s.heap.push bi) (t':=s.toks) (λb u q=>Da _ q) (bM _) #[_,c];refine i.laid (a:=s.heap.objs.size+1) (o:= .ins C s.heap.objs.size []) (t':=s.toks) (λb u q=>Da _ q) (Nat.le_of_eq (ace _ _)) ?_;have ne:s.heap.objs.size≠s.heap.objs.size+1:=bJ (zK _);refine#[by rw[aB ne,aw],fg _,ne,d,λ_=>none,(Heap.Ns1.of_empty g).at λo q=>Da _ q,λ_=>True.intro,λy j=>absurd rfl j]
def EK{f:Str}{s:Shared}(d:attributeBase e f env (eval e env)=eval e env)
  (h:wpAny (model prog w) A (eval e env) (λo b=>wpAny (model prog w) A (getAttr o f true) Q E b) E s):wpAny (model prog w) A (eval (.Attribute e f c) env) Q E s:=
 Attribute_any_ h (by rw[arm_eval_Attribute,d])
end
def ZY(K:ac)(c:TE)(f:Str):TE:=λd H Q=>c d H λx b=>∃a C e fs v,x= .ref a/\b a\(.ins C e fs)/\xG K C/\gi K C f/\fs.lookup f\v/\Q v b
def ZM(K:ac)(e g:TE)(f:Str):TS:=λD b H=>g b H λy h=>e b h λx c=>∃a C d fs,x= .ref a/\c a\(.ins C d fs)/\xG K C/\gi K C f/\fs.length<1000/\
 D.nx b (upd c a (.ins C d (jC f y fs)))
section
variable {X:Cx} {o e value:Expr} {f:Str} {pos pos' aaa:Pos} {ta tv:TE}
def Sf(d:PE X e ta)(g:attributeBase e f X.env (eval e X.env)=eval e X.env):PE X (.Attribute e f pos) (ZY X.K ta f):=by
 intro b s i H Q I h;refine EK g (thn (d b s i H _ I h) λu A j=>?_);rfl';obtain⟨x,m,p,r,a,C,E,fs,v,t,w,c,n,l,q⟩:=j;ac_rfl;subst t;obtain rfl:u=Value.ref a:=r;exact Fu p w c n l λF G y z=>#[v,m,y,z,q]
def So(g:PE X o ta)(i:PE X value tv)(j:swapsWith value (some (.Attribute o f pos')) pos.line X.env=pure false):PS X (.Assign [.Attribute o f pos'] value pos) (ZM X.K ta tv f):=by
 intro b s d H D I h;refine abT (thn (i b s d H _ I h) λu k #[y,m,p,r,q]=>thn (g b k d m _ p q) λt F #[x,G,v,w,a,C,J,fs,z,A,c,n,l,B]=>?_) j;subst z;obtain rfl:t=Value.ref a:=w;exact GI v A c n l r λL E=>#[d,_,E,B]
end
section
variable {X:Cx} {pins:List (Addr×Obj)} {σ:St} {H:Hp} {s:Shared} {A:Around} {E:Value->Shared->Prop} {Q:Value->Shared->Prop} {c:Value} {b:Bool}
inductive kX (K:ac) (H:Hp):V->Value->Prop where
 |bo:kX K H .bo (.type "NoneType")
 |bl (x:Bool):kX K H (.bl x) (.type "bool")
 |int (i:Int):kX K H (.int i) (.type "int")
 |str (x:Str):kX K H (.str x) (.type "str")
 |HU (x:UInt64):kX K H (.HU x) (.type "float")
 |lst {a:Addr} {xs:List V} (e:H a\(.lst xs)):kX K H (.ref a) (.type "list")
 |rH {a:Addr} {o:Obj} {xs:List V} (e:H a\(.rH o (.lst xs))):kX K H (.ref a) (.type "list")
 |tup {a:Addr} {xs:List V} (e:H a\(.tup xs)):kX K H (.ref a) (.type "tuple")
 |dK {a:Addr} {fE:List (Key×V)} (e:H a\(.dK fE)):kX K H (.ref a) (.type "dict")
 |dT {a:Addr} {fE:List (List Key×V)} (e:H a\(.dT fE)):kX K H (.ref a) (.type "dict")
 |ins {a C dx:Addr} {fs:List (Str×V)} (e:H a\(.ins C dx fs)) (cl:xG K C) (ha:ak K (.ref C) "__class__"\(some (.builtin "object.__class__")))
   (hn:bd K (.builtin "object.__class__") "__get__"\(some (.builtin "getset_descriptor.__get__"))) (htk:cr K (.builtin "object.__class__")\true)
   (hm:bT K C (.type "object")\true):kX K H (.ref a) (.ref C)
def IC{x:V}{u t:Value}(I:Inv X pins σ H s)(rx:RelV x u)(ty:kX X.K H x t)(e:aj X.K t c\b)(h:∀tk,Q (.bool b) {s with toks:=tk}):
  wpAny (model X.prog X.w) A (call (.builtin "isinstance") [u,c]) Q E s:=by
 cases ty with
 |bo=>cases(show u=Value.none from rx);exact PySem.W.kia_one PySem.W.kitx_none I.dW True.intro e (λz=>nomatch z) h
 |bl y=>cases(show u=Value.bool y from rx);exact PySem.W.kia_one PySem.W.kitx_bool I.dW True.intro e (λz=>nomatch z) h
 |int i=>obtain⟨t,q⟩:=(show ∃t,u=Value.int i t from rx);cases q;exact PySem.W.kia_one PySem.W.kitx_int I.dW True.intro e (λz=>nomatch z) h
 |str y=>obtain⟨t,q⟩:=(show ∃t,u=Value.str y t from rx);cases q;exact PySem.W.kia_one PySem.W.kitx_str I.dW True.intro e (λz=>nomatch z) h
 |HU y=>obtain⟨t,q⟩:=(show ∃t,u=Value.float y t from rx);cases q;exact PySem.W.kia_one PySem.W.kitx_float I.dW True.intro e (λz=>nomatch z) h
 | @lst a xs ea=>
  cases(show u=Value.ref a from rx);obtain⟨_,_,n,_,h1⟩:=(show cp X.prog X.w H s.heap a (.lst xs) from I.hok a _ ea);exact PySem.W.kia_one PySem.W.kitx_list I.dW #[_,h1,rfl] e (λz=>nomatch z) h
 | @rH a ob xs ea=>
  cases(show u=Value.ref a from rx);obtain⟨_,_,_,n,_,h1⟩:=(show cp X.prog X.w H s.heap a (.rH ob (.lst xs)) from I.hok a _ ea);exact PySem.W.kia_one PySem.W.kitx_list I.dW #[_,h1,rfl] e (λz=>nomatch z) h
 | @tup a xs ea=>
  cases(show u=Value.ref a from rx);obtain⟨_,_,_,p⟩:=(show cp X.prog X.w H s.heap a (.tup xs) from I.hok a _ ea);obtain⟨o,h1,h2,_⟩:=p;exact PySem.W.kia_one PySem.W.kitx_tuple I.dW #[o,h1,h2] e (λz=>nomatch z) h
 | @dK a fE ea=>
  cases(show u=Value.ref a from rx);obtain⟨_,_,vs,_,p⟩:=(show cp X.prog X.w H s.heap a (.dK fE) from I.hok a _ ea);obtain⟨o,es,ep,h1,h2,_⟩:=p;exact PySem.W.kia_one PySem.W.kitx_dict I.dW #[o,h1,h2.1] e (λz=>nomatch z) h
 | @dT a fE ea=>
  cases(show u=Value.ref a from rx);obtain⟨_,_,xs,_,o,es,ep,h1,h2,_⟩:=(show cp X.prog X.w H s.heap a (.dT fE) from I.hok a _ ea);exact PySem.W.kia_one PySem.W.kitx_dict I.dW #[o,h1,h2.1] e (λz=>nomatch z) h
 | @ins a C dx fs ea cl ha hn htk hm=>
  rfl';cases(show u=Value.ref a from rx);obtain⟨mA,O,_⟩:=tH I.hok ea;obtain⟨od,J,_⟩:=O.look;ac_rfl;exact PySem.W.kia_one (PySem.W.kitx_own (cl.get _) cl.hd ha hn htk hm) I.dW J e (λz=>nomatch z) h
end
structure b7 (k:Nat) (A:Around):Prop where
 hd:A.handled=none
 dp:A.depth+3*k+5<recursionLimit
 un:A.units+16*k+200<cLine
def b7.mono(r:b7 k A)(h:j<=k):b7 j A:=#[r.hd,by have:=r.dp;lia,by have:=r.un;lia]
theorem b7.deeper(r:b7 (k+1) A)(env:Env):b7 k (A.deeper env):=
 #[r.hd,by have:=r.dp;show A.depth+1+3*k+5<_;lia,by have:=r.un;show A.units+3+16*k+200<_;lia]
def F8{A:Around}:(A.under (.builtin "type.__call__" #[.ref C::a,b])).depth=A.depth+1:=by
 first|rfl|simp[Around.under,Code.weight,Code.isCreation,Code.isGuard,Code.isCaller,Code.frames,Code.isFrame,guardIds]
def F9{A:Around}:(A.under (.builtin "type.__call__" #[.ref C::a,b])).units=A.units+1:=by
 first|rfl|simp[Around.under,Code.cUnits,Code.frames,Code.isFrame]
def b7.make(r:b7 (k+1) A)(C:Addr)(a:List Value)(b:List (Str×Value)):b7 k (A.under (.builtin "type.__call__" #[.ref C::a,b])):=
 #[r.hd,by have:=r.dp;rw[F8];lia,by have:=r.un;rw[F9];lia]
theorem b7.depth{k:Nat}(r:b7 k A):A.depth<recursionLimit:=by have:=r.dp;lia
theorem b7.units{k:Nat}(r:b7 k A):A.units+64<cLine:=by have:=r.un;lia
def Uo:TA:=λ_ H Q=>Q [] H
def WH(b:TE)(tr:TA):TA:=λa H Q=>b a H λx c=>tr a c λd e=>Q (x::d) e
section
variable {X:Cx} {e:Expr} {es:List Expr} {te:TE} {t:TA} {pos:Pos}
def eH:PA X [] Uo:=λ_ _ _ _ H Q I h=>Calls.spliced_nil #[[],H,I, .nil,h]
def bU(d:PE X e te)(f:PA X es t)(g:starEach (e::es) X.env=(false,eval e X.env)::starEach es X.env:=by rfl):PA X (e::es) (WH te t):=by
 intro b a s c H Q I h;rw[g];show wpAny _ _ (spliced ((false,eval e X.env)::backTo b (starEach es X.env))) _ _ s;refine Calls.spliced_cons (thn (d a s c H _ I h) λu i j=>?_);rfl';obtain⟨x,l,m,n,o⟩:=j;ac_rfl;exact thn (f b a i c l _ m o) λz A #[p,q,r,v,w]=>#[x::p,q,r, .cons n v,w]
def Z7(t:TA):TE:=λc H Q=>t c H λa b=>a.length<=sizeLine/\∀p,b p=none->Q (.ref p) (upd b p (.tup a))
def Z1(t:TA):TE:=λc H Q=>t c H λa b=>a.length<=sizeLine/\∀p,b p=none->Q (.ref p) (upd b p (.lst a))
def Kv{x1}(h:PA X es t):PE X (.Tuple es x1 pos) (Z7 t):=by
 intro a s g H Q I i;refine wpAny_Tuple_spliced (thn (h pos a s g H _ I i) λj c #[k,d,f,r,z,q]=>#[r.length▸z,?_]);have l:d c.heap.objs.size=none:=f.hok.fresh (bM _);refine#[.ref c.heap.objs.size,upd d c.heap.objs.size (.tup k),f.laid (t':=c.toks) (λb u e=>Da _ e) (bM _) ?_,rfl,q _ l];exact#[z,j,r,#[_,Gc _ rfl,rfl,_,rfl]]
def DP(h:PA X es t):PE X (.List es pos) (Z1 t):=by
 intro a s g H Q I i;refine wpAny_List_spliced (thn (h pos a s g H _ I i) λj c #[k,d,f,r,z,q]=>#[r.length▸z,?_]);have l:d c.heap.objs.size=none:=f.hok.fresh (bM _);refine#[.ref c.heap.objs.size,upd d c.heap.objs.size (.lst k),f.laid (t':=c.toks) (λb u e=>Da _ e) (bM _) ?_,rfl,q _ l];exact#[z,j,0,r,Gc _ rfl]
end
abbrev Sp:=List V->Hp->VK->XK->Prop
abbrev oz:=List Env->Hp->Shared->XK->Value->Shared->Prop
structure Env0 (P:Program) (w:World) (K:ac) (mg:Str->Option Value) (base:Heap) (A:Around) (outer:List Env) (s:Shared) (H:Hp):Prop where
 frames:A.frames\outer
 mod:Mod K mg base
 bs:∀b o,base.get? b\o->s.heap.get? b\o/\H b=none
 bsz:base.objs.size<=s.heap.objs.size
 funs:s.heap.FunFrames base outer
 frf:∀b∈tj outer,H b=none
 hok:gZ P w H s.heap
 bare:AllBare s.gens
def CE(outer:List Env)(P:Program)(w:World)(H:Hp)(s:Shared)(Q:VK)(u:Value)(a:Shared):Prop:=
 ∃v b,a.os=s.os/\AllBare a.gens/\Un (tj outer) [] H b s.heap a.heap/\gZ P w b a.heap/\RelV v u/\Q v b
def CR(b:oz)(outer:List Env)(P:Program)(w:World)(H:Hp)(s:Shared)(Q:VK)(E:XK)(r:Result)(a:Shared):Prop:=
 match r with
 | .ok (.ret u)=>CE outer P w H s Q u a
 | .ok _=>False
 | .error e=>b outer H s E e a
structure FnOk (P:Program) (w:World) (K:ac) (mg:Str->Option Value) (base:Heap) (CX:oz) (k:Nat) (f:Addr) (fd:FuncData) (ps:List Str) (sp:Sp):Prop where
 len:∀vs H Q E,sp vs H Q E->vs.length=ps.length
 run:∀(A:Around)(outer:List Env)(s:Shared)(H:Hp)(args:Args)(us:List Value)(vs:List V)(Q:VK)(E:XK),b7 k A->Env0 P w K mg base A outer s H->BindsTo s fd args (ps.zip us)->Vals vs us->sp vs H Q E->
  codeAny (model P w) A (.call (.ref f) args) (CR CX outer P w H s Q E) s
theorem FnOk.mono{P:Program}{w:World}{K:ac}{b:Str->Option Value}{base:Heap}{d:FuncData}(F:FnOk P w K b base c j f d ps e)(h:j<=k):
  FnOk P w K b base c k f d ps e:=#[F.len,λA outer s H a g i Q E l=>F.run A outer s H a g i Q E (l.mono h)]
def FnOk.imp{P:Program}{w:World}{K:ac}{base:Heap}{d:oz}{f:Addr}{g i:Sp}(F:FnOk P w K c base d k f e ps g)
  (h:∀a H Q E,i a H Q E->g a H Q E):FnOk P w K c base d k f e ps i:=
 #[λa H Q E q=>F.len a H Q E (h _ _ _ _ q),λA outer s H b j a Q E l m n o p=>F.run A outer s H b j a Q E l m n o (h _ _ _ _ p)]
def Env0.make{P:Program}{w:World}{K:ac}{a:Str->Option Value}{base:Heap}{A:Around}{outer:List Env}{s:Shared}{H:Hp}(e:Env0 P w K a base A outer s H)(C:Addr)(b:List Value)(c:List (Str×Value)):
  Env0 P w K a base (A.under (.builtin "type.__call__" #[.ref C::b,c])) outer s H:=#[by first|exact e.frames| (simpa [Around.under,Code.envs,Code.isFrame,pushEnvs] using e.frames),e.mod,e.bs,e.bsz,e.funs,e.frf,e.hok,e.bare]
section
variable {X:Cx} {pins:List (Addr×Obj)} {σ:St} {H:Hp} {s s':Shared}
def Inv.Ff(I:Inv X pins σ H s):Env0 X.prog X.w X.K X.mg X.base X.A X.stack s H:=
 #[I.ok.frames,I.ok.mod,I.bs,iA I.ok.bsz I.sz,I.stack,I.zC,I.hok,I.bare]
def Inv.after(I:Inv X pins σ H s)(h:CE X.stack X.prog X.w H s Q u s'):EP X pins σ Q u s':=by
 obtain⟨v,a,os,bare,un,hok,r,q⟩:=h;obtain⟨c,g,d,t,e⟩:=s';obtain rfl:e=s.os:=os;exact#[v,a,I.call (h':=c) (g':=g) (d':=d) (t':=t) (ch:= []) un hok bare (λb z=>absurd z (by simp)),r,q]
end
def WG(a:Sp)(b:List V)(E:XK)(t:TA):TE:=λc H Q=>t c H λd e=>a (d++b) e Q E
def JC(C:Addr)(m:Str)(d:Sp)(e:List V)(E:XK)(f:TE)(t:TA):TE:=λb H Q=>f b H λx c=>∃a g fs,x= .ref a/\c a\(.ins C g fs)/\fs.lookup m=none/\
 t b c λh i=>d (x::(h++e)) i Q E
def WK(C:Addr)(c:Sp)(d:List V)(E:XK)(t:TA):TE:=λe H Q=>t e H λf b=>∀x a,b x=none->b a=none->a≠x->
 c (.ref x::(f++d)) (upd (upd b a (.own x)) x (.ins C a [])) (λv g=>v= .bo/\Q (.ref x) g) E
def Binds(K:ac)(d:FuncData)(b:List Str)(c:List Value):Prop:=
 ∀(s:Shared)(a:List Value),K.In s.heap->(a++c).length=b.length->BindsTo s d #[a,[]] (b.zip (a++c))
def Binds.all{K:ac}{c:FuncData}{b:List Str}(h:∀a:List Value,a.length=b.length->bindArgs c #[a,[]]=pure (b.zip a)):Binds K c b []:=λs a _ d=>by
 rw[gR] at d ⊢;exact .of_eq (h a d)
def Passes(c:oz)(X:Cx)(E:XK):Prop:=∀(a:List (Addr×Obj))(d:St)(H:Hp)(s:Shared)(e:Value)(b:Shared),Inv X a d H s->c X.stack H s E e b->X.xe e b
section
variable {X:Cx} {CX:oz} {k:Nat} {f C:Addr} {fd:FuncData} {ps:List Str} {sp:Sp} {bw:List V} {ds:List Value} {E:XK} {x m:Str} {p pos apos:Pos} {e o:Expr} {es:List Expr} {ta:TE} {t:TA}
theorem D2{pins:List (Addr×Obj)}{σ:St}{H:Hp}{s:Shared}{Q:VK}{us:List Value}{vs:List V}(F:FnOk X.prog X.w X.K X.mg X.base CX k f fd ps sp)(hr:b7 k X.A)(hb:Binds X.K fd ps ds)(hd:Vals bw ds)(hx:Passes CX X E)
  (I:Inv X pins σ H s) (r:Vals vs us) (h:sp (vs++bw) H Q E):wpAny (model X.prog X.w) X.A (call (.ref f) us) (EP X pins σ Q) X.xe s:=by
 have r2:Vals (vs++bw) (us++ds):=r.append hd;have hl:(us++ds).length=ps.length:=by rw[<-r2.length];exact F.len _ _ _ _ h
 refine wpAny_call (codeAny_mono (F.run X.A X.stack s H #[us,[]] (us++ds) (vs++bw) Q E hr I.Ff (hb s us I.dW hl) r2 h) λr s' hq=>?_);cases r with
 |error e=>exact hx pins σ H s e s' I hq
 |ok fl=>
  cases fl with
  |ret u=>exact I.after hq
  |next=>exact False.elim hq
  |brk=>exact False.elim hq
  |cont=>exact False.elim hq
def Gs(F:FnOk X.prog X.w X.K X.mg X.base CX k f fd ps sp)(c:b7 k X.A)(d:Gl X x)(g:X.mg x\(.ref f))(i:aA X.K (.ref f)=true)(j:Binds X.K fd ps ds)(l:Vals bw ds)(n:Passes CX X E)
  (u:PA X (e::es) t) (v:(x==("__debug__":Str))=false:=by decide) (y:starEach (e::es) X.env=(false,eval e X.env)::starEach es X.env:=by rfl) (z:(backTo pos (starEach es X.env)).any (·.1)=false:=by rfl):
  PE X (.Call (.Name x p) (e::es) [] pos) (WG sp bw E t):=by
 intro a s B H Q I h;refine UV (jx I d g ?_ v);refine aaS (h₀:=X.base) I.ok.mod.kin i (thn (u pos a s B H _ I h) λG J #[L,M,b,r,q]=>#[b.dW,?_]) y z;exact D2 F c j l n b r q
def Pk{pl:Sem Bool}(v:PE X o ta)(c:xG X.K C)(d:Meth X.K C m f)(F:FnOk X.prog X.w X.K X.mg X.base CX k f fd ps sp)(y:b7 k X.A)(z:Binds X.K fd ps ds)(B:Vals bw ds)(G:Passes CX X E)(J:PA X (e::es) t)
  (L:starEach (e::es) X.env=(false,eval e X.env)::starEach es X.env:=by rfl) (M:(backTo pos (starEach es X.env)).any (·.1)=false:=by rfl)
  (N:eval (.Call (.Attribute o m apos) (e::es) [] pos) X.env=(do
   let g <-eval o X.env
   standAt apos.atName
   let (f,first) <-holding [g] (getMethod g m pl)
   callWith pos f first (backTo pos (starEach (e::es) X.env)) (backToKw pos (keywordEach [] X.env))):=by rfl):
  PE X (.Call (.Attribute o m apos) (e::es) [] pos) (JC C m sp bw E ta t):=by
 intro b s i H Q I h;refine abM (pl:=pl) (thn (v b s i H _ I h) λu O #[x,P,j,R,a,Y,fs,S,T,l,q]=>?_) N;subst S;obtain rfl:u=Value.ref a:=R;refine vT j T c d l ?_;refine aaS (first:= [.ref a]) (h₀:=X.base) I.ok.mod.kin d.kp (thn (J pos b O i P _ j q) λus Z #[vs,p,n,r,U]=>#[n.dW,?_]) L M;exact D2 (us:= .ref a::us) (vs:= .ref a::vs) F y z B G n (.cons rfl r) U
def L8{pl:Sem Bool}(j:PE X o ta)(c:xG X.K C)(g:Meth X.K C m f)(F:FnOk X.prog X.w X.K X.mg X.base CX k f fd ps sp)(n:b7 k X.A)(r:Binds X.K fd ps ds)(v:Vals bw ds)(y:Passes CX X E)
  (z:eval (.Call (.Attribute o m apos) [] [] pos) X.env=(do
   let i <-eval o X.env
   standAt apos.atName
   let (f,first) <-holding [i] (getMethod i m pl)
   callWith pos f first (backTo pos (starEach [] X.env)) (backToKw pos (keywordEach [] X.env))):=by rfl):
  PE X (.Call (.Attribute o m apos) [] [] pos) (JC C m sp bw E ta Uo):=by
 intro b s B H Q I h;refine abM (pl:=pl) (thn (j b s B H _ I h) λu M #[x,N,d,G,a,O,fs,J,L,l,q]=>?_) z;subst J;obtain rfl:u=Value.ref a:=G;refine vT d L c g l ?_;exact PySem.W.callWith_K0 (first:= [.ref a]) d.dW g.kp (D2 (us:= [.ref a]) (vs:= [.ref a]) F n r v y d (.cons rfl .nil) q)
structure Mk (K:ac) (C f:Addr):Prop where
 makes:da K C=true
 init:ak K (.ref C) "__init__"\(some (.ref f))
 fn:bj K (.ref f)=true
 kp:aA K (.ref C)=true
theorem Mo{pins:List (Addr×Obj)}{σ:St}{H:Hp}{s:Shared}{Q:VK}{us:List Value}{vs:List V}(M:Mk X.K C f)(F:FnOk X.prog X.w X.K X.mg X.base CX k f fd ps sp)(hr:b7 (k+1) X.A)(hb:Binds X.K fd ps ds)(hd:Vals bw ds)
  (hx:Passes CX X E) (I:Inv X pins σ H s) (r:Vals vs us)
  (h:∀x dx,H x=none->H dx=none->dx≠x->sp (.ref x::(vs++bw)) (upd (upd H dx (.own x)) x (.ins C dx [])) (λv H2=>v= .bo/\Q (.ref x) H2) E):
  wpAny (model X.prog X.w) X.A (call (.ref C) us) (EP X pins σ Q) X.xe s:=by
 have hq:=h (s.heap.objs.size+1) s.heap.objs.size (I.hok.fresh (ux _)) (I.hok.fresh (bM _)) (bJ (zK _));have I2:=Inv.made (C:=C) I;have r2:Vals (V.ref (s.heap.objs.size+1)::(vs++bw)) (Value.ref (s.heap.objs.size+1)::(us++ds)):= .cons rfl (r.append hd)
 have hl:(Value.ref (s.heap.objs.size+1)::us++ds).length=ps.length:=by
  have e:=r2.length;rw[F.len _ _ _ _ hq] at e;exact e.symm
 refine wpAny_call (LQ (f:=f) I.dW M.makes M.init (beq_iff_eq.mp M.fn) (codeAny_mono (F.run _ X.stack _ _ #[Value.ref (s.heap.objs.size+1)::us,[]] (Value.ref (s.heap.objs.size+1)::(us++ds)) _ _ E (hr.make C us [])
  (I2.Ff.make C us []) (hb _ (Value.ref (s.heap.objs.size+1)::us) I2.dW hl) r2 hq) λr s' uR=>?_))
 cases r with
 |error e=>exact hx pins σ _ _ e s' I2 uR
 |ok fl=>
  cases fl with
  |ret u=>
   rfl';obtain⟨v,H',I3,rv,ev,q3⟩:=I2.after uR;subst ev;ac_rfl;exact#[rv,#[V.ref (s.heap.objs.size+1),H',I3,rfl,q3]]
  |next=>exact False.elim uR
  |brk=>exact False.elim uR
  |cont=>exact False.elim uR
def Pj(M:Mk X.K C f)(F:FnOk X.prog X.w X.K X.mg X.base CX k f fd ps sp)(c:b7 (k+1) X.A)(d:Gl X x)(g:X.mg x\(.ref C))(i:Binds X.K fd ps ds)(j:Vals bw ds)(l:Passes CX X E)
  (n:PA X (e::es) t) (u:(x==("__debug__":Str))=false:=by decide) (v:starEach (e::es) X.env=(false,eval e X.env)::starEach es X.env:=by rfl) (y:(backTo pos (starEach es X.env)).any (·.1)=false:=by rfl):
  PE X (.Call (.Name x p) (e::es) [] pos) (WK C sp bw E t):=by
 intro a s z H Q I h;refine UV (jx I d g ?_ u);refine aaS (h₀:=X.base) I.ok.mod.kin M.kp (thn (n pos a s z H _ I h) λB G #[J,L,b,r,q]=>#[b.dW,?_]) v y;exact Mo M F c i j l b r q
end
section
variable {X:Cx} {CX:oz} {k:Nat} {f C:Addr} {fd:FuncData} {ps ks:List Str} {sp:Sp} {E:XK} {x m:Str} {p pos apos aaA:Pos} {e o:Expr} {es:List Expr} {kws:List Keyword} {te ta:TE} {t tk:TA} {nm:Option Str}
variable {g:List Value->List Value->List Value} {gV:List V->List V->List V}
end
structure aG (N P:List Str) (sc:Scope):Prop where
 kind:sc.kind= .function
 co:sc.isCoroutine=false
 gen:sc.isGenerator=false
 nd:N.Nodup
 pre:N.take P.length=P
 par:∀x∈P,sc.names.lookup x\.local\/sc.names.lookup x\.cell
 nofree:∀y∈sc.names,y.2≠ .free
theorem xT{kindOf:Str->Option NameKind}{x:Str}:∀{binds:List (Str×Value)}{m:Str->Option Value},(∀v,(x,v)∉binds)->bindL kindOf binds m x=m x
 | [],_,_=>rfl
 | (n,v)::r,m,h=>by
  unfold bindL;rw[xT λw hw=>h w (eM _ hw)]
  split
  .have:x≠n:=by rintro rfl;exact h v dH
   simp[this]
  .rfl
theorem xR{kindOf:Str->Option NameKind}{x:Str}:∀{binds:List (Str×Value)}{m:Str->Option Value},(∀v,(x,v)∉binds)->bindC kindOf binds m x=m x
 | [],_,_=>rfl
 | (n,v)::r,m,h=>by
  unfold bindC;rw[xR λw hw=>h w (eM _ hw)]
  split
  .rfl
  .have:x≠n:=by rintro rfl;exact h v dH
   simp[this]
theorem xS{kindOf:Str->Option NameKind}{x:Str}{v:Value}:∀{P:List Str}{a:List Value}{i:Nat}{m:Str->Option Value},P.Nodup->P[i]?\x->a[i]?\v->kindOf x\.local->
  bindL kindOf (P.zip a) m x\v
 | [],_,_,_,_,h,_,_=>by simp at h
 |_::_,[],_,_,_,_,h,_=>by simp at h
 |p::P,w::a,0,m,d,b,c,e=>by
  simp at b c;subst b;subst c;show bindL kindOf ((p,w)::P.zip a) m p=_;unfold bindL;rw[xT λv f=>(iV.mp d).1 (abW f).1,AC e];simp
 |p::P,w::a,i+1,m,d,b,c,e=>by
  show bindL kindOf ((p,w)::P.zip a) m x=_;unfold bindL;exact xS (i:=i) (iV.mp d).2 (~~~b) (~~~c) e
theorem xQ{kindOf:Str->Option NameKind}{x:Str}{v:Value}:∀{P:List Str}{a:List Value}{i:Nat}{m:Str->Option Value},P.Nodup->P[i]?\x->a[i]?\v->kindOf x≠some .local->
  bindC kindOf (P.zip a) m x\v
 | [],_,_,_,_,h,_,_=>by simp at h
 |_::_,[],_,_,_,_,h,_=>by simp at h
 |p::P,w::a,0,m,d,b,c,e=>by
  simp at b c;subst b;subst c;show bindC kindOf ((p,w)::P.zip a) m p=_;unfold bindC;rw[xR λv f=>(iV.mp d).1 (abW f).1,tz e];simp
 |p::P,w::a,i+1,m,d,b,c,e=>by
  show bindC kindOf ((p,w)::P.zip a) m x=_;unfold bindC;exact xQ (i:=i) (iV.mp d).2 (~~~b) (~~~c) e
def start(N:List Str)(a:List V):St:=a.map some++ar (N.length-a.length) none
def kj(g:oz)(P:Program)(w:World)(K:ac)(mg:Str->Option Value)(base:Heap)(N:List Str)(b:Str)(a:Scope)(f:Addr)(c:Value)(A:Around)(outer:List Env)(s:Shared)(H:Hp)(E:XK):Cx where
 prog:=P
 w:=w
 K:=K
 mg:=mg
 base:=base
 A:=A.deeper (envOfC b a s.heap.objs.size f c)
 N:=N
 s₀:=s
 H₀:=H
 env:=envOfC b a s.heap.objs.size f c
 outer:=outer
 stack:=envOfC b a s.heap.objs.size f c::outer
 ex:= []
 calm:=true
 fn:=λ_=>true
 pn:= []
 xe:=λe h=>wpAny (model P w) (A.deeper (envOfC b a s.heap.objs.size f c)) (leaving (envOfC b a s.heap.objs.size f c) e) (λ_ d=>g outer H s E e d) (λi d=>g outer H s E i d) h
def AA{a:Scope}{n:Nat}(h:a.names.lookup x\.cell):∃c,(cellsFrom n a.names []).lookup x\c:=by
 have q:=abx a.names n [] (.inl h);exact Option.isSome_iff_exists.mp q
theorem yM{CX:oz}{P:Program}{w:World}{K:ac}{F:Str->Option Value}{base:Heap}{N l:List Str}{qual:Str}{d:Scope}{f:Addr}{cd:Value}{A:Around}{outer:List Env}{s J:Shared}{H:Hp}{E:XK}{G:List Value}{m:List V}
  (S:aG N l d) (Q:A.handled=none) (j:Env0 P w K F base A outer s H) (U:m.length=l.length) (r:Vals m G)
  (x:InCallC s s.heap.objs.size (bindL (envOfC qual d s.heap.objs.size f cd).kindOf (l.zip G) λ_=>none) (cellsFrom (s.heap.objs.size+1) d.names []) (bindC (envOfC qual d s.heap.objs.size f cd).kindOf (l.zip G) λ_=>none) J):
  Inv (kj CX P w K F base N qual d f cd A outer s H E) [] (start N m) H J:=by
 have X:l.length<=N.length:=by have:=KF List.length S.pre;rw[jS] at this;lia
 obtain⟨B,Y,rfl,L⟩:=x.done;have I:∀b:Addr,b∉(kj CX P w K F base N qual d f cd A outer s H E).ex:=λb z=>absurd (show b∈([]:List Addr) from z) (by simp)
 refine#[#[j.mod,S.kind,rfl,rfl,bM _,λy z c B g=>?_,λy o=>?_,λy c _ h=>?_,λ_=>Q,Around.frames_deeper j.frames, .inr #[rfl,rfl],λb z=>absurd z (I b),j.bs,j.bsz,λb _ _=>I b,λb z=>absurd z (I b),j.funs,j.frf],
  rfl,j.bare,Un.kept L,#[_,x.toInCall.ns,λi y v B g Z=>?_],λy c h=>#[_,x.cell y c h],j.hok.fresh (bM _),λy c h=>?_,λp t=>absurd (show p∈([]:List (Addr×Obj)) from t) (by simp),j.hok.kept L,?_]
 .exact name_of_addr x.apart (aaP B) (aaP g)
 .have o:d.names.lookup y\.cell\/d.names.lookup y\.free:=o
  rcases o with o|o
  .exact AA o
  .exact absurd rfl (S.nofree _ (aaP o))
 .exact sr (x.above y c (aaP h))
 .have C:i<m.length:=by
   unfold start at g
   by_cases C:i<m.length
   .exact C
   .rw[kN (~~~C)] at g
    rw[wC] at g
    split at g<;>cases g
  have R:m[i]?\v:=by
   unfold start at g;rw[i5 (~~~C),fi] at g
   cases e:m[i]? with
   |none=>rw[e] at g;cases g
   |some a=>rw[e] at g;cases g;rfl
  obtain⟨u,M,T⟩:=r.get R
  have t:l[i]?\y:=by
   rw[<-S.pre,KQ ()];exact B
  have O:l.Nodup:=by rw[<-S.pre];exact S.nd.sublist (acz _ _)
  exists u,T
  rcases S.par y (fb t) with k|k
  .exact .inl #[k,xS O t M k]
  .obtain⟨c,e⟩:=AA (n:=s.heap.objs.size+1) k
   refine .inr #[.inl k,c,e,?_];have q:=x.cell y c e;rw[xQ O t M (by show d.names.lookup y≠_;rw[k];decide)] at q
   exact q
 .exact j.hok.fresh (sr (x.above y c (aaP h)))
 .unfold start
  show _=N.length;rw[cI,aS,zP];lia
theorem NR{B:oz}{P:Program}{w:World}{K:ac}{C:Str->Option Value}{base:Heap}{k:Nat}{f:Addr}{i c:Str}{d:Arguments}{g:List Stmt}{a:Scope}{U kV p X l Y oc:Value}{Z od:Option Addr}
  {Ao:Array (Option Value)} {N F:List Str} {L:Sp} (lk:K.lookup f\#[oc,od, .func (bv i c d g a U kV p X Z l Y),Ao]) (eO:bb K l c=true) (S:aG N F a)
  (len:∀h H Q E,L h H Q E->h.length=F.length)
  (h7:∀(A:Around)(outer:List Env)(s:Shared)(H:Hp)(h:List V)(Q:VK)(E:XK),b7 k (A.deeper (envOfC c a s.heap.objs.size f l))->L h H Q E->
   ∃t,jU (kj B P w K C base N c a f l A outer s H E) g t/\t {nx:=λ_ j=>Q .bo j,rt:=Q} (start N h) H):
  FnOk P w K C base B (k+1) f (bv i c d g a U kV p X Z l Y) F L:=by
 refine#[len,λA outer s H args us h Q E M z hb r uS=>?_];have hl:=len _ _ _ _ uS;have KX:K.In s.heap:=z.mod.kin.keeps λb o e=>(z.bs b o e).1;have O:s.heap.NoLimit:=z.mod.nolimit.keeps λb o e=>(z.bs b o e).1
 have Ik:∀y∈F.zip us,a.names.lookup y.1\.local\/(a.names.lookup y.1\.cell/\((cellsFrom (s.heap.objs.size+1) a.names []).lookup y.1).isSome=true):=λ#[n,v] hy=>by
  rcases S.par n (abW hy).1 with q|q
  .exact .inl q
  .exact .inr #[q,abx _ _ _ (.inl q)]
 refine codeAny_call_function M.depth (KX _ _ lk) rfl S.co S.gen rfl (PySem.W.codeRec_of KX eO) (hb _ _ _ _ ?_);refine acp S.kind Ik λenv he s1 x=>?_;subst he;obtain⟨t,ht,hq⟩:=h7 A outer s H h Q E (M.deeper _) uS;refine#[O.keeps x.toInCall.keep,codeAny_func ?_];have I:Inv (kj B P w K C base N c a f l A outer s H E) [] (start N h) H s1:=yM S M.hd z hl r x;refine wpAny_mono (ht [] s1 (start N h) H _ I hq) (λfl R m=>?_) λe R m=>m
 have fin:∀{G:St}{j:Hp}{v:V}{u:Value},Inv (kj B P w K C base N c a f l A outer s H E) [] G j R->RelV v u->Q v j->CE outer P w H s Q u R:=
  λ {G j v u} J T q=>#[v,j,J.os,J.bare,J.base,J.hok,T,q]
 cases fl with
 |ret u=>
  obtain⟨v,G,j,J,T,q⟩:=m;exact fin J T q
 |next=>
  obtain⟨G,j,J,q⟩:=m;exact fin (v:=V.bo) (u:=Value.none) J rfl q
 |brk=>
  obtain⟨_,_,_,q⟩:=m;exact False.elim q
 |cont=>
  obtain⟨_,_,_,q⟩:=m;exact False.elim q
section
variable {X:Cx} {x:Str} {p pos:Pos} {e:Expr} {es:List Expr} {t:TA} {id T:String} {r:List V->Hp->VK->Prop}
def ZX(r:List V->Hp->VK->Prop)(t:TA):TE:=λa H Q=>t a H λb c=>r b c Q
def mD(c:CallR X (.builtin id) r)(d:Gl X x)(f:X.mg x=none)(g:bootBuiltins x\(.builtin id))(i:PA X (e::es) t)(j:x≠"__name__":=by decide)(k:(x==("__debug__":Str))=false:=by decide)
  (l:starEach (e::es) X.env=(false,eval e X.env)::starEach es X.env:=by rfl) (m:(backTo pos (starEach es X.env)).any (·.1)=false:=by rfl):PE X (.Call (.Name x p) (e::es) [] pos) (ZX r t):=by
 intro a s b H Q I h;refine UV (k7 I d f g ?_ j k);exact abX (thn (i pos a s b H _ I h) λn o #[q,u,v,w,y]=>c a o b u q n Q v w y) l m
def rY(c:CallR X (.type T) r)(d:Gl X x)(f:X.mg x=none)(g:bootBuiltins x\(.type T))(i:PA X (e::es) t)(j:x≠"__name__":=by decide)(k:(x==("__debug__":Str))=false:=by decide)
  (l:starEach (e::es) X.env=(false,eval e X.env)::starEach es X.env:=by rfl) (m:(backTo pos (starEach es X.env)).any (·.1)=false:=by rfl):PE X (.Call (.Name x p) (e::es) [] pos) (ZX r t):=by
 intro a s b H Q I h;refine UV (k7 I d f g ?_ j k);exact aaR (thn (i pos a s b H _ I h) λn o #[q,u,v,w,y]=>c a o b u q n Q v w y) l m
end
end L2
namespace HT
open PySem PyProof.Rows
def lexLt:List Int->List Int->Bool
 | [],[]=>false
 | [],_::_=>true
 |_::_,[]=>false
 |x::a,y::b=>if x=y then lexLt a b else decide (x<y)
def jy(x y:Int)(a b:List Int):lexLt (x::a) (y::b)=if x=y then lexLt a b else decide (x<y):=rfl
def pA:lexLt [] []=false:=rfl
def nN(y:Int)(a:List Int):lexLt [] (y::a)=true:=rfl
def nM(x:Int)(a:List Int):lexLt (x::a) []=false:=rfl
def AK(A:Around)(s:Shared)(a:Int)(t:Tok)(c:Int)(u:Tok):∃e,SeqAt.EqAt A s (.int a t) (.int c u) e/\(e=true↔a=c):=
 #[(a==c),abh a t c u,by simp]
def Bj(A:Around)(s:Shared)(a:Int)(t:Tok)(c:Int)(u:Tok)(prog:Program)(w:World)(E:Value->Shared->Prop)(Q:Value->Shared->Prop)(h:Q (.bool (decide (a<c))) s):
  wpAny (model prog w) A (richCompare .Lt (.int a t) (.int c u)) Q E s:=
 (PyProof.Rows.lt_int h:wpAny (model prog w) A (compareOp .Lt (.int a t) (.int c u)) Q E s)
section
open PySem.SeqAt
open PySem.AutoSeq1 (wpAny_loadPart')
open PySem.MeetsSeq PySem.MeetsSeq2 PySem.MeetsSeq3
theorem zG(l b:Addr)(f o:Array Value)(n S:Nat)(T U:Option Addr)(X Y:Array (Option Value))(v z:List Int)(N:IntsAre f.toList v)(O:IntsAre o.toList z):
  Meets (Builtin.«tuple.__lt__» #[[.ref l, .ref b],[]])
   (λ_ R s=>s.heap.get? l\{cls:= .type "tuple",dict:=T,data:= .seq f n,slots:=X}/\s.heap.get? b\{cls:= .type "tuple",dict:=U,data:= .seq o S,slots:=Y}/\
    R (.ok (.ret (.bool (lexLt v z)))) s):=
 .of_wp λprog w A R s h=>by
  obtain⟨B,g,d,C,os⟩:=s;obtain⟨Z,hb,h⟩:=h;have f2:=AutoSeq1.sub_tuple_tuple;have z1:f.size=v.length:=by rw[<-N.length];simp
  have z2:o.size=z.length:=by rw[<-O.length];simp
  wp_walk using wpAny_loadPart' Z,wpAny_loadPart' hb,abG _ (λk b H=>b.1=none/\H=#[B,g,d,C,os]/\∃(E F:List Value)(p r:List Int),k=E.zip F/\
   IntsAre E p/\IntsAre F r/\p.length+o.size=r.length+f.size/\R (.ok (.ret (.bool (lexLt p r)))) #[B,g,d,C,os]) _
  case turn=>
   intro I k b H iR;obtain⟨y,x⟩:=I;rfl';obtain⟨J,rfl,E,F,p,r,j,L,G,i,m⟩:=iR;ac_rfl;cases L with
   |nil=>rw[List.zip_nil_left] at j;cases j
   |cons a t YS=>
    cases G with
    |nil=>rw[List.zip_nil_right] at j;cases j
    |cons c u YV=>
     rw[Ex] at j
     injection j with M yH
     injection M with hy hx
     subst hy hx;rw[jy] at m;simp only[cx] at i;obtain⟨e,he,P⟩:=AK A.in1 #[B,g,d,C,os] a t c u;refine ir (he prog w _ _ ?_);cases e with
     |true=>
      rw[AC (P.mp rfl)] at m
      wp_walk
      exact#[rfl,rfl,_,_,_,_,yH,YS,YV,(),m]
     |false=>
      rw[tz (λq=>absurd (P.mpr q) cQ)] at m;have VR:=Bj A.in1 #[B,g,d,C,os] a t c u prog w
      wp_walk using VR
      exact#[_,rfl,by simpa using m]
  case fin=>
   rintro⟨b1,b2⟩ H ⟨J,rfl,E,F,p,r,j,L,G,i,m⟩;simp only at J;subst J
   have Q:lexLt p r=decide (f.size<o.size):=by
    cases L with
    |nil=>
     cases G with
     |nil=>
      simp only[jH] at i;rw[pA];exact(GM ()).symm
     |cons c u hw=>
      simp only[jH,cx] at i;rw[nN];exact(GT ()).symm
    |cons a t Q=>
     cases G with
     |nil=>
      simp only[jH,cx] at i;rw[nM];exact(GM ()).symm
     |cons c u hw=>
      rw[Ex] at j;cases j
   rw[Q] at m
   wp_walk
   exact#[_,rfl,by simpa [Builtin.Tuple.tupleCompareSizes] using m]
  case h=>
   exact#[rfl,rfl,f.toList,o.toList,v,z,rfl,N,O,(),h]
end
section
variable {prog:Program} {w:World} {A:Around} {E:Value->Shared->Prop} {s:Shared}
def F7(p:IsTup s.heap l a)(q:IsTup s.heap b f)(r:IntsAre a.toList c)(t:IntsAre f.toList d)
  (u:A.units<cLine) (h:Q (.bool (lexLt c d)) s):wpAny (model prog w) A (compareOp .Lt (.ref l) (.ref b)) Q E s:=by
 rfl';obtain⟨⟨cls,y,g,z⟩,i,j,n,k⟩:=id p;obtain⟨⟨I,B,data2,C⟩,m,o,G,e⟩:=id q;ac_rfl;simp only at j k o e;subst j k o e
 exact richCompare_meets_room (op:= .Lt) #[_,i,rfl] #[_,m,rfl] PySem.F.slot_tuple_lt PySem.F.entry_tuple_lt (PySem.F.args_tuple_lt_2 _ _) (zG l b a f n G y B z C c d r t)
  #[i,m,show Value.bool (lexLt c d)≠Value.notImplemented/\Q (.bool (lexLt c d)) s from#[(λx=>nomatch x),h]] u
def MW(r:IsTup s.heap t c.toArray)(u:IsTup s.heap b a.toArray)(h:c≠ [])
  (v:a= []->Q (.ref t) s) (x:a≠ []->Q (.ref s.heap.objs.size) {s with heap:=s.heap.push {cls:= .type "tuple",data:= .seq (c++a).toArray}})
  (y:c.length+a.length<=sizeLine):wpAny (model prog w) A (binaryOp .Add (.ref t) (.ref b)) Q E s:=by
 rfl';obtain⟨⟨cls,i,data,j⟩,f,k,n,l⟩:=id r;obtain⟨⟨C,m,data2,o⟩,g,p,q,d⟩:=id u;ac_rfl;simp only at k l p d;subst k l p d;have e:c.toArray++a.toArray=(c++a).toArray:=by simp
 by_cases hw:a= []
 .exact concat_meets #[_,f,rfl] #[_,g,rfl] noFill_tuple_add seq_tuple_add ac0 acV (acF _ _)
   (tuple_addW1 t b c.toArray a.toArray n q i m j o (~~~h) (by simp[hw])) #[f,g,v hw]
 .refine concat_meets #[_,f,rfl] #[_,g,rfl] noFill_tuple_add seq_tuple_add ac0 acV (acF _ _)
   (tuple_addW2 t b c.toArray a.toArray n q i m j o (~~~h) (~~~hw) (by rw[cR,cR];exact y)) #[f,g,?_]
  rw[e];exact x hw
def cg(n d:Nat):Option Int->Nat
 |none=>d
 |some v=>if v<0 then(v+(n:Int)).toNat else min v.toNat n
def SH(n d:Nat)(b:d<=n)(o:Option Int):cg n d o<=n:=by
 cases o with
 |none=>exact b
 |some v=>
  show(if v<0 then(v+(n:Int)).toNat else min v.toNat n)<=n
  by_cases a:v<0
  .rw[AC a];lia
  .rw[tz a];exact Nat.min_le_right _ _
def EY(v:Int)(n d:Nat):(if v<0 then max (v+(n:Int)) 0 else min v (n:Int))=((cg n d (some v):Nat):Int):=by
 show(if v<0 then max (v+(n:Int)) 0 else min v (n:Int))=(((if v<0 then(v+(n:Int)).toNat else min v.toNat n):Nat):Int)
 by_cases a:v<0
 .simp only[AC a];lia
 .simp only[tz a];lia
def EG(lo a:Option Int)(n:Nat):Builtin.Slice.sliceAdjust lo a 1 (n:Int)=(((cg n 0 lo:Nat):Int),((cg n n a:Nat):Int)):=by
 have b:¬((1:Int)<0):=()
 unfold Builtin.Slice.sliceAdjust;simp only[b,SZ];refine aaW ?_ ?_
 .cases lo with
  |none=>rfl
  |some v=>exact EY v n 0
 .cases a with
  |none=>rfl
  |some v=>exact EY v n n
def Gx(i j:Nat):Builtin.Slice.slicePlaces (i:Int) (j:Int) 1=j-i:=by
 unfold Builtin.Slice.slicePlaces;have a:(1:Int)>0:=()
 simp only[a,aaU,Int.ediv_one]
 split<;>lia
def wy(p:IsPart v o)(h:Q o s):wpAny (model prog w) A (Builtin.Slice.slicePartIndex v) Q E s:=by
 cases p with
 |none=>exact slicePart_none h
 |int i t=>exact slicePart_int h
def ud{f:Addr}{b c:Value}{lo a:Option Int}{n:Nat}{Q:Int×Int×Nat->Shared->Prop}(g:s.heap.IsSliceOf f b c .none)(i:IsPart b lo)(j:IsPart c a)
  (h:Q (((cg n 0 lo:Nat):Int),1,cg n n a-cg n 0 lo) s):wpAny (model prog w) A (Builtin.Slice.sliceApplied (.ref f) (pure (n:Int))) Q E s:=by
 rfl';obtain⟨os,d,m,e⟩:=id g;ac_rfl;unfold Builtin.Slice.sliceApplied Builtin.Slice.sliceFields;refine ir (ir (abb d e (x:=b) rfl (ir (abb d e (x:=c) rfl (ir (abb d e (x:= .none) rfl (mo ?_)))))));refine ir (slicePart_none ?_);rw[tz ∅]
 refine ir (wy i (ir (wy j (ir (mo ?_)))));show wpAny _ _ (match Builtin.Slice.sliceAdjust lo a 1 (n:Int) with| (lo,a)=>pure (lo,(1:Int),Builtin.Slice.slicePlaces lo a 1)) _ _ s
 rw[EG lo a n];show wpAny _ _ (pure (((cg n 0 lo:Nat):Int),(1:Int),Builtin.Slice.slicePlaces ((cg n 0 lo:Nat):Int) ((cg n n a:Nat):Int) 1)) _ _ s;rw[Gx];exact mo h
def Mc(a:Array Value)(i k:Nat):((am k).filterMap λ(m:Nat)=>a[((i:Int)+(m:Int)*1).toNat]?).toArray=((a.toList.drop i).take k).toArray:=by
 have e:(λ(m:Nat)=>a[((i:Int)+(m:Int)*1).toNat]?)=λm=>a[i+m]? :=by
  funext m
  have:((i:Int)+(m:Int)*1).toNat=i+m:=()
  rw[this]
 rw[e]
 have:=pick_run a i k
 rw[List.filterMap_map] at this;have b:((λx=>a[x]?)∘λx=>i+x)=λm=>a[i+m]? :=rfl;rw[b] at this;rw[this]
theorem rJ{t e:Addr}{a:Array Value}{g i:Value}{lo b:Option Int}{Q:Value->Shared->Prop}(c:IsTup s.heap t a)(j:s.heap.IsSliceOf e g i .none)(k:IsPart g lo)(l:IsPart i b)
  (hw:¬(cg a.size 0 lo=0/\cg a.size a.size b=a.size))
  (h:Q (.ref s.heap.objs.size) {s with heap:=s.heap.push {cls:= .type "tuple",data:= .seq ((a.toList.drop (cg a.size 0 lo)).take (cg a.size a.size b-cg a.size 0 lo)).toArray}})
  (r:a.size<=sizeLine):wpAny (model prog w) A (getItem (.ref t) (.ref e)) Q E s:=by
 have d:sizeOk (.seq ((a.toList.drop (cg a.size 0 lo)).take (cg a.size a.size b-cg a.size 0 lo)).toArray):=by
  show((a.toList.drop (cg a.size 0 lo)).take (cg a.size a.size b-cg a.size 0 lo)).toArray.size<=sizeLine;rw[cR,jS,BE,dY];lia
 have u:cg a.size a.size b<=a.size:=SH _ _ (bM _) b;obtain⟨os,n,o,v⟩:=id j;have f:s.TypeIs (.ref e) "slice":=#[os,n,o];unfold getItem
 try with_reducible refine wpAny_holding ?_
 first|refine wpAny_bind (wpAny_pure ?_) |skip
 refine wpAny_bind (wpAny_sequenceKey c.typeIs ∅ ?_)
 refine wpAny_bind (wpAny_callSpecial?_slot (name:=Str.ofString "__getitem__") c.typeIs PyProof.Rows.slot_tuple_getitem
  (wpAny_call_entry PyProof.Rows.slot_tuple_getitem c.typeIs entry_tuple_getitem ?_ (args_tuple_getitem _ _)))
 show wpAny _ _ (Builtin.Tuple.tupleItemsOf (.ref t)>>=_) _ _ s;refine wpAny_bind (tupleItemsOf_ c ?_);refine wpAny_bind (wpAny_typeOf f ?_);rw[if_pos ∅]
 refine wpAny_bind (ud j k l ?_)
 have p:¬((((cg a.size 0 lo:Nat):Int)==0&&(1:Int)==1&&(cg a.size a.size b-cg a.size 0 lo)==a.size)=true):=by
  intro q;rw[uu,uu] at q;have x:((cg a.size 0 lo:Nat):Int)=0:=eq_of_beq q.1.1;have y:cg a.size a.size b-cg a.size 0 lo=a.size:=eq_of_beq q.2;exact hw #[(),()]
 show wpAny _ _ (if (((cg a.size 0 lo:Nat):Int)==0&&(1:Int)==1&&(cg a.size a.size b-cg a.size 0 lo)==a.size)=true then _ else _) _ _ s;rw[if_neg p,Mc]
 first
  |exact wpAny_bind (m:=Builtin.Tuple.tupleExact _) (wpAny_newObj_type (wpAny_pure #[_,rfl,wpAny_pure h]) d)
  |exact wpAny_bind (m:=Builtin.Tuple.tupleExact _) (wpAny_newObj_type (wpAny_bind (wpAny_pure (wpAny_pure #[_,rfl,wpAny_pure h]))) d)
  |exact wpAny_bind (wpAny_bind (m:=Builtin.Tuple.tupleExact _) (wpAny_newObj_type (wpAny_pure (wpAny_pure #[_,rfl,wpAny_pure h])) d))
  |exact wpAny_bind (wpAny_bind (m:=Builtin.Tuple.tupleExact _) (wpAny_newObj_type (wpAny_pure #[_,rfl,wpAny_pure h]) d))
end
end HT
namespace L2
open PySem PySem.Spec PyProof.Rows
abbrev TO:=St->Hp->(Option Int->Hp->Prop)->Prop
def PO(X:Cx)(e:Option Expr)(t:TO):Prop:=
 ∀(a:List (Addr×Obj))(s:Shared)(b:St)(H:Hp)(Q:Option Int->Hp->Prop),Inv X a b H s->t b H Q->
  wpAny (model X.prog X.w) X.A (evalPart e X.env) (λu d=>∃o c,Inv X a b c d/\IsPart u o/\Q o c) X.xe s
def Qo:TO:=λ_ H Q=>Q none H
def WN(t:TE):TO:=λa H Q=>t a H λx b=>∃i,x= .int i/\Q (some i) b
def intsAre_of:∀{b:List Value},Vals (a.map V.int) b->IntsAre b a:=by
 induction a with
 |nil=>intro b r;rw[adf] at r;cases r;exact .nil
 |cons n a c=>
  intro b r;rw[gF] at r;cases r with
  |cons d f=>
   obtain⟨t,e⟩:=d;subst e;exact .cons n t (c f)
section
variable {X:Cx} {e:Expr} {te:TE} {lo hi:Option Expr} {tl th:TO} {pos p2:Pos}
def Pp:PO X none Qo:=by
 intro a s b H Q I h;rw[evalPart_none];exact mo #[none,H,I, .none,h]
def Pq(h:PE X e te):PO X (some e) (WN te):=by
 intro a s b H Q I hw;rw[evalPart_some];refine thn (h a s b H _ I hw) λu l c=>?_;rfl';obtain⟨x,f,g,j,k⟩:=c;obtain⟨i,rfl,q⟩:=k;obtain⟨t,rfl⟩:=j;ac_rfl;exact#[some i,f,g, .int i t,q]
def Hx(X:Cx)(r:V->Option Int->Option Int->Hp->VK->Prop):Prop:=
 ∀(a:List (Addr×Obj))(s:Shared)(b:St)(H:Hp)(x:V)(v c d:Value)(lo f:Option Int)(g:Addr)(Q:VK),Inv X a b H s->RelV x v->s.heap.IsSliceOf g c d .none->IsPart c lo->IsPart d f->r x lo f H Q->
  ∃T id,typeLookup (.type T) "__getitem__"=pure (some (.builtin id))/\s.TypeIs v T/\wpAny (model X.prog X.w) X.A (getItem v (.ref g)) (EP X a b Q) X.xe s
def Hx.or(h:Hx X r)(n:Hx X c):Hx X (λx lo b H Q=>r x lo b H Q\/c x lo b H Q):=by
 intro a s d H x v f g lo b i Q I j k l m q
 rcases q with q|q
 .exact h a s d H x v f g lo b i Q I j k l m q
 .exact n a s d H x v f g lo b i Q I j k l m q
def tSl(r:V->Option Int->Option Int->Hp->VK->Prop)(b:TE)(c d:TO):TE:=λa H Q=>b a H λx f=>c a f λl g=>d a g λu h=>r x l u h Q
def Ma(m:Hx X r)(n:PE X e te)(o:PO X lo tl)(p:PO X hi th):PE X (.Subscript e (.Slice lo hi none p2) pos) (tSl r te tl th):=by
 intro a s d H Q I h;refine Subscript_ (thn (n a s d H _ I h) λv t f=>?_);rfl';obtain⟨x,y,z,A,B⟩:=f;ac_rfl;refine wpAny_Slice (thn (o a t d y _ z B) λi C #[l,E,F,G,J]=>thn (p a C d E _ F J) λj c f=>?_);rfl';obtain⟨u,k,L,M,N⟩:=f;ac_rfl;rw[evalPart_none];refine mo ?_;have O:Inv X a d k {c with heap:=c.heap.push {cls:= .type "slice",data:= .fields [i,j, .none].toArray}}:=L.kept (t':=c.toks) λb U q=>Da _ q
 obtain⟨T,id,P,R,S⟩:=m a {c with heap:=c.heap.push {cls:= .type "slice",data:= .fields [i,j, .none].toArray}} d k x v i j l u c.heap.objs.size Q O A (Heap.IsSliceOf.new ..) G M N
 exact tail_any (ops:= [.ref c.heap.objs.size,v]) R P S (by with_unfolding_all rfl)
def vL(a:List V)(lo b:Option Int):List V:=(a.drop (HT.cg a.length 0 lo)).take (HT.cg a.length a.length b-HT.cg a.length 0 lo)
def sS(a:List V)(lo b:Option Int):(vL a lo b).length<=a.length:=by
 unfold vL;rw[jS,BE];lia
def ZJ(K:ac):V->Option Int->Option Int->Hp->VK->Prop:=λx lo c H Q=>∃a b,x= .ref a/\gj K H a b/\
 ¬(HT.cg b.length 0 lo=0/\HT.cg b.length b.length c=b.length)/\∀p,H p=none->Q (.ref p) (upd H p (.tup (vL b lo c)))
def SJ:Hx X (ZJ X.K):=by
 intro i s w H x v y z lo f A Q I l m n p h;rfl';obtain⟨a,d,rfl,u,hw,q⟩:=h;subst l;obtain⟨g,r,j,k⟩:=I.tuple u;have c:g.toArray.size=d.length:=by rw[cR];exact r.length.symm
 ac_rfl;exists "tuple",_,abU.lookup,j.typeIs;refine HT.rJ j m n p (by rw[c];exact hw) ?_ (by rw[c];exact k)
 rw[c];refine#[.ref s.heap.objs.size,_,I.laid (t':=s.toks) (o:= .tup (vL d lo f)) (λb C q=>Da _ q) (bM _) ?_,rfl,q _ (I.hok.fresh (bM _))];exact#[iA (sS d lo f) k,_,(r.drop (HT.cg d.length 0 lo)).take (HT.cg d.length d.length f-HT.cg d.length 0 lo),IsTup.new _ _]
def Ws(K:ac):R2:=λx y H Q=>∃a b d c,x= .ref a/\y= .ref b/\gj K H a d/\gj K H b c/\d≠ []/\d.length+c.length<=sizeLine/\
 (c= []->Q (.ref a) H)/\(c≠ []->∀p,H p=none->Q (.ref p) (upd H p (.tup (d++c))))
def Vals.yW(r:Vals a b):b= []↔a= []:=by
 cases r with
 |nil=>simp
 |cons _ _=>simp
def O7:OpR X (binaryOp .Add) (Ws X.K):=by
 intro f s F H x y v u Q I i j h;rfl';obtain⟨a,b,l,m,rfl,rfl,n,p,r,g,t,A⟩:=h;subst i;subst j;obtain⟨B,d,C,_⟩:=I.tuple n;obtain⟨J,c,E,_⟩:=I.tuple p;ac_rfl;refine HT.MW C E (λz=>r (d.yW.mp z)) (λz=>#[.ref a,H,I,rfl,t (c.yW.mp z)]) (λz=>?_) (by rw[<-d.length,<-c.length];exact g)
 refine#[.ref s.heap.objs.size,_,I.laid (t':=s.toks) (o:= .tup (l++m)) (λb L q=>Da _ q) (bM _) ?_,rfl,A (λw=>z (c.yW.mpr w)) _ (I.hok.fresh (bM _))];exact#[by rw[cI];exact g,_,d.append c,IsTup.new _ _]
end
def iB(n:Nat)(i:Int):Option Nat:=if 0<=i then(if i<n then some i.toNat else none) else if-(n:Int)<=i then some (i+n).toNat else none
def fQ{a:Type}(b:List a)(i:Int):Option a:=(iB b.length i).bind λj=>b[j]?
def FP(h:iB n i\j):seqIndex? i n\j/\j<n/\-(n:Int)<=i/\i<n:=by
 unfold iB at h
 by_cases b:0<=i
 .rw[AC b] at h
  by_cases a:i<n
  .rw[AC a] at h
   have e:i.toNat=j:=FM h;exact#[by rw[seqIndex_of b a,e],(),(),a]
  .rw[tz a] at h;cases h
 .rw[tz b] at h
  by_cases a: -(n:Int)<=i
  .rw[AC a] at h
   have e:(i+n).toNat=j:=FM h;exact#[by rw[seqIndex_neg () a,e],(),a,()]
  .rw[tz a] at h;cases h
def EI(h:fQ a i\v):∃j,seqIndex? i a.length\j/\a[j]?\v/\j<a.length/\-(a.length:Int)<=i/\i<a.length:=by
 unfold fQ at h;cases e:iB a.length i with
 |none=>rw[e] at h;cases h
 |some j=>
  rw[e] at h;obtain⟨c,d,f,g⟩:=FP e;exact#[j,c,h,d,f,g]
def EJ{b:Type}{a:List b}{j:Nat}{v:b}(h:a[j]?\v):fQ a (j:Int)\v:=by
 have c:j<a.length:=(dZ.mp h).1
 have e:iB a.length (j:Int)\j:=by
  unfold iB;rw[AC (),AC ()];simp
 unfold fQ;rw[e];exact h
def sD(b:Expr):Prop:=∀o i,subscripted b false o i=operate [o,i] (getItem o i)
def Hr(X:Cx)(r:R2):Prop:=
 ∀(c a:Expr)(b:List (Addr×Obj))(s:Shared)(d:St)(H:Hp)(x y:V)(v u:Value)(Q:VK),Inv X b d H s->RelV x v->RelV y u->r x y H Q->
  subscripted a false v u=operate [v,u] (getItem v u)->wpAny (model X.prog X.w) X.A (subscriptTail c a v u) (EP X b d Q) X.xe s
def K0(X:Cx)(id:String)(r:V->List V->Hp->VK->Prop):Prop:=
 ∀(a:List (Addr×Obj))(s:Shared)(b:St)(H:Hp)(x:V)(c:List V)(v:Value)(d:List Value)(Q:VK),Inv X a b H s->RelV x v->Vals c d->r x c H Q->
  wpAny (model X.prog X.w) X.A (call (.builtin id) (v::d)) (EP X a b Q) X.xe s
section
variable {X:Cx} {a b:Expr} {ta tb:TE} {pos:Pos}
def Hr.or(h:Hr X r)(l:Hr X f):Hr X (λx y H Q=>r x y H Q\/f x y H Q):=by
 intro c d e s g H x y v u Q I i j q k
 rcases q with q|q
 .exact h c d e s g H x y v u Q I i j q k
 .exact l c d e s g H x y v u Q I i j q k
def Jg(d:Hr X r)(e:PE X a ta)(f:PE X b tb)(g:sD b):PE X (.Subscript a b pos) (Qp r ta tb):=by
 intro c s i H Q I h;exact Subscript_ (MS e f I h λv u j x y k l m n q=>d a b c j i k x y v u Q l m n q (g _ _))
def ZD(K:ac):R2:=λx y H Q=>∃p c i v,x= .ref p/\y= .int i/\cK K H p c/\fQ c i\v/\Q v H
def ZE(K:ac):R2:=λx y H Q=>∃p c i v,x= .ref p/\y= .int i/\gj K H p c/\fQ c i\v/\Q v H
def yO:Hr X (ZD X.K):=by
 intro e f c s m H x y v u Q I B C h n;rfl';obtain⟨p,S,i,z,rfl,rfl,F,G,q⟩:=h;subst B;obtain⟨t,rfl⟩:=C;obtain⟨g,r,k,T⟩:=I.list F;obtain⟨j,d,J,U,L,M⟩:=EI G;obtain⟨w,o,N⟩:=r.get J;have O:=r.length;have Y:=qB;have fin:EP X c m Q w s:=#[z,H,I,N,q];ac_rfl
 by_cases A:0<=i
 .have l:i.toNat=j:=by
   rw[seqIndex_of A M] at d;exact FM d
  exact item_listR k.isList A () (by rw[l];simpa using o) fin n
 .have l:(i+(g.toArray.size:Int)).toNat=j:=by
   rw[seqIndex_neg () L] at d
   rw[cR,<-O];exact FM d
  exact ac1 (x:=w) k.isList.typeIs slot_list_getitem.lookup
   (wpAny_getItem_list_neg (Q:=λr P=>r=w/\EP X c m Q r P) k.isList () (by rw[cR]<;>lia) () (by rw[l];simpa using o) #[rfl,fin]) n
def Rz:Hr X (ZE X.K):=by
 intro d e c s f H x y v u Q I k l h m;rfl';obtain⟨p,N,i,z,rfl,rfl,o,A,q⟩:=h;subst k;obtain⟨t,rfl⟩:=l;obtain⟨B,r,g,O⟩:=I.tuple o;obtain⟨j,C,E,P,R,S⟩:=EI A;obtain⟨w,F,G⟩:=r.get E;have J:=r.length;have T:=qB;have fin:EP X c f Q w s:=#[z,H,I,G,q];ac_rfl
 exact ac1 (x:=w) g.typeIs slot_tuple_getitem.lookup
  (getItem_tuple (j:=j) (Q:=λr L=>r=w/\EP X c f Q r L) g () () (by rw[cR,<-J];exact C) (~~~F) #[rfl,fin]) m
def Ga(c:List Value)(n j:Nat)(u:Value):Obj.mapSeq (·.setIfInBounds j u) {cls:= .type "list",data:= .seq c.toArray n}={cls:= .type "list",data:= .seq (c.set j u).toArray n}:=by
 simp[Obj.mapSeq]
theorem Inv.lst{c:List (Addr×Obj)}{d:St}{H:Hp}{s:Shared}{p:Addr}{xs:List V}(I:Inv X c d H s)(h:H p\(.lst xs)):
  ∃(its:List Value)(n:Nat),Vals xs its/\s.heap.get? p\{cls:= .type "list",data:= .seq its.toArray n}/\xs.length<=sizeLine:=by
 obtain⟨z,its,n,r,e⟩:=I.hok p _ h;exact#[its,n,r,e,z]
def Inv.RO{its c:List Value}(I:Inv X d j H s)(h:H p\(.lst xs))
  (l:s.heap.get? p\{cls:= .type "list",data:= .seq its.toArray n}) (k:f {cls:= .type "list",data:= .seq its.toArray n}={cls:= .type "list",data:= .seq c.toArray i}) (r:Vals g c) (m:g.length<=sizeLine) (t:Nat):
  Inv X d j (upd H p (.lst g)) {s with heap:=s.heap.update p f,toks:=t}:=by
 have e:(s.heap.update p f).get? p\{cls:= .type "list",data:= .seq c.toArray i}:=by
  rw[On f l (by rw[k]<;>rfl),k]
 refine I.write (x:=p) (e:=p) (by rw[h];trivial) (.inl rfl) (λb u o q=>(IR _ _ (Ne.symm o)).trans q) #[_,e] ?_
 exact#[m,c,i,r,e]
def Wu:V->V->V->Hp->(Hp->Prop)->Prop:=λo i v H Q=>∃p c k j,o= .ref p/\i= .int k/\H p\(.lst c)/\iB c.length k\j/\Q (upd H p (.lst (c.set j v)))
def set_list:Tn X Wu:=by
 intro c s A H o i v M N u Q I B C E h;rfl';obtain⟨p,G,k,j,rfl,rfl,m,J,q⟩:=h;subst B;obtain⟨t,rfl⟩:=C;obtain⟨d,n,r,f,L⟩:=I.lst m;obtain⟨e,P,w,x⟩:=FP J;have g:=r.length;have R:=qB;ac_rfl
 have y:Inv X c A (upd H p (.lst (G.set j v))) {s with heap:=s.heap.update p (Obj.mapSeq (·.setIfInBounds j u))}:=
  I.RO m f (Ga d n j u) (r.set E j) (by rw[gb];exact L) s.toks
 by_cases z:0<=k
 .have l:k.toNat=j:=by
   rw[seqIndex_of z x] at e;exact FM e
  exact PySem.W.ki_setAt f z () (by rw[cR,<-g];exact x) (by rw[l];exact#[_,y,q])
 .have l:(k+(d.toArray.size:Int)).toNat=j:=by
   rw[seqIndex_neg () w] at e
   rw[cR,<-g];exact FM e
  exact PySem.W.ki_setBack f () (by rw[cR,<-g];exact w) () (by rw[l];exact#[_,y,q])
def Ap(lo c:Option Int)(n:Nat):(sliceBounds lo c none n).1=((HT.cg n 0 lo:Nat):Int)/\(sliceBounds lo c none n).2.1=((HT.cg n n c:Nat):Int)/\(sliceBounds lo c none n).2.2=1:=by
 refine#[?_,?_,rfl]
 .cases lo with
  |none=>simp[sliceBounds,HT.cg]
  |some i=>
   simp only[sliceBounds,HT.cg,Option.getD_none,show(1:Int)>0 by decide,aaU]
   by_cases h:i<0
   .simp only[h,aaU]<;>lia
   .simp only[h,SZ]<;>lia
 .cases c with
  |none=>simp[sliceBounds,HT.cg]
  |some i=>
   simp only[sliceBounds,HT.cg,Option.getD_none,show(1:Int)>0 by decide,aaU]
   by_cases h:i<0
   .simp only[h,aaU]<;>lia
   .simp only[h,SZ]<;>lia
def zu(c:List Value)(lo d:Option Int):slicePick c.toArray lo d none=((c.drop (HT.cg c.length 0 lo)).take (HT.cg c.length c.length d-HT.cg c.length 0 lo)).toArray:=by
 obtain⟨e,f,g⟩:=Ap lo d c.toArray.size;unfold slicePick;rw[e,f,g];simp only[sliceRange_one,pick_run,cR]<;>rfl
def ZI(K:ac):V->Option Int->Option Int->Hp->VK->Prop:=λx lo d H Q=>∃a c,x= .ref a/\cK K H a c/\∀p,H p=none->Q (.ref p) (upd H p (.lst (vL c lo d)))
def PY:Hx X (ZI X.K):=by
 intro f s u H x v w y lo e z Q I i j k l h;rfl';obtain⟨a,c,rfl,n,q⟩:=h;subst i;obtain⟨p,r,g,t⟩:=I.list n;have d:=r.length;ac_rfl;exists "list",_,slot_list_getitem.lookup,g.isList.typeIs;refine wpAny_getItem_list_slice g.isList j k l .none (by simp) ?_ (by rw[cR]<;>lia)
 rw[zu,<-d];refine#[.ref s.heap.objs.size,_,I.laid (t':=s.toks) (o:= .lst (vL c lo e)) (λb B q=>Da _ q) (bM _) ?_,rfl,q _ (I.hok.fresh (bM _))];exact#[iA (sS c lo e) t,_,0,(r.drop (HT.cg c.length 0 lo)).take (HT.cg c.length c.length e-HT.cg c.length 0 lo),Gc _ rfl]
def iI:V->Bool
 | .bo=>true
 | .bl _=>true
 | .int _=>true
 | .str _=>true
 |_=>false
def yp:V->V->Bool
 | .bo, .bo=>true
 | .bl a, .bl b=>a==b
 | .bl a, .int b=>(if a then 1 else 0)==b
 | .int a, .bl b=>a==(if b then 1 else 0)
 | .int a, .int b=>a==b
 | .str a, .str b=>a==b
 |_,_=>false
def Q7{A:Around}{s:Shared}{y x:V}{u v:Value}(ry:RelV y u)(rx:RelV x v)(fy:iI y=true)(fx:iI x=true):SeqAt.EqAt A s u v (yp y x):=by
 cases y with
 |bo=>
  cases ry;cases x with
  |bo=>cases rx;exact SeqAt.EqAt.same _
  |bl b=>cases rx;exact SeqAt.EqAt.none_bool b
  |int b=>obtain⟨t,rfl⟩:=rx;exact SeqAt.EqAt.none_int b t
  |str b=>obtain⟨t,rfl⟩:=rx;exact SeqAt.EqAt.none_str b t
  |_=>exact absurd (show false=true from fx) cQ
 |bl a=>
  subst ry;cases x with
  |bo=>cases rx;exact SeqAt.EqAt.bool_none a
  |bl b=>cases rx;exact SeqAt.EqAt.bool_bool a b
  |int b=>obtain⟨t,rfl⟩:=rx;exact SeqAt.EqAt.bool_int a b t
  |str b=>obtain⟨t,rfl⟩:=rx;exact SeqAt.EqAt.bool_str a b t
  |_=>exact absurd (show false=true from fx) cQ
 |int a=>
  obtain⟨t',rfl⟩:=ry;cases x with
  |bo=>cases rx;exact SeqAt.EqAt.int_none a t'
  |bl b=>cases rx;exact SeqAt.EqAt.int_bool a t' b
  |int b=>obtain⟨t,rfl⟩:=rx;exact SeqAt.EqAt.int_int a t' b t
  |str b=>obtain⟨t,rfl⟩:=rx;exact SeqAt.EqAt.int_str a t' b t
  |_=>exact absurd (show false=true from fx) cQ
 |str a=>
  obtain⟨t',rfl⟩:=ry;cases x with
  |bo=>cases rx;exact SeqAt.EqAt.str_none a t'
  |bl b=>cases rx;exact SeqAt.EqAt.str_bool a t' b
  |int b=>obtain⟨t,rfl⟩:=rx;exact SeqAt.EqAt.str_int a t' b t
  |str b=>obtain⟨t,rfl⟩:=rx;exact SeqAt.EqAt.str_str a t' b t
  |_=>exact absurd (show false=true from fx) cQ
 |_=>exact absurd (show false=true from fy) cQ
def qJ(x:V)(u:Value):Bool:=match u with
 | .none=>yp .bo x
 | .bool b=>yp (.bl b) x
 | .int i _=>yp (.int i) x
 | .str z _=>yp (.str z) x
 |_=>false
def xp{x y:V}{u:Value}(r:RelV y u)(f:iI y=true):qJ x u=yp y x:=by
 cases y with
 |bo=>cases r;rfl
 |bl b=>cases r;rfl
 |int i=>obtain⟨t,rfl⟩:=r;rfl
 |str z=>obtain⟨t,rfl⟩:=r;rfl
 |_=>exact absurd (show false=true from f) cQ
theorem oJ:∀{c:List V}{d:List Value},Vals c d->c.all iI=true->d.any (qJ x)=c.any λy=>yp y x
 |_,_, .nil,_=>rfl
 |y::c,u::d, .cons r t,f=>by
  rw[abD,uu] at f;rw[abE,abE,xp r f.1,oJ t f.2]
theorem j9(g:RelV x v)(h:iI x=true):∀{d:List V}{e:List Value},Vals d e->d.all iI=true->∀u∈e,SeqAt.EqAt A s u v (qJ x u)
 |_,_, .nil,_=>λu c=>by cases c
 |y::d,u::e, .cons r t,f=>λi c=>by
  rw[abD,uu] at f
  rcases bY.mp c with rfl|c
  .rw[xp r f.1];exact Q7 r g f.1 h
  .exact j9 g h t f.2 i c
def Ry(x:V)(c:List V):Bool:=c.any λy=>yp y x
def Wt(K:ac)(d:Bool):R2:=λx y H Q=>∃p c,y= .ref p/\(cK K H p c\/gj K H p c)/\iI x=true/\c.all iI=true/\Q (.bl (if d then !Ry x c else Ry x c)) H
def Jc:OpR X (compareOp .In) (Wt X.K false):=by
 intro f s m H x y v u Q I g j h;rfl';obtain⟨p,o,rfl,d,i,fs,q⟩:=h;subst j;ac_rfl
 rcases d with d|d
 .obtain⟨c,r,e,l⟩:=I.list d
  refine SeqAt.in_listAt (qJ x) e.isList (λw hw=>j9 g i r fs w (~~~hw)) #[.bl _,H,I,rfl,?_]
  rw[show c.toArray.any (qJ x)=c.any (qJ x) by simp,oJ r fs]
  exact q
 .obtain⟨c,r,e,l⟩:=I.tuple d
  refine SeqAt.in_tupleAt (qJ x) e (λw hw=>j9 g i r fs w (~~~hw)) #[.bl _,H,I,rfl,?_]
  rw[show c.toArray.any (qJ x)=c.any (qJ x) by simp,oJ r fs]
  exact q
def An:OpR X (compareOp .NotIn) (Wt X.K true):=by
 intro f s m H x y v u Q I g j h;rfl';obtain⟨p,o,rfl,d,i,fs,q⟩:=h;subst j;ac_rfl
 rcases d with d|d
 .obtain⟨c,r,e,l⟩:=I.list d
  refine SeqAt.notIn_listAt (qJ x) e.isList (λw hw=>j9 g i r fs w (~~~hw)) #[.bl _,H,I,rfl,?_]
  rw[show c.toArray.any (qJ x)=c.any (qJ x) by simp,oJ r fs]
  exact q
 .obtain⟨c,r,e,l⟩:=I.tuple d
  refine SeqAt.notIn_tupleAt (qJ x) e (λw hw=>j9 g i r fs w (~~~hw)) #[.bl _,H,I,rfl,?_]
  rw[show c.toArray.any (qJ x)=c.any (qJ x) by simp,oJ r fs]
  exact q
def z0:CallR X (.builtin "len") (λj H Q=>∃p d,j= [.ref p]/\(cK X.K H p d\/gj X.K H p d)/\Q (.int d.length) H):=by
 intro k s o H j t Q I r h;rfl';obtain⟨p,d,rfl,e,q⟩:=h;obtain⟨u,rfl,m⟩:=vals1 r;subst m;have w:=qB;ac_rfl
 rcases e with e|e
 .obtain⟨f,g,i,n⟩:=I.list e
  have c:=g.length;exact Calls.call_len_list i.isList (by simp only[cR]<;>lia) #[.int d.length,H,I.tok _,#[s.toks+1,by rw[cR,c]],q]
 .obtain⟨f,g,i,n⟩:=I.tuple e
  have c:=g.length;exact len_tuple i (by simp only[cR]<;>lia) #[.int d.length,H,I.tok _,#[s.toks+1,by rw[cR,c]],q]
def qO:CallR X (.type "list") (λB H Q=>∃p f,B= [.ref p]/\(cK X.K H p f\/gj X.K H p f)/\∀l,H l=none->Q (.ref l) (upd H l (.lst f))):=by
 intro j s E H B G Q I r h;obtain⟨p,f,rfl,k,q⟩:=h;obtain⟨u,rfl,F⟩:=vals1 r;subst F
 have fin:∀(c:List Value),Vals f c->f.length<=sizeLine->∀(d:Heap)(g:Nat),(∀b C,s.heap.get? b\C->d.get? b\C)->
   d.get? s.heap.objs.size\{cls:= .type "list",dict:=none,data:= .seq c.toArray g,slots:= #[]}->EP X j E Q (.ref s.heap.objs.size) {s with heap:=d}:=λc i m d g t e=>
  #[.ref s.heap.objs.size,_,I.laid (t':=s.toks) t (bM _) (show cp X.prog X.w _ d _ (.lst f) from#[m,c,g,i,e]),rfl,q _ (I.hok.fresh (bM _))]
 rcases k with k|k
 .obtain⟨c,i,x,m⟩:=I.list k
  have v:=i.length;obtain⟨o,y,z,n,A⟩:=x.isList;exact call_list_seq p (.inl rfl) y z A (λd g t e=>fin c i m d g t e) (by simp only[cR]<;>lia)
 .obtain⟨c,i,x,m⟩:=I.tuple k
  have v:=i.length;obtain⟨o,y,z,n,A⟩:=x;exact call_list_seq p (.inr rfl) y z A (λd g t e=>fin c i m d g t e) (by simp only[cR]<;>lia)
def Ta(K:ac)(T:String)(x:V)(H:Hp):Prop:=match x with
 | .str _=>T="str"
 | .int _=>T="int"
 | .ref p=>(T="list"/\∃d,cK K H p d)\/(T="tuple"/\∃o,K.lookup p\o/\o.cls= .type "tuple"/\o.dict=none)\/
   (T="dict"/\((∃c,H p\(.dK c))\/∃c,H p\(.dT c)))\/(T="set"/\∃S n,H p\(.set S n))
 |_=>False
theorem KN(I:Inv X g q H s)(r:RelV x v)(h:Ta X.K T x H):
  s.TypeIs v T/\∀a,v= .ref a->∃l,s.heap.get? a\l/\l.dict=none:=by
 cases x with
 |str z=>
  obtain⟨t,rfl⟩:=r;cases(show T="str" from h);exact#[typeIs_str s z t,λ_ e=>nomatch e]
 |int i=>
  obtain⟨t,rfl⟩:=r;cases(show T="int" from h);exact#[typeIs_int s i t,λ_ e=>nomatch e]
 |ref p=>
  subst r
  rcases h with ⟨rfl,B,u⟩ | ⟨rfl,o,d,w,j⟩ | ⟨rfl,d⟩ | ⟨rfl,S,n,d⟩
  .obtain⟨y,_,m,_⟩:=I.list u
   refine#[m.isList.typeIs,λa e=>?_];cases e;obtain⟨o,n,e,c,j,_⟩:=m;exact#[o,e,j]
  .refine#[#[o,I.dW p o d,w],λa e=>?_]
   cases e;exact#[o,I.dW _ o d,j]
  .have z:∃o,s.heap.get? p\o/\o.ExactDict:=by
    rcases d with ⟨A,d⟩ | ⟨A,d⟩
    .obtain⟨_,_,_,_,o,_,_,e,f,_⟩:=I.hok p _ d
     exact#[o,e,f]
    .obtain⟨_,_,_,_,o,_,_,e,f,_⟩:=I.hok p _ d
     exact#[o,e,f]
   obtain⟨o,e,f⟩:=z;refine#[#[o,e,f.1],λa k=>?_];cases k;exact#[o,e,f.2.1]
  .obtain⟨o,_,_,_,e,f,_⟩:=I.hok p _ d
   refine#[#[o,e,f.1],λa k=>?_];cases k;exact#[o,e,f.2.1]
 |_=>exact False.elim h
def ZU(K:ac)(T:String)(r:V->List V->Hp->VK->Prop)(d:TE):TE:=λe H Q=>d e H λx c=>Ta K T x c/\r x [] c Q
def tBM(K:ac)(T:String)(r:V->List V->Hp->VK->Prop)(e:TE)(t:TA):TE:=λc H Q=>e c H λx d=>Ta K T x d/\t c d λf g=>r x f g Q
variable {o e:Expr} {es:List Expr} {to:TE} {t:TA} {name:Str} {apos aU:Pos} {T id:String} {r:V->List V->Hp->VK->Prop}
def Sb(i:PlainAttrs T)(slot:Slot T name id)(j:typeOf (.builtin id)=pure (.type "method_descriptor"))(k:K0 X id r)(l:PE X o to)
  (m:attributeBase o name X.env (eval o X.env)=eval o X.env:=by rfl) (n:(apos.endLine==aU.line)=true:=by rfl):PE X (.Call (.Attribute o name apos) [] [] aU) (ZU X.K T r to):=by
 intro c s d H Q I h;refine wpAny_Call_method0_late m n (thn (l c s d H _ I h) λv p q=>?_);rfl';obtain⟨x,w,f,g,y,z⟩:=q;obtain⟨A,B⟩:=KN f g y;ac_rfl;exact#[T,id,i,slot,j,A,B,aa2 rfl (PySem.evalArgs_none (k c p d w x [] v [] Q f g .nil z))]
def ze(l:PlainAttrs T)(slot:Slot T name id)(m:typeOf (.builtin id)=pure (.type "method_descriptor"))(n:K0 X id r)(p:PE X o to)(q:PA X (e::d) t)
  (u:attributeBase o name X.env (eval o X.env)=eval o X.env:=by rfl)
  (w:((backTo f (starEach (e::d) X.env)).all (λx=>!x.1)&&(backToKw f (keywordEach [] X.env)).all (λx=>x.1.isSome)
   &&decide ((e::d).length+([]:List Keyword).length+(if ([]:List Keyword).isEmpty then 0 else 1)<30))=true:=by rfl)
  (y:(apos.endLine==f.line)=true:=by rfl) (z:starEach (e::d) X.env=(false,eval e X.env)::starEach d X.env:=by rfl) (A:(backTo f (starEach d X.env)).any (·.1)=false:=by rfl):
  PE X (.Call (.Attribute o name apos) (e::d) [] f) (tBM X.K T r to t):=by
 intro c s g H Q I h;refine aby u w y rfl (thn (p c s g H _ I h) λv B C=>?_);rfl';obtain⟨x,F,i,j,G,J⟩:=C;obtain⟨L,M⟩:=KN i j G;ac_rfl;exists T,id,l,slot,m,L,M;have k:=q f c B g F _ i J;rw[z] at k ⊢;refine aa2 (by show(false|| (backTo f (starEach d X.env)).any (·.1))=false;rw[A]<;>rfl) (abY ?_)
 exact thn k λN O #[P,R,S,U,Y]=>n c O g R x P v N Q S j U Y
end
def MI(X:Cx)(id:String)(r:V->List V->Hp->VK->Prop):Prop:=
 ∀(a:List (Addr×Obj))(s:Shared)(b:St)(H:Hp)(x:V)(c:List V)(v:Value)(d:List Value)(Q:VK),Inv X a b H s->RelV x v->Vals c d->r x c H Q->
  wpAny (model X.prog X.w) X.A (call (.builtin id) (v::d)) (EP X a b Q) X.xe s
def Vals.one(h:Vals [x] a):∃u,a= [u]/\RelV x u:=by
 cases h with|cons r t=>cases t;exact#[_,rfl,r]
def Vals.two{x y:V}(h:Vals [x,y] a):∃u v,a= [u,v]/\RelV x u/\RelV y v:=by
 cases h with
 |cons r t=>
  obtain⟨v,rfl,q⟩:=Vals.one t;exact#[_,v,rfl,r,q]
theorem Vals.zero:∀{a:List Value},Vals [] a->a= []
 |_, .nil=>rfl
theorem Vals.dropLast(h:Vals a b):Vals a.dropLast b.dropLast:=by
 induction h with
 |nil=>exact .nil
 |cons r t c=>
  cases t with
  |nil=>exact .nil
  |cons q d=>exact .cons r c
theorem Vals.rep(h:Vals a b):∀k:Nat,Vals (ar k a).flatten (ar k b).flatten
 |0=> .nil
 |k+1=>by
  rw[wG,wG,n9,n9];exact Vals.append h (Vals.rep h k)
def Fj(l:List c):l.eraseIdx (l.length-1)=l.dropLast:=by
 induction l with
 |nil=>rfl
 |cons a r d=>
  cases r with
  |nil=>rfl
  |cons b r=>
   have e:(a::b::r).length-1=((b::r).length-1)+1:=by
    have f:(a::b::r).length=r.length+2:=rfl;have g:(b::r).length=r.length+1:=rfl;lia
   rw[e,KR,d]
   all_goals rfl
theorem foldl_rep(a:List Value):∀(k:Nat)(b:List Value),
  List.foldl (λc d=>c++d) b.toArray (ar k a.toArray)=(b++(ar k a).flatten).toArray
 |0,b=>by simp
 |k+1,b=>by
  have e:b.toArray++a.toArray=(b++a).toArray:=by simp
  have f:(b++a)++(ar k a).flatten=b++(ar (k+1) a).flatten:=by
   rw[wG,n9,lD]
  rw[<-f,<-foldl_rep a k (b++a),<-e,wG,acW]
section
variable {X:Cx} {pins:List (Addr×Obj)} {σ:St} {H:Hp} {s:Shared} {l b:Addr} {xs ys zs:List V}
def Inv.Km{its its':List Value}{f:Array Value->Array Value}(I:Inv X pins σ H s)(a:H l\(.lst xs))
  (e:s.heap.get? l\{cls:= .type "list",data:= .seq its.toArray n}) (c:f its.toArray=its'.toArray) (d:Vals ys its') (g:ys.length<=sizeLine):
  Inv X pins σ (upd H l (.lst ys)) {s with heap:=s.heap.update l (Obj.mapSeq f),toks:=t'}:=by
 have q:=PySem.IsL.update e f;rw[c] at q;refine I.write (x:=l) (e:=l) (by rw[a];exact trivial) (.inl rfl) (λj u h i=>(IR s.heap (Obj.mapSeq f) (Ne.symm h)).trans i) #[_,q] ?_
 exact#[g,its',_,d,q]
def Inv.Kl{its:List Value}{t':Nat}(I:Inv X pins σ H s)(a:Vals ys its)(c:ys.length<=sizeLine):
  Inv X pins σ (upd H s.heap.objs.size (.lst ys)) {s with heap:=s.heap.push {cls:= .type "list",data:= .seq its.toArray},toks:=t'}:=
 I.laid (λ_ _ q=>Da _ q) (bM _) #[c,its,0,a,Gc _ rfl]
theorem Inv.fresh(I:Inv X pins σ H s):H s.heap.objs.size=none:=I.hok.fresh (bM _)
def Inv.qU(I:Inv X pins σ H s)(a:H l\(.lst xs)):xs.length<=sizeLine/\∃(its:List Value)(n:Nat),Vals xs its/\xs.length=its.length/\s.heap.get? l\{cls:= .type "list",data:= .seq its.toArray n}:=by
 obtain⟨z,its,n,r,e⟩:=I.hok l _ a;exact#[z,its,n,r,r.length,e]
def Be(h:n<=sizeLine):Builtin.List.listTooLong n=false:=by
 unfold Builtin.List.listTooLong;exact GM ()
end
section
variable {X:Cx}
def PD:V->List V->Hp->VK->Prop:=λx b H Q=>∃l a y,x= .ref l/\b= [y]/\H l\(.lst a)/\a.length<sizeLine/\Q .bo (upd H l (.lst (a++ [y])))
def mZ:MI X "list.append" PD:=by
 intro b s j H x k v m Q I d f h;rfl';obtain⟨l,p,y,rfl,rfl,c,t,q⟩:=h;subst d;obtain⟨u,rfl,i⟩:=f.one;obtain⟨z,a,n,r,w,e⟩:=I.qU c;ac_rfl;refine aa5 F.slot_list_append #[_,e,rfl] F.entry_list_append (F.args_list_append_2 _ _) (PySem.list_append l a.toArray n u (by rw[cR];lia)) #[e,?_]
 refine#[.bo,_,I.Km (its':=a++ [u]) c e (by simp) (r.append (.cons i .nil)) ?_,rfl,q]
 rw[cI,n5];lia
def PF:V->List V->Hp->VK->Prop:=λx d H Q=>∃l b a c,x= .ref l/\d= [.ref b]/\H l\(.lst a)/\H b\(.lst c)/\a.length+c.length<=sizeLine/\Q .bo (upd H l (.lst (a++c)))
def IL:MI X "list.extend" PF:=by
 intro d s A H x B v C Q I g i h;obtain⟨l,b,E,G,rfl,rfl,f,j,J,q⟩:=h;cases g;obtain⟨u,rfl,k⟩:=i.one;cases k;obtain⟨z,a,n,r,L,e⟩:=I.qU f;obtain⟨M,c,m,o,p,t⟩:=I.qU j;have w:a.toArray.size+c.toArray.size<=sizeLine:=by rw[cR,cR];lia
 have y:¬(!a.toArray.isEmpty&&Builtin.List.listTooLong (a.toArray.size+c.toArray.size))=true:=by
  rw[Be w,zM];exact cQ
 refine aa5 F.slot_list_extend #[_,e,rfl] F.entry_list_extend (F.args_list_extend_2 _ _)
  (AutoSeq1.list_extend_list_list_0 l a.toArray n b c.toArray m y (by rw[cR];lia) ()) #[e,t,?_]
 refine#[.bo,_,I.Km (its':=a++c) f e (by simp) (r.append o) ?_,rfl,q]
 rw[cI];lia
def ZG:V->List V->Hp->VK->Prop:=λx b H Q=>∃l a y,x= .ref l/\b= []/\H l\(.lst a)/\a[a.length-1]?\y/\Q y (upd H l (.lst a.dropLast))
def RQ:MI X "list.pop" ZG:=by
 intro c s t H x w v A Q I f g h;rfl';obtain⟨l,C,y,rfl,rfl,d,j,q⟩:=h;subst f;have b:=g.zero;subst b;obtain⟨z,a,n,r,k,e⟩:=I.qU d;obtain⟨u,m,o⟩:=r.get j;ac_rfl
 have p:a.toArray[a.toArray.size-1]?\u:=by
  show a.toArray[a.length-1]?\u;rw[<-gE,<-k];exact m
 refine aa5 F.slot_list_pop #[_,e,rfl] F.entry_list_pop (F.args_list_pop_1 _) (MeetsSeq.list_pop_last l a.toArray n u p (by rw[cR];lia)) #[e,?_]
 refine#[y,_,I.Km (its':=a.dropLast) d e ?_ r.dropLast ?_,o,q]
 .show a.toArray.eraseIdxIfInBounds (a.toArray.size-1)=a.dropLast.toArray
  rw[cR,List.eraseIdxIfInBounds_toArray,Fj]
 .rw[List.length_dropLast]
  lia
def ZA:R2:=λx y H Q=>∃l b a c,x= .ref l/\y= .ref b/\H l\(.lst a)/\H b\(.lst c)/\a.length+c.length<=sizeLine/\∀p,H p=none->Q (.ref p) (upd H p (.lst (a++c)))
def DL:OpR X (binaryOp .Add) ZA:=by
 intro c s w H x y v u Q I f g h;rfl';obtain⟨l,b,B,C,rfl,rfl,j,k,E,q⟩:=h;subst f;subst g;obtain⟨z,a,n,r,F,e⟩:=I.qU j;obtain⟨G,d,J,m,o,p⟩:=I.qU k;ac_rfl;refine PySem.P.add_list e p ?_ (by rw[cR,cR];lia)
 have t:a.toArray++d.toArray=(a++d).toArray:=by simp
 rw[t];exact#[.ref _,_,I.Kl (t':=s.toks) (r.append m) (by rw[cI];lia),rfl,q _ I.fresh]
def ZH:R2:=λx y H Q=>∃l k a,x= .ref l/\y= .int k/\H l\(.lst a)/\-(2^63)<=k/\k<2^63/\a.length*k.toNat<=sizeLine/\
 ∀p,H p=none->Q (.ref p) (upd H p (.lst (ar k.toNat a).flatten))
def len_rep(a:List b)(k:Nat):(ar k a).flatten.length=k*a.length:=by
 induction k with
 |zero=>simp
 |succ k c=>rw[wG,n9,cI,c,Nat.succ_mul,acH]
def Ku:OpR X (binaryOp .Mult) ZH:=by
 intro g s O H x y v u Q I j o h;rfl';obtain⟨l,k,R,rfl,rfl,w,A,B,i,q⟩:=h;subst j;obtain⟨t,rfl⟩:=o;obtain⟨z,b,n,r,C,e⟩:=I.qU w;have c:b.toArray.size*k.toNat<=sizeLine:=by rw[cR,<-C];exact i
 ac_rfl
 have E:¬b.toArray.size*k.toNat>(2^63-1) / 8:=by
  have:(sizeLine:Nat)<=(2^63-1) / 8:=∅
  lia
 have G:¬(!Builtin.List.listFitsIndex k)=true:=by
  rw[fitsIndex_both A B];exact cQ
 have J:¬Builtin.List.listTooLong (b.toArray.size*k.toNat)=true:=by
  rw[Be c];exact cQ
 have L:List.foldl (λd f=>d++f) #[] (ar (if b.toArray.isEmpty=true then 0 else k.toNat) b.toArray)=(ar k.toNat b).flatten.toArray:=by
  have M:∀m:Nat,List.foldl (λd f=>d++f) #[] (ar m b.toArray)=(ar m b).flatten.toArray:=λm=>by
   have:=foldl_rep b m []
   rw[oh] at this;exact this
  rw[M];cases b with
  |nil=>simp
  |cons a S=>rw[tz (by simp)]
 refine wpAny_binaryOp_repeat_ref (T:="list") (U:="int") ∅ #[_,e,rfl] (λN=>typeIs_int N k t) noFill_list_mul F.fills_int_mul F.slot_int_rmul repeat_list F.slot_int_index.lookup
  (aa5 F.slot_int_rmul (typeIs_int s k t) F.entry_int_rmul (F.args_int_rmul_2 _ _) (int___rmul___int_list k t l b.toArray n)
   #[e,rfl,#[_,e,rfl],aa5 F.slot_list_mul #[_,e,rfl] F.entry_list_mul (F.args_list_mul_2 _ _) (AutoListH.list___mul___list_int_3 l b.toArray n k t G E J) #[e,?_]])
 rw[L];exact#[.ref _,_,I.Kl (t':=s.toks) (r.rep k.toNat) (by rw[len_rep,Nat.mul_comm];exact i),rfl,q _ I.fresh]
end
section
variable {prog:Program} {w:World} {A:Around} {E:Value->Shared->Prop} {s:Shared}
end
section
variable {X:Cx}
end
end L2
namespace W0
open PySem PySem.W PySem.Calls PyProof.Rows
def uU:∀(c:List Int)(d:List Value),WellAll P h d (c.map WData.int)->IntsAre d c:=by
 intro c
 induction c with
 |nil=>
  intro d w;rw[adf] at w;cases w;exact .nil
 |cons n c e=>
  intro d w;rw[gF] at w;cases w with
  |cons a b=>
   cases a;exact .cons _ _ (e _ b)
theorem Js{l:OpenLaw}(m:l.most\n) 
  (i:l.row.toRowW.claim.pre args=true) (o:WellAll P h vals args):
  ∃a j b,vals= [Value.ref a]/\args= [WData.list (b.map WData.int)]/\h.get? a\{cls:= .type "list",data:= .seq j.toArray}/\IntsAre j b/\b.length<=n:=by
 have g:WShape.hasAll [] args [.list .int]=true:=(pre_splitW i).1;have k:l.pre.holds [] {args:=args}=true:=(pre_splitW i).2;obtain⟨d,r,rfl,p,s⟩:=hasAllW_cons g;obtain rfl:=hasAllW_nil s;obtain⟨z,rfl,t⟩:=hasW_list p;obtain⟨b,rfl⟩:=items_int t
 have c:b.length<=n:=by
  unfold OpenLaw.pre at k
  have e:(WTm.not (.lt (.lit (.int (n:Int))) (.len (.arg 0)))).holds [] {args:= [.list (b.map .int)]}=true:=by
   have e:=(holds_andW k).1;rw[m] at e;exact e
  have f:=condW_of e (w_not (w_lt w_lit (w_len_list (w_arg rfl))));rw[aS] at f;refine iU λq=>?_;have u:(n:Int)<((b.length:Nat):Int):=()
  first
   | (rw[A u] at f;exact absurd f ∅)
   | (simp at f;lia)
 cases o with
 |cons v w=>
  cases w;cases v with
  |list x y=>exact#[_,_,b,rfl,rfl,x,uU b _ y,c]
def Jj(l:OpenLaw)(args:List WData):l.row.toRowW.claim.post args (.bool true) args=true:=
 postW_of (r:=l.row.toRowW) (X:=(true==true))
  (show WShape.has [] (.bool true) .bool=true by first|rfl|decide|simp[WShape.has,WShape.arms,WShape.armsAll])
  (show(WTm.eq .res (.lit (.bool true))).value [] {args:=args,res:=some (.bool true),after:=args}\(.bool (true==true)) from w_eq_bool (w_res rfl) w_lit) rfl
def BQ{l:OpenLaw} 
  (B:l.most\n) (C:d.params.defaults= [])
  (call:∀(w:World)(e b:Shared)(m u:Str->Option Value)(j:Addr)(o:Obj)(v p g:Value)(a:Addr)(i:List Value)(s:List Int),
   Ground q c [] x w e m u b.heap->y w b.heap->
   b.heap.get? j\o->o.data= .func (docDef d.name d.params d.body d.scope v p g)->b.heap.CodeRec p d.name->m d.name\(.ref j)->
   b.heap.get? a\{cls:= .type "list",data:= .seq i.toArray}->IntsAre i s->s.length<=n->b.gens= #[]->
   codeAny (model l.prog w) callerA (.call (.ref j) #[[.ref a],[]]) (λr t=>r= .ok (.ret (.bool true))/\OldK b.heap t.heap/\t.os=b.os/\AllBare t.gens) b):
  WalkO q c x y l.row.toRowW d [] (λf i=>dy f i):=by
 intro w e b m u G Y j o v p g E kV F H I z J L A vals as M N YM O P;obtain rfl:E= .none:=Dflts.none z C;obtain rfl:kV= .none:=Dflts.noKw z;rfl';obtain⟨a,i,s,rfl,rfl,R,h,k⟩:=Js B M O;ac_rfl;refine enter_call (aaL (call w e b m u j o v p g a i s G Y F (fd_plain H) I J R h k L) λr t S=>?_);obtain⟨rfl,T,U,X⟩:=S;exact#[.inl #[.bool true, .bool true,[],rfl,λ_=>rfl, .bool true,Jj l _,λ_=>#[List.Pairwise.nil,λ_ Z=>(nomatch Z)]],T,U,X]
section
variable {prog:Program} {w:World} {A:Around} {E:Value->Shared->Prop} {s:Shared} {K:Frag}
end
end W0
namespace L2
open PySem PySem.Spec PyProof.Rows
theorem sh:∀{a:List Value}{b:List Int},IntsAre a b->Vals (b.map V.int) a
 |_,_, .nil=> .nil
 |_,_, .cons n t h=> .cons #[t,rfl] (sh h)
def MK(H:Hp):Prop:=∀b,H b=none\/∃o a,H b\(.rH o (.lst a))
theorem LM{P:Program}{w:World}{K:ac}{l E:Str->Option Value}{L:oz}{k:Nat}{G a:Addr}{M:FuncData}{x:Str}{N:Sp}{c:Shared}{j:List Value}{p:List Int}
  (O:K.In c.heap) (Q:c.heap.Ns mainGlobals l) (f:c.heap.Ns builtinsNs E) (Aa:∀x:Str,x≠"__name__"->E x=bootBuiltins x) (YF:c.heap.NoLimit) (hg:c.gens= #[])
  (B:c.heap.get? a\{cls:= .type "list",data:= .seq j.toArray}) (R:IntsAre j p) (S:p.length<=sizeLine) (hr:b7 k callerA)
  (F:∀base:Heap,K.In base->base.Ns mainGlobals l->FnOk P w K l base L k G M [x] N) (Vz:∀(s:Shared)(u:Value),BindsTo s M #[[u],[]] [(x,u)])
  (uS:∀H:Hp,MK H->cK K H a (p.map V.int)->N [.ref a] H (λv _=>v= .bl true) λ_ _ _=>False)
  (Vs:∀H e g,L [] H c (λ_ _ _=>False) e g->False):
  codeAny (model P w) callerA (.call (.ref G) #[[.ref a],[]]) (λr g=>r= .ok (.ret (.bool true))/\OldK c.heap g.heap/\g.os=c.os/\AllBare g.gens) c:=by
 have T:=sh R;have Zd:=R.length
 have i:∀H:Hp,MK H->cK K H a (p.map V.int)->gZ P w H c.heap->(∀b,H b≠none->b=a)->(H a≠none->K.lookup a=none)->
   codeAny (model P w) callerA (.call (.ref G) #[[.ref a],[]]) (λr g=>r= .ok (.ret (.bool true))/\OldK c.heap g.heap/\g.os=c.os/\AllBare g.gens) c:=by
  intro H U hS hok X hK;have Y:∀{b:Addr}{o:Obj},c.heap.get? b\o->H b=none->(tG c.heap H).get? b\o:=λe n=>LC e n
  have OY:∀{b:Addr}{o:Obj}{t:Array DictEntry}{y:Nat},c.heap.get? b\o->o.data= .dict t y->H b=none:=λ {b o t y} e d=>by
   cases q:H b with
   |none=>rfl
   |some u=>
    have I:b=a:=X b (by rw[q];simp)
    subst I;rw[B] at e;cases e;have d':Data.seq j.toArray _=Data.dict t y:=d;cases d'
  have C:∀{b:Addr}{m:Str->Option Value},c.heap.Ns b m->(tG c.heap H).Ns b m:=λ {b m} #[o,t,y,e,d,r]=>#[o,t,y,Y e (OY e d),d,r]
  have Z:K.In (tG c.heap H):=λb o e=>Y (O b o e) (by
   cases q:H b with
   |none=>rfl
   |some u=>
    have I:b=a:=X b (by rw[q];simp)
    subst I;rw[hK (by rw[q];simp)] at e;cases e)
  have hM:Mod K l (tG c.heap H):=#[Z,C Q,#[E,C f,Aa],let #[mc,h1,h2]:=YF;#[mc,C h1,h2]];have e0:Env0 P w K l (tG c.heap H) callerA [] c H:=#[rfl,hM,λb o e=>O2 e,Nat.le_of_eq (Ii _ _),trivial,λb f=>absurd (show b∈([]:List Addr) from f) (by simp),hok, .of_eq hg]
  refine aaL ((F _ Z (C Q)).run callerA [] c H #[[.ref a],[]] [.ref a] [.ref a] _ _ hr e0 (Vz c (.ref a)) (.cons rfl .nil) (uS H U hS)) λr g h=>?_;cases r with
  |error e=>exact(Vs H e g h).elim
  |ok fl=>
   cases fl with
   |next=>exact False.elim h
   |brk=>exact False.elim h
   |cont=>exact False.elim h
   |ret u=>
    rfl';obtain⟨v,H',os,bare,un,YK,r',q⟩:=h;have q':v= .bl true:=q;subst q';ac_rfl;obtain rfl:u=Value.bool true:=r';refine#[rfl,OldK.of_keep λb o e=>?_,os,bare];cases q:H b with
    |none=>exact un.keep b o e q (by intro z;exact absurd (show b∈([]:List Addr) from z) (by simp)) (by simp)
    |some u=>
     rcases U b with z| ⟨ob,xs,z⟩
     .rw[q] at z;cases z
     .have z2:=un.frzs b ob _ z
      obtain⟨e1,_⟩:=hok b _ z;obtain⟨e2,_⟩:=YK b _ z2;rw[e] at e1;cases e1;exact e2
 cases J:K.lookup a with
 |some o=>
  have e:=O a o J;rw[B] at e;cases FM e;refine i (λ_=>none) (λ_=> .inl rfl) (.inr #[_,j.toArray,_,J,rfl,rfl,rfl,by rw[cR,Zd];exact S,by simpa using T]) (λb u z=>by have A:(none:Option HO)\u:=z;cases A) (λb z=>absurd rfl z) λz=>absurd rfl z
 |none=>
  refine i (λb=>if b=a then some (.rH {cls:= .type "list",data:= .seq j.toArray} (.lst (p.map V.int))) else none) (λb=>?_) (.inl (.inr #[{cls:= .type "list",data:= .seq j.toArray},AC rfl])) (λb u z=>?_) (λb z=>?_) λ_=>J
  .by_cases f:b=a
   .exact .inr #[_,_,AC f]
   .exact .inl (tz f)
  .by_cases f:b=a
   .have A:=(AC f).symm.trans z
    obtain rfl:=FM A;subst f;exact#[B,by rw[aS];exact S,j,_,T,B]
   .have A:=(tz f).symm.trans z
    cases A
  .by_cases f:b=a
   .exact f
   .exact absurd (tz f) z
def Qw{l:b5}{n k:Nat}{q:Program}{i:List Str}{I:(Str->Option Value)->Heap->Prop}{A:World->Heap->Prop}{d:DefRec}{K:Params->ac}{CX:World->oz}{sp:World->Sp}{x:Str}
  (J:l.most\n) (L:n<=sizeLine) (M:d.params.defaults= []) (N:b7 k callerA)
  (O:∀(w:World)(h:Heap),A w h->(K w.params).In h)
  (F:∀(w:World)(m:Str->Option Value)(r:Addr)(h:Heap),(K w.params).In h->h.Ns mainGlobals m->m d.name\(.ref r)->
   ∃y:FuncData,(∀(s:Shared)(u:Value),BindsTo s y #[[u],[]] [(x,u)])/\
    ∀base:Heap,(K w.params).In base->base.Ns mainGlobals m->FnOk l.prog w (K w.params) m base (CX w) k r y [x] (sp w))
  (P:∀(w:World)(H:Hp)(a:Addr)(t:List Int),t.length<=n->MK H->cK (K w.params) H a (t.map V.int)->sp w [.ref a] H (λv _=>v= .bl true) λ_ _ _=>False)
  (Q:∀(w:World)(H:Hp)(s:Shared)(e:Value)(z:Shared),CX w [] H s (λ_ _ _=>False) e z->False):
  dL q i I A l.row.toRowW d [] (λf B=>dy f B):=by
 refine W0.BQ J M λw C p m mb r o pm cd R a B t G Y ho hd eO S U j c X=>?_;have E:=O w _ Y;obtain⟨y,Z,hF⟩:=F w m r _ E G.T.g S;exact LM E G.T.g G.T.b G.T.builtins G.T.nolimit X U j (iA c L) N hF Z (λH hO hS=>P w H a t c hO hS) λH e z=>Q w H p e z
def inClass(s:Stmt)(j:Nat):Stmt:=match s with
 | .ClassDef _ _ _ body _ _ _ _ _ _ _=>body.getD j (.Pass #[0,0,0,0])
 |_=> .Pass #[0,0,0,0]
def iF(s:Stmt):Arguments:=match s with
 | .FunctionDef _ a _ _ _ _ _ _ _ _=>a
 |_=>{posonlyargs:= [],args:= [],vararg:=none,kwonlyargs:= [],kw_defaults:= [],kwarg:=none,defaults:= []}
def c5(s:Stmt):List Stmt:=match s with
 | .FunctionDef _ _ b _ _ _ _ _ _ _=>b
 |_=> []
def au(s:Stmt):Scope:=match s with
 | .FunctionDef _ _ _ _ _ _ sc _ _ _=>sc
 |_=>{kind:= .function,names:= [],isGenerator:=false,isCoroutine:=false}
abbrev bZ:oz:=λ_ _ _ _ _ _=>False
abbrev E0:XK:=λ_ _ _=>False
def vd:Passes bZ X E0:=λ_ _ _ _ _ _ _ h=>h.elim
structure oG (K:ac) (x qual:Str) (st:Stmt) (f:Addr) (fd:FuncData):Prop where
 ex:∃(oc:Value)(od:Option Addr)(kV doc pm:Value)(an:Option Addr)(bg ct:Value)(Ao:Array (Option Value)),
  fd=bv x qual (iF st) (c5 st) (au st) .none kV doc pm an bg ct/\K.lookup f\#[oc,od, .func fd,Ao]/\bb K bg qual=true
 kp:aA K (.ref f)=true
section
variable {P:Program} {w:World} {K:ac} {mg:Str->Option Value} {base:Heap}
def oG.ok{x a:Str}{st:Stmt}{f:Addr}{e:FuncData}{N c:List Str}{k:Nat}{d:Sp}(F:oG K x a st f e)(S:aG N c (au st))(len:∀vs H Q E,d vs H Q E->vs.length=c.length)
  (g:∀(b:Value)(A:Around)(outer:List Env)(s:Shared)(H:Hp)(vs:List V)(Q:VK)(E:XK),b7 k (A.deeper (envOfC a (au st) s.heap.objs.size f b))->d vs H Q E->
   ∃t,jU (kj bZ P w K mg base N a (au st) f b A outer s H E).lK (c5 st) t/\t {nx:=λ_ i=>Q .bo i,rt:=Q} (start N vs) H):FnOk P w K mg base bZ (k+1) f e c d:=by
 rfl';obtain⟨u,v,kV,l,y,z,b,B,C,rfl,m,n⟩:=F.ex;ac_rfl;refine NR m n S len λA outer s H vs Q E o p=>?_;obtain⟨t,h,q⟩:=g b A outer s H vs Q E o p;exact#[t,h.lK,q]
def oG.binds{st:Stmt}{ps:List Str}(F:oG K x a st f j)
  (h:∀(kV b c:Value)(d:Option Addr)(e g:Value)(i:List Value),i.length=ps.length->bindArgs (bv x a (iF st) (c5 st) (au st) .none kV b c d e g) #[i,[]]=pure (ps.zip i)):Binds K j ps []:=by
 rfl';obtain⟨m,n,kV,b,c,d,e,g,o,rfl,p,q⟩:=F.ex;ac_rfl;exact .all (h kV b c d e g)
def jX{x a:Str}{st:Stmt}{f:Addr}{i:Value}{j e:Option Addr}{m:Array (Option Value)}{kV b g d h:Value}(l:K.lookup f\#[i,j, .func (bv x a (iF st) (c5 st) (au st) .none kV b g e d h),m])
  (c:bb K d a=true) (k:aA K (.ref f)=true):oG K x a st f (bv x a (iF st) (c5 st) (au st) .none kV b g e d h):=#[#[i,j,kV,b,g,e,d,h,m,rfl,l,c],k]
end
def cf(h:n<=1000):n<sizeLine:=Nat.lt_of_le_of_lt h ∅
section
variable {X:Cx}
def pv(i:Nat)(b:X.N[i]?\x:=by rfl)(c:l5 X.env.scope x:=by subst_eqs)(d:(x==("__debug__":Str))=false:=by decide)
  (e:(x==("__classdict__":Str))=false:=by decide):PE X (.Name x a) (Uq i):=DS b c d e
end
def bX{A B:Prop}(h:B):if false=true then A else B:=by
 rw[tz cQ];exact h
def b8{A B:Prop}(h:A):if true=true then A else B:=by
 rw[AC rfl];exact h
def ba(H a:Hp):Prop:=∀b o,H b\o->a b\o
def ba.refl(H:Hp):ba H H:=λ_ _ h=>h
def ba.trans{H d e:Hp}(a:ba H d)(b:ba d e):ba H e:=λc o h=>b c o (a c o h)
def ba.free(e:ba H a)(h:a l=Option.none):H l=Option.none:=by
 cases q:H l with
 |none=>rfl
 |some o=>
  rw[e l o q] at h;cases h
def jO(env:Env):List (Str×NameKind)->List (Str×Addr)->List (Str×Addr)
 | [],a=>a
 | (n,k)::r,a=>if k==NameKind.free then jO env r ((n,(env.cells.lookup n).getD 0)::a) else jO env r a
def i9(h:∀x∈b.names,x.2= .free->∃c,env.cells.lookup x.1\c):closureFor b env=pure (jO env b.names []):=by
 simp only[closureFor]
 have j:∀(names:List (Str×NameKind))(d:List (Str×Addr)),(∀x∈names,x.2= .free->∃c,env.cells.lookup x.1\c)->
   (forIn names d λx e=>if (x.snd==NameKind.free)=true then(do let a <-cellOf env x.fst;pure (ForInStep.yield ((x.fst,a)::e))) else pure (ForInStep.yield e))=(pure (jO env names d):Sem _):=by
  intro names
  induction names with
  |nil=>intro d _;rfl
  |cons x r l=>
   obtain⟨n,k⟩:=x;intro d h;rw[List.forIn_cons,jO];have f:=λd=>l d λy m=>h y (eM _ m);cases g:k==NameKind.free with
   |false=>
    simp only[g,f9,SZ];exact f d
   |true=>
    have o:k= .free:=by simpa using g
    obtain⟨c,i⟩:=h (n,k) dH o;simp only at i;simp only[aaU,cellOf,i];exact f _
 rw[j _ _ h];rfl
theorem gm:∀(names:List (Str×NameKind))(a:List (Str×Addr)),(∀x∈names,x.2= .free->∃c,env.cells.lookup x.1\c)->(∀x c,a.lookup x\c->env.cells.lookup x\c)->
  ∀x c,(jO env names a).lookup x\c->env.cells.lookup x\c
 | [],a,_,b=>b
 | (n,k)::r,a,h,b=>by
  rw[jO]
  split
  .rename_i g
   refine gm r _ (λy d=>h y (eM _ d)) λx c e=>?_;obtain⟨l,f⟩:=h (n,k) dH (~~~g)
   rw[uv] at e
   split at e
   .rename_i i
    have j:x=n:=by simpa using i
    subst j;simp only at f;rw[f] at e ⊢;exact e
   .exact b x c e
  .exact gm r a (λy d=>h y (eM _ d)) b
theorem qp{env:Env}:∀(names:List (Str×NameKind))(a:List (Str×Addr))(x:Str),((x,NameKind.free)∈names\/∃c,a.lookup x\c)->∃c,(jO env names a).lookup x\c
 | [],a,x,h=>by
  rcases h with h|h
  .cases h
  .exact h
 | (n,k)::r,a,x,h=>by
  rw[jO]
  split
  .rename_i b
   refine qp r _ x ?_
   by_cases e:x=n
   .subst e;exact .inr #[(env.cells.lookup x).getD 0,by simp[uv]]
   .have ne:(x==n)=false:=by simpa using e
    rcases h with h| ⟨c,h⟩
    .rcases bY.mp h with z|z
     .cases z;exact absurd rfl e
     .exact .inl z
    .exact .inr #[c,by rw[uv,ne];exact h]
  .rename_i b
   refine qp r a x ?_
   rcases h with h|h
   .rcases bY.mp h with z|z
    .cases z;exact absurd rfl b
    .exact .inl z
   .exact .inr h
def n4(src:List (Option Nat))(a:St):St:=src.map λo=>o.bind λi=>(a[i]?).bind id
def c9(a:Scope)(b:List Str):List (Option Nat)->List Str->Prop
 | [],[]=>True
 |none::r,_::n=>c9 a b r n
 |some i::r,x::n=>b[i]?\x/\a.names.lookup x\.free/\c9 a b r n
 |_,_=>False
theorem c9.len:∀{src:List (Option Nat)}{NC:List Str},c9 a b src NC->src.length=NC.length
 | [],[],_=>rfl
 |none::r,_::n,h=>by have:=c9.len (src:=r) (NC:=n) h;simp[this]
 |some i::r,_::n,h=>by have:=c9.len (src:=r) (NC:=n) h.2.2;simp[this]
 | [],_::_,h=>h.elim
 |none::_,[],h=>h.elim
 |some _::_,[],h=>h.elim
theorem c9.at{a:Scope}{d:List Str}:∀{src:List (Option Nat)}{NC:List Str}{j i:Nat}{x:Str},c9 a d src NC->src[j]?\(some i)->NC[j]?\x->d[i]?\x/\a.names.lookup x\.free
 | [],[],_,_,_,_,h,_=>by simp at h
 |none::r,_::n,0,_,_,_,h,_=>by simp at h
 |none::r,_::n,j+1,i,x,h,b,c=>c9.at (src:=r) (NC:=n) (j:=j) h (~~~b) (~~~c)
 |some k::r,y::n,0,i,x,h,b,c=>by
  have e:k=i:=by simpa using b
  have f:y=x:=by simpa using c
  subst e f;exact#[h.1,h.2.1]
 |some k::r,_::n,j+1,i,x,h,b,c=>c9.at (src:=r) (NC:=n) (j:=j) h.2.2 (~~~b) (~~~c)
 | [],_::_,_,_,_,h,_,_=>h.elim
 |none::_,[],_,_,_,h,_,_=>h.elim
 |some _::_,[],_,_,_,h,_,_=>h.elim
structure bQ (X:Cx) (scope:Scope):Prop where
 kind:scope.kind= .function
 names:∀x∈scope.names,x.2= .local->scope.names.lookup x.1\.local
 nocell:∀x∈scope.names,x.2≠ .cell
 free:∀x∈scope.names,x.2= .free->X.env.kindOf x.1\.cell\/X.env.kindOf x.1\.free
theorem gU{env:Env}:∀(names:List (Str×NameKind))(x:Str),
  (names.map λ(n,k)=>if (k==NameKind.free&&env.scope.kind== .function&&env.kindOf n==some .cell) then(n,NameKind.cell) else(n,k)).lookup x=
   (names.lookup x).map λk=>if (k==NameKind.free&&env.scope.kind== .function&&env.kindOf x==some .cell) then NameKind.cell else k
 | [],_=>rfl
 | (n,k)::r,x=>by
  have c:=gU (env:=env) r x;show bc x ((if (k==NameKind.free&&env.scope.kind== .function&&env.kindOf n==some .cell)=true then(n,NameKind.cell) else(n,k))::_)=_;cases b:x==n with
  |true=>
   have e:x=n:=by simpa using b
   subst e
   by_cases a:(k==NameKind.free&&env.scope.kind== .function&&env.kindOf x==some .cell)=true
   .rw[AC a,uv,uv]
    simp only[b];show some NameKind.cell\(if _ then _ else _);rw[AC a]
   .rw[tz a,uv,uv]
    simp only[b];show some k\(if _ then _ else _);rw[tz a]
  |false=>
   by_cases a:(k==NameKind.free&&env.scope.kind== .function&&env.kindOf n==some .cell)=true
   .rw[AC a];simp only[uv,b];exact c
   .rw[tz a];simp only[uv,b];exact c
def mem_lookup{names:List (Str×NameKind)}{x:Str}{k:NameKind}(h:names.lookup x\k):(x,k)∈names:=aaP h
def cH(X:Cx)(a:Scope)(NC:List Str)(ex:List Addr)(s:Shared)(H:Hp):Cx:=
 {X with N:=NC,s₀:=s,H₀:=H,env:=compEnvC a (jO X.env a.names []) s.heap.objs.size X.env,outer:=X.stack,stack:=X.stack,ex:=ex,fn:=λ_=>false,pn:= [],xe:=λ_ _=>False}
section
variable {X:Cx} {pins:List (Addr×Obj)} {σ:St} {H:Hp} {s:Shared} {scope:Scope} {NC:List Str} {ex:List Addr} {src:List (Option Nat)}
theorem bQ.cells(c:bQ X scope)(ok:X.Ok):∀x∈scope.names,x.2= .free->∃c,X.env.cells.lookup x.1\c:=λx a e=>ok.has x.1 (c.free x a e)
def bQ.V4(c:bQ X scope)(h:(compEnvC scope (jO X.env scope.names []) C X.env).kindOf x\k)(i:k= .cell\/k= .free):scope.names.lookup x\.free:=by
 have a:(relabel scope X.env).names.lookup x\k:=h;unfold relabel at a;rw[gU] at a;cases e:scope.names.lookup x with
 |none=>rw[e] at a;cases a
 |some b=>
  have g:=c.nocell _ (mem_lookup e);rw[e] at a;have f:(if (b==NameKind.free&&X.env.scope.kind== .function&&X.env.kindOf x==some .cell) then NameKind.cell else b)=k:=FM a
  by_cases d:b= .free
  .rw[d]
  .have j:(b==NameKind.free)=false:=by simpa using d
   rw[j,ada,ada,tz cQ] at f
   rcases i with z|z
   .rw[f] at g;exact absurd z g
   .rw[f] at d;exact absurd z d
def M0(I:Inv X pins σ H s)(c:bQ X scope)(f:∀b∈ex,gz X pins H b)(g:∀b∈ex,b<s.heap.objs.size):(cH X scope NC ex s H).Ok where
 mod:=I.ok.mod
 kind:=c.kind
 glob:=I.ok.glob
 blt:=I.ok.blt
 above:=bM _
 inj:=λx y d i j=>I.ok.inj x y d (gm _ _ (c.cells I.ok) (λ_ _ z=>by cases z) x d i) (gm _ _ (c.cells I.ok) (λ_ _ z=>by cases z) y d j)
 has:=λx k=>qp _ _ x (.inl (mem_lookup (by rcases k with h|h<;>exact c.V4 h (by simp))))
 cab:=λ_ _ z=>by cases z
 hd:=I.ok.hd
 frames:=I.ok.frames
 stk:= .inl rfl
 exf:=λb a=>#[bJ (g b a),λx d e=>(f b a).2.2.2.2.1 x d (gm _ _ (c.cells I.ok) (λ_ _ z=>by cases z) x d e)]
 bs:=I.bs
 bsz:=iA I.ok.bsz I.sz
 noex:=λb o e a=>by
  rcases(f b a).2.2.2.1 with z|z
  .exact I.ok.noex b o e z
  .exact absurd (fG (Do e) (iA I.ok.bsz z)) (kP _)
 exfs:=λb a z=>(bY.mp (I.Ee b z)).elim (f b a).2.1 (f b a).2.2.1
 funs:=I.stack
 frf:=I.zC
theorem AB{tk:Nat}(I:Inv X pins σ H s)(c:bQ X scope)(A:c9 scope X.N src NC)(E:∀b∈ex,gz X pins H b)(F:∀b∈ex,b<s.heap.objs.size)
  (G:h.Ns s.heap.objs.size (λ_=>none)) (J:Heap.SameBut s.heap.objs.size (s.heap.push C) h):
  Inv (cH X scope NC ex s H) [] (n4 src σ) H {s with heap:=h,toks:=tk}:=by
 have f:∀b o,s.heap.get? b\o->h.get? b\o:=λb o e=>J.extBut b o (bJ (Do e)) (Da _ e);have t:∀x d,(jO X.env scope.names []).lookup x\d->X.env.cells.lookup x\d:=λx d=>gm _ _ (c.cells I.ok) (λ_ _ z=>by cases z) x d
 have a:∀d v,s.heap.IsCell d v->h.IsCell d v:=λd v #[o,L,k]=>#[o,f d o L,k];refine#[M0 I c E F,rfl,I.bare,Un.kept f,#[_,G,λj x v M O U=>?_],λx d e=>?_,I.hok.fresh (bM _),λx d e=>I.freeC x d (t x d e),λp P=>absurd (show p∈([]:List (Addr×Obj)) from P) (by simp),I.hok.kept f,?_]
 .have g:(n4 src σ)[j]?\(some v):=O
  unfold n4 at g;rw[fi] at g;cases w:src[j]? with
  |none=>rw[w] at g;cases g
  |some o=>
   rw[w] at g;cases o with
   |none=>cases g
   |some i=>
    have n:(σ[i]?).bind id\v:=FM g
    have Q:σ[i]?\(some v):=by
     cases q:σ[i]? with
     |none=>rw[q] at n;cases n
     |some z=>rw[q] at n;exact KF some n
    rfl';obtain⟨S,y⟩:=A.at w M;have B:=c.free _ (mem_lookup y) rfl;obtain⟨m,Z,T⟩:=I.loc;obtain⟨u,r,l⟩:=T i x v S Q (B.elim (λz=> .inr (.inl z)) (λz=> .inr (.inr z)));ac_rfl;refine#[u,r, .inr #[?_,?_]]
    .show(relabel scope X.env).names.lookup x=_\/(relabel scope X.env).names.lookup x=_
     unfold relabel;rw[gU,y]
     by_cases z:(NameKind.free==NameKind.free&&X.env.scope.kind== .function&&X.env.kindOf x==some .cell)=true
     .left;simp only[Option.map_some,z,aaU]
     .right;simp only[Option.map_some,z];rfl
    .obtain⟨d,k⟩:=qp (env:=X.env) scope.names [] x (.inl (mem_lookup y))
     exists d,k
     rcases l with ⟨l,_⟩ | ⟨_,d',e,z⟩
     .exfalso;rcases B with z|z<;>(rw[l] at z;cases z)
     .rw[t x d k] at e;cases e;exact a d _ z
 .obtain⟨v,z⟩:=I.cell x d (t x d e)
  exact#[v,a d v z]
 .show(n4 src σ).length=NC.length
  unfold n4;rw[aS];exact A.len
def comp_back(I:Inv X pins σ H s)(m:∀b∈ex,gz X pins H b)(J:Inv (cH X scope NC ex s H) l k g c)
  (p:Heap.SameBut s.heap.objs.size c.heap h):Inv X pins σ g {c with heap:=h}:=by
 have up:∀b o,b≠s.heap.objs.size->c.heap.get? b\o->h.get? b\o:=λb o a e=>p.extBut b o a e;have ne:∀b o,s.heap.get? b\o->b≠s.heap.objs.size:=λb o e=>bJ (Do e);have u:=J.base;refine I.HA (ch:=ex) (show c.os=s.os from J.os) #[λb o e n a f=>up b o (ne b o e) (u.keep b o e n a f),λb o e n a f=>?_,u.free,λb o e f=>?_,u.tups,u.frzs,u.tbls] ?_ J.bare λb a=>?_
 .obtain⟨r,q⟩:=u.slot b o e n a f
  exact#[r,up b _ (ne b o e) q]
 .obtain⟨i,q⟩:=u.there b o e f
  exact#[i,up b i (ne b o e) q]
 .intro b o e
  have j:∀b o,g b\o->b≠s.heap.objs.size:=λb o e z=>by
   have:=J.free
   rw[z] at e;have t:g s.heap.objs.size=none:=this;rw[t] at e;cases e
  refine(J.hok b o e).mM (λd v w q=>up d v ?_ q) (λ_ q=>q) λ_ _ q=>q
  rcases w with z|z
  .rw[z];exact j b o e
  .exact j d _ z
 .obtain⟨_,x,_,y,A,B⟩:=m b a
  exact#[y,x,A,B]
end
def oH(X:Cx)(b:List Expr)(t:TT):Prop:=
 ∀(a:List (Addr×Obj))(s:Shared)(d:St)(H:Hp)(Q:Bool->Hp->Prop),Inv X a d H s->t d H Q->
  wpAny (model X.prog X.w) X.A (forIn b true λc r=>if r=true then do let ok <-isTrue c X.env (eval c X.env);pure (ForInStep.yield ok) else pure (ForInStep.yield r)) (TP X a d Q) X.xe s
def Qq:TT:=λ_ H Q=>Q true H
def GB:oH X [] Qq:=λ_ _ _ H _ I h=>wpAny_tests_nil #[H,I,h]
def Px(h:PT X c t):oH X [c] t:=λa s b H Q I q=>wpAny_tests_one (h a s b H Q I q)
def LCW(J:It)(g:TG)(o:TT)(p:TE)(D:Addr)(Q:VK)(q:St)(H:Hp):Prop:=
 ∃W:Nat->Nat->St->Hp->Prop,(∃m,W 0 m q H)/\∀i m e a,W i m e a->
  (J.stop i a/\Q (.ref D) a)\/
  (J.go i a/\∃N:St->Hp->Prop,(∀f h,N f h->∃j,j<m/\W (i+1) j f h)/\∀x k,J.yld i a x k->g x e k λc r=>o c r λb l=>
   if b=true then p c l λv n=>∃d,n D\(.lst d)/\d.length<sizeLine/\N c (upd n D (.lst (d++ [v]))) else N c l)
def Qn(c:TI)(g:TG)(d:TT)(e:TE)(src:List (Option Nat)):TE:=λa H Q=>c a H λJ b=>∀D,b D=none->LCW J g d e D Q (n4 src a) (upd b D (.lst []))
section
variable {X:Cx} {elt iter tg:Expr} {ifs:List Expr} {scope:Scope} {pos:Pos} {wi:TI} {g:TG} {tt:TT} {te:TE} {src:List (Option Nat)} {NC:List Str}
theorem vJ{RR:Value->Addr->Result->Shared->Prop}{Q:VK}
  (hc:X.calm=true) (c:bQ X scope) (eU:c9 scope X.N src NC) (I2:Inv X j σ I B) (T:Turn X.prog X.w X.K tg J F it tn) (l4:tn 0 B.heap) (f2:∀b∈F,gz X j I b)
  (hg:∀s H,PG (cH X scope NC F s H) tg g) (ht:∀s H,oH (cH X scope NC F s H) ifs tt) (he:∀s H,PE (cH X scope NC F s H) elt te)
  (hW:∀D,I D=none->∃W:Nat->Nat->St->Hp->Prop,(∃m,W 0 m (n4 src σ) (upd I D (.lst [])))/\∀i m fK I,W i m fK I->
   (J.stop i I/\Q (.ref D) I)\/
   (J.go i I/\∃N:St->Hp->Prop,(∀G a,N G a->∃m',m'<m/\W (i+1) m' G a)/\∀x U,J.yld i I x U->g x fK U λgf H4=>tt gf H4 λb H5=>
    if b=true then te gf H5 λv H6=>∃ys,H6 D\(.lst ys)/\ys.length<sizeLine/\N gf (upd H6 D (.lst (ys++ [v]))) else N gf H5))
  (Vv:∀D C U G a M,Inv X j σ U C->(∀b∈F,gz X j U b)->Inv (cH X scope NC F C U) [] G a M->Q (.ref D) a->RR (.ref D) C.heap.objs.size (.ok .next) M):
  wpAny (model X.prog X.w) X.A (newList []) (λacc GX=>wpAny (model X.prog X.w) X.A (newFunctionEnv scope X.env.globals (jO X.env scope.names []) [] X.env.qual none .none (some X.env)) (λoN zF=>
   codeAny (model X.prog X.w) X.A (.compStart (.ListComp elt [#[tg,iter,ifs,0]] scope pos) 0 (.ref it) acc {oN with scope:=relabel scope X.env}) (RR acc oN.locals) zF) E GX) E B:=by
 rfl';obtain⟨W,⟨m0,w0⟩,turn⟩:=hW B.heap.objs.size I2.fresh;have I3:Inv X j σ (upd I B.heap.objs.size (.lst [])) {B with heap:=B.heap.push {cls:= .type "list",data:= .seq ([]:List Value).toArray}}:=I2.Kl (its:= []) (t':=B.toks) .nil (fg _)
 ac_rfl
 have V6:∀b∈F,b<B.heap.objs.size:=λb l=>by
  obtain⟨o,e,_⟩:=T.obj _ _ l4 b l;exact Do e
 have f3:∀b∈F,gz X j (upd I B.heap.objs.size (.lst [])) b:=λb l=>#[by rw[aB (bJ (V6 b l))];exact(f2 b l).1,(f2 b l).2]
 refine Pi ?_
 suffices key:∀C:Shared,Inv X j σ (upd I B.heap.objs.size (.lst [])) C->(∀b o,B.heap.get? b\o->C.heap.get? b\o)->
   wpAny (model X.prog X.w) X.A (newFunctionEnv scope X.env.globals (jO X.env scope.names []) [] X.env.qual none .none (some X.env)) (λoN zF=>
    codeAny (model X.prog X.w) X.A (.compStart (.ListComp elt [#[tg,iter,ifs,0]] scope pos) 0 (.ref it) (.ref B.heap.objs.size) {oN with scope:=relabel scope X.env}) (RR (.ref B.heap.objs.size) oN.locals) zF) E C from
  key _ I3 λb o e=>Da _ e
 intro C I3 WR;have xg:tn 0 C.heap:=T.keep _ _ _ l4 λb _ o e=>WR b o e
 have II:∀b∈F,b<C.heap.objs.size:=λb l=>by
  obtain⟨o,e,_⟩:=T.obj _ _ xg b l;exact Do e
 generalize hH3:upd I B.heap.objs.size (.lst [])=U at I3 f3 w0;refine wpAny_newFunctionEnv c.nocell (by intro y hy;simp at hy) (λh1 CH CK=>?_) c.kind
 have I4:=AB (src:=src) (NC:=NC) (ex:=F) (tk:=C.toks+([]:List (Str×Value)).length) I3 c eU f3 II CH CK;have Qj:tn 0 h1:=T.keep _ _ _ xg λb l o e=>CK.extBut b o (bJ (II b l)) (Da _ e);generalize L:cH X scope NC F C U=k at I4
 have R:∀{a:Hp},(∀b∈F,a b=none)->∀b∈F,gz k [] a b:=λ {a} hn b l=>by
  subst L;refine#[hn b l,bJ (II b l),λz=>?_, .inl l,λx d e=>?_,λp hp=>absurd (show p∈([]:List (Addr×Obj)) from hp) (by simp)]
  .exact(I4.ok.exfs b l) z
  .exact(I4.ok.exf b l).2 x d e
 have Y:codeAny (model X.prog X.w) X.A (.compLoop (.ListComp elt [#[tg,iter,ifs,0]] scope pos) 0 (.ref it) (.ref B.heap.objs.size) k.env) (RR (.ref B.heap.objs.size) C.heap.objs.size)
   {C with heap:=h1,toks:=C.toks+([]:List (Str×Value)).length}:=by
  refine adg rfl (λn M=>∃i G a,Inv k [] G a M/\tn i M.heap/\(∀b∈F,a b=none)/\W i n G a) (λn M hI=>?_) m0 #[0,_,_,I4,Qj,λb l=>(f3 b l).1,w0];obtain⟨i,G,a,I5,xh,z8,w5⟩:=hI;show wpAny _ X.A ((compTurn (.ListComp elt [#[tg,iter,ifs,0]] scope pos) 0 (.ref it) (.ref B.heap.objs.size) k.env).onRaise (λx=>do noteFrame x k.env;theTreesLotGoes x)) _ _ M
  refine wpAny_noted ?_;rw[compTurn_list]
  have lK:∀{α:Type}{t:Sem α}{Q:α->Shared->Prop}{E:Value->Shared->Prop}{s:Shared},wpAny (model k.prog k.w) k.A t Q k.xe s->wpAny (model X.prog X.w) X.A t Q E s:=λ {α t Q E s} h=>by
   subst L;exact wpAny_mono h (λ_ _ q=>q) λ_ _ f=>f.elim
  have Lz:k.calm=true:=by subst L;exact hc
  have eP:k.prog=X.prog:=by subst L;rfl
  have ew:k.w=X.w:=by subst L;rfl
  have eK:k.K=X.K:=by subst L;rfl
  have eA:k.A=X.A:=by subst L;rfl
  have VH:PG k tg g:=by subst L;exact hg _ _
  have VT:oH k ifs tt:=L▸ht _ _;have VF:PE k elt te:=L▸he _ _;refine ir (aaM (ir ?_))
  rcases turn i n G a w5 with ⟨stop,qn⟩ | ⟨go,N,hN,step⟩
  .have hd:=T.done k eP ew eK Lz i [] M G a (notedBy (model X.prog X.w) X.A k.env λe M=>RR (.ref B.heap.objs.size) C.heap.objs.size (.error e) M) I5 (R z8) xh stop
   rw[eA] at hd;refine thn hd λr s6 O=>?_;obtain⟨hr,I6⟩:=O;subst hr;refine mo ?_;subst L;exact Vv _ C U G a s6 I3 f3 I6 qn
  .have hd:=T.item k eP ew eK Lz i [] M G a (notedBy (model X.prog X.w) X.A k.env λe M=>RR (.ref B.heap.objs.size) C.heap.objs.size (.error e) M) I5 (R z8) xh go
   rw[eA] at hd;refine thn hd λr s6 O=>?_;rfl';obtain⟨u,hr,h6⟩:=O;ac_rfl;subst hr;refine ir (thn h6 λ_ s7 O=>?_);rfl';obtain⟨x,H7,I7,r7,y7,zy,NT⟩:=O;ac_rfl;have MF:=I7.pinned (R NT) (T.obj _ _ zy)
   have again:∀{S:St}{Z:Hp}{s8:Shared},Inv k ([]++nv F s7.heap) S Z s8->N S Z->∃m,m<n/\∃i G a,Inv k [] G a s8/\tn i s8.heap/\(∀b∈F,a b=none)/\W i m G a:=λ {S Z s8} I8 n8=>by
    obtain⟨m',hm,w8⟩:=hN S Z n8;refine#[m',hm,i+1,S,Z,I8.kg,T.keep _ _ _ zy λb l o e=>(I8.pin (b,o) (dP _ (dP _ (fj l e)))).1,λb l=>?_,w8];obtain⟨o,e,d⟩:=T.obj _ _ zy b l;exact(I8.pin (b,o) (dP _ (dP _ (fj l e)))).2.1
   refine ir (lK (thn (VH _ s7 G H7 x u _ MF r7 (step x H7 y7)) λ_ s8 O=>?_));rfl';obtain⟨S,Z,I8,q8⟩:=O;ac_rfl;refine ir (lK (thn (VT _ s8 S Z _ I8 q8) λb s9 O=>?_));obtain⟨H9,I9,q9⟩:=O;cases b with
   |false=>
    rw[tz cQ] at q9;exact mo #[L▸rfl,again I9 q9]
   |true=>
    rw[AC rfl] at q9;refine ir (ir (lK (thn (VF _ s9 S H9 _ I9 q9) λy SE O=>?_)));rfl';obtain⟨v,QF,Ut,Wq,ys,hD,hz,Wn⟩:=O;ac_rfl;refine ir (lK (thn (mZ _ SE S QF (.ref B.heap.objs.size) [v] _ [y] (λ_ a=>N S a) Ut rfl (.cons Wq .nil) #[_,ys,v,rfl,rfl,hD,hz,Wn]) λ_ SG O=>?_));rfl';obtain⟨_,Us,ME,_,Wo⟩:=O;ac_rfl;exact mo (mo #[L▸rfl,again ME Wo])
 subst L;exact ac2 Y (T.self _ 0 _ _ _ Qj Y)
def Ph(j:X.calm=true)(c:bQ X scope)(k:c9 scope X.N src NC)(l:PI X tg iter wi)
  (n:∀b s H,PG (cH X scope NC b s H) tg g) (o:∀b s H,oH (cH X scope NC b s H) ifs tt) (p:∀b s H,PE (cH X scope NC b s H) elt te)
  (r:∀x,foldedSetIterable iter X.env x=pure x:=by intro _;rfl):PE X (.ListComp elt [#[tg,iter,ifs,0]] scope pos) (Qn wi g tt te src):=by
 intro a s f H Q I h;rw[eval_ListComp];refine abi (use:=none) rfl r (i9 (c.cells I.ok)) c.kind c.names (thn (l a s f H _ I h) λv R t=>thn t λS U u=>?_);rfl';obtain⟨Z,d,tn,J,H2,rfl,z,T,B,E,F⟩:=u;ac_rfl;refine vJ (RR:=λe C=>compPost (model X.prog X.w) X.A X.xe none (EP X a f Q) e C) (Q:=Q) j c k z T B E (n d) (o d) (p d) F ?_;intro D s3 H3 aC G s' L M i q;obtain⟨m,O,_⟩:=i.loc;exact#[m,O,λh' P=>#[.ref D,G,comp_back L M i P,rfl,q]]
def SR(b:TI)(g:TG)(c:TT)(d:TE)(src:List (Option Nat))(i:Nat):TS:=λD a H=>Qn b g c d src a H λv e=>D.nx (a.set i (some v)) e
def mF(hc:X.calm=true)(hN:X.N.Nodup)(kz:X.N[i]?\x)(hx:Loc X.env.scope x)(c:bQ X scope)(eU:c9 scope X.N src NC)(hi:PI X tg iter wi)
  (hg:∀t s H,PG (cH X scope NC t s H) tg g) (ht:∀t s H,oH (cH X scope NC t s H) ifs tt) (he:∀t s H,PE (cH X scope NC t s H) elt te)
  (kB:swapsWith (.ListComp elt [#[tg,iter,ifs,0]] scope pos) (some (.Name x r)) S.line X.env=pure true)
  (hf:X.fn x=true\/X.env.scope.names.lookup x\.local:=by subst_eqs)
  (hs:∀x,foldedSetIterable iter X.env x=pure x:=by intro _;rfl):PS X (.Assign [.Name x r] (.ListComp elt [#[tg,iter,ifs,0]] scope pos) S) (SR wi g tt te src i):=by
 intro f s u H D I h;rw[exec_Assign_Name_used _ _ _ _ kB];refine ir (aaM (ir ?_));show wpAny _ X.A (do let _ <-comprehension (.ListComp elt [#[tg,iter,ifs,0]] scope pos) scope X.env _ (newList []) false (eval iter X.env) (some (assign (.Name x r) X.env))) _ _ s
 refine ir (wpAny_mono (abi (use:=some (assign (.Name x r) X.env)) (Q:=λ_ j=>SP X f D .next j) rfl hs (i9 (c.cells I.ok)) c.kind c.names
  (thn (hi f s u H _ I h) λv s1 h1=>thn h1 λrP s2 h2=>?_)) (λ_ j hq=>mo (mo hq)) λ_ _ e=>e)
 rfl';obtain⟨it,F,tn,J,H2,rfl,I2,T,l4,f2,hW⟩:=h2;ac_rfl;refine vJ (RR:=λG C=>compPost (model X.prog X.w) X.A X.xe (some (assign (.Name x r) X.env)) (λ_ j=>SP X f D .next j) G C) (Q:=λv k=>D.nx (u.set i (some v)) k) hc c eU I2 T l4 f2 (hg F) (ht F) (he F) hW ?_;intro a l H3 aC k j n f3 L q;obtain⟨m,hn,_⟩:=L.loc;have U:Inv X f u k j:=comp_back n f3 L (.refl ..);have Y:l.heap.objs.size≠X.env.locals:=vx n.lt
 have nc:∀y d,X.env.cells.lookup y\d->d≠l.heap.objs.size:=λy d e z=>by
  obtain⟨v,hv⟩:=n.cell y d e
  have:=hv.lt
  rw[z] at this;exact absurd this (kP _)
 have np:∀p∈X.pn++f,p.1≠l.heap.objs.size:=λp B z=>by
  have:=Do (n.pin p B).1
  rw[z] at this;exact absurd this (kP _)
 rfl';obtain⟨M,es,ep,O,Z,rC⟩:=id hn;have Yd:k l.heap.objs.size=none:=L.free;ac_rfl
 have IP:Inv X ((l.heap.objs.size,M)::f) u k j:=U.tV λp B=>by
  rcases bY.mp B with z|z
  .rw[z]
   exact#[O,Yd,Y,n.Uc (bM _),λv w=>by rw[Z] at w;cases w]
  .exact U.pin p (dP _ z)
 refine wpAny_assign_Name (ke (x:=x) IP hN kz hx (v:= .ref a) rfl (λs5 P=>?_) hf);have R:=(P.pin (l.heap.objs.size,M) (dP _ dH)).1;refine#[m,#[M,es,ep,R,Z,rC],λh6 sb=>?_];have Uu:Inv X f (u.set i (some (.ref a))) k s5:=P.tV λp B=>P.pin p (dP _ (eM _ B));exact#[_,k,Uu.turned (t':=s5.toks) (it:=l.heap.objs.size) (λb o hb e=>sb.extBut b o hb e) Yd Y (.inr n.sz) nc np,q]
end
section
variable {X:Cx} {pins:List (Addr×Obj)} {σ:St} {H:Hp} {s:Shared} {h':Heap} {fp:List Addr}
def Inv.G9{t':Nat}(I:Inv X pins σ H s)(d:∀b∈fp,gz X pins H b)(k:∀b o,b∉fp->s.heap.get? b\o->h'.get? b\o):Inv X pins σ H {s with heap:=h',toks:=t'}:=by
 refine I.step (g':=s.gens) (d':=s.drawn) (ch:=fp) (λb g=>?_) (λb o _ _ a e _=>k b o a e) (λb o _ _ a e _=>#[o.slots,k b o a e]) (λ_ _ _ _ n=>n)
  (λb o a e=>#[o,k b o a e]) (λ_ _ e=>e) (λ_ _ _ e=>e) (λb y e=>#[#[],by rw[e];simp]) (λm h=>?_) (λb u e=>?_) I.bare
 .obtain⟨_,i,_,j,l,p⟩:=d b g
  exact#[j,i,l,p]
 .obtain⟨o,t,w,x,r⟩:=h
  exact#[o,t,w,k _ o (λz=>(d _ z).2.1 rfl) x,r]
 .have f:∀b u,H b\u->b∉fp:=λb u e z=>by rw[(d b z).1] at e;cases e
  refine(I.hok b u e).mM (λc v a q=>k c v ?_ q) (λ_ q=>q) λ_ _ q=>q
  rcases a with z|z
  .rw[z];exact f b u e
  .exact f c _ z
def Inv.Qv(I:Inv X pins σ H s)(f:∀b∈fp,gz X pins H b)(k:∀b o,b∉fp->s.heap.get? b\o->h'.get? b\o)(h:s.heap.objs.size<=t)
  (new:cp X.prog X.w (upd H t o) h' t o):Inv X pins σ (upd H t o) {s with heap:=h',toks:=t'}:=by
 have j:H t=none:=I.hok.fresh h;have up:∀b u,H b\u->upd H t o b\u:=λb u e=>by rw[aB (aF e j)];exact e
 refine I.step (g':=s.gens) (d':=s.drawn) (ch:=fp) (λb d=>?_) (λb o _ _ a e _=>k b o a e) (λb o _ _ a e _=>#[o.slots,k b o a e]) (λb o _ e n=>?_)
  (λb o a e=>#[o,k b o a e]) (λb F e=>up b _ e) (λb _ _ e=>up b _ e) (λb G e=>#[#[],by rw[up b _ e];simp]) (λm l=>?_) (λb u e=>?_) I.bare
 .obtain⟨_,p,_,x,y,A⟩:=f b d
  exact#[x,p,y,A]
 .rw[aB (bJ (fG (Do e) h))];exact n
 .obtain⟨o,B,C,E,r⟩:=l
  exact#[o,B,C,k _ o (λz=>(f _ z).2.1 rfl) E,r]
 .by_cases d:b=t
  .subst d
   rw[aw] at e;cases FM e;exact new
  .rw[aB d] at e
   have i:∀b u,H b\u->b∉fp:=λb u e z=>by rw[(f b z).1] at e;cases e
   refine(I.hok b u e).mM (λc v a q=>k c v ?_ q) (λg q=>up g _ q) λg _ q=>up g _ q
   rcases a with z|z
   .rw[z];exact i b u e
   .exact i c _ z
end
def Uv(K:ac)(a:Addr):It:=
 #[λi H=>∃b x,cK K H a b/\b[i]?\x,λi H y c=>∃t x,y= .ref t/\H t=none/\c=upd H t (.tup [.int i,x])/\∀b,cK K H a b->b[i]?\x,λi H=>∃b,cK K H a b/\b.length<=i]
def FO(e:h.get? t\{cls:= .type "tuple",data:= .seq [u,v].toArray}):IsTup h t [u,v].toArray:=#[_,e,rfl,_,rfl]
def JG{P:Program}{w:World}{K:ac}{U:List Expr}{k1}{Y:Pos}(a e l:Addr)(ne:e≠l):
  Turn P w K (.Tuple U k1 Y) (Uv K a) [e,l] e (λi h=>(∃g,IsEnum h e l i g)/\h.IsListIter l a i) where
 mem:=by simp
 obj:=λi h st b f=>by
  obtain⟨⟨g,m⟩,o,A,c,d⟩:=st
  rcases bY.mp f with z|z
  .subst z
   exact#[_,m,λv w=>by cases w]
  .have B:b=l:=by simpa using z
   subst B;exact#[o,A,λv z=>by rw[d] at z;cases z]
 keep:=λi h t st k=>by
  obtain⟨⟨g,m⟩,Z⟩:=st;exact#[#[g,k e (by simp) _ m],Z.at λo q=>k l (by simp) o q]
 item:=by
  intro X C hw F Q i j s R H E I r st G;rfl';subst C hw F;obtain⟨xs,x,y,L⟩:=G;obtain⟨M,N,p,hz⟩:=I.list y;obtain⟨u,hu,ru⟩:=N.get L;obtain⟨⟨g,m⟩,n⟩:=st;ac_rfl;refine wpAny_pyNext_enum_item m n p.isList (x:=u) (~~~hu) ne λt yB Oj VS aay kk=>?_
  have k2:∀b o,b∉ [e,l]->s.heap.get? b\o->t.get? b\o:=λb o f q=>kk b o (λz=>f (by simp[z])) (λz=>f (by simp[z])) q
  have I1:Inv X j R (upd H s.heap.objs.size (.tup [.int i,x])) {s with heap:=t,toks:=s.toks+1}:=
   I.Qv r k2 (bM _) #[by show 2<=sizeLine;decide,[.int i s.toks,u], .cons #[_,rfl] (.cons ru .nil),FO VS]
  refine#[_,rfl,wpAny_letOwnedTupleGo_enum yB λh2 O S=>?_]
  have lt:∀b∈ [e,l],b<s.heap.objs.size:=λb f=>by
   rcases bY.mp f with z|z
   .rw[z];exact Do m
   .obtain⟨o,A,_⟩:=n
    have B:b=l:=by simpa using z
    rw[B];exact Do A
  have T:∀b∈ [e,l],gz X j (upd H s.heap.objs.size (.tup [.int i,x])) b:=λb f=>#[by rw[aB (bJ (lt b f))];exact(r b f).1,(r b f).2]
  refine#[.ref s.heap.objs.size,_,I1.G9 (t':=s.toks+1) T (λb o f q=>S.extBut b o (λz=>f (by simp[z])) q),rfl,#[_,x,rfl,I.hok.fresh (bM _),rfl,λys hy=>by rw[I.uX hy y];exact L],#[#[u,?_],Oj.extBut S.extBut (Ne.symm ne)],λb f=>(T b f).1]
  have z:((i+1:Nat):Int)=(i:Int)+1:=()
  rw[z];exact O
 done:=by
  intro X C hw F Q i j s R H E I r st G;rfl';subst C hw F;obtain⟨xs,y,L⟩:=G;obtain⟨M,N,p,hz⟩:=I.list y;have hl:=N.length;obtain⟨⟨g,m⟩,n⟩:=st;ac_rfl;exact wpAny_pyNext_enum_end (I.ok.hd Q) m n p.isList (by simp;lia) λt eb=>#[rfl,I.G9 (t':=s.toks) r λb o f q=>eb b o (λz=>f (by simp[z])) q]
 self:=λ_ _ _ _ _ st h=>by
  obtain⟨⟨g,m⟩,_⟩:=st;exact wpAny_pyIter_enum m h
section
variable {X:Cx}
def VY(K:ac)(c:TA):TI:=λd H R=>c d H λe b=>∃a,e= [.ref a]/\(∃f,b a\(.lst f))/\R (Uv K a) b
def Pn{k1}(v:Gl X "enumerate")(w:X.mg "enumerate"=none)(x:PA X [a] j)(y:starEach [a] X.env= [(false,eval a X.env)]:=by rfl):
  PI X (.Tuple r k1 t) (.Call (.Name "enumerate" p) [a] [] d) (VY X.K j):=by
 intro f s A H R I h;refine Call_ (k7 I v w boot_enumerate (aaR (thn (x d f s A H _ I h) λQ c #[S,B,g,C,E]=>?_) y rfl));rfl';obtain⟨l,e,⟨U,G⟩,q⟩:=E;subst e;obtain⟨u,rfl,J⟩:=C.one;subst J;obtain⟨z,L,n,Y,k,e⟩:=g.qU G;ac_rfl;refine call_enumerate_1 e λZ m i kC M=>?_;refine wpAny_pyIter_enum m ?_;have N:c.heap.objs.size+1≠c.heap.objs.size:=Nat.succ_ne_self _;refine#[c.heap.objs.size+1,[c.heap.objs.size+1,c.heap.objs.size],_,_,B,rfl,g.kept (t':=c.toks) M,JG l _ _ N,#[#[_,m],i],λb O=>?_,q]
 have o:c.heap.objs.size<=b:=by
  rcases bY.mp O with z|z
  .rw[z];exact ux _
  .have P:b=c.heap.objs.size:=by simpa using z
   rw[P];exact bM _
 exact g.Ka o (g.hok.fresh o)
end
end L2
namespace Wb
abbrev W:=List (List Nat)
def row(w:W)(p:Nat):List Nat:=w.getD p []
inductive Reach (w:W):Nat->Nat->Prop
 |refl (p):Reach w p p
 |step {p q r}:Reach w p q->r∈row w q->Reach w p r
structure Good (w:W):Prop where
 rng:∀p q,q∈row w p->q<w.length
 irr:∀p,p∉row w p
 nod:∀p,(row w p).Nodup
 sym:∀p q,q∈row w p->p∈row w q
 con:∀p,p<w.length->Reach w 0 p
def cT(h:q∈row w p):p<w.length:=by
 apply FB;intro a;unfold row at h;rw[cW,gQ ()] at h
 simp at h
def GF(h:p<w.length):w[p]?\(row w p):=by
 unfold row;rw[cW,cZ h];rfl
def SD(h:w[p]?\r):row w p=r:=by
 unfold row;rw[cW,h];rfl
def PN(h:w.length<=p):row w p= []:=by
 unfold row;rw[cW,gQ h];rfl
def Reach.trans{w:W}(h:Reach w p q)(h':Reach w q r):Reach w p r:=by
 induction h' with
 |refl=>exact h
 |step _ a b=>exact .step b a
def Reach.symm{w:W}(a:∀p q,q∈row w p->p∈row w q)(h:Reach w p q):Reach w q p:=by
 induction h with
 |refl=>exact .refl _
 |step _ b c=>exact(Reach.step (.refl _) (a _ _ b)).trans c
def ins{a:Type}(b:List a)(i:Nat)(x:a):List a:=b.take i++x::b.drop i
def uT(a:List b)(i:Nat)(x:b):(ins a i x).Perm (x::a):=by
 unfold ins;have h:= @List.perm_middle _ x (a.take i) (a.drop i);rw[n6] at h;exact h
def Gb:a∈ins b i x↔a=x\/a∈b:=by
 rw[(uT b i x).mem_iff,bY]
def yX(h:a.Nodup)(c:x∉a):(ins a i x).Nodup:=by
 rw[(uT a i x).nodup_iff,iV];exact#[c,h]
def yI(a:List b)(i:Nat)(x:b):(ins a i x).length=a.length+1:=by
 rw[(uT a i x).length_eq];rfl
def GG(h:p<w.length):row (w.set p r) x=if p=x then r else row w x:=by
 unfold row;rw[cW,og]
 by_cases e:p=x
 .rw[AC e,AC e,AC h];rfl
 .rw[tz e,tz e,cW]
theorem Lv{ord:Nat->Nat}(g:Good w)(l:j.length=w.length)(k:∀p,p<w.length->ord p<w.length)
  (inj:∀p q,p<w.length->q<w.length->ord p=ord q->p=q) (i:∀y,y<w.length->∃p,p<w.length/\ord p=y)
  (m:∀p,p<w.length->(row j (ord p)).Perm ((row w p).map ord)):Good j:=by
 have mem:∀p q,p<w.length->(q∈row j (ord p)↔∃a,a∈row w p/\ord a=q):=λp q d=>by
  rw[(m p d).mem_iff,cM]
 have reach:∀{p q},Reach w p q->Reach j (ord p) (ord q):=λ {p q} h=>by
  induction h with
  |refl=>exact .refl _
  |step _ n r=>exact .step r ((mem _ _ (cT n)).mpr #[_,n,rfl])
 refine#[λy q c=>?_,λy c=>?_,λy=>?_,λy q c=>?_,λy c=>?_]
 .obtain⟨p,d,rfl⟩:=i y (by have:=cT c;lia)
  obtain⟨a,f,rfl⟩:=(mem p q d).mp c;rw[l];exact k a (g.rng _ _ f)
 .obtain⟨p,d,rfl⟩:=i y (by have:=cT c;lia)
  obtain⟨a,f,e⟩:=(mem p _ d).mp c
  have:=inj a p (g.rng _ _ f) d e
  subst this;exact g.irr _ f
 .by_cases c:y<w.length
  .obtain⟨p,d,rfl⟩:=i y c
   rw[(m p d).nodup_iff];unfold dz;rw[mO];refine acI ?_ (g.nod p);intro a b f s ne e;exact ne (inj a b (g.rng _ _ f) (g.rng _ _ s) e)
  .rw[PN ()];exact gd
 .obtain⟨p,d,rfl⟩:=i y (by have:=cT c;lia)
  obtain⟨a,f,rfl⟩:=(mem p q d).mp c;exact(mem a _ (g.rng _ _ f)).mpr #[p,g.sym _ _ f,rfl]
 .rw[l] at c
  obtain⟨p,d,rfl⟩:=i y c;obtain⟨z,t,u⟩:=i 0 ()
  have o:=reach (((g.con z t).symm g.sym).trans (g.con p d));rw[u] at o;exact o
def e9(l:List Nat)(x:Nat):Nat:=l.getD ((l.idxOf x+1)%l.length) 0
def yY(w:W)(d:Nat×Nat):Nat×Nat:=(d.2,e9 (row w d.2) d.1)
def bp(w:W)(d:Nat×Nat):Prop:=d.2∈row w d.1
def se(h:x∈l):l[(l.idxOf x+1)%l.length]?\(e9 l x):=by
 have a:0<l.length:=wF h;unfold e9;rw[cW,cZ (rm _ a)];rfl
def JA(h:x∈l):e9 l x∈l:=fb (se h)
def OT(f:a<n)(g:b<n)(e:(a+1)%n=(b+1)%n):a=b:=by
 by_cases d:a+1=n
 .by_cases c:b+1=n
  .lia
  .rw[d,acJ,lE ()] at e;lia
 .by_cases c:b+1=n
  .rw[c,acJ,lE ()] at e;lia
  .rw[lE (),lE ()] at e;lia
def Jz(g:l.Nodup)(a:x∈l)(b:y∈l)(e:e9 l x=e9 l y):x=y:=by
 have o:0<l.length:=wF a;have c:=se a;have h:=se b;rw[e] at c;have d:=zO.mpr a;have f:=zO.mpr b;obtain⟨p,i⟩:=dZ.mp c;obtain⟨r,j⟩:=dZ.mp h;have q:=(List.getElem_inj g).mp (i.trans j.symm);have k:=OT d f q;have m:=BB d;have n:=BB f;rw[<-m,<-n];simp only[k]
def LZ(g:Good w)(h:bp w d):bp w (yY w d):=JA (g.sym _ _ h)
def yZ(g:Good w)(h:bp w d)(c:bp w e)(q:yY w d=yY w e):d=e:=by
 have a:d.2=e.2:=KF Prod.fst q;have b:e9 (row w d.2) d.1=e9 (row w e.2) e.1:=KF Prod.snd q;rw[<-a] at b;have f:d.1∈row w d.2:=g.sym _ _ h;have i:e.1∈row w d.2:=by rw[a];exact g.sym _ _ c
 exact aaW (Jz (g.nod _) f i b) a
def bD(w:W):List (Nat×Nat):=(am w.length).flatMap λp=>(row w p).map λq=>(p,q)
def bz:d∈bD w↔bp w d:=by
 unfold bD bp;rw[List.mem_flatMap]
 constructor
 .rintro⟨p,_,h⟩
  obtain⟨q,a,rfl⟩:=cM.mp h;exact a
 .intro h
  exact#[d.1,eJ.mpr (cT h),cM.mpr #[d.2,h,rfl]]
theorem aD [DecidableEq b]:∀{l m:List b},l.Nodup->(∀x∈l,x∈m)->l.length<=m.length
 | [],_,_,_=>fg _
 |a::r,m,g,h=>by
  have c:=iV.mp g;have d:=h a dH;have i:=aD (l:=r) (m:=m.erase a) c.2 λx f=>(List.mem_erase_of_ne (λ(e:x=a)=>c.1 (by rw[<-e];exact f))).mpr (h x (eM _ f))
  rw[List.length_erase_of_mem d] at i
  have:=wF d
  simp only[cx];lia
def dO(g:Good w)(p:Nat):(row w p).length<=w.length:=by
 have:=aD (m:=am w.length) (g.nod p) λx a=>eJ.mpr (g.rng _ _ a)
 simpa using this
theorem AS{f:b->List c}{k:Nat}:∀{l:List b},(∀x∈l,(f x).length<=k)->(l.flatMap f).length<=l.length*k
 | [],_=>by simp
 |a::r,h=>by
  have e:=AS (f:=f) (k:=k) (l:=r) λx d=>h x (eM _ d)
  have:=h a dH
  rw[BC,cI,cx,Nat.succ_mul];lia
def km(g:Good w):(bD w).length<=w.length*w.length:=by
 have:=AS (f:=λp=>(row w p).map λq=>(p,q)) (k:=w.length) (l:=am w.length) λx _=>by rw[aS];exact dO g x
 rw[jR] at this;exact this
def bx(w:W):Nat->Nat×Nat->Nat×Nat
 |0,d=>d
 |n+1,d=>yY w (bx w n d)
theorem cY(g:Good w)(h:bp w d):∀n,bp w (bx w n d)
 |0=>h
 |n+1=>LZ g (cY g h n)
theorem fU(m:Nat):∀n,bx w (n+m) d=bx w n (bx w m d)
 |0=>by rw[uw];rfl
 |n+1=>by rw[Nat.succ_add];show yY w (bx w (n+m) d)=yY w (bx w n (bx w m d));rw[fU m n]
theorem tI(g:Good w)(h:bp w d)(a:bp w e):∀n,bx w n d=bx w n e->d=e
 |0,q=>q
 |n+1,q=>tI g h a n (yZ g (cY g h n) (cY g a n) q)
def walk(w:W)(d:Nat×Nat)(k:Nat):List (Nat×Nat):=(am k).map λi=>bx w i d
def sj(w:W)(d:Nat×Nat)(k:Nat):walk w d (k+1)=walk w d k++ [bx w k d]:=by
 unfold walk;rw[List.range_succ,cX];rfl
def fI(w:W)(d:Nat×Nat)(k:Nat):(walk w d k).length=k:=by unfold walk;simp
def nI(g:Good w)(h:bp w d):∀e∈walk w d k,bp w e:=λe a=>by
 obtain⟨i,_,rfl⟩:=cM.mp a;exact cY g h i
def qe(g:Good w)(h:bp w d)(a:∀j,0<j->j<k->bx w j d≠d):(walk w d k).Nodup:=by
 unfold walk dz;rw[mO];refine acI ?_ abz;intro i j l b lt e;have c:=eJ.mp b;have f:bx w i d=bx w i (bx w (j-i) d):=by rw[<-fU (j-i) i,show i+(j-i)=j by lia];exact e
 exact a (j-i) () () (tI g h (cY g h _) i f).symm
def zH(g:Good w)(h:bp w d){k:Nat}(a:∀j,0<j->j<k->bx w j d≠d):k<=(bD w).length:=by
 have:=aD (m:=bD w) (qe g h a) λe b=>bz.mpr (nI g h e b)
 rwa [fI] at this
def vH(g:Good w){S:Nat->Prop}(c:S 0)(d:∀p q,S p->q∈row w p->S q):∀p,p<w.length->S p:=λp e=>by
 have:∀{a b},Reach w a b->S a->S b:=λ {a b} h f=>by
  induction h with
  |refl=>exact f
  |step _ i j=>exact d _ _ j i
 exact this (g.con p e) c
def lexLe(a b:Nat×Nat):Prop:=a.1<b.1\/(a.1=b.1/\a.2<=b.2)
def LN(h:lexLe a b)(c:lexLe b a):a=b:=by
 unfold lexLe at h c;exact aaW () ()
def j5(a:Nat->List Nat)(n:Nat):List (Nat×Nat):=(am n).flatMap λp=>((a p).filter λq=>decide (p<q)).map λq=>(p,q)
theorem pN{e c:Type}{R:c->c->Prop}{f:e->List c}:∀{l:List e},(∀x∈l,(f x).Pairwise R)->l.Pairwise (λa b=>∀x∈f a,∀y∈f b,R x y)->(l.flatMap f).Pairwise R
 | [],_,_=>List.Pairwise.nil
 |a::r,h,p=>by
  have g:=List.pairwise_cons.mp p;rw[BC,List.pairwise_append];refine#[h a dH,pN (λx d=>h x (eM _ d)) g.2,λx d y i=>?_];obtain⟨b,j,k⟩:=List.mem_flatMap.mp i;exact g.1 b j x d y k
end Wb
namespace L2
open PySem PySem.Spec PyProof.Rows
section
variable {X:Cx}
def Sx(K:ac):V->List V->Hp->VK->Prop:=λx b H Q=>∃(l:Addr)(a:List V)(y:V)(j:Nat)(z:V),x= .ref l/\b= [y]/\H l\(.lst a)/\iI y=true/\a.all iI=true/\a[j]?\z/\yp z y=true/\
 (∀(m:Nat) z,m<j->a[m]?\z->yp z y=false)/\Q (.int j) H
def LW:MI X "list.index" (Sx X.K):=by
 intro A s Y H x Z v us Q I B C h;rfl';obtain⟨l,d,y,j,z,rfl,rfl,G,J,fs,f,L,M,q⟩:=h;subst B;obtain⟨u,rfl,N⟩:=C.one;obtain⟨kC,a,n,r,hl,e⟩:=I.qU G;obtain⟨w,hw,O⟩:=r.get f;ac_rfl
 have P:j<a.toArray.size:=by
  obtain⟨b,_⟩:=dZ.mp hw;simpa using b
 have flat:∀(m:Nat) z,d[m]?\z->iI z=true:=λm z h=>(acK.mp fs) z (fb h)
 have g:a.toArray[j]=w:=by
  obtain⟨b,i⟩:=dZ.mp hw;simpa using i
 have c8:=qB
 have R:j<d.length:=by
  obtain⟨b,_⟩:=dZ.mp f;exact b
 refine aa5 F.slot_list_index #[_,e,rfl] F.entry_list_index (F.args_list_index_2 _ _) (SeqAt.list_indexAt l a.toArray n none #[] u (qJ y) j P () ?_ ?_) #[e,λw hw=>j9 N J r fs w (~~~hw),?_]
 .rw[g,xp O (flat j z f)];exact L
 .intro m S T
  have CD:m<a.length:=by simpa using S
  obtain⟨c,k⟩:∃c,d[m]?\c:=#[_,cZ ()]
  obtain⟨U,o,p⟩:=r.get k
  have t:a.toArray[m]=U:=by
   obtain⟨b,i⟩:=dZ.mp o;simpa using i
  rw[t,xp p (flat m c k)];exact M m c T k
 .exact#[.int j,H,I.tok _,#[_,rfl],q]
end
mutual
inductive Dp (K:ac) (H:Hp):V->PyData->Prop
 |bo:Dp K H .bo .none
 |bl (b:Bool):Dp K H (.bl b) (.bool b)
 |int (i:Int):Dp K H (.int i) (.int i)
 |str (x:Str) (h:PyData.strOk x=true):Dp K H (.str x) (.str x)
 |lst {a:Addr} {xs:List V} {ds:List PyData}:cK K H a xs->jI K H xs ds->Dp K H (.ref a) (.list ds)
 |tup {a:Addr} {xs:List V} {ds:List PyData}:gj K H a xs->jI K H xs ds->Dp K H (.ref a) (.tuple ds)
inductive jI (K:ac) (H:Hp):List V->List PyData->Prop
 |nil:jI K H [] []
 |cons {v:V} {vs:List V} {d:PyData} {ds:List PyData}:Dp K H v d->jI K H vs ds->jI K H (v::vs) (d::ds)
end
section
variable {X:Cx} {pins:List (Addr×Obj)} {σ:St} {H:Hp} {s:Shared}
mutual
theorem Dp.reads(I:Inv X pins σ H s):∀{v:V}{d:PyData}{u:Value},Dp X.K H v d->RelV v u->(∃as,Reads s.heap u d as)/\d.canLay0=true
 |_,_,_, .bo,r=>by cases r;exact#[#[_, .none],rfl]
 |_,_,_, .bl b,r=>by cases r;exact#[#[_, .bool b],rfl]
 |_,_,_, .int i,r=>by obtain⟨t,rfl⟩:=r;exact#[#[_, .int i t],rfl]
 |_,_,_, .str x h,r=>by obtain⟨t,rfl⟩:=r;exact#[#[_, .str x t],by simpa [PyData.canLay0] using h]
 |_,_,_, .lst h a,r=>by
  cases r;obtain⟨its,rv,pl,hz⟩:=I.list h;obtain⟨⟨as,ra⟩,c⟩:=jI.reads I a rv;obtain⟨o,ho,hc,n,hd⟩:=pl.isList;exact#[#[_, .list ho hc hd (~~~ra)],by simpa [PyData.canLay0] using c]
 |_,_,_, .tup h a,r=>by
  cases r;obtain⟨its,rv,pl,hz⟩:=I.tuple h;obtain⟨⟨as,ra⟩,c⟩:=jI.reads I a rv;obtain⟨o,ho,hc,n,hd⟩:=pl;exact#[#[_, .tuple ho hc hd (~~~ra)],by simpa [PyData.canLay0] using c]
theorem jI.reads(I:Inv X pins σ H s):∀{vs:List V}{ds:List PyData}{us:List Value},jI X.K H vs ds->Vals vs us->(∃as,ReadsAll s.heap us ds as)/\PyData.canLayAll0 ds=true
 |_,_,_, .nil, .nil=>#[#[_, .nil],by simp[PyData.canLayAll0]]
 |_,_,_, .cons a as, .cons r rs=>by
  obtain⟨⟨x,h1⟩,c1⟩:=Dp.reads I a r;obtain⟨⟨y,h2⟩,c2⟩:=jI.reads I as rs;exact#[#[_, .cons h1 h2],by simp[PyData.canLayAll0,c1,c2]]
end
end
section
variable {X:Cx}
def ZC(K:ac):R2:=λx y H Q=>∃d e,Dp K H x d/\Dp K H y e/\d.depth<=64/\Q (.bl (PyData.eqv d e)) H
def ZF(K:ac):R2:=λx y H Q=>∃d e,Dp K H x d/\Dp K H y e/\d.depth<=64/\Q (.bl (!PyData.eqv d e)) H
def R1(n:X.A.units+64<cLine):OpR X (compareOp .Eq) (ZC X.K):=by
 intro a s o H x y v u Q I b c h;rfl';obtain⟨d,e,g,i,r,q⟩:=h;obtain⟨⟨as,j⟩,k⟩:=g.reads I b;obtain⟨⟨bs,l⟩,m⟩:=i.reads I c;ac_rfl;exact SeqAt.compareEq_reads j l k m (by have:=Nat.min_le_left d.depth e.depth;lia) #[.bl _,H,I,rfl,q]
def R6(n:X.A.units+64<cLine):OpR X (compareOp .NotEq) (ZF X.K):=by
 intro a s o H x y v u Q I b c h;rfl';obtain⟨d,e,g,i,r,q⟩:=h;obtain⟨⟨as,j⟩,k⟩:=g.reads I b;obtain⟨⟨bs,l⟩,m⟩:=i.reads I c;ac_rfl;exact SeqAt.compareNe_reads j l k m (by have:=Nat.min_le_left d.depth e.depth;lia) #[.bl _,H,I,rfl,q]
end
def nD(n:Nat):PyData:= .int n
def nS(r:List Nat):PyData:= .list (r.map nD)
theorem kY{e:Type}{f:e->PyData}(g:∀a b,PyData.eqv (f a) (f b)=true↔a=b):∀c d:List e,PyData.eqvAll (c.map f) (d.map f)=true↔c=d
 | [],[]=>by simp[PyData.eqvAll]
 | [],_::_=>by simp[PyData.eqvAll]
 |_::_,[]=>by simp[PyData.eqvAll]
 |a::c,b::d=>by
  have h:=kY g c d;simp[PyData.eqvAll,g,h]
def Q9(a b:Nat):PyData.eqv (nD a) (nD b)=true↔a=b:=by
 simp[nD,PyData.eqv];lia
def uL(a b:List Nat):PyData.eqv (nS a) (nS b)=true↔a=b:=by
 unfold nS;rw[PyData.eqv];exact kY Q9 a b
theorem jh{f:c->PyData}{k:Nat}(d:∀a,(f a).depth<=k):∀b:List c,PyData.depthAll (b.map f)<=k
 | []=>by simp[PyData.depthAll]
 |a::b=>by
  have:=d a
  have e:=jh d b;simp[PyData.depthAll];lia
def oQ(a:List Nat):(nS a).depth<=2:=by
 unfold nS;rw[PyData.depth]
 have:=jh (f:=nD) (k:=1) (λn=>by simp[nD,PyData.depth]) a
 lia
def ug(w:List (List Nat)):PyData:= .list (w.map nS)
def AO(a b:List (List Nat)):PyData.eqv (ug a) (ug b)=true↔a=b:=by
 unfold ug;rw[PyData.eqv];exact kY uL a b
def E9(a:List (List Nat)):(ug a).depth<=3:=by
 unfold ug;rw[PyData.depth]
 have:=jh (f:=nS) (k:=2) oQ a
 lia
end L2
namespace L2
open PySem PySem.Spec PyProof.Rows
theorem Vals.of_get:∀{a:List V}{b:List Value},a.length=b.length->(∀(k:Nat) x u,a[k]?\x->b[k]?\u->RelV x u)->Vals a b
 | [],[],_,_=> .nil
 | [],_::_,h,_=>by simp at h
 |_::_,[],h,_=>by simp at h
 |x::a,u::b,h,r=> .cons (r 0 x u rfl rfl) (Vals.of_get (~~~h) λk y w c d=>r (k+1) y w (~~~c) (~~~d))
section
variable {X:Cx}
def BW:CallR X (.builtin "isinstance") (λa H Q=>∃(x:V)(n:String)(t:Value)(b:Bool),a= [x, .ty n]/\kX X.K H x t/\aj X.K t (.type n)\b/\Q (.bl b) H):=by
 intro c s k H a l Q I d h;rfl';obtain⟨x,n,t,b,rfl,g,e,q⟩:=h;obtain⟨o,p,rfl,i,j⟩:=d.two;subst j;ac_rfl;exact IC I i g e λr=>#[.bl b,H,I.tok _,rfl,q]
def nA(i:Int)(n:Nat):List V:=(am n).map λ(k:Nat)=>V.int (i+(k:Int))
theorem oM(r:X.calm=true):CallR X (.type "list") (λg H Q=>∃(p:Addr)(i j:Int),g= [.ref p]/\H p\(.rng i j)/\-(2^62)<=i/\i<2^62/\-(2^62)<=j/\j<2^62/\(j-i).toNat<=1000/\
  ∀q,H q=none->Q (.ref q) (upd H q (.lst (nA i (j-i).toNat)))):=by
 intro l s R H g S Q I y h;rfl';obtain⟨p,i,j,rfl,B,C,E,F,G,U,q⟩:=h;obtain⟨u,rfl,J⟩:=y.one;subst J;obtain⟨t,u,v,e⟩:=(show cp X.prog X.w H s.heap p (.rng i j) from I.hok p _ B);ac_rfl;refine call_list_range (n:=(j-i).toNat) (I.ok.hd r) e (small_one C E F G) ?_ () λY Z f c L M m=>?_
 .rw[rangeSize_one];split<;>lia
 .have cw:1000<=sizeLine:=∅
  refine#[.ref s.heap.objs.size,_,I.laid L (bM _) (o:= .lst (nA i (j-i).toNat)) #[by unfold nA;simp;lia,f.toList,c,?_,by simpa using M],rfl,q _ (I.hok.fresh (bM _))]
  refine Vals.of_get (by unfold nA;simp[m.1]) λk x w d hw=>?_
  unfold nA at d;rw[fi] at d;obtain⟨N,O⟩:=m.2 k w (by rw[<-gE];exact hw)
  have P:(am (j-i).toNat)[k]?\k:=by
   cases q:(am (j-i).toNat)[k]? with
   |none=>rw[q] at d;cases d
   |some z=>
    obtain⟨a,b⟩:=dZ.mp q;rw[List.getElem_range] at b;rw[b]
  rw[P] at d;obtain rfl:=FM d;exact#[N,by rw[O,Int.mul_one]]
end
theorem x9(b g h k f:Expr)(i l:List Expr)(a:Scope)(d:Pos)(j e:Value)(env:Env):
  compTurn (.ListComp b [#[g,h,i,0],#[k,f,l,0]] a d) 0 j e env=(do
   standAt h.pos
   match <-pyNext j with
   |none=>pure (.done .next)
   |some v=>
    letOwnedTupleGo g j v
    assign g env v
    let ok <-forIn i true λc r=>if r=true then do let ok <-isTrue c env (eval c env);pure (ForInStep.yield ok) else pure (ForInStep.yield r)
    if ok=true then
     let x <-eval f env
     standAt f.pos
     let x <-foldedSetIterable f env x
     let m <-holding [x] (pyIter x)
     let _ <-runOwn (.compStart (.ListComp b [#[g,h,i,0],#[k,f,l,0]] a d) 1 m e env) env
     again (.compLoop (.ListComp b [#[g,h,i,0],#[k,f,l,0]] a d) 0 j e env)
    else again (.compLoop (.ListComp b [#[g,h,i,0],#[k,f,l,0]] a d) 0 j e env)):=by rfl
theorem ya(b j k f h:Expr)(l i:List Expr)(a:Scope)(e:Pos)(g d:Value)(env:Env):
  compTurn (.ListComp b [#[j,k,l,0],#[f,h,i,0]] a e) 1 g d env=(do
   standAt h.pos
   match <-pyNext g with
   |none=>pure (.done .next)
   |some v=>
    letOwnedTupleGo f g v
    assign f env v
    let ok <-forIn i true λc r=>if r=true then do let ok <-isTrue c env (eval c env);pure (ForInStep.yield ok) else pure (ForInStep.yield r)
    if ok=true then
     (do let _ <-call (.builtin "list.append") [d,<-eval b env])
     again (.compLoop (.ListComp b [#[j,k,l,0],#[f,h,i,0]] a e) 1 g d env)
    else again (.compLoop (.ListComp b [#[j,k,l,0],#[f,h,i,0]] a e) 1 g d env)):=by rfl
section
variable {X XC:Cx} {elt i0 t0 i1 t1:Expr} {f0 f1:List Expr} {scope:Scope} {pos:Pos} {wi ic:TI} {g g1:TG} {tt eI:TT} {te:TE} {src:List (Option Nat)} {NC:List Str}
theorem wR{b a:Value}{env:Env}{R:Result->Shared->Prop}{s:Shared}{A:Around}
  (c:codeAny (model X.prog X.w) A (.compLoop (.ListComp elt [#[t0,i0,f0,0],#[t1,i1,f1,0]] scope pos) 1 b a env) R s)
  (d:∀(Q:Value->Shared->Prop)(E:Value->Shared->Prop),Q b s->wpAny (model X.prog X.w) A (pyIter b) Q E s):
  codeAny (model X.prog X.w) A (.compStart (.ListComp elt [#[t0,i0,f0,0],#[t1,i1,f1,0]] scope pos) 1 b a env) R s:=by
 refine codeAny_of_tree ?_;refine wpAny_notedAt ?_;unfold compStart;refine wpAny_bind (wpAny_askSetting (wpAny_ite ?_))
 split
 .first
   |exact wpAny_bind (wpAny_pure (wpAny_pure #[rfl,c]))
   |exact wpAny_pure #[rfl,c]
 .refine wpAny_bind (wpAny_rule ?_)
  exact wpAny_bind (wpAny_standAt (wpAny_bind (d _ _ (wpAny_pure #[rfl,c]))))
theorem EZ{a:List (Addr×Obj)}{s:Shared}{σ:St}{H:Hp}{Z D:Addr}{F:List Addr}{g:Nat->Heap->Prop}{J:It}{R:Result->Shared->Prop}{N:St->Hp->Prop}
  (Rw:XC.xe=λ_ _=>False) (hc:XC.calm=true) (I:Inv XC a σ H s) (T:Turn XC.prog XC.w XC.K t1 J F Z g) (st:g 0 s.heap) (f2:∀b∈F,gz XC a H b)
  (hg:PG XC t1 g1) (ht:oH XC f1 eI) (he:PE XC elt te)
  (hW:∃W:Nat->Nat->St->Hp->Prop,(∃m,W 0 m σ H)/\∀i m fK O,W i m fK O->(J.stop i O/\N fK O)\/
   (J.go i O/\∃L:St->Hp->Prop,(∀j c,L j c->∃m',m'<m/\W (i+1) m' j c)/\∀x H3,J.yld i O x H3->g1 x fK H3 λgf H4=>eI gf H4 λb H5=>
    if b=true then te gf H5 λv H6=>∃P,H6 D\(.lst P)/\P.length<sizeLine/\L gf (upd H6 D (.lst (P++ [v]))) else L gf H5))
  (hR:∀j c B,Inv XC a j c B->N j c->R (.ok .next) B):
  codeAny (model XC.prog XC.w) XC.A (.compStart (.ListComp elt [#[t0,i0,f0,0],#[t1,i1,f1,0]] scope pos) 1 (.ref Z) (.ref D) XC.env) R s:=by
 obtain⟨W,⟨m0,w0⟩,turn⟩:=hW
 have lK:∀{α:Type}{t:Sem α}{Q:α->Shared->Prop}{E:Value->Shared->Prop}{s:Shared},wpAny (model XC.prog XC.w) XC.A t Q XC.xe s->wpAny (model XC.prog XC.w) XC.A t Q E s:=λ {α t Q E s} h=>
  wpAny_mono h (λ_ _ q=>q) λ_ _ f=>by rw[Rw] at f;exact f.elim
 have l:∀{c:Hp},(∀b∈F,c b=none)->∀b∈F,gz XC a c b:=λhn b C=>#[hn b C,(f2 b C).2]
 have S:codeAny (model XC.prog XC.w) XC.A (.compLoop (.ListComp elt [#[t0,i0,f0,0],#[t1,i1,f1,0]] scope pos) 1 (.ref Z) (.ref D) XC.env) R s:=by
  refine adg rfl (λn B=>∃i j c,Inv XC a j c B/\g i B.heap/\(∀b∈F,c b=none)/\W i n j c) (λn B hI=>?_) m0 #[0,σ,H,I,st,λb C=>(f2 b C).1,w0];rfl';obtain⟨i,j,c,I5,xh,z8,w5⟩:=hI;ac_rfl;show wpAny _ XC.A ((compTurn (.ListComp elt [#[t0,i0,f0,0],#[t1,i1,f1,0]] scope pos) 1 (.ref Z) (.ref D) XC.env).onRaise (λx=>do noteFrame x XC.env;theTreesLotGoes x)) _ _ B
  refine wpAny_noted ?_;rw[ya];refine ir (aaM (ir ?_))
  rcases turn i n j c w5 with ⟨stop,qn⟩ | ⟨go,L,hN,step⟩
  .refine thn (T.done XC rfl rfl rfl hc i a B j c _ I5 (l z8) xh stop) λr s6 k=>?_
   obtain⟨hr,I6⟩:=k;subst hr;exact mo (hR j c s6 I6 qn)
  .refine thn (T.item XC rfl rfl rfl hc i a B j c _ I5 (l z8) xh go) λr s6 k=>?_
   rfl';obtain⟨u,hr,h6⟩:=k;ac_rfl;subst hr;refine ir (thn h6 λ_ s7 k=>?_);rfl';obtain⟨x,H7,I7,r7,y7,zy,NT⟩:=k;ac_rfl;have MF:=I7.pinned (l NT) (T.obj _ _ zy)
   have nextT:∀{z:St}{G:Hp}{M:Shared},Inv XC (a++nv F s7.heap) z G M->L z G->∃m,m<n/\∃i j c,Inv XC a j c M/\g i M.heap/\(∀b∈F,c b=none)/\W i m j c:=λ {z G M} Y n8=>by
    obtain⟨m',hm,w8⟩:=hN z G n8;refine#[m',hm,i+1,z,G,Y.kg,T.keep _ _ _ zy λb C o e=>(Y.pin (b,o) (dP _ (dP _ (fj C e)))).1,λb C=>?_,w8];obtain⟨o,e,d⟩:=T.obj _ _ zy b C;exact(Y.pin (b,o) (dP _ (dP _ (fj C e)))).2.1
   refine ir (lK (thn (hg _ s7 j H7 x u _ MF r7 (step x H7 y7)) λ_ M k=>?_));rfl';obtain⟨z,G,Y,q8⟩:=k;ac_rfl;refine ir (lK (thn (ht _ M z G _ Y q8) λb s9 k=>?_));obtain⟨H9,I9,q9⟩:=k;cases b with
   |false=>
    rw[tz cQ] at q9;exact mo #[rfl,nextT I9 q9]
   |true=>
    rw[AC rfl] at q9;refine ir (ir (lK (thn (he _ s9 z H9 _ I9 q9) λy SE k=>?_)));rfl';obtain⟨v,QF,Ut,Wq,P,hD,hz,Wn⟩:=k;ac_rfl;refine ir (lK (thn (mZ _ SE z QF (.ref D) [v] _ [y] (λ_ c=>L z c) Ut rfl (.cons Wq .nil) #[_,P,v,rfl,rfl,hD,hz,Wn]) λ_ SG k=>?_));rfl';obtain⟨_,Us,ME,_,Wo⟩:=k;ac_rfl;exact mo (mo #[rfl,nextT ME Wo])
 exact wR (X:=XC) S λQ E q=>T.self _ 0 _ _ _ st q
def tIn(p:TG)(q:TT)(r:TE)(D:Addr)(J:It)(N:St->Hp->Prop):St->Hp->Prop:=λs H=>
 ∃W:Nat->Nat->St->Hp->Prop,(∃m,W 0 m s H)/\∀i m d a,W i m d a->(J.stop i a/\N d a)\/
  (J.go i a/\∃e:St->Hp->Prop,(∀h j,e h j->∃k,k<m/\W (i+1) k h j)/\∀x l,J.yld i a x l->p x d l λc t=>q c t λb n=>
   if b=true then r c n λv o=>∃f,o D\(.lst f)/\f.length<sizeLine/\e c (upd o D (.lst (f++ [v]))) else e c n)
def Up(g:TG)(l:TT)(n:TI)(o:TG)(p:TT)(q:TE)(D:Addr)(J:It)(Q:VK)(r:St)(H:Hp):Prop:=
 ∃W:Nat->Nat->St->Hp->Prop,(∃m,W 0 m r H)/\∀i m d a,W i m d a->
  (J.stop i a/\Q (.ref D) a)\/
  (J.go i a/\∃N:St->Hp->Prop,(∀e f,N e f->∃h,h<m/\W (i+1) h e f)/\∀x j,J.yld i a x j->g x d j λc s=>l c s λb k=>
   if b=true then n c k λt u=>tIn o p q D t N c u else N c k)
def Um(c:TI)(g:TG)(d:TT)(e:TI)(f:TG)(h:TT)(i:TE)(src:List (Option Nat)):TE:=λa H Q=>c a H λJ b=>∀D,b D=none->Up g d e f h i D J Q (n4 src a) (upd b D (.lst []))
theorem B3{j:List (Addr×Obj)}{σ:St}{l:Shared}{P:Hp}{it:Addr}{F:List Addr}{Z:Nat->Heap->Prop}{J:It}{RR:Value->Addr->Result->Shared->Prop}{E:Value->Shared->Prop}{Q:VK}
  (hc:X.calm=true) (c:bQ X scope) (eU:c9 scope X.N src NC) (I2:Inv X j σ P l) (T:Turn X.prog X.w X.K t0 J F it Z) (l4:Z 0 l.heap) (f2:∀b∈F,gz X j P b)
  (hg:∀ex s H,PG (cH X scope NC ex s H) t0 g) (ht:∀ex s H,oH (cH X scope NC ex s H) f0 tt) (wX:∀ex s H,PI (cH X scope NC ex s H) t1 i1 ic) (Oi:∀ex s H,PG (cH X scope NC ex s H) t1 g1)
  (OA:∀ex s H,oH (cH X scope NC ex s H) f1 eI) (he:∀ex s H,PE (cH X scope NC ex s H) elt te) (FG:∀env x,foldedSetIterable i1 env x=pure x)
  (hW:∀D,P D=none->Up g tt ic g1 eI te D J Q (n4 src σ) (upd P D (.lst [])))
  (Vv:∀D B H3 G v I,Inv X j σ H3 B->(∀b∈F,gz X j H3 b)->Inv (cH X scope NC F B H3) [] G v I->Q (.ref D) v->RR (.ref D) B.heap.objs.size (.ok .next) I):
  wpAny (model X.prog X.w) X.A (newList []) (λacc GX=>wpAny (model X.prog X.w) X.A (newFunctionEnv scope X.env.globals (jO X.env scope.names []) [] X.env.qual none .none (some X.env)) (λoN zF=>
   codeAny (model X.prog X.w) X.A (.compStart (.ListComp elt [#[t0,i0,f0,0],#[t1,i1,f1,0]] scope pos) 0 (.ref it) acc {oN with scope:=relabel scope X.env}) (RR acc oN.locals) zF) E GX) E l:=by
 rfl';obtain⟨W,⟨m0,w0⟩,turn⟩:=hW l.heap.objs.size I2.fresh;have I3:Inv X j σ (upd P l.heap.objs.size (.lst [])) {l with heap:=l.heap.push {cls:= .type "list",data:= .seq ([]:List Value).toArray}}:=I2.Kl (its:= []) (t':=l.toks) .nil (fg _)
 ac_rfl
 have V6:∀b∈F,b<l.heap.objs.size:=λb k=>by
  obtain⟨o,e,_⟩:=T.obj _ _ l4 b k;exact Do e
 have f3:∀b∈F,gz X j (upd P l.heap.objs.size (.lst [])) b:=λb k=>#[by rw[aB (bJ (V6 b k))];exact(f2 b k).1,(f2 b k).2]
 refine Pi ?_
 suffices key:∀B:Shared,Inv X j σ (upd P l.heap.objs.size (.lst [])) B->(∀b o,l.heap.get? b\o->B.heap.get? b\o)->
   wpAny (model X.prog X.w) X.A (newFunctionEnv scope X.env.globals (jO X.env scope.names []) [] X.env.qual none .none (some X.env)) (λoN zF=>
    codeAny (model X.prog X.w) X.A (.compStart (.ListComp elt [#[t0,i0,f0,0],#[t1,i1,f1,0]] scope pos) 0 (.ref it) (.ref l.heap.objs.size) {oN with scope:=relabel scope X.env}) (RR (.ref l.heap.objs.size) oN.locals) zF) E B from
  key _ I3 λb o e=>Da _ e
 intro B I3 WR;have xg:Z 0 B.heap:=T.keep _ _ _ l4 λb _ o e=>WR b o e
 have II:∀b∈F,b<B.heap.objs.size:=λb k=>by
  obtain⟨o,e,_⟩:=T.obj _ _ xg b k;exact Do e
 generalize hH3:upd P l.heap.objs.size (.lst [])=H3 at I3 f3 w0;refine wpAny_newFunctionEnv c.nocell (by intro y hy;simp at hy) (λh1 CH CK=>?_) c.kind
 have I4:=AB (src:=src) (NC:=NC) (ex:=F) (tk:=B.toks+([]:List (Str×Value)).length) I3 c eU f3 II CH CK;have Qj:Z 0 h1:=T.keep _ _ _ xg λb k o e=>CK.extBut b o (bJ (II b k)) (Da _ e);generalize C:cH X scope NC F B H3=a at I4
 have L:∀{v:Hp},(∀b∈F,v b=none)->∀b∈F,gz a [] v b:=λ {v} hn b k=>by
  subst C;refine#[hn b k,bJ (II b k),λz=>?_, .inl k,λx d e=>?_,λp hp=>absurd (show p∈([]:List (Addr×Obj)) from hp) (by simp)]
  .exact(I4.ok.exfs b k) z
  .exact(I4.ok.exf b k).2 x d e
 have Lz:a.calm=true:=by subst C;exact hc
 have eP:a.prog=X.prog:=by subst C;rfl
 have ew:a.w=X.w:=by subst C;rfl
 have eK:a.K=X.K:=by subst C;rfl
 have eA:a.A=X.A:=by subst C;rfl
 have Rw:a.xe=λ_ _=>False:=by subst C;rfl
 have VH:PG a t0 g:=by subst C;exact hg _ _ _
 have VT:oH a f0 tt:=C▸ht _ _ _;have hiC:PI a t1 i1 ic:=C▸wX _ _ _;have YA:PG a t1 g1:=C▸Oi _ _ _;have YR:oH a f1 eI:=C▸OA _ _ _;have VF:PE a elt te:=C▸he _ _ _
 have lK:∀{α:Type}{t:Sem α}{Q:α->Shared->Prop}{E:Value->Shared->Prop}{s:Shared},wpAny (model a.prog a.w) a.A t Q a.xe s->wpAny (model X.prog X.w) X.A t Q E s:=λ {α t Q E s} h=>by
  rw[<-eP,<-ew,<-eA];exact wpAny_mono h (λ_ _ q=>q) λ_ _ f=>by rw[Rw] at f;exact f.elim
 have S:codeAny (model X.prog X.w) X.A (.compLoop (.ListComp elt [#[t0,i0,f0,0],#[t1,i1,f1,0]] scope pos) 0 (.ref it) (.ref l.heap.objs.size) a.env) (RR (.ref l.heap.objs.size) B.heap.objs.size)
   {B with heap:=h1,toks:=B.toks+([]:List (Str×Value)).length}:=by
  refine adg rfl (λn I=>∃i G v,Inv a [] G v I/\Z i I.heap/\(∀b∈F,v b=none)/\W i n G v) (λn I hI=>?_) m0 #[0,_,_,I4,Qj,λb k=>(f3 b k).1,w0];rfl';obtain⟨i,G,v,I5,xh,z8,w5⟩:=hI;ac_rfl;show wpAny _ X.A ((compTurn (.ListComp elt [#[t0,i0,f0,0],#[t1,i1,f1,0]] scope pos) 0 (.ref it) (.ref l.heap.objs.size) a.env).onRaise (λx=>do noteFrame x a.env;theTreesLotGoes x)) _ _ I
  refine wpAny_noted ?_;rw[x9];refine ir (aaM (ir ?_))
  rcases turn i n G v w5 with ⟨stop,qn⟩ | ⟨go,N,hN,step⟩
  .have hd:=T.done a eP ew eK Lz i [] I G v (notedBy (model X.prog X.w) X.A a.env λe I=>RR (.ref l.heap.objs.size) B.heap.objs.size (.error e) I) I5 (L z8) xh stop
   rw[eA] at hd;refine thn hd λr s6 O=>?_;obtain⟨hr,I6⟩:=O;subst hr;refine mo ?_;subst C;exact Vv _ B _ G v s6 I3 f3 I6 qn
  .have hd:=T.item a eP ew eK Lz i [] I G v (notedBy (model X.prog X.w) X.A a.env λe I=>RR (.ref l.heap.objs.size) B.heap.objs.size (.error e) I) I5 (L z8) xh go
   rw[eA] at hd;refine thn hd λr s6 O=>?_;obtain⟨u,hr,h6⟩:=O;subst hr;refine ir (thn h6 λ_ s7 O=>?_);rfl';obtain⟨x,H7,I7,r7,y7,zy,NT⟩:=O;ac_rfl;have MF:=I7.pinned (L NT) (T.obj _ _ zy)
   have nextT:∀{U:St}{Y:Hp}{s8:Shared},Inv a ([]++nv F s7.heap) U Y s8->N U Y->∃m,m<n/\∃i G v,Inv a [] G v s8/\Z i s8.heap/\(∀b∈F,v b=none)/\W i m G v:=λ {U Y s8} I8 n8=>by
    obtain⟨m',hm,w8⟩:=hN U Y n8;refine#[m',hm,i+1,U,Y,I8.kg,T.keep _ _ _ zy λb k o e=>(I8.pin (b,o) (dP _ (dP _ (fj k e)))).1,λb k=>?_,w8];obtain⟨o,e,d⟩:=T.obj _ _ zy b k;exact(I8.pin (b,o) (dP _ (dP _ (fj k e)))).2.1
   refine ir (lK (thn (VH _ s7 G H7 x u _ MF r7 (step x H7 y7)) λ_ s8 O=>?_));rfl';obtain⟨U,Y,I8,q8⟩:=O;ac_rfl;refine ir (lK (thn (VT _ s8 U Y _ I8 q8) λb s9 O=>?_));obtain⟨H9,I9,q9⟩:=O;cases b with
   |false=>
    rw[tz cQ] at q9;exact mo #[C▸rfl,nextT I9 q9]
   |true=>
    rw[AC rfl] at q9;refine ir (lK (thn (hiC _ s9 U H9 _ I9 q9) λv1 SE h10=>?_));refine ir (aaM (ir (abc (FG _ v1) (ir (KM (lK (thn h10 λrP SG h11=>?_)))))));rfl';obtain⟨OF,fp1,tn1,J1,Us,rfl,ME,T1,ZR,f11,hin⟩:=h11;ac_rfl;refine ir (wpAny_runOwn ?_);have tr:∀(cd:Code)(R:Result->Shared->Prop),codeAny (model a.prog a.w) a.A cd R SG->codeAny (model X.prog X.w) X.A cd R SG:=λcd R h=>by rw[eP,ew,eA] at h;exact h
    exact tr _ _ (EZ Rw Lz ME T1 ZR f11 YA YR VF hin λG v I I12 n12=>mo #[C▸rfl,nextT I12 n12])
 subst C;exact ac2 S (T.self _ 0 _ _ _ Qj S)
def Sh(e:X.calm=true)(c:bQ X scope)(f:c9 scope X.N src NC)(i:PI X t0 i0 wi)
  (j:∀a s H,PG (cH X scope NC a s H) t0 g) (k:∀a s H,oH (cH X scope NC a s H) f0 tt) (wX:∀a s H,PI (cH X scope NC a s H) t1 i1 ic) (l:∀a s H,PG (cH X scope NC a s H) t1 g1)
  (n:∀a s H,oH (cH X scope NC a s H) f1 eI) (o:∀a s H,PE (cH X scope NC a s H) elt te)
  (p:∀x,foldedSetIterable i0 X.env x=pure x:=by intro _;rfl) (q:∀env x,foldedSetIterable i1 env x=pure x:=by intro _ _;rfl):
  PE X (.ListComp elt [#[t0,i0,f0,0],#[t1,i1,f1,0]] scope pos) (Um wi g tt ic g1 eI te src):=by
 intro b s r H Q I h;rw[eval_ListComp];refine abi (use:=none) rfl p (i9 (c.cells I.ok)) c.kind c.names (thn (i b s r H _ I h) λv M t=>thn t λO P u=>?_);obtain⟨R,S,U,J,Y,rfl,w,T,y,z,A⟩:=u
 exact B3 e c f w T y z j k wX l n o q A λD Z H3 aC B s' C E d F=>by
  obtain⟨m,G,_⟩:=d.loc;exact#[m,G,λh' L=>#[.ref D,B,comp_back C E d L,rfl,F]]
end
end L2
namespace KS
open PySem PySem.W PyProof.Rows
section
variable {prog:Program} {w:World} {A:Around} {E:Value->Shared->Prop} {s:Shared}
def wz(c:s.heap.get? a\(seqObj "list" b.toArray n))(j:b.length<2)
  (h:G (.done (.ret .none)) {s with heap:=sortedHeap s.heap a b b.toArray}):wpAny (model prog w) A (Builtin.«list.sort» #[[.ref a],[]]) G E s:=by
 rw[list_sort_plain];have m:a<s.heap.objs.size:=Do c;refine ir (listItems_at c rfl (ir (acq c rfl ?_)));obtain⟨l,d⟩:∃k,(s.heap.update a (Obj.mapSeq λ_=> #[])).get? a\(seqObj "list" #[] k):=#[_,ab0 c (λ_=> #[])];refine ir (ac3 d rfl (ir (wpAny_newTuple (ir (aa9 (KM ?_))))));have e:(((s.heap.update a (Obj.mapSeq λ_=> #[])).push (seqObj "tuple" b.toArray 0)).push (seqObj "list" #[] 0)).get? a\(seqObj "list" #[] l):=Da _ (Da _ d);show wpAny (model prog w) A _ G E {s with heap:=((s.heap.update a (Obj.mapSeq λ_=> #[])).push (seqObj "tuple" b.toArray 0)).push (seqObj "list" #[] 0)}
 dsimp only;have f:b.toArray.size<2:=j;rw[AC f,AC f];refine ir (mo ?_);rw[StateT.run_pure];refine ir (mo ?_);dsimp only
 have g:(arrOf (SortSt.mk' general' (b.toArray.zip b.toArray) #[] 7 none)).map (·.2)=b.toArray:=by
  show(b.toArray.zip b.toArray).map (·.2)=b.toArray;apply Array.toList_inj.mp;simp[List.map_snd_zip]
 refine ir (ac3 e rfl (ir (acq e rfl ?_ (hsz2:=by rw[g];rw[aa1];lia))))
 simp only[abr,f9,SZ];have i:=h;unfold sortedHeap at i;rw[g];exact mo i
def Aq(e:s.heap.IsList l a.toArray)(f:a.length<2)(h:G (.ref (s.heap.objs.size+1)) {s with heap:=sortedAll s.heap a a.toArray}):
  wpAny (model prog w) A (call (.builtin "sorted") [.ref l]) G E s:=by
 refine aaY ac4 acL acM (acN (.ref l)) ?_;unfold Builtin.«sorted»;have b:a.length<=sizeLine:=by rw[aa1];lia
 refine ir (m:=checkCount "sorted" 1 1 _) (mo (ir (adh e (ir (aa9 ?_ b)) b)));have c:((s.heap.push (seqObj "list" #[] 0)).update s.heap.objs.size (Obj.mapSeq (·++a.toArray))).objs.size=s.heap.objs.size+1:=by rw[aa0,aa6]
 have d:(((s.heap.push (seqObj "list" #[] 0)).update s.heap.objs.size (Obj.mapSeq (·++a.toArray))).push (seqObj "list" a.toArray 0)).get? (s.heap.objs.size+1)\(seqObj "list" a.toArray 0):=by
  rw[<-c];exact Gc _ rfl
 show wpAny (model prog w) _ _ _ E {s with heap:=((s.heap.push (seqObj "list" #[] 0)).update s.heap.objs.size (Obj.mapSeq (·++a.toArray))).push (seqObj "list" a.toArray 0)}
 rw[c];exact ir (KM (P3 slot_list_sort #[_,d,rfl] entry_list_sort (wz d f #[_,rfl,mo #[_,rfl,h]]) (abl _)))
end
end KS
namespace L2
open PySem PySem.Spec PyProof.Rows
section
variable {X:Cx} {pins:List (Addr×Obj)} {σ:St} {H:Hp} {s:Shared} {h':Heap}
end
def Jf(k:Nat×Nat):List V:= [.int (k.1:Nat), .int (k.2:Nat)]
def Hv(H:Hp)(L:List (Addr×(Nat×Nat))):Prop:=∀p∈L,H p.1\(.tup (Jf p.2))
def RD 
  (n:IsTup s.heap x [.int a i, .int b j].toArray) (o:IsTup s.heap y [.int c k, .int d l].toArray)
  (h:C (if a=c then decide (b<d) else decide (a<c)) s):wpAny (model prog w) A (keyLt' (tuples' true) (.ref x) (.ref y)) C E s:=by
 rfl';obtain⟨u,f,_,v,q⟩:=n;obtain⟨z,g,_,B,r⟩:=o;ac_rfl;refine PySem.W.kat_lt f q g r ?_;refine PySem.W.kat_cons (abh a i c k prog w _ _ ?_)
 by_cases e:a=c
 .rw[AC e] at h
  rw[show(a==c)=true by simpa using e]
  refine PySem.W.kat_yes (PySem.W.kat_cons (abh b j d l prog w _ _ ?_))
  by_cases m:b=d
  .rw[show(b==d)=true by simpa using m]
   refine PySem.W.kat_yes (PySem.W.kat_nil ?_);rw[show decide (b<d)=false by simp;lia] at h
   simpa using h
  .rw[show(b==d)=false by simpa using m]
   refine PySem.W.kat_no (PySem.W.kat_one _ _ ?_);exact lt_int h
 .rw[tz e] at h
  rw[show(a==c)=false by simpa using e]
  exact PySem.W.kat_no (oneLt_int h)
section
variable {X:Cx}
theorem si:∀{as:List Addr}{us:List Value},Vals (as.map V.ref) us->us=as.map Value.ref
 | [],_, .nil=>rfl
 |a::as,_, .cons r t=>by cases r;rw[si t];rfl
theorem r6:∀as:List Addr,Vals (as.map V.ref) (as.map Value.ref)
 | []=> .nil
 |a::as=> .cons rfl (r6 as)
def L5(I:Inv X b c H s)(h:H a\(.tup (Jf k))):
  ∃t u,IsTup s.heap a [.int (k.1:Nat) t, .int (k.2:Nat) u].toArray:=by
 rfl';obtain⟨e,r,p,_⟩:=I.tuple (gj.of h);obtain⟨g,i,rfl,⟨t,rfl⟩,⟨u,rfl⟩⟩:=Vals.two r;ac_rfl;exact#[t,u,p]
end
end L2
set_option maxHeartbeats 4000000
namespace L2
open PySem PySem.Spec PySem.Calls PyProof.Rows PySem.W Builtin Builtin.ObjectAttr
def Ag(s:String):Value->Bool
 | .type a=>a==s
 |_=>false
def Kh(l:List Value):Bool:=match l with
 |a::b::c::d::r=>Ag "ValueError" a&&Ag "Exception" b&&Ag "BaseException" c&&Ag "object" d&&r.isEmpty
 |_=>false
def isRef:Value->Bool
 | .ref _=>true
 |_=>false
def qE:List Value->Bool
 | []=>false
 |v::r=>if isRef v then qE r else Kh (v::r)
def xu(h:Ag s v=true):v= .type s:=by
 unfold Ag at h
 split at h
 .rw[aaN.mp h]
 .cases h
def yN(h:Kh l=true):l= [.type "ValueError", .type "Exception", .type "BaseException", .type "object"]:=by
 cases l with
 |nil=>cases h
 |cons a l=>cases l with
  |nil=>cases h
  |cons b l=>cases l with
   |nil=>cases h
   |cons c l=>cases l with
    |nil=>cases h
    |cons d r=>
     have h:(Ag "ValueError" a&&Ag "Exception" b&&Ag "BaseException" c&&Ag "object" d&&r.isEmpty)=true:=h;simp only[uu] at h;rw[xu h.1.1.1.1,xu h.1.1.1.2,xu h.1.1.2,xu h.1.2,List.isEmpty_iff.mp h.2]
def DM(K:Frag)(C:Addr):Bool:=(clsIn K C).any λa=>qE a.mro
structure jN (K:Frag) (C:Addr):Prop where
 hd:hasDictIn K C=true
 ga:findIn K (.ref C) "__getattribute__"\(some (.builtin "BaseException.__getattribute__"))
 gh:findIn K (.ref C) "__getattr__"\none
 sa:findIn K (.ref C) "__setattr__"\(some (.builtin "object.__setattr__"))
 ov:DM K C=true
 cl:findIn K (.ref C) "__class__"\(some (.builtin "object.__class__"))
 be:mroIn K C (.type "BaseException")\true
 ob:mroIn K C (.type "object")\true
section
variable {prog:Program} {w:World} {A:Around} {E:Value->Shared->Prop} {s:Shared} {K:Frag} {x C:Addr} {ox:Obj} {od:Option Obj} {name:Str}
def Bt{fill a:Bool}{b:Tok}{Q:Value->Shared->Prop}(X:K.In s.heap)(I:InstAt s.heap x ox C od)(c:jN K C)
  (h:wpAny (model prog w) A.in1 (Builtin.«object.__getattribute__» #[[.ref x, .str name b],[]]) (λfin d=>match fin with| .done (.ret v)=>wpAny (model prog w) A (handedOut v) Q E d|_=>False) (λ_ _=>False) s):
  wpAny (model prog w) A (getAttrBy (.ref x) (.str name b) fill a) Q E s:=by
 unfold getAttrBy;refine KM (ir (I.type _ _ _ _ (λ_ _ e=>e) (ir (looks_findIn X c.ga _ _ _ _ (λ_ _ e=>e) ?_))));dsimp only;rw[show(onTheHeap (.ref C)&&Value.builtin "BaseException.__getattribute__"==Value.builtin "object.__getattribute__")=false from by rw[show(Value.builtin "BaseException.__getattribute__"==Value.builtin "object.__getattribute__")=false from by decide+kernel,zM],tz ∅]
 unfold getAttrByItsOwn;refine ir (looks_hook (mc:= .ref C) (r:=none) X c.gh _ _ _ _ (λ_ _ e=>e) (ir (aba (KM ?_))));unfold callGetattribute;rw[show(a&&onTheHeap (Value.builtin "BaseException.__getattribute__"))=false from zM _,tz ∅]
 unfold boundAndCalled;rw[F.excAttr_ValueError.ga.bind];refine ir (mo ?_);show wpAny _ _ (call (.builtin "BaseException.__getattribute__") [.ref x, .str name b]) _ _ _;refine aaQ ?_;refine aa7 F.excAttr_ValueError.ga.plain F.entry_bexc_ga ?_;refine @check_slot (model prog w) _ _ s "BaseException.__getattribute__" "BaseException" "__getattribute__" (.ref x) [.str name b] [] _ (by decide+kernel) (by decide+kernel) (I.type.andThen (looks_mroIn X c.be)) (F.args_bexc_ga (.ref x) (.str name b)) ?_
 refine wpAny_mono h (λfin d z=>?_) λ_ _ z=>z.elim
 rcases fin with (_|_|_|_) |_<;>first|exact z|exact z.elim
def JL(X:K.In s.heap)(I:InstAt s.heap x ox C od)(b:findObj K C od name\(.value v))(h:Q (.done (.ret v)) s):
  wpAny (model prog w) A (Builtin.«object.__getattribute__» #[[.ref x, .str name a],[]]) Q E s:=by
 obtain⟨c,g,d,t,os⟩:=s;have e:=I.type (M:=model prog w);have f:=looks_find (M:=model prog w) X I b;unfold Builtin.«object.__getattribute__»;refine ir (mo (ir (mo (ir (e.at (ir (f.at ?_)))))));exact mo h
def MC{P:Value->Shared->Prop}(X:K.In s.heap)(I:InstAt s.heap x ox C od)(e:findObj K C od name\(.bind g a))
  (h:wpAny (model prog w) A (call g [a, .ref x, .ref C]) P E s):
  wpAny (model prog w) A (Builtin.«object.__getattribute__» #[[.ref x, .str name c],[]]) (λfin b=>match fin with| .done (.ret v)=>P v b|_=>False) E s:=by
 obtain⟨f,k,d,t,os⟩:=s;have i:=I.type (M:=model prog w);have j:=looks_find (M:=model prog w) X I e;unfold Builtin.«object.__getattribute__»;refine ir (mo (ir (mo (ir (i.at (ir (j.at ?_)))))));exact ir (KM (wpAny_mono h (λv b z=>mo z) λ_ _ z=>z))
def Hf(X:K.In s.heap)(I:InstAt s.heap x ox C od)(c:jN K C)(b:findObj K C od name\(.value v))(d:handedIn v=true)(h:Q v {s with toks:=s.toks+1}):
  wpAny (model prog w) A (getAttr (.ref x) name a) Q E s:=by
 unfold getAttr;refine ir (wpAny_mkText ?_);refine Bt (s:={s with toks:=s.toks+1}) X I c (JL (s:={s with toks:=s.toks+1}) X I b ?_)
 show wpAny _ _ (handedOut v) _ _ _;rw[handedOut_of d];exact mo h
def Hg(X:K.In s.heap)(I:InstAt s.heap x ox C od)(c:jN K C)(b:specialIn K (.builtin "object.__class__") "__get__"\(some (.builtin "getset_descriptor.__get__")))(htk:takesIn K (.builtin "object.__class__")\true)
  (h:Q (some (.ref C)) {s with toks:=s.toks+1}):wpAny (model prog w) A (getAttr? (.ref x) "__class__") Q E s:=by
 have d:findObj K C od "__class__"\(.bind (.builtin "getset_descriptor.__get__") (.builtin "object.__class__")):=by
  obtain⟨f,e,_⟩:=acO c.hd;unfold findObj;rw[e,abH,c.cl,abH];dsimp only;rw[b,abH];dsimp only;rw[htk];rfl
 unfold getAttr? getAttrBy?;refine ir (wpAny_mkText (ir (aba ?_)))
 have key:wpAny (model prog w) A.in1 (Builtin.«object.__getattribute__» #[[.ref x, .str "__class__" s.toks],[]]) (λfin a=>match fin with| .done (.ret v)=>v= .ref C/\a={s with toks:=s.toks+1} |_=>False) (λ_ _=>False) {s with toks:=s.toks+1}:=by
  refine MC (P:=λv a=>v= .ref C/\a={s with toks:=s.toks+1}) (s:={s with toks:=s.toks+1}) X I d (aaQ (class_get (s:={s with toks:=s.toks+1}) (ox:=ox) (od:=od) X I c.ob ?_))
  exact#[rfl,rfl]
 refine Bt (s:={s with toks:=s.toks+1}) X I c (wpAny_mono key (λfin a z=>?_) λ_ _ z=>z.elim)
 rcases fin with (_|_|_|_) |_<;>first|exact z.elim|skip
 obtain⟨rfl,rfl⟩:=z;exact mo (mo h)
def A4(c:jN K C)(i:specialIn K (.builtin "object.__class__") "__get__"\(some (.builtin "getset_descriptor.__get__")))(htk:takesIn K (.builtin "object.__class__")\true):
  KitX K (.ref x) (.ref C) (λh=>InstAt h x ox C od) where
 ty:=λ_ _ _ I=>I.type
 it:=λ_ _ X _=>by
  obtain⟨b,a,_⟩:=acO c.hd;unfold clsIn at a
  split at a
  .rename_i j l d m f
   intro r t u v k q;unfold isType loadHead;exact ir (acd (k _ _ (X _ _ f)) (mo q))
  .cases a
 ne:=λh o y p n B X g=>by
  obtain⟨b,a,_⟩:=acO c.hd;refine qi.mpr λq=>?_;have e:C=o:=Value.ref.inj (aaN.mp q);subst e;unfold clsIn at a
  split at a
  .rename_i j l d m f
   have z:=(X _ _ f).symm.trans g;cases z
  .cases a
 ca:=λX I k=>Hg X I c i htk k
end
def Jo(self:Value)(e:qE l=true):refuseLoop self "__setattr__" l=pure ⟨⟩:=by
 induction l with
 |nil=>cases e
 |cons v r b=>
  rw[qE] at e;cases a:isRef v with
  |true=>
   rw[AC a] at e;cases v with
   |ref c=>rw[refuseLoop_ref];exact b e
   |_=>cases a
  |false=>
   rw[tz (by rw[a];exact cQ)] at e
   rw[yN e];exact F.store_ValueError.passes self
abbrev cS(C t:Addr)(d:Option Addr):Obj:={cls:= .ref C,dict:=d,data:= .fields [.ref t, .none, .none, .none, .bool false, .none].toArray}
section
variable {prog:Program} {w:World} {A:Around} {E:Value->Shared->Prop} {s:Shared} {K:Frag} {x C:Addr} {ox:Obj} {od:Option Obj} {name:Str} {R:Result->Shared->Prop}
theorem zJ(X:K.In s.heap)(I:InstAt s.heap x ox C od)(c:jN K C)(l:takerIn K C name\none)
  (h:∀b,wpAny (model prog w) A.in1 (storeInOwnDict (.ref x) (.ref C) (.str name i) name v b)
   (λfin j=>match fin with| .done f=>R (.ok f) j| .again k=>k.quiet=true/\codeAny (model prog w) A k R j) (λe j=>R (.error e) j) s):
  codeAny (model prog w) A (.call (.builtin "object.__setattr__") #[[.ref x, .str name i,v],[]]) R s:=by
 rfl';have g:=PySem.F.store_object;obtain⟨n,o,p⟩:=acO c.ov;have sub:Looks (model prog w) s.heap (isInstance (.ref x) (.type "object")) true:=I.type.andThen (looks_mroIn X c.ob);obtain⟨d,r,t⟩:=Option.bind_eq_some_iff.mp l;ac_rfl;refine aa7 g.slot.plain g.entry (@check_slot (model prog w) _ _ s "object.__setattr__" "object" "__setattr__" (.ref x) [.str name i,v] [] _ g.kind g.split sub (g.args (.ref x) (.str name i) v) ?_);have u:Looks (model prog w) s.heap (mroOf (.ref C)) n.mro:=(looks_clsIn X o).andThen .now
 have y:Looks (model prog w) s.heap (storeTaker? d) none:=by
  cases d with
  |none=>exact .now
  |some a=>
   obtain⟨b,z,q⟩:=Option.map_eq_some_iff.mp t;refine(looks_takesIn X z).andThen ?_;cases b with
   |true=>cases q
   |false=>exact .now
 rw[osa_eq,refuse_eq];refine ir (ir (I.type.here (ir (u.here ?_))));rw[Jo _ p];refine mo (ir (I.type.here (ir ((looks_findIn X r).here (ir (y.here ?_))))));exact h _
def WV(X:K.In s.heap)(c:jN K C)(j:s.heap.get? x\(cS C t (some d)))(k:s.heap.Ns1 d f)(ne:d≠x)(m:takerIn K C name\none)
  (hw:b0 f i) (G:i.length<=sizeLine)
  (h:∀e,e.Ns1 d (λy=>if y=name then some v else f y)->Heap.SameBut d s.heap e->Q ⟨⟩ {s with heap:=e,toks:=s.toks+2}):
  wpAny (model prog w) A (setAttr (.ref x) name v) Q E s:=by
 rfl';obtain⟨o,p,_⟩:=rU k;have J:InstAt s.heap x (cS C t (some d)) C (some o):=#[j,rfl,rfl,p];obtain⟨H,q,r⟩:=acO c.hd;ac_rfl;refine set_plain X J c.sa (zJ (s:={s with toks:=s.toks+1}) X J c m λb=>?_)
 refine ir (mo (ir (ir (acd j (ir (Looks.here (s:={s with toks:=s.toks+1}) (looks_clsIn X q) ?_))))))
 rw[r];refine mo (a:=some d) (ir (mo (ir ?_)));refine ade (s:={s with toks:=s.toks+1}) k λe l u=>?_
 rfl';obtain⟨oD,I,L,z,B,F⟩:=l.count (PySem.Within.cons name v hw);ac_rfl;refine ir (acD z (by rw[B];exact acE (iA F (by rw[cx];lia))) ?_)
 exact mo (h _ l u)
def WU(X:K.In s.heap)(c:jN K C)(i:s.heap.get? x\(cS C t none))(u:takerIn K C name\none)
  (h:∀f,f.Ns1 s.heap.objs.size (λy=>if y=name then some v else none)->f.get? x\(cS C t (some s.heap.objs.size))->(∀b o,b≠x->s.heap.get? b\o->f.get? b\o)->Q ⟨⟩ {s with heap:=f,toks:=s.toks+2}):
  wpAny (model prog w) A (setAttr (.ref x) name v) Q E s:=by
 have J:InstAt s.heap x (cS C t none) C none:=#[i,rfl,rfl,trivial];obtain⟨M,z,B⟩:=acO c.hd;refine set_plain X J c.sa (zJ (s:={s with toks:=s.toks+1}) X J c u λb=>?_)
 obtain⟨a,g,d,l,os⟩:=s;dsimp only at*;have m:(a.push {cls:= .type "dict",data:= .dict #[]}).get? x\(cS C t none):=Da _ i;have n:x≠a.objs.size:=bJ (Do i);refine ir (mo (ir (ir (acd i (ir (Looks.here (s:=#[a,g,d,l+1,os]) (looks_clsIn X z) ?_))))));rw[B];refine ir (wpAny_alloc' ?_);refine ir (wpAny_update' m ?_);refine mo ?_
 have j:((a.push {cls:= .type "dict",data:= .dict #[]}).update x λo=>{cls:=o.cls,dict:=some a.objs.size,data:=o.data,slots:=o.slots}).get? a.objs.size\{cls:= .type "dict",data:= .dict #[]}:=
  (aaI _ _ _ _ n.symm).trans (Heap.get?_push_at rfl rfl)
 have yE:((a.push {cls:= .type "dict",data:= .dict #[]}).update x λo=>{cls:=o.cls,dict:=some a.objs.size,data:=o.data,slots:=o.slots}).Ns a.objs.size (λ_=>none):=
  #[_, #[],_,j,rfl,λe F=>absurd F (by simp),λ_=>rfl]
 show wpAny _ _ (storeInDict a.objs.size (.str name l) name v) _ _ _;unfold storeInDict newKeyGuard;refine ir (mo (ir (ade (Heap.Ns1.of_empty yE) λf p q=>?_)));rfl';obtain⟨oD,O,P,H,I,L⟩:=p.count (Within.cons name v Within.nil);ac_rfl;refine ir (acD H (by rw[I];exact acE (iA L (by rw[cx,jH,aa1];lia))) ?_)
 refine mo (h f p ?_ λb S k r=>?_)
 .exact(q.2 x n).trans (On _ m rfl)
 .exact(q.2 b (bJ (Do r))).trans ((aaI _ _ _ _ k).trans (Da _ r))
end
section
variable {M:Model} {A:Around} {E:Value->Shared->Prop} {h:Heap} {g:Array GenState} {d:Drawn} {t:Nat} {os:OsState}
variable {nm q:Str} {C N:Addr} {bs bm K4:List Value} {i3:Bool} {sn:List Str} {sub:List Value} {ab:Bool} {col:Option Bool} {dd:Option Addr} {k0 k1 k2 k3 k5:Option Value} {B newId kZ:String}
def BY(F:ExcBaseFacts B newId kZ K4)(VD:(Value.ref C::bm).contains (.type B)=true){rest:List Value}{Q:Unit->Shared->Prop}(hC:h.get? C\(excClassObj nm q C N bs bm i3 sn sub ab col dd k0 k1 k2 k3 k5 newId))
  (hq:Q ⟨⟩ #[h,g,d,t,os]):wpAny M A (checkBuiltinCall newId #[.ref C::rest,[]]) Q E #[h,g,d,t,os]:=by
 have aar:=F.noStar;simp only[checkBuiltinCall,F.newKind,F.newSplit,F.newRow]
 repeat (first|refine wpAny_loadPart_at hC ?_| (refine wpAny_isSubtype_exc hC ?_;rw[VD]) |refine wpAny_staticBase_exc hC ?_|refine wpAny_madeBy_exc hC ?_|simp only[bne_self_eq_false,f9,if_false]|wp_step)
 exact hq
def z4(F:ExcBaseFacts B newId kZ K4)(Ab:(Value.ref C::bm).contains (.type B)=true){e:Addr}{oe:Obj}{rest:List Value}{Q:Unit->Shared->Prop}
  (hC:h.get? C\(excClassObj nm q C N bs bm i3 sn sub ab col dd k0 k1 k2 k3 k5 newId)) (he:h.get? e\oe) (Fz:oe.cls= .ref C) (hq:Q ⟨⟩ #[h,g,d,t,os]):
  wpAny M A (checkBuiltinCall kZ #[.ref e::rest,[]]) Q E #[h,g,d,t,os]:=by
 have aak:=F.noStar;simp only[checkBuiltinCall,F.initKind,F.initSplit,F.initRow]
 repeat (first| (with_reducible refine wpAny_loadPart_at he ?_;rw[Fz]) |with_reducible refine wpAny_loadPart_at hC ?_| (with_reducible refine wpAny_isSubtype_exc hC ?_;rw[Ab]) |wp_step)
 refine wpAny_onRaise ?_
 rw[show ∀(a b:String)(n:Nat),Bind.check #[.positional,"*",B, .self,[#["args", .varPos,false]]] a b n (List.map (λx=>x.fst) ({pos:=Value.ref e::rest}:Args).kw)=pure ⟨⟩ from
  λa b n=>check_star_args _ _ _ _ _ _]
 exact wpAny_pure hq
end
section
variable {prog:Program} {w:World} {A:Around} {R:Result->Shared->Prop} {h:Heap} {g:Array GenState} {d:Drawn} {t:Nat} {os:OsState}
variable {nm q:Str} {C N:Addr} {bs bm K4:List Value} {i3:Bool} {sn:List Str} {sub:List Value} {ab:Bool} {col:Option Bool} {dd:Option Addr} {k0 k1 k2 k3 k5:Option Value} {B newId kZ:String}
def HR(F:ExcBaseFacts B newId kZ K4)(Ab:(Value.ref C::bm).contains (.type B)=true)(VA:(Value.ref C::bm).contains (.type "AttributeError")=false)(VB:(Value.ref C::bm).contains (.type "NameError")=false)
  {rest:List Value} (hC:h.get? C\(excClassObj nm q C N bs bm i3 sn sub ab col dd k0 k1 k2 k3 k5 newId))
  (hq:R (.ok (.ret (.ref (h.objs.size+1)))) #[(h.push {cls:= .type "tuple",data:= .seq rest.toArray}).push (cS C h.objs.size none),g,d,t,os]) (yH:rest.length<=sizeLine):
  codeAny (model prog w) A (.builtin newId #[.ref C::rest,[]]) R #[h,g,d,t,os]:=by
 have aap:=F.ends;refine codeAny_builtinAt F.entry ?_;unfold Builtin.«BaseException.__new__»;refine PySem.wpAt_bind ?_;show PySem.wpAt _ _ _ (stack>>=_) _ _ _;refine PySem.wpAt_bind (PySem.wpAt_stack λp below=>PySem.wpAt_of_wpAny ?_)
 wp_walk
 refine PySem.wpAt_of_wpAny ?_;rw[F.owner]
 repeat (first|with_reducible refine wpAny_madeHere_exc F.canon hC ?_|with_reducible refine wpAny_loadPart_at hC ?_| (with_reducible refine wpAny_isSubtype_exc hC ?_;first|rw[Ab]|rw[VA]|rw[VB]) |wp_step)
 show R _ _;rw[Heap.size_push];exact hq
def Fl(F:ExcBaseFacts B newId kZ K4)(Ab:(Value.ref C::bm).contains (.type B)=true){e t0:Addr}{od:Option Addr}{rest:List Value}(hC:h.get? C\(excClassObj nm q C N bs bm i3 sn sub ab col dd k0 k1 k2 k3 k5 newId))(he:h.get? e\(cS C t0 od))
  (hq:∀h' t',h'.get? e\(cS C t' od)->(∀b o,b≠e->h.get? b\o->h'.get? b\o)->R (.ok (.ret .none)) #[h',g,d,t,os]) (yH:rest.length<=sizeLine):
  codeAny (model prog w) A (.call (.builtin kZ) #[.ref e::rest,[]]) R #[h,g,d,t,os]:=by
 refine codeAny_call_builtin F.init.plain F.initEntry (z4 F Ab hC he rfl ?_)
 wp_walk
 have qL:e≠h.objs.size:=bJ (Heap.lt_size he);refine hq _ h.objs.size ?_ λb o hb ho=>?_
 .rw[Heap.get?_update_self _ (Heap.get?_push_of_some _ he) rfl]
  rfl
 .rw[Heap.get?_update_other _ _ (Ne.symm hb)]
  exact Heap.get?_push_of_some _ ho
def Hh(F:ExcBaseFacts B newId kZ K4)(Ab:(Value.ref C::bm).contains (.type B)=true)(VA:(Value.ref C::bm).contains (.type "AttributeError")=false)(VB:(Value.ref C::bm).contains (.type "NameError")=false)
  {rest:List Value} {init:Value} (hC:h.get? C\(excClassObj nm q C N bs bm i3 sn sub ab col dd k0 k1 k2 k3 k5 newId)) (call:Looks (model prog w) h (specialOf (.ref C) "__call__") (some (.builtin "type.__call__"))) (typ:Looks (model prog w) h (isInstance (.ref C) (.type "type")) true)
  (hi:Looks (model prog w) h (typeLookup (.ref C) "__init__") (some init)) (hb:∀self,Looks (model prog w) h (bindSpecial init self) (init,[self])) (yH:rest.length<=sizeLine)
  (hq:codeAny (model prog w) (A.under (.builtin "type.__call__" #[.ref C::rest,[]])) (.call init #[.ref (h.objs.size+1)::rest,[]]) (InitBack (h.objs.size+1) R) #[(h.push {cls:= .type "tuple",data:= .seq rest.toArray}).push (cS C h.objs.size none),g,d,t,os]):
  codeAny (model prog w) A (.call (.ref C) #[rest,[]]) R #[h,g,d,t,os]:=by
 refine codeAny_of_tree ?_;show wpAny _ _ (callAny (.ref C) _) _ _ _;refine nd_load hC ?_;show wpAny _ _ (callAny.viaDunder (.ref C) _) _ _ _;unfold callAny.viaDunder;refine wpAny_bind (call.at ?_);dsimp only;rw[tc_bind];refine wpAny_bind (wpAny_pure (wpAny_bind (wpAny_pure ?_)));refine wpAny_pure (a:=Fin.again (.call (.builtin "type.__call__") #[.ref C::rest,[]])) (And.intro rfl ?_);refine codeAny_call_builtin_at (Code.quiet_builtin _ (by decide+kernel)) entry_typeCall (check_slot tc_kind tc_split typ (tc_args _ _ _) ?_)
 have hm:Looks (model prog w) h (mroOf (.ref C)) (.ref C::bm):=((Looks.ld (part:=none) hC).andThen .now).andThen .now
 have made:Looks (model prog w) h (Bind.madeBy (.ref C)) (some newId):=by
  intro A Q E s k q;obtain⟨h2,g2,d2,t2,os2⟩:=s;exact wpAny_madeBy_exc (k _ _ hC) q
 unfold Builtin.«type.__call__»
 repeat (first|simp only[List.isEmpty_cons,f9,if_false]|with_reducible refine wpAny_call ?_|lk)
 refine codeAny_call_builtin_code (Code.quiet_builtin _ F.quiet) (BY F Ab hC ?_);refine HR F Ab VA VB hC ?_ yH;have k:∀b o,h.get? b\o->((h.push {cls:= .type "tuple",data:= .seq rest.toArray}).push (cS C h.objs.size none)).get? b\o:=λb o e=>Heap.get?_push_of_some _ (Heap.get?_push_of_some _ e);have hx:((h.push {cls:= .type "tuple",data:= .seq rest.toArray}).push (cS C h.objs.size none)).get? (h.objs.size+1)\(cS C h.objs.size none):=by heap_get
 have t1:Looks (model prog w) ((h.push {cls:= .type "tuple",data:= .seq rest.toArray}).push (cS C h.objs.size none)) (typeOf (.ref (h.objs.size+1))) (.ref C):=(Looks.ld hx).andThen .now
 have s0:Looks (model prog w) h (isSubtype (.ref C) (.ref C)) true:=by
  intro A Q E s k q;obtain⟨h2,g2,d2,t2,os2⟩:=s;refine wpAny_isSubtype_exc (k _ _ hC) ?_;rw[show(Value.ref C::bm).contains (.ref C)=true by simp]
  exact q
 have s1:=s0.keeps k;have i1:=hi.keeps k;have b1:=(hb (.ref (h.objs.size+1))).keeps k;unfold isInstance callSpecial? specialOf
 repeat (first|with_reducible refine wpAny_call ?_|lk)
 refine codeAny_mono hq λr s' z=>?_
 rcases r with e| (v|_|_|_)<;>first|exact z|exact z.elim|skip
 obtain⟨rfl,z⟩:=z;exact wpAny_pure (wpAny_pure z)
end
def uB(C a:Addr)(d:Option Addr):HO:= .ext λh=>∃t,h.get? a\(cS C t d)
def zY(a:Addr)(fs:List (Str×V)):HO:= .ext λh=>fs.length<=1000/\∃mA,h.Ns1 a mA/\(∀f,kW (fs.lookup f) (mA f))/\b0 mA (fs.map (·.1))
section
variable {P:Program} {w:World} {H:Hp} {h:Heap} {a C:Addr} {d:Option Addr} {fs:List (Str×V)}
def JK{t:Addr}(e:h.get? a\(cS C t d)):cp P w H h a (uB C a d):=#[#[t,e],#[_,e],λh1 h2 #[t,p] k=>#[t,k _ p]]
def Qz{mA:Str->Option Value}(hl:fs.length<=1000)(n:h.Ns1 a mA)(r:∀f,kW (fs.lookup f) (mA f))(q:b0 mA (fs.map (·.1))):cp P w H h a (zY a fs):=
 #[#[hl,mA,n,r,q],let #[o,_,_,e,_]:=n;#[o,e],λh1 h2 #[hl,mA,#[o,es,ep,e,c],r,q] k=>#[hl,mA,#[o,es,ep,k _ e,c],r,q]]
def xE(hok:gZ P w H h)(e:H a\(uB C a d)):∃t,h.get? a\(cS C t d):=(hok a _ e).1
def Eo(hok:gZ P w H h)(e:H a\(zY a fs)):fs.length<=1000/\∃mA,h.Ns1 a mA/\(∀f,kW (fs.lookup f) (mA f))/\b0 mA (fs.map (·.1)):=(hok a _ e).1
end
section
variable {X:Cx} {pins:List (Addr×Obj)} {σ:St} {H:Hp} {s:Shared}
theorem Inv.Tc{a dx:Addr}{o1 o2:HO}{h':Heap}{t':Nat}(I:Inv X pins σ H s)(mu:MJ (H a))(pj:s.heap.objs.size<=dx)(k:∀b u,b≠a->s.heap.get? b\u->h'.get? b\u)(FA:∃u,h'.get? a\u)
  (Zj:cp X.prog X.w (upd (upd H a o1) dx o2) h' a o1) (Zk:cp X.prog X.w (upd (upd H a o1) dx o2) h' dx o2):Inv X pins σ (upd (upd H a o1) dx o2) {s with heap:=h',toks:=t'}:=by
 have nd:H dx=none:=I.hok.fresh pj
 obtain⟨oa,ha⟩:∃o,H a\o:=by
  cases q:H a with
  |none=>rw[q] at mu;exact mu.elim
  |some o=>exact#[o,rfl]
 have RS:a≠dx:=aF ha nd;have Gh:∀c y,H c\(.own y)->c≠a:=λc y r z=>by subst z;rw[r] at mu;exact mu
 have Kp:∀c xs,H c\(.tup xs)->c≠a:=λc xs r z=>by subst z;rw[r] at mu;exact mu
 have Zl:∀c o u,H c\(.rH o u)->c≠a:=λc o u r z=>by subst z;rw[r] at mu;exact mu
 have Zo:∀c ps,H c\(.GY ps)->c≠a:=λc ps r z=>by subst z;rw[r] at mu;exact mu
 have up:∀b u,b≠a->H b\u->upd (upd H a o1) dx o2 b\u:=λb u hb e=>by rw[aB (aF e nd),aB hb];exact e
 refine I.un (h':=h') (t':=t') #[λb o e n _ _=>?_,λb o e n _ _=>#[o.slots,?_],λb o e n _=>?_,λb o e _=>?_,λb xs e=>up b _ (Kp b xs e) e,λb o u e=>up b _ (Zl b o u e) e,λb ps e=>#[#[],by rw[up b _ (Zo b ps e) e];simp]] λb u e=>?_
 .exact k b o (λz=>by rw[z,ha] at n;cases n) e
 .exact k b o (λz=>by rw[z,ha] at n;cases n) e
 .rw[aB (λz=>by rw[z] at e;exact absurd (Heap.lt_size e) (Nat.not_lt.mpr pj)),aB (λz=>by rw[z,ha] at n;cases n)];exact n
 .by_cases z:b=a
  .rw[z];exact FA
  .exact#[o,k b o z e]
 .by_cases z:b=dx
  .subst z;rw[aw] at e;cases e;exact Zk
  .rw[aB z] at e
   by_cases z2:b=a
   .subst z2;rw[aw] at e;cases e;exact Zj
   .rw[aB z2] at e
    refine(I.hok b u e).mM (λc v hc q=>k c v ?_ q) (λc q=>up c _ (Gh c b q) q) λc xs q=>up c _ (Kp c xs q) q
    rcases hc with y|y
    .rw[y];exact z2
    .exact Gh c b y
variable {a C:Addr} {fs:List (Str×V)} {f:Str} {v:V} {A:Around} {E:Value->Shared->Prop}
def Tq(H:Hp)(C a:Addr)(f:Str)(y:V)(fs:List (Str×V))(Q:Hp->Prop):Prop:=
 (fs= []/\H a\(uB C a none)/\∀dx,H dx=none->Q (upd (upd H a (uB C a (some dx))) dx (zY dx [(f,y)])))\/
 (∃dx,H a\(uB C a (some dx))/\H dx\(zY dx fs)/\fs.length<1000/\Q (upd H dx (zY dx (jC f y fs))))
def Ep{y:V}{u:Value}{Q:Unit->Shared->Prop}{R:Hp->Prop}(I:Inv X pins σ H s)(c:jN X.K C)(n:gi X.K C f)(ry:RelV y u)(p:Tq H C a f y fs R)
  (h:∀H' s',Inv X pins σ H' s'->R H'->Q ⟨⟩ s'):wpAny (model X.prog X.w) A (setAttr (.ref a) f u) Q E s:=by
 rcases p with ⟨rfl,e,q⟩ | ⟨dx,e,ed,hl,q⟩
 .obtain⟨t,et⟩:=xE I.hok e
  refine WU I.dW c et n.JE λh' hn hx k=>?_;refine h _ _ (I.Tc (by rw[e];exact True.intro) (bM _) k #[_,hx] (JK hx) ?_) (q s.heap.objs.size I.fresh)
  refine Qz (by simp) hn (λg=>?_) (λg hg=>?_)
  .by_cases z:g=f
   .rw[if_pos z,z];simp only[bc,beq_self_eq_true];exact ry
   .rw[if_neg z]
    have hb:(g==f)=false:=beq_eq_false_iff_ne.mpr z;simp only[bc,hb];exact True.intro
  .by_cases z:g=f
   .rw[z];simp
   .rw[if_neg z] at hg;exact absurd rfl hg
 .obtain⟨t,et⟩:=xE I.hok e
  obtain⟨_,mA,hn,r,wi⟩:=Eo I.hok ed
  have ne:dx≠a:=by
   rintro rfl;obtain⟨o,es,ep,eo,hd,_⟩:=hn;rw[et] at eo;cases eo;cases hd
  have hz:(fs.map (·.1)).length<=sizeLine:=by rw[aS,sizeLine_eq];lia
  refine WV I.dW c et hn ne n.JE wi hz λh' CG sb=>h _ _ (I.write (x:=dx) (e:=dx) (by rw[ed];exact True.intro) (.inl rfl) (λb q hb z=>(sb.2 b hb).trans z) (let #[o,_,_,e',_]:=CG;#[o,e']) ?_) q
  refine Qz (by have:=mU f y fs;lia) CG (λg=>?_) (λg hg=>?_)
  .rw[mX]
   by_cases q:g=f
   .rw[if_pos q,if_pos q];exact ry
   .rw[if_neg q,if_neg q];exact r g
  .by_cases q:g=f
   .rw[q];exact(kE f y fs).1
   .refine(kE f y fs).2 g (wi g λz=>hg ?_)
    show(if g=f then some u else mA g)=none;rw[if_neg q];exact z
end
def Wz(K:ac)(ta tv:TE)(f:Str):TS:=λD σ H=>tv σ H λy H1=>ta σ H1 λx H2=>∃a C fs,x= .ref a/\jN K C/\gi K C f/\Tq H2 C a f y fs λH3=>D.nx σ H3
section
variable {X:Cx} {o e value:Expr} {f:Str} {pos pos' aaa:Pos} {ta tv:TE}
def Gz(ha:PE X o ta)(hv:PE X value tv)(hs:swapsWith value (some (.Attribute o f pos')) pos.line X.env=pure false):PS X (.Assign [.Attribute o f pos'] value pos) (Wz X.K ta tv f):=by
 intro pins s σ H D I h;refine plainObj_wpAny_Assign_Attribute (thn (hv pins s σ H _ I h) λu s1 #[y,H1,I1,ry,q]=>thn (ha pins s1 σ H1 _ I1 q) λov s2 #[x,H2,I2,rx,a,C,fs,ex,c,n,p]=>?_) hs;subst ex;obtain rfl:ov=Value.ref a:=rx;exact Ep I2 c n ry p λH3 s3 I3 q=>#[σ,_,I3,q]
inductive Ez:V->Value->Prop where
 |own (D:Addr):Ez (.ref D) (.ref D)
 |blt (n:String):Ez (.ty n) (.type n)
end
structure qN (K:ac) (C:Addr):Prop where
 obj:∃nm q N bs bm i3 sn sub ab col dd k0 k1 k2 k3 k5,K.lookup C\(excClassObj nm q C N bs bm i3 sn sub ab col dd k0 k1 k2 k3 k5 "ValueError.__new__")/\(Value.ref C::bm).contains (.type "ValueError")=true/\
  (Value.ref C::bm).contains (.type "AttributeError")=false/\(Value.ref C::bm).contains (.type "NameError")=false
structure UC (K:ac) (C:Addr) (init:Value):Prop extends qN K C where
 call:bd K (.ref C) "__call__"\(some (.builtin "type.__call__"))
 typ:dg K (.ref C) (.type "type")\true
 ini:ak K (.ref C) "__init__"\(some init)
 kp:aA K (.ref C)=true
def Tb{H:Hp}{a:Addr}{o:HO}(e:H a\o):upd H a o=H:=by
 funext b
 by_cases h:b=a
 .rw[h,aw,e]
 .rw[aB h]
def SX(C:Addr)(sp:Sp)(E:XK)(t:TA):TE:=λσ H Q=>t σ H λvs H1=>∀e,H1 e=none->sp (.ref e::vs) (upd H1 e (uB C e none)) (λv H2=>v= .bo/\Q (.ref e) H2) E
def SW(K:ac)(t:TA):TE:=λσ H Q=>t σ H λvs H1=>∃a C d y,vs= [.ref a,y]/\H1 a\(uB C a d)/\qN K C/\Q .bo H1
section
variable {X:Cx} {CX:oz} {k:Nat} {f C:Addr} {fd:FuncData} {ps:List Str} {sp:Sp} {E:XK} {x m:Str} {p pos apos:Pos} {e o:Expr} {es:List Expr} {ta:TE} {t:TA}
theorem Jp{pins:List (Addr×Obj)}{σ:St}{H:Hp}{s:Shared}{Q:VK}{us:List Value}{vs:List V}(M:UC X.K C (.ref f))(hf:bj X.K (.ref f)=true)(F:FnOk X.prog X.w X.K X.mg X.base CX k f fd ps sp)(hr:b7 (k+1) X.A)(hb:Binds X.K fd ps [])
  (Oy:ps.length<=1000) (hx:Passes CX X E) (I:Inv X pins σ H s) (r:Vals vs us)
  (h:∀e,H e=none->sp (.ref e::vs) (upd H e (uB C e none)) (λv H2=>v= .bo/\Q (.ref e) H2) E):
  wpAny (model X.prog X.w) X.A (call (.ref C) us) (EP X pins σ Q) X.xe s:=by
 obtain⟨nm,q,N,bs,bm,i3,sn,sub,ab,col,dd,k0,k1,k2,k3,k5,hC,cB,cA,cN⟩:=M.obj;have hq:=h (s.heap.objs.size+1) (I.hok.fresh (ux _))
 have hx1:((s.heap.push {cls:= .type "tuple",data:= .seq us.toArray}).push (cS C s.heap.objs.size none)).get? (s.heap.objs.size+1)\(cS C s.heap.objs.size none):=by
  have:=Heap.get?_push_size (s.heap.push {cls:= .type "tuple",data:= .seq us.toArray}) (o:=cS C s.heap.objs.size none) rfl
  rwa [Heap.size_push] at this
 have I2:Inv X pins σ (upd H (s.heap.objs.size+1) (uB C (s.heap.objs.size+1) none)) {s with heap:=(s.heap.push {cls:= .type "tuple",data:= .seq us.toArray}).push (cS C s.heap.objs.size none)}:=
  I.laid (t':=s.toks) (λb u q=>Heap.get?_push_of_some _ (Heap.get?_push_of_some _ q)) (ux _) (JK hx1)
 have r2:Vals (V.ref (s.heap.objs.size+1)::vs) (Value.ref (s.heap.objs.size+1)::us):= .cons rfl r
 have hl:((Value.ref (s.heap.objs.size+1)::us)++ []).length=ps.length:=by
  have e:=r2.length;rw[F.len _ _ _ _ hq] at e;rw[gR];exact e.symm
 have hlen:us.length<=sizeLine:=by
  rw[gR,cx] at hl;exact sr (cf ())
 have Aa:=hb _ (Value.ref (s.heap.objs.size+1)::us) I2.dW hl;rw[gR] at Aa;obtain⟨hh,g,d,tk,os⟩:=s
 refine wpAny_call (Hh (init:= .ref f) PySem.F.excBase_ValueError cB cA cN (I.dW _ _ hC) (PySem.W.looks_specialIn I.dW M.call) (PySem.W.looks_instIn I.dW M.typ) (PySem.W.looks_findIn I.dW M.ini) (λself=>PySem.W.bind_fn I.dW self (beq_iff_eq.mp hf)) hlen
  (codeAny_mono (F.run _ X.stack _ _ #[Value.ref (hh.objs.size+1)::us,[]] (Value.ref (hh.objs.size+1)::us) _ _ E (hr.make C us []) (I2.Ff.make C us []) Aa r2 hq) λr s' uR=>?_))
 cases r with
 |error e=>exact hx pins σ _ _ e s' I2 uR
 |ok fl=>
  cases fl with
  |ret u=>
   refine ah λG0 k0=>?_;obtain⟨v,H',I3,rv,ev,q3⟩:=I2.after uR;subst ev;refine k0 ?_;exact#[rv,#[V.ref (hh.objs.size+1),H',I3,rfl,q3]]
  |next=>exact False.elim uR
  |brk=>exact False.elim uR
  |cont=>exact False.elim uR
def Mb(M:UC X.K C (.ref f))(hf:bj X.K (.ref f)=true)(F:FnOk X.prog X.w X.K X.mg X.base CX k f fd ps sp)(hr:b7 (k+1) X.A)(hg:Gl X x)(hm:X.mg x\(.ref C))(hb:Binds X.K fd ps [])(Oy:ps.length<=1000)(hx:Passes CX X E)
  (ha:PA X (e::es) t) (eZ:(x==("__debug__":Str))=false:=by decide) (he:starEach (e::es) X.env=(false,eval e X.env)::starEach es X.env:=by rfl) (cL:(backTo pos (starEach es X.env)).any (·.1)=false:=by rfl):
  PE X (.Call (.Name x p) (e::es) [] pos) (SX C sp E t):=by
 intro pins s σ H Q I h;refine wpAny_Call_Name_kw (jx I hg hm ?_ eZ);refine PySem.W.callWith_K (h₀:=X.base) I.ok.mod.kin M.kp (thn (ha pos pins s σ H _ I h) λus s1 #[vs,H1,I1,r,q]=>#[I1.dW,?_]) he cL;exact Jp M hf F hr hb Oy hx I1 r q
def Bh{C0:Addr}{pl:Sem Bool}(hg:Gl X x)(hm:X.mg x\(.ref C0))(sg:bd X.K (.ref C0) "__getattribute__"\(some (.builtin "type.__getattribute__")))(rd:c3 X.K C0 (.type "type")=true)
  (fc:db X.K (.ref C0) (.type "type") "__init__"\(.val (.builtin "ValueError.__init__"))) (ha:PA X (e::es) t) (eZ:(x==("__debug__":Str))=false:=by decide)
  (he:starEach (e::es) X.env=(false,eval e X.env)::starEach es X.env:=by rfl) (cL:(backTo pos (starEach es X.env)).any (·.1)=false:=by rfl)
  (ht:eval (.Call (.Attribute (.Name x p) "__init__" apos) (e::es) [] pos) X.env=(do
   let ov <-eval (.Name x p) X.env
   standAt apos.atName
   let (f,first) <-holding [ov] (getMethod ov "__init__" pl)
   callWith pos f first (backTo pos (starEach (e::es) X.env)) (backToKw pos (keywordEach [] X.env))):=by rfl):
  PE X (.Call (.Attribute (.Name x p) "__init__" apos) (e::es) [] pos) (SW X.K t):=by
 intro pins s σ H Q I h;refine PySem.W.methodCall_KW (pl:=pl) (jx I hg hm ?_ eZ) ht;refine PySem.W.method_cls I.dW sg (PySem.W.cls_value I.dW rd fc (by decide+kernel) ?_)
 refine PyProof.Rows.callWith_builtin1 (thn (ha pos pins _ σ H _ (I.tok _) h) λus s1 #[vs,H1,I1,r1,a,C,d,y,ev,ea,xo,q1]=>?_) he cL;refine ah λG0 k0=>?_;subst ev;obtain⟨u1,u2,rfl,ra,ry⟩:=r1.two;subst ra;obtain⟨nm,q,N,bs,bm,i3,sn,sub,ab,col,dd,k0,k1,k2,k3,k5,hC,cB,cA,cN⟩:=xo.obj;obtain⟨t0,et⟩:=xE I1.hok ea;obtain⟨hh,g,dr,tk,os⟩:=s1;refine k0 ?_;refine wpAny_call (Fl PySem.F.excBase_ValueError cB (I1.dW _ _ hC) et (λh' t' YW kk=>?_) (by show 1<=sizeLine;decide))
 have I2:=I1.write (x:=a) (e:=a) (o:=uB C a d) (t':=tk) (by rw[ea];exact True.intro) (.inl rfl) (λb u hb q=>kk b u hb q) #[_,YW] (JK YW)
 rw[Tb ea] at I2;exact#[.bo,H1,I2,rfl,q1]
end
section
variable {X:Cx} {pins:List (Addr×Obj)} {σ:St} {H:Hp} {s:Shared} {A:Around} {E:Value->Shared->Prop} {Q:Value->Shared->Prop} {b:Bool}
end
def bQ.of{d:Scope}(f:Scope)(e:X.env.scope=f)(k:d.kind= .function)(a:∀x∈d.names,x.2= .local->d.names.lookup x.1\.local)(b:∀x∈d.names,x.2≠ .cell)
  (c:∀x∈d.names,x.2= .free->f.names.lookup x.1\.cell\/f.names.lookup x.1\.free):bQ X d:=#[k,a,b,λx g h=>by rw[<-e] at c;exact c x g h]
structure eD (K:ac) (mg:Str->Option Value) (x:Str) (st:Stmt) (ps:List Str) where
 f:Addr
 fd:FuncData
 F:oG K x x st f fd
 b:Binds K fd ps []
 m:mg x\(.ref f)
def aX(h:H p=none)(o:HO):ba H (upd H p o):=λb u q=>by rw[aB (aF q h)];exact q
def small(h:n<=1000):n<=sizeLine:=sr (cf h)
abbrev jv(C t:Addr)(a:Value)(d:Option Addr):Obj:={cls:= .ref C,dict:=d,data:= .fields [.ref t,a, .none, .none, .bool false, .none].toArray}
def mQ(C a:Addr)(d:Option Addr):HO:= .ext λh=>∃t b,h.get? a\(jv C t b d)
section
variable {P:Program} {w:World} {H:Hp} {h:Heap} {a C:Addr} {d:Option Addr}
def NP{tb:Value}(e:h.get? a\(jv C t tb d)):cp P w H h a (mQ C a d):=#[#[t,tb,e],#[_,e],λb c #[t,tb,p] k=>#[t,tb,k _ p]]
def J9(hok:gZ P w H h)(e:H a\(mQ C a d)):∃t b,h.get? a\(jv C t b d):=(hok a _ e).1
end
def ED(h:Heap)(T:Addr):Prop:=∃o a,h.get? T\o/\o.data= .fields a/\a[3]?\.none
section
variable {M:Model} {A:Around} {E:Value->Shared->Prop} {s:Shared}
def yU 
  (O:A.frames\(env::outer)) (w:s.heap.FunFrames base (env::outer)) (P:env.frame\L)
  (y:s.heap.get? e\(jv C t k d))
  (h:∀l T,s.heap.objs.size<=T->l.get? e\(jv C t (.ref T) d)->ED l T->(∀b o,s.heap.get? b\o->b≠e->∃q,l.get? b\{o with slots:=q})->
   (∀b o,s.heap.get? b\o->b≠e->b∉tj (env::outer)->l.get? b\o)->Q ⟨⟩ {s with heap:=l}):
  wpAny M A (do let a <-frameOf env;let i <-entryPlaceOf L N;let b <-EntryCells.newEntry g a .none (rawInt L) .none i;setField (.ref e) 1 b) (λ_ R=>wpAny M A (setFlight (.ref e) none) Q E R) E s:=by
 have r:(jv C t k d).data= .fields [.ref t,k, .none, .none, .bool false, .none].toArray:=rfl;have S:1<([.ref t,k, .none, .none, .bool false, .none].toArray:Array Value).size:=by simp
 have U:e∉(env::outer).filterMap (·.frame):=λX=>by
  obtain⟨_,o,n,Y⟩:=w.mem X;rw[y] at n;injection n with n;subst n;exact Y _ r
 refine ir (wpAny_frameOf_fun O w P λc p=>?_);refine ir (wpAny_entryPlaceOf λi z=>?_);unfold EntryCells.newEntry newFields;refine ir (Pi ?_ (z.sizeOk5 _ _ _ _ _));have B:c.get? e\(jv C t k d):=(p.2.1 e U).trans y;have F:=Da (h:=c) {cls:= .type "traceback",dict:=none,data:= .fields ([g, .ref L, .none,rawInt L, .none]++(if i.isEmpty then ar 6 Value.none else i)).toArray} B;refine aa4 F r S ?_;have G:c.objs.size≠e:=vx (Do B);have H:=aat r (·.setIfInBounds 1 (Value.ref c.objs.size));have I:=On (Obj.mapFields (·.setIfInBounds 1 (Value.ref c.objs.size))) F (aaV H)
 have J:=(IR (c.push {cls:= .type "traceback",dict:=none,data:= .fields ([g, .ref L, .none,rawInt L, .none]++(if i.isEmpty then ar 6 Value.none else i)).toArray})
  (Obj.mapFields (·.setIfInBounds 1 (Value.ref c.objs.size))) (Ne.symm G)).trans (Gc c rfl)
 unfold setFlight;refine ir (abb I H (x:= .ref c.objs.size) (by simp) ?_)
 rw[AC (show(Value.ref c.objs.size !=Value.none)=true from by simp)]
 refine aa4 J rfl (by simp only[cR,cI,cx,jH]<;>lia) ?_
 have keep:∀b o,b≠e->c.get? b\o->
   (((c.push {cls:= .type "traceback",dict:=none,data:= .fields ([g, .ref L, .none,rawInt L, .none]++(if i.isEmpty then ar 6 Value.none else i)).toArray}).update e (Obj.mapFields (·.setIfInBounds 1 (Value.ref c.objs.size)))).update c.objs.size
     (Obj.mapFields (·.setIfInBounds 3 ((none:Option Addr).elim Value.none λf=>rawInt f)))).get? b\o:=λb o m j=>by
  have u:c.objs.size≠b:=vx (Do j);rw[IR _ _ u,IR _ _ (Ne.symm m)];exact Da _ j
 refine h _ c.objs.size (by rw[p.1];exact bM _) ?_ #[_,_,On _ J (aaV (aat rfl _)),aat rfl _,by first| (simp;done) | (rcases z with rfl| ⟨_,_,_,_,_,_,_,rfl⟩<;>simp)] (λb o j m=>?_) (λb o j m v=>?_)
 .rw[IR _ _ G];exact I
 .obtain⟨q,Z⟩:=p.2.2 b o j
  exact#[q,keep b _ m Z]
 .exact keep b o m ((p.2.1 b v).trans j)
def IG{base:Heap} 
  (G:A.frames\(env::outer)) (H:s.heap.FunFrames base (env::outer)) (r:env.frame\L)
  (u:s.heap.get? e\(jv C t g d)) (I:g= .none\/∃T,g= .ref T/\T≠e/\ED s.heap T)
  (h:∀c T,s.heap.objs.size<=T->c.get? e\(jv C t (.ref T) d)->ED c T->(∀b o,s.heap.get? b\o->b≠e->∃J,c.get? b\J)->(∀b o,s.heap.get? b\o->b≠e->g≠ .ref b->∃k,c.get? b\{o with slots:=k})->
   (∀b o,s.heap.get? b\o->b≠e->g≠ .ref b->b∉tj (env::outer)->c.get? b\o)->Q ⟨⟩ {s with heap:=c}):
  wpAny M A (noteFrame (.ref e) env) (λ_ N=>wpAny M A (setFlight (.ref e) none) Q E N) E s:=by
 have O:(jv C t g d).data= .fields [.ref t,g, .none, .none, .bool false, .none].toArray:=rfl;unfold noteFrame;simp only[r];refine ir (abb (x:=g) u O rfl ?_)
 rcases I with rfl| ⟨T,rfl,P,Y,R,l,m,i⟩
 .rw[tz ∅]
  exact yU G H r u λc T p v i j y=>h c T p v i (λb o q n=>let #[k,z]:=j b o q n;#[_,z]) (λb o q n _=>j b o q n) λb o q n _=>y b o q n
 .rw[AC (show(Value.ref T !=Value.none)=true from by simp)]
  refine ir (abb l m i ?_);rw[tz (show ¬((Value.none==rawInt L)=true) from by simp[rawInt])]
  refine ir (aa4 l m (wB.mp i).1 ?_);have a:∀b,b≠T->(s.heap.update T (Obj.mapFields (·.setIfInBounds 3 Value.none))).get? b=s.heap.get? b:=λb f=>IR _ _ (Ne.symm f)
  have S:∀b o,s.heap.get? b\o->(∀U,o.data≠ .fields U)->b≠T:=λb o f B q=>by
   rw[q,l] at f;injection f with f;subst f;exact B R m
  have F:=On (Obj.mapFields (·.setIfInBounds 3 Value.none)) l (aaV (aat m _));refine yU (s:={s with heap:=s.heap.update T (Obj.mapFields (·.setIfInBounds 3 Value.none))}) G (H.of_keeps λb o f B=>#[o,(a b (S b o f B)).trans f,rfl]) r ((a e (Ne.symm P)).trans u) λc X p v i j y=>?_
  refine h c X (by rw[Heap.size_after_update] at p;exact p) v i (λb o q n=>?_) (λb o q n z=>j b o ((a b λw=>z (by rw[w])).trans q) n) λb o q n z=>y b o ((a b λw=>z (by rw[w])).trans q) n
  by_cases z:b=T
  .subst z
   obtain⟨k,z⟩:=j b _ F n;exact#[_,z]
  .obtain⟨k,z⟩:=j b o ((a b z).trans q) n
   exact#[_,z]
end
def Xa(X:Cx)(H:Hp)(h:Heap)(a:Value):Prop:=a= .none\/∃T,a= .ref T/\X.s₀.heap.objs.size<=T/\T≠X.env.locals/\(∀x c,X.env.cells.lookup x\c->c≠T)/\(∀p∈X.pn,p.1≠T)/\H T=none/\ED h T
def xH(X:Cx)(H:Hp)(s:Shared)(a:Addr):Prop:=∃C t b d,H a\(mQ C a d)/\s.heap.get? a\(jv C t b d)/\Xa X H s.heap b
structure W5 (P:Program) (w:World) (outer:List Env) (H:Hp) (s:Shared) (a:Addr) (H':Hp) (s':Shared):Prop where
 os:s'.os=s.os
 bare:AllBare s'.gens
 un:Un (tj outer) [] H H' s.heap s'.heap
 hok:gZ P w H' s'.heap
 obj:∃C t tb d,H' a\(mQ C a d)/\s'.heap.get? a\(jv C t tb d)/\(tb= .none\/∃T,tb= .ref T/\s.heap.objs.size<=T/\H' T=none/\ED s'.heap T)
def qH(P:Program)(w:World):oz:=λouter H s E e c=>∃a b,e= .ref a/\W5 P w outer H s a b c/\E e none b
section
variable {X:Cx} {pins:List (Addr×Obj)} {σ:St} {H H':Hp} {s s':Shared} {a:Addr}
def Inv.MQ(I:Inv X pins σ H s):Inv X [] σ H s:=#[I.ok,I.os,I.bare,I.base,I.loc,I.cell,I.free,I.freeC,λp b=>I.pin p (by rw[gR] at b;exact fZ _ b),I.hok,I.len]
def Rg(I:Inv X pins σ H s)(f:W5 X.prog X.w X.stack H s a H' s'):Inv X [] σ H' s'/\xH X H' s' a:=by
 rfl';obtain⟨os,bare,un,hok,C,t,h,d,i,j,k⟩:=f;have l:Inv X pins σ H' s':=I.HA (ch:= []) os un hok bare (λb z=>absurd z (by simp))
 ac_rfl;refine#[l.MQ,C,t,h,d,i,j,k.imp id λ#[T,m,e,n,q]=>#[T,m,iA I.sz e,?_,λx c r z=>?_,λp u z=>?_,n,q]]
 .exact λz=>absurd (fG I.lt e) (by rw[z];exact kP _)
 .obtain⟨v,o,y,_⟩:=I.cell x c r
  exact absurd (fG (Do y) e) (by rw[z];exact kP _)
 .have:=(I.pin p (fZ _ u)).1
  exact absurd (fG (Do this) e) (by rw[z];exact kP _)
def Ba(r:X.stack=X.env::X.outer)(Y:X.env.frame\X.env.locals)(I:Inv X [] σ H s)(f:xH X H s a)
  (h:∀s',Inv X [] σ H s'->xH X H s' a->Q ⟨⟩ s'):
  wpAny M X.A (noteFrame (.ref a) X.env) (λ_ s'=>wpAny M X.A (setFlight (.ref a) none) Q E s') E s:=by
 obtain⟨C,t,Z,d,j,h2,B⟩:=f;have fr:s.heap.FunFrames X.base (X.env::X.outer):=by rw[<-r];exact I.stack
 refine IG (base:=X.base) (by rw[I.ok.frames,r]) fr Y h2 (B.imp id λ#[T,e1,_,_,_,_,P,e7]=>#[T,e1,(λz=>by rw[z,j] at P;cases P),e7]) λk T F G J k0 k1 R=>?_
 have tr:∀b u,H b\u->b≠a->∀o,s.heap.get? b\o->k.get? b\o:=λb u i qL o l=>by
  refine R b o l qL (λz=>?_) λz=>?_
  .rcases B with q| ⟨T,q,_,_,_,_,L,_⟩
   .rw[q] at z;cases z
   .rw[q] at z;cases z;rw[i] at L;cases L
  .have:=I.zC b (by rw[r];exact z)
   rw[i] at this;cases this
 have hok:gZ X.prog X.w H k:=λb u i=>by
  by_cases z:b=a
  .subst z;rw[j] at i;cases i;exact NP G
  .refine(I.hok b u i).mM (λc v g q=>?_) (λ_ q=>q) λ_ _ q=>q
   rcases g with rfl|g
   .exact tr c u i z v q
   .exact tr c _ g (λw=>by rw[w,j] at g;cases g) v q
 have N:H T=none:=I.hok.fresh F;have O:∀c o,s.heap.get? c\o->c≠T:=λc o g z=>absurd (fG (Do g) F) (by rw[z];exact kP _)
 have fin:∀ch:List Addr,(∀b,Z= .ref b->b∈ch)->(∀b∈ch,(b∈X.ex\/X.s₀.heap.objs.size<=b)/\b≠X.env.locals/\(∀x c,X.env.cells.lookup x\c->c≠b)/\∀p∈X.pn++ [],p.1≠b)->Inv X [] σ H {s with heap:=k}:=λch S h6=>by
  refine I.HA (s':={s with heap:=k}) (ch:=ch) rfl #[λb o e n i g=>?_,λb o e n _ g=>?_,λb o _ n _=>n,λb o e _=>?_,λ_ _ q=>q,λ_ _ _ q=>q,λ_ ps q=>#[#[],by rw[q];simp]] hok I.bare h6
  .exact R b o e (λz=>by rw[z,j] at n;cases n) (λz=>g (S b z)) (by rw[<-r];exact i)
  .exact k1 b o e (λz=>by rw[z,j] at n;cases n) (λz=>g (S b z))
  .by_cases z:b=a
   .exact#[_,by rw[z];exact G]
   .exact k0 b o e z
 have I':Inv X [] σ H {s with heap:=k}:=by
  rcases B with q| ⟨U,q,q2,q3,q4,q5,L,q7⟩
  .exact fin [] (λb z=>by rw[q] at z;cases z) λb z=>absurd z (by simp)
  .refine fin [U] (λb z=>by rw[q] at z;cases z;exact dH ..) λb z=>?_
   have:b=U:=by simpa using z
   subst this;exact#[.inr q2,q3,q4,λp y=>q5 p (by rw[gR] at y;exact y)]
 refine h _ I' #[C,t, .ref T,d,j,G, .inr #[T,rfl,iA I.sz F,?_,λx c g=>?_,λp y=>?_,N,J]]
 .obtain⟨m,⟨o,_,_,l,_⟩,_⟩:=I.loc
  exact(O _ _ l).symm
 .obtain⟨v,o,l,_⟩:=I.cell x c g
  exact O _ _ l
 .exact O _ _ (I.pin p (fZ _ y)).1
end
def JS(X:Cx)(b:St)(H:Hp)(a:Addr):Prop:=∀s,Inv X [] b H s->xH X H s a->X.xe (.ref a) s
def NQ{P:Program}{w:World}{K:ac}{e:Str->Option Value}{base:Heap}{N:List Str}{c:Str}{b:Scope}{f:Addr}{g:Value}{A:Around}{outer:List Env}{s k:Shared}{H i:Hp}{E:XK}{l:St}{a:Addr}
  (I:Inv (kj (qH P w) P w K e base N c b f g A outer s H E) [] l i k) (m:xH (kj (qH P w) P w K e base N c b f g A outer s H E) i k a) (h:E (.ref a) none i):(kj (qH P w) P w K e base N c b f g A outer s H E).xe (.ref a) k:=by
 show wpAny _ _ (leaving _ _) _ _ _;unfold leaving;refine ir (Ba (X:=kj (qH P w) P w K e base N c b f g A outer s H E) rfl rfl I m λB j n=>?_);rfl';obtain⟨C,t,p,d,q,r,u⟩:=n;ac_rfl;exact#[a,i,rfl,#[j.os,j.bare,j.base,j.hok,C,t,p,d,q,r,u.imp id λ#[T,v,x,_,_,_,y,z]=>#[T,v,x,y,z]],h]
end L2
namespace TS
open PySem PyProof.Rows
def fD:Bool->Keyed->Array Keyed->Nat->Nat->Nat->StateT SortSt Sem (Option Nat):=sortPriv%PySem.Builtin.gallop
def qD:Array Keyed->Array Keyed->StateT SortSt Sem (Array Keyed):=sortPriv%PySem.Builtin.mergeLo
def qC:Array Keyed->Array Keyed->StateT SortSt Sem (Array Keyed):=sortPriv%PySem.Builtin.mergeHi
def setMinGallop':Nat->StateT SortSt Sem Unit:=sortPriv%PySem.Builtin.setMinGallop
def ju(left:Bool)(key:Keyed)(arr:Array Keyed)(base i:Nat):StateT SortSt Sem (Option Bool):=do
 let x <-elem' arr (base+i)
 if left then lt' x key else return (<-lt' key x).map (!·)
def Fq(left:Bool)(key:Keyed)(arr:Array Keyed)(base n a:Nat):fD left key arr base n a=(do
 let mut lastofs:=0
 let mut ofs:=1
 let mut lo:=0
 let mut hi:=0
 let some right <-ju left key arr base a|return none
 if right then
  let b:=n-a
  for _ in [0:n] do
   if ofs>=b then break
   let some more <-ju left key arr base (a+ofs) |return none
   if !more then break
   lastofs:=ofs
   ofs:=2*ofs+1
  lo:=a+lastofs+1
  hi:=a+min ofs b
 else
  let b:=a+1
  for _ in [0:n] do
   if ofs>=b then break
   let some found <-ju left key arr base (a-ofs) |return none
   if found then break
   lastofs:=ofs
   ofs:=2*ofs+1
  lo:=a+1-min ofs b
  hi:=a-lastofs
 for _ in [0:n] do
  if lo>=hi then break
  let m:=lo+(hi-lo) / 2
  let some more <-ju left key arr base m|return none
  if more then lo:=m+1 else hi:=m
 return some hi):=rfl
section
variable {O:KeyOrd} {key:Keyed->O.α} {S:Keyed->Prop} {k0:SortKind} {M:Model} {A:Around} {E:Value->Shared->Prop} {s:Shared} {st:SortSt}
def bG{i:Nat}(h:arr[i]?\x)(q:Q x st):wpS M A E s (elem' arr i) Q st:=by
 rw[elem'_eq,h];exact FS q
end
section
variable {O:KeyOrd} {key:Keyed->O.α} {S:Keyed->Prop} {k0:SortKind} {M:Model} {A:Around} {E:Value->Shared->Prop} {s:Shared} {st bV:SortSt}
structure hJ (bV st:SortSt) (lo hi:Nat):Prop where
 perm:(arrOf st).Perm (arrOf bV)
 kind:kindOf st=kindOf bV
 failed:failedOf st=failedOf bV
 pend:pendingOf st=pendingOf bV
 out:∀i,i<lo\/hi<=i->(arrOf st)[i]? =(arrOf bV)[i]?
theorem hJ.refl(st:SortSt)(lo a:Nat):hJ st st lo a:=#[.refl _,rfl,rfl,rfl,λ_ _=>rfl]
theorem hJ.trans{d e:SortSt}{lo c:Nat}(a:hJ bV d lo c)(b:hJ d e lo c):hJ bV e lo c:=
 #[b.perm.trans a.perm,b.kind.trans a.kind,b.failed.trans a.failed,b.pend.trans a.pend,λi h=>(b.out i h).trans (a.out i h)]
theorem hJ.size{lo b:Nat}(a:hJ bV st lo b):(arrOf st).size=(arrOf bV).size:=a.perm.size_eq
theorem hJ.mirror{lo a i j:Nat}(c:lo<=i)(d:j<=a)(b:j<=(arrOf st).size):hJ st (setArr st (mirror (arrOf st) i j ((j-i) / 2))) lo a:=
 #[mirror_perm _ _ _ _,rfl,rfl,rfl,λk h=>by
  show(PyProof.Rows.mirror (arrOf st) i j ((j-i) / 2))[k]? =_;rw[getElem?_mirror_all b,tz ()]]
theorem hJ.bubble{lo a src d:Nat}(b:d<=src)(e:lo<=src-d)(f:src<a)(c:src<(arrOf st).size):hJ st (setArr st (bubble (arrOf st) src d)) lo a:=
 #[bubble_perm _ _ _,rfl,rfl,rfl,λk h=>by
  show(PyProof.Rows.bubble (arrOf st) src d)[k]? =_;rw[getElem?_bubble c d b,tz (),tz ()]]
structure Ok (S:Keyed->Prop) (k0:SortKind) (st:SortSt):Prop where
 mem:∀p,p∈(arrOf st).toList->S p
 kind:kindOf st=k0
def Ok.step{lo b:Nat}(o:Ok S k0 bV)(a:hJ bV st lo b):Ok S k0 st:=
 #[λp c=>o.mem p ((KP.mp a.perm).mem_iff.mp c),a.kind.trans o.kind]
def Ok.at{i:Nat}(o:Ok S k0 st)(a:i<(arrOf st).size):(arrOf st)[i]?\((arrOf st)[i]?.getD (.none, .none))/\S ((arrOf st)[i]?.getD (.none, .none)):=by
 have e:(arrOf st)[i]? =some (arrOf st)[i]:=ab1 _ i a;rw[e];exact#[rfl,o.mem _ (by simp)]
end
def EH(lo a d:Nat):StateT SortSt Sem AscSt:=
 forIn [a:d] ((none,a):AscSt) λ_ b=>do
  let c <-ltAt' (lo+b.snd) (lo+b.snd-1)
  match c with
  |some e=>if e=true then pure (ForInStep.done (none,b.snd)) else pure (ForInStep.yield (none,b.snd+1))
  |_=>pure (ForInStep.done (some none,b.snd))
def tailL(lo n b:Nat):StateT SortSt Sem (Option Nat):=do
 reverseSlice' lo (lo+n)
 let a <-EH lo n b
 match a.fst with
 |some r=>pure r
 |none=>pure (some a.snd)
def HI(lo n c:Nat):StateT SortSt Sem DescSt:=
 forIn [n:c] ((none,n,0):DescSt) λ_ a=>do
  let b <-ltAt' (lo+a.snd.fst) (lo+a.snd.fst-1)
  match b with
  |some d=>
   if d=true then
    if a.snd.snd>0 then do
     reverseSlice' (lo+a.snd.fst-(a.snd.snd+1)) (lo+a.snd.fst)
     pure (ForInStep.yield (none,a.snd.fst+1,0))
    else pure (ForInStep.yield (none,a.snd.fst+1,0))
   else do
    let b <-ltAt' (lo+a.snd.fst-1) (lo+a.snd.fst)
    match b with
    |some e=>
     if e=true then pure (ForInStep.done (none,a.snd.fst,a.snd.snd))
     else pure (ForInStep.yield (none,a.snd.fst+1,a.snd.snd+1))
    |_=>pure (ForInStep.done (some none,a.snd.fst,a.snd.snd))
  |_=>pure (ForInStep.done (some none,a.snd.fst,a.snd.snd))
def descP(lo n b:Nat):StateT SortSt Sem (Option Nat):=do
 liftM (rule "list.sort.descending-run")
 let a <-HI lo (n+1) b
 match a.fst with
 |some r=>pure r
 |none=>
  if a.snd.snd>0 then do
   reverseSlice' (lo+a.snd.fst-(a.snd.snd+1)) (lo+a.snd.fst)
   tailL lo a.snd.fst b
  else tailL lo a.snd.fst b
theorem z7(lo c:Nat):countRun' lo c=(do
  let a <-EH lo 1 c
  match a.fst with
  |some r=>pure r
  |none=>
   if (a.snd==c)=true then pure (some a.snd)
   else if a.snd>1 then do
    let e <-ltAt' lo (lo+a.snd-1)
    match e with
    |some g=>if g=true then pure (some a.snd) else do
      reverseSlice' lo (lo+a.snd)
      descP lo a.snd c
    |_=>pure none
   else descP lo a.snd c):=by
 rw[countRun'_eq];dsimp only;unfold descP tailL HI EH
 congr 1
 funext a
 obtain⟨r,n⟩:=a;cases r with
 |some r=>rfl
 |none=>
  dsimp only
  split
  .rfl
  .split
   .congr 1
    funext x
    cases x with
    |none=>rfl
    |some g=>
     dsimp only
     split
     .rfl
     .congr 1
      funext _r
      (congr 1;funext _u;congr 1;congr 1;funext s2;obtain⟨d,h,i⟩:=s2;cases d with
 |some d=>rfl
 |none=>(dsimp only;split;(congr 1;funext _v;(congr 1;funext _w;congr 1;(funext s3;obtain⟨b,f⟩:=s3;cases b<;>rfl)));(congr 1;funext _w;congr 1;(funext s3;obtain⟨b,f⟩:=s3;cases b<;>rfl))))
   ·(congr 1;funext _u;congr 1;congr 1;funext s2;obtain⟨d,h,i⟩:=s2;cases d with
 |some d=>rfl
 |none=>(dsimp only;split;(congr 1;funext _v;(congr 1;funext _w;congr 1;(funext s3;obtain⟨b,f⟩:=s3;cases b<;>rfl)));(congr 1;funext _w;congr 1;(funext s3;obtain⟨b,f⟩:=s3;cases b<;>rfl))))
section
variable {O:KeyOrd} {key:Keyed->O.α} {S:Keyed->Prop} {k0:SortKind} {prog:Program} {w:World} {A:Around} {E:Value->Shared->Prop} {s:Shared} {st bV:SortSt}
def um(h:Q ⟨⟩ (setArr st (mirror (arrOf st) i j ((j-i) / 2)))):wpS (model prog w) A E s (reverseSlice' i j) Q st:=by
 rw[reverseSlice'_eq];exact abm h
end
section lists
variable (O:KeyOrd) (key:Keyed->O.α)
variable {O key}
end lists
def Dj(a b:Array Keyed)(h e f d:Nat)(out:Array Keyed)(g:Nat):StateT SortSt Sem (ForInStep (Option (Array Keyed)×Array Keyed×Nat×Nat×Nat×Nat×Nat)):=do
 let c <-elem' a d
 let out:Array Keyed:=out.push c
 let d:Nat:=d+1
 if (d+1==a.size)=true then pure (ForInStep.done (some (out++b.extract g b.size++a.extract d a.size),out,d,g,h,e,f))
 else if (decide (e<7)&&decide (f<7))=true then pure (ForInStep.done (none,out,d,g,h,e,f))
 else pure (ForInStep.yield (none,out,d,g,h,e,f))
def uY(a b:Array Keyed)(f g i d:Nat)(out:Array Keyed)(e:Nat):StateT SortSt Sem (ForInStep (Option (Array Keyed)×Array Keyed×Nat×Nat×Nat×Nat×Nat)):=do
 let c <-elem' b d
 let out:Array Keyed:=out.push c
 let d:Nat:=d+1
 if (d==b.size)=true then pure (ForInStep.done (some (out++a.extract e a.size++b.extract d b.size),out,e,d,f,g,i))
 else do
  let c <-elem' a e
  let h <-fD true c b d (b.size-d) 0
  match h with
  |some k=>
   if k>0 then
    if (d+k==b.size)=true then pure (ForInStep.done (some (out++b.extract d (d+k)++a.extract e a.size++b.extract (d+k) b.size),out++b.extract d (d+k),e,d+k,f,g,k))
    else Dj a b f g k e (out++b.extract d (d+k)) (d+k)
   else Dj a b f g k e out d
  |_=>pure (ForInStep.done (some (out++a.extract e a.size++b.extract d b.size),out,e,d,f,g,i))
def rT(a b:Array Keyed)(g i c e:Nat)(out:Array Keyed)(f:Nat):StateT SortSt Sem (ForInStep (Option (Array Keyed)×Array Keyed×Nat×Nat×Nat×Nat×Nat)):=do
 setMinGallop' f
 let d <-elem' b e
 let h <-fD false d a c (a.size-c) 0
 match h with
 |some k=>
  if k>0 then
   if (c+k+1==a.size)=true then pure (ForInStep.done (some (out++a.extract c (c+k)++b.extract e b.size++a.extract (c+k) a.size),out++a.extract c (c+k),c+k,e,f,k,g))
   else if (c+k==a.size)=true then pure (ForInStep.done (some (out++a.extract c (c+k)++a.extract (c+k) a.size++b.extract e b.size),out++a.extract c (c+k),c+k,e,f,k,g))
   else uY a b f k g e (out++a.extract c (c+k)) (c+k)
  else uY a b f k g e out c
 |_=>pure (ForInStep.done (some (out++a.extract c a.size++b.extract e b.size),out,c,e,f,i,g))
def Dl(a b:Array Keyed)(c:Option (Array Keyed)×Array Keyed×Nat×Nat×Nat×Nat×Nat):StateT SortSt Sem (ForInStep (Option (Array Keyed)×Array Keyed×Nat×Nat×Nat×Nat×Nat)):=
 if c.2.2.2.2.1>1 then rT a b c.2.2.2.2.2.2 c.2.2.2.2.2.1 c.2.2.1 c.2.2.2.1 c.2.1 (c.2.2.2.2.1-1) else rT a b c.2.2.2.2.2.2 c.2.2.2.2.2.1 c.2.2.1 c.2.2.2.1 c.2.1 c.2.2.2.2.1
def Dk(a b:Array Keyed)(e:Nat)(c:Option (Array Keyed)×Array Keyed×Nat×Nat×Nat×Nat):StateT SortSt Sem (ForInStep (Option (Array Keyed)×Array Keyed×Nat×Nat×Nat×Nat)):=do
 let y <-elem' b c.2.2.2.1
 let x <-elem' a c.2.2.1
 let d <-lt' y x
 match d with
 |some f=>
  if f=true then do
   let y <-elem' b c.2.2.2.1
   if (c.2.2.2.1+1==b.size)=true then pure (ForInStep.done (some (c.2.1.push y++a.extract c.2.2.1 a.size++b.extract (c.2.2.2.1+1) b.size),c.2.1.push y,c.2.2.1,c.2.2.2.1+1,0,c.2.2.2.2.2+1))
   else if c.2.2.2.2.2+1>=e then pure (ForInStep.done (none,c.2.1.push y,c.2.2.1,c.2.2.2.1+1,0,c.2.2.2.2.2+1))
   else pure (ForInStep.yield (none,c.2.1.push y,c.2.2.1,c.2.2.2.1+1,0,c.2.2.2.2.2+1))
  else do
   let x <-elem' a c.2.2.1
   if (c.2.2.1+1+1==a.size)=true then pure (ForInStep.done (some (c.2.1.push x++b.extract c.2.2.2.1 b.size++a.extract (c.2.2.1+1) a.size),c.2.1.push x,c.2.2.1+1,c.2.2.2.1,c.2.2.2.2.1+1,0))
   else if c.2.2.2.2.1+1>=e then pure (ForInStep.done (none,c.2.1.push x,c.2.2.1+1,c.2.2.2.1,c.2.2.2.2.1+1,0))
   else pure (ForInStep.yield (none,c.2.1.push x,c.2.2.1+1,c.2.2.2.1,c.2.2.2.2.1+1,0))
 |_=>pure (ForInStep.done (some (c.2.1++a.extract c.2.2.1 a.size++b.extract c.2.2.2.1 b.size),c.2.1,c.2.2.1,c.2.2.2.1,c.2.2.2.2.1,c.2.2.2.2.2))
def tP(a b:Array Keyed)(f:Option (Array Keyed)×Array Keyed×Nat×Nat×Nat):StateT SortSt Sem (ForInStep (Option (Array Keyed)×Array Keyed×Nat×Nat×Nat)):=do
 let e <-forIn [0:a.size+b.size] (none,f.2.1,f.2.2.1,f.2.2.2.1,0,0) λ_ c=>Dk a b f.2.2.2.2 c
 match e.1 with
 |some r=>pure (ForInStep.done (some r,e.2.1,e.2.2.1,e.2.2.2.1,f.2.2.2.2))
 |none=>do
  liftM (rule "list.sort.gallop")
  let d <-forIn [0:a.size+b.size] (none,e.2.1,e.2.2.1,e.2.2.2.1,f.2.2.2.2+1,e.2.2.2.2.1,e.2.2.2.2.2) λ_ c=>Dl a b c
  match d.1 with
  |some r=>pure (ForInStep.done (some r,d.2.1,d.2.2.1,d.2.2.2.1,d.2.2.2.2.1))
  |none=>do
   setMinGallop' (d.2.2.2.2.1+1)
   pure (ForInStep.yield (none,d.2.1,d.2.2.1,d.2.2.2.1,d.2.2.2.2.1+1))
def dM{b d:Type}{m c:StateT SortSt Sem b}{f a:b->StateT SortSt Sem d}(h:m=c)(g:∀x,f x=a x):m>>=f=c>>=a:=by rw[h,show f=a from funext g]
def Co{a:Type}{n:Nat}{d:a}{f b:Nat->a->StateT SortSt Sem (ForInStep a)}(h:∀i c,f i c=b i c):forIn [0:n] d f=forIn [0:n] d b:=by rw[show f=b from funext λi=>funext (h i)]
def fN [Decidable c] (h:c->x=a) (g:¬c->y=b):(if c then x else y)=if c then a else b:=by
 by_cases e:c
 .rw[AC e,AC e];exact h e
 .rw[tz e,tz e];exact g e
def Aj(a b:Array Keyed):qD a b=(do
 rule "list.sort.merge-lo"
 let e:=a.size+b.size
 let done (out:Array Keyed) (c d:Nat):=out++a.extract c a.size++b.extract d b.size
 let f (out:Array Keyed) (c d:Nat):=out++b.extract d b.size++a.extract c a.size
 let mut out:Array Keyed:= [<-elem' b 0].toArray
 let mut c:=0
 let mut d:=1
 if d==b.size then return done out c d
 if c+1==a.size then return f out c d
 let mut minGallop:=gallopOf (<-get)
 for _ in [0:e] do
  let mut acount:=0
  let mut bcount:=0
  for _ in [0:e] do
   let some Hz <-lt' (<-elem' b d) (<-elem' a c) |return done out c d
   if Hz then
    out:=out.push (<-elem' b d);d:=d+1;bcount:=bcount+1;acount:=0
    if d==b.size then return done out c d
    if bcount>=minGallop then break
   else
    out:=out.push (<-elem' a c);c:=c+1;acount:=acount+1;bcount:=0
    if c+1==a.size then return f out c d
    if acount>=minGallop then break
  rule "list.sort.gallop"
  minGallop:=minGallop+1
  for _ in [0:e] do
   if minGallop>1 then minGallop:=minGallop-1
   setMinGallop' minGallop
   let some k <-fD false (<-elem' b d) a c (a.size-c) 0|return done out c d
   acount:=k
   if k>0 then
    out:=out++a.extract c (c+k);c:=c+k
    if c+1==a.size then return f out c d
    if c==a.size then return done out c d
   out:=out.push (<-elem' b d);d:=d+1
   if d==b.size then return done out c d
   let some k <-fD true (<-elem' a c) b d (b.size-d) 0|return done out c d
   bcount:=k
   if k>0 then
    out:=out++b.extract d (d+k);d:=d+k
    if d==b.size then return done out c d
   out:=out.push (<-elem' a c);c:=c+1
   if c+1==a.size then return f out c d
   if acount<7&&bcount<7 then break
  minGallop:=minGallop+1
  setMinGallop' minGallop
 unsupported "internal:list.sort.merge-bound"):=rfl
theorem Du(a b:Array Keyed):qD a b=(do
 liftM (rule "list.sort.merge-lo")
 let y <-elem' b 0
 if (1==b.size)=true then pure ([y].toArray++a.extract 0 a.size++b.extract 1 b.size)
 else if (0+1==a.size)=true then pure ([y].toArray++b.extract 1 b.size++a.extract 0 a.size)
 else do
  let d <-get
  let e <-forIn [0:a.size+b.size] (none, [y].toArray,0,1,gallopOf d) λ_ c=>tP a b c
  match e.1 with
  |some r=>pure r
  |none=>liftM (unsupported (α:=Array Keyed) "internal:list.sort.merge-bound")):=by
 rw[Aj];dsimp only;refine dM rfl λ_=>dM rfl λy=>?_;refine KF (ite _ _) (KF (ite _ _) ?_);refine dM rfl λg=>dM (Co λ_ c=>?_) λu=>?_
 .unfold tP
  refine dM (Co λ_ t=>?_) λt=>?_
  .unfold Dk
   refine dM rfl λ_=>dM rfl λ_=>dM rfl λz=>?_;cases z<;>rfl
  .obtain⟨i,l⟩:=t
   cases i with
   |some r=>rfl
   |none=>
    dsimp only;refine dM rfl λ_=>dM (Co λ_ u=>?_) λu=>?_
    .unfold Dl
     have m:∀h,rT a b u.2.2.2.2.2.2 u.2.2.2.2.2.1 u.2.2.1 u.2.2.2.1 u.2.1 h=rT a b u.2.2.2.2.2.2 u.2.2.2.2.2.1 u.2.2.1 u.2.2.2.1 u.2.1 h:=λ_=>rfl;refine fN (λ_=>?_) (λ_=>?_)
     all_goals
      unfold rT;refine dM rfl λ_=>dM rfl λ_=>dM rfl λz=>?_;cases z with
      |none=>rfl
      |some k=>
       dsimp only;refine fN (λ_=>?_) (λ_=>?_)
       .refine fN (λ_=>rfl) (λ_=>fN (λ_=>rfl) (λ_=>?_))
        unfold uY;refine dM rfl λ_=>fN (λ_=>rfl) (λ_=>dM rfl λ_=>dM rfl λz=>?_);cases z with
        |none=>rfl
        |some k=>rfl
       .unfold uY
        refine dM rfl λ_=>fN (λ_=>rfl) (λ_=>dM rfl λ_=>dM rfl λz=>?_);cases z with
        |none=>rfl
        |some k=>rfl
    .obtain⟨f,j⟩:=u
     cases f<;>rfl
 .obtain⟨f,j⟩:=u
  cases f<;>rfl
structure GS (st ay:SortSt):Prop where
 arr:arrOf ay=arrOf st
 kind:kindOf ay=kindOf st
 failed:failedOf ay=failedOf st
 pend:pendingOf ay=pendingOf st
def GS.refl(st:SortSt):GS st st:=#[rfl,rfl,rfl,rfl]
theorem GS.trans(x:GS a b)(y:GS b c):GS a c:=#[y.arr.trans x.arr,y.kind.trans x.kind,y.failed.trans x.failed,y.pend.trans x.pend]
def ub(g:Nat):setMinGallop' g=modify λs=>SortSt.mk' (kindOf s) (arrOf s) (pendingOf s) g (failedOf s):=rfl
def ext_toList(a:Array Keyed)(i j:Nat):(a.extract i j).toList=(a.toList.drop i).take (j-i):=by
 rw[Array.toList_extract]
def Fm(a:Array Keyed)(i:Nat):(a.extract i a.size).toList=a.toList.drop i:=by
 rw[ext_toList,Hk (by simp)]
def drop_cons{xs:Array Keyed}(h:xs[i]?\x):xs.toList.drop i=x::xs.toList.drop (i+1):=by
 have a:xs.toList[i]?\x:=by rw[<-h];simp
 obtain⟨b,e⟩:=dZ.mp a;rw[rg b,e]
def vP(l:List Keyed)(i k:Nat):l.drop i=(l.drop i).take k++l.drop (i+k):=by
 rw[<-List.drop_drop,n6]
section
variable {O:KeyOrd} {key:Keyed->O.α} {S:Keyed->Prop} {k0:SortKind} {M:Model} {A:Around} {E:Value->Shared->Prop} {s:Shared} {st bV:SortSt}
def qG(h:∀a,GS st a->Q ⟨⟩ a):wpS M A E s (setMinGallop' g) Q st:=by
 rw[ub];exact abm (h _ #[rfl,rfl,rfl,rfl])
def eG{xs:Array Keyed}{i:Nat}(h:i<xs.size):∃x,xs[i]?\x/\x∈xs.toList/\xs.toList[i]?\x:=by
 refine#[xs[i],ab1 xs i h,by simp,?_]
 rw[gE];exact ab1 xs i h
def OQ{a:Array Keyed}{i:Nat}{x:Keyed}(h:a[i]?\x):a.toList[i]?\x:=by rw[gE];exact h
end
def Ai(a b:Array Keyed):qC a b=(do
 rule "list.sort.merge-hi"
 let c:=a.size+b.size
 let done (out:Array Keyed) (na nb:Nat):=a.extract 0 na++b.extract 0 nb++out.reverse
 let d (out:Array Keyed) (na nb:Nat):=b.extract 0 nb++a.extract 0 na++out.reverse
 let mut na:=a.size-1
 let mut nb:=b.size
 let mut out:Array Keyed:= [<-elem' a na].toArray
 if na==0 then return done out na nb
 if nb==1 then return d out na nb
 let mut minGallop:=gallopOf (<-get)
 for _ in [0:c] do
  let mut acount:=0
  let mut bcount:=0
  for _ in [0:c] do
   let some Hy <-lt' (<-elem' b (nb-1)) (<-elem' a (na-1)) |return done out na nb
   if Hy then
    na:=na-1;out:=out.push (<-elem' a na);acount:=acount+1;bcount:=0
    if na==0 then return done out na nb
    if acount>=minGallop then break
   else
    nb:=nb-1;out:=out.push (<-elem' b nb);bcount:=bcount+1;acount:=0
    if nb==1 then return d out na nb
    if bcount>=minGallop then break
  rule "list.sort.gallop"
  minGallop:=minGallop+1
  for _ in [0:c] do
   if minGallop>1 then minGallop:=minGallop-1
   setMinGallop' minGallop
   let some at_ <-fD false (<-elem' b (nb-1)) a 0 na (na-1) |return done out na nb
   let k:=na-at_
   acount:=k
   if k>0 then
    out:=out++(a.extract at_ na).reverse;na:=at_
    if na==0 then return done out na nb
   nb:=nb-1;out:=out.push (<-elem' b nb)
   if nb==1 then return d out na nb
   let some at_ <-fD true (<-elem' a (na-1)) b 0 nb (nb-1) |return done out na nb
   let k:=nb-at_
   bcount:=k
   if k>0 then
    out:=out++(b.extract at_ nb).reverse;nb:=at_
    if nb==1 then return d out na nb
    if nb==0 then return done out na nb
   na:=na-1;out:=out.push (<-elem' a na)
   if na==0 then return done out na nb
   if acount<7&&bcount<7 then break
  minGallop:=minGallop+1
  setMinGallop' minGallop
 unsupported "internal:list.sort.merge-bound"):=rfl
abbrev S7:=Option (Array Keyed)×Nat×Nat×Array Keyed×Nat×Nat×Nat
abbrev S6:=Option (Array Keyed)×Nat×Nat×Array Keyed×Nat×Nat
abbrev S5:=Option (Array Keyed)×Nat×Nat×Array Keyed×Nat
def lH(a b out:Array Keyed)(c d:Nat):Array Keyed:=a.extract 0 c++b.extract 0 d++out.reverse
def xr(a b out:Array Keyed)(c d:Nat):Array Keyed:=b.extract 0 d++a.extract 0 c++out.reverse
def CA(a b:Array Keyed)(g d e c:Nat)(out:Array Keyed)(f:Nat):StateT SortSt Sem (ForInStep S7):=do
 let x <-elem' a (c-1)
 if (c-1==0)=true then pure (ForInStep.done (some (lH a b (out.push x) (c-1) f),c-1,f,out.push x,g,d,e))
 else if (decide (d<7)&&decide (e<7))=true then pure (ForInStep.done (none,c-1,f,out.push x,g,d,e))
 else pure (ForInStep.yield (none,c-1,f,out.push x,g,d,e))
def uP(a b:Array Keyed)(e f h c:Nat)(out:Array Keyed)(d:Nat):StateT SortSt Sem (ForInStep S7):=do
 let y <-elem' b (c-1)
 if (c-1==1)=true then pure (ForInStep.done (some (xr a b (out.push y) d (c-1)),d,c-1,out.push y,e,f,h))
 else do
  let x <-elem' a (d-1)
  let g <-fD true x b 0 (c-1) (c-1-1)
  match g with
  |some p=>
   if c-1-p>0 then
    if (p==1)=true then pure (ForInStep.done (some (xr a b (out.push y++(b.extract p (c-1)).reverse) d p),d,p,out.push y++(b.extract p (c-1)).reverse,e,f,c-1-p))
    else if (p==0)=true then pure (ForInStep.done (some (lH a b (out.push y++(b.extract p (c-1)).reverse) d p),d,p,out.push y++(b.extract p (c-1)).reverse,e,f,c-1-p))
    else CA a b e f (c-1-p) d (out.push y++(b.extract p (c-1)).reverse) p
   else CA a b e f (c-1-p) d (out.push y) (c-1)
  |_=>pure (ForInStep.done (some (lH a b (out.push y) d (c-1)),d,c-1,out.push y,e,f,h))
def yC(a b:Array Keyed)(f h c d:Nat)(out:Array Keyed)(e:Nat):StateT SortSt Sem (ForInStep S7):=do
 setMinGallop' e
 let y <-elem' b (d-1)
 let g <-fD false y a 0 c (c-1)
 match g with
 |some p=>
  if c-p>0 then
   if (p==0)=true then pure (ForInStep.done (some (lH a b (out++(a.extract p c).reverse) p d),p,d,out++(a.extract p c).reverse,e,c-p,f))
   else uP a b e (c-p) f d (out++(a.extract p c).reverse) p
  else uP a b e (c-p) f d out c
 |_=>pure (ForInStep.done (some (lH a b out c d),c,d,out,e,h,f))
def CC(a b:Array Keyed)(c:S7):StateT SortSt Sem (ForInStep S7):=
 if c.2.2.2.2.1>1 then yC a b c.2.2.2.2.2.2 c.2.2.2.2.2.1 c.2.1 c.2.2.1 c.2.2.2.1 (c.2.2.2.2.1-1) else yC a b c.2.2.2.2.2.2 c.2.2.2.2.2.1 c.2.1 c.2.2.1 c.2.2.2.1 c.2.2.2.2.1
def CB(a b:Array Keyed)(e:Nat)(c:S6):StateT SortSt Sem (ForInStep S6):=do
 let y <-elem' b (c.2.2.1-1)
 let x <-elem' a (c.2.1-1)
 let d <-lt' y x
 match d with
 |some f=>
  if f=true then do
   let x <-elem' a (c.2.1-1)
   if (c.2.1-1==0)=true then pure (ForInStep.done (some (lH a b (c.2.2.2.1.push x) (c.2.1-1) c.2.2.1),c.2.1-1,c.2.2.1,c.2.2.2.1.push x,c.2.2.2.2.1+1,0))
   else if c.2.2.2.2.1+1>=e then pure (ForInStep.done (none,c.2.1-1,c.2.2.1,c.2.2.2.1.push x,c.2.2.2.2.1+1,0))
   else pure (ForInStep.yield (none,c.2.1-1,c.2.2.1,c.2.2.2.1.push x,c.2.2.2.2.1+1,0))
  else do
   let y <-elem' b (c.2.2.1-1)
   if (c.2.2.1-1==1)=true then pure (ForInStep.done (some (xr a b (c.2.2.2.1.push y) c.2.1 (c.2.2.1-1)),c.2.1,c.2.2.1-1,c.2.2.2.1.push y,0,c.2.2.2.2.2+1))
   else if c.2.2.2.2.2+1>=e then pure (ForInStep.done (none,c.2.1,c.2.2.1-1,c.2.2.2.1.push y,0,c.2.2.2.2.2+1))
   else pure (ForInStep.yield (none,c.2.1,c.2.2.1-1,c.2.2.2.1.push y,0,c.2.2.2.2.2+1))
 |_=>pure (ForInStep.done (some (lH a b c.2.2.2.1 c.2.1 c.2.2.1),c.2.1,c.2.2.1,c.2.2.2.1,c.2.2.2.2.1,c.2.2.2.2.2))
def tF(a b:Array Keyed)(f:S5):StateT SortSt Sem (ForInStep S5):=do
 let e <-forIn [0:a.size+b.size] ((none,f.2.1,f.2.2.1,f.2.2.2.1,0,0):S6) λ_ c=>CB a b f.2.2.2.2 c
 match e.1 with
 |some r=>pure (ForInStep.done (some r,e.2.1,e.2.2.1,e.2.2.2.1,f.2.2.2.2))
 |none=>do
  liftM (rule "list.sort.gallop")
  let d <-forIn [0:a.size+b.size] ((none,e.2.1,e.2.2.1,e.2.2.2.1,f.2.2.2.2+1,e.2.2.2.2.1,e.2.2.2.2.2):S7) λ_ c=>CC a b c
  match d.1 with
  |some r=>pure (ForInStep.done (some r,d.2.1,d.2.2.1,d.2.2.2.1,d.2.2.2.2.1))
  |none=>do
   setMinGallop' (d.2.2.2.2.1+1)
   pure (ForInStep.yield (none,d.2.1,d.2.2.1,d.2.2.2.1,d.2.2.2.2.1+1))
theorem Ds(a b:Array Keyed):qC a b=(do
 liftM (rule "list.sort.merge-hi")
 let x <-elem' a (a.size-1)
 if (a.size-1==0)=true then pure (lH a b [x].toArray (a.size-1) b.size)
 else if (b.size==1)=true then pure (xr a b [x].toArray (a.size-1) b.size)
 else do
  let d <-get
  let e <-forIn [0:a.size+b.size] ((none,a.size-1,b.size, [x].toArray,gallopOf d):S5) λ_ c=>tF a b c
  match e.1 with
  |some r=>pure r
  |none=>liftM (unsupported (α:=Array Keyed) "internal:list.sort.merge-bound")):=by
 rw[Ai];dsimp only;refine dM rfl λ_=>dM rfl λy=>?_;refine KF (ite _ _) (KF (ite _ _) ?_);refine dM rfl λg=>dM (Co λ_ c=>?_) λu=>?_
 .unfold tF
  refine dM (Co λ_ t=>?_) λt=>?_
  .unfold CB
   refine dM rfl λ_=>dM rfl λ_=>dM rfl λz=>?_;cases z<;>rfl
  .obtain⟨h,j⟩:=t
   cases h with
   |some r=>rfl
   |none=>
    dsimp only;refine dM rfl λ_=>dM (Co λ_ u=>?_) λu=>?_
    .unfold CC
     refine fN (λ_=>?_) (λ_=>?_)
     all_goals
      unfold yC;refine dM rfl λ_=>dM rfl λ_=>dM rfl λz=>?_;cases z with
      |none=>rfl
      |some k=>
       dsimp only;refine fN (λ_=>?_) (λ_=>?_)
       .refine fN (λ_=>rfl) (λ_=>?_)
        unfold uP;refine dM rfl λ_=>fN (λ_=>rfl) (λ_=>dM rfl λ_=>dM rfl λz=>?_);cases z with
        |none=>rfl
        |some k=>rfl
       .unfold uP
        refine dM rfl λ_=>fN (λ_=>rfl) (λ_=>dM rfl λ_=>dM rfl λz=>?_);cases z with
        |none=>rfl
        |some k=>rfl
    .obtain⟨f,i⟩:=u
     cases f<;>rfl
 .obtain⟨f,i⟩:=u
  cases f<;>rfl
section
variable {O:KeyOrd} {key:Keyed->O.α} {S:Keyed->Prop} {k0:SortKind} {M:Model} {A:Around} {E:Value->Shared->Prop} {s:Shared} {st bV:SortSt} {a b:Array Keyed}
def TR(c:Array Keyed)(n:Nat):(c.extract 0 n).toList=c.toList.take n:=by rw[ext_toList];simp
def wA(l:List Keyed)(h:p<=n):l.take n=l.take p++(l.drop p).take (n-p):=by
 conv=>lhs;rw[<-n6 p (l.take n)]
 rw[List.take_take,show min p n=p by lia,List.drop_take]
end
def Dr(i:Nat):mergeAt' i=(do
 let s <-get
 let (some (sa,na,power),some (sb,nb,_)):=((pendingOf s)[i]?,(pendingOf s)[i+1]?) |unsupported "internal:list.sort.pending"
 set (setPending s (((pendingOf s).setIfInBounds i (sa,na+nb,power)).eraseIdxIfInBounds (i+1)))
 let some k <-fD false (<-elem' (arrOf s) sb) (arrOf s) sa na 0|return false
 let (sa,na):=(sa+k,na-k)
 if na==0 then return true
 let some nb <-fD true (<-elem' (arrOf s) (sa+na-1)) (arrOf s) sb nb (nb-1) |return false
 if nb==0 then return true
 let x:=(arrOf s).extract sa sb
 let y:=(arrOf s).extract sb (sb+nb)
 let merged <-if na<=nb then qD x y else qC x y
 modify λs=>setArr s (merged.toList.zipIdx.foldl (λa (p,j)=>a.setIfInBounds (sa+j) p) (arrOf s))
 return (failedOf (<-get)).isNone):=rfl
theorem yt:∀(m:List Keyed)(off b:Nat)(c:Array Keyed),b+off+m.length<=c.size->
  ((m.zipIdx off).foldl (λa (p:Keyed×Nat)=>a.setIfInBounds (b+p.2) p.1) c).size=c.size/\∀i,((m.zipIdx off).foldl (λa (p:Keyed×Nat)=>a.setIfInBounds (b+p.2) p.1) c)[i]? =if b+off<=i/\i<b+off+m.length then m[i-(b+off)]? else c[i]?
 | [],off,b,c,_=>#[rfl,λi=>by rw[tz (by simp)];rfl]
 |x::m,off,b,c,h=>by
  rw[cx] at h;have e:=yt m (off+1) b (c.setIfInBounds (b+off) x) (by rw[abj];lia)
  rw[List.zipIdx_cons,acW];refine#[by rw[e.1,abj],λi=>?_]
  rw[e.2 i]
  by_cases f:b+(off+1)<=i/\i<b+(off+1)+m.length
  .rw[AC f,AC (by rw[cx];lia),show i-(b+off)=(i-(b+(off+1)))+1 by lia,wD]
  .rw[tz f,acf]
   by_cases d:b+off=i
   .rw[AC d,AC (),AC (by rw[cx];lia),<-d,rj];rfl
   .rw[tz d,tz (by rw[cx];lia)]
def putAt(c m:Array Keyed)(b:Nat):Array Keyed:=m.toList.zipIdx.foldl (λa (p:Keyed×Nat)=>a.setIfInBounds (b+p.2) p.1) c
def Jm(h:b+m.size<=a.size)(i:Nat):(putAt a m b)[i]? =if b<=i/\i<b+m.size then m[i-b]? else a[i]? :=by
 have:=(yt m.toList 0 b a (~~~h)).2 i
 unfold putAt;rw[this];simp
def GC(h:b+m.size<=a.size)(p:m.toList.Perm ((a.toList.drop b).take m.size)):(putAt a m b).Perm a:=by
 rw[KP]
 have e:(putAt a m b).toList=a.toList.take b++(m.toList++a.toList.drop (b+m.size)):=by
  apply wI;intro i;rw[gE,Jm h,List.getElem?_append,List.getElem?_append,jS,dY,dY,acm,Ey,gE,gE,gE]
  repeat' split
  all_goals first|rfl| (exfalso;lia) | (congr 1;lia)
 have c:a.toList=a.toList.take b++((a.toList.drop b).take m.size++a.toList.drop (b+m.size)):=by
  conv=>lhs;rw[<-n6 b a.toList,vP a.toList b m.size]
 rw[e]
 conv=>rhs;rw[c]
 exact abN _ (p.append_right _)
section
variable {O:KeyOrd} {key:Keyed->O.α} {S:Keyed->Prop} {k0:SortKind} {prog:Program} {w:World} {A:Around} {E:Value->Shared->Prop} {s:Shared} {st bV:SortSt}
def Qx(h:Q ⟨⟩ a):wpS M A E s (set a:StateT SortSt Sem PUnit) Q st:=by
 unfold wpS;rw[StateT.run_set];exact mo #[rfl,h]
end
abbrev U1:=Option Unit×Unit
def KI(a:Nat):StateT SortSt Sem (ForInStep U1):=do
 let st <-get
 match (if (pendingOf st).size>1 then(pendingOf st)[(pendingOf st).size-2]? else none) with
 |some (_,_,b)=>
  if b<=a then pure (ForInStep.done (none,Unit.unit))
  else do
   let ok <-mergeAt' ((pendingOf st).size-2)
   if (!ok)=true then pure (ForInStep.done (some ⟨⟩,Unit.unit)) else pure (ForInStep.yield (none,Unit.unit))
 |_=>pure (ForInStep.done (none,Unit.unit))
def nF(size lo n:Nat):StateT SortSt Sem (ForInStep (Option Unit×Nat)):=do
 let st <-get
 match (pendingOf st).back? with
 |some (b,a,_)=>do
  let t <-forIn [0:size] ((none,⟨⟩):U1) λ_ _=>KI (power' size (2*b+a) (2*b+a+a+n) size)
  match t.1 with
  |some r=>pure (ForInStep.done (some r,lo))
  |none=>do
   modify λs=>setPending s ((pendingOf s).modify ((pendingOf s).size-1) λx=>(x.1,x.2.1,power' size (2*b+a) (2*b+a+a+n) size))
   modify λs=>setPending s ((pendingOf s).push (lo,n,0))
   pure (ForInStep.yield (none,lo+n))
 |_=>do
  modify λs=>setPending s ((pendingOf s).push (lo,n,0))
  pure (ForInStep.yield (none,lo+n))
def Ec(size lo:Nat):StateT SortSt Sem (ForInStep (Option Unit×Nat)):=
 if lo>=size then pure (ForInStep.done (none,lo))
 else do
  let x <-countRun' lo (size-lo)
  match x with
  |some a=>
   if a<minRun' size size 0 then do
    liftM (rule "list.sort.binary-insertion")
    let ok <-binarySort' lo (min (size-lo) (minRun' size size 0)) a
    if (!ok)=true then pure (ForInStep.done (some ⟨⟩,lo)) else nF size lo (min (size-lo) (minRun' size size 0))
   else nF size lo a
  |_=>pure (ForInStep.done (some ⟨⟩,lo))
def Qh:StateT SortSt Sem (ForInStep U1):=do
 let st <-get
 if (pendingOf st).size<=1 then pure (ForInStep.done (none,Unit.unit))
 else do
  let ok <-mergeAt' (if (if (pendingOf st).size-2>0 then(pendingOf st)[(pendingOf st).size-2-1]?.map (·.2.1) else none).any (·<((pendingOf st)[(pendingOf st).size-2+1]?.elim 0 (·.2.1))) then(pendingOf st).size-2-1 else(pendingOf st).size-2)
  if (!ok)=true then pure (ForInStep.done (some ⟨⟩,Unit.unit)) else pure (ForInStep.yield (none,Unit.unit))
theorem zw:sortRuns'=(do
 let st <-get
 let c <-forIn [0:(arrOf st).size] ((none,0):Option Unit×Nat) λ_ c=>Ec (arrOf st).size c.2
 match c.1 with
 |some r=>pure r
 |none=>do
  let t <-forIn [0:(arrOf st).size] ((none,⟨⟩):U1) λ_ _=>Qh
  match t.1 with
  |some r=>pure r
  |none=>pure ⟨⟩):=by
 rw[sortRuns'_eq];dsimp only;refine dM rfl λst=>dM (Co λ_ c=>?_) λc=>?_
 .unfold Ec
  refine fN (λ_=>rfl) (λ_=>dM rfl λx=>?_);cases x with
  |none=>rfl
  |some f=>
   dsimp only;have i:∀n:Nat,nF (arrOf st).size c.2 n=nF (arrOf st).size c.2 n:=λ_=>rfl;refine fN (λ_=>dM rfl λ_=>dM rfl λok=>fN (λ_=>rfl) (λ_=>?_)) (λ_=>?_)
   all_goals
    unfold nF;refine dM rfl λd=>?_;cases(pendingOf d).back? with
    |none=>rfl
    |some e=>
     obtain⟨j,k,l⟩:=e;dsimp only;refine dM (Co λ_ c=>?_) λt=>?_
     .unfold KI
      refine dM rfl λa=>?_;cases(if (pendingOf a).size>1 then(pendingOf a)[(pendingOf a).size-2]? else none) with
      |none=>rfl
      |some e=>rfl
     .obtain⟨b,g⟩:=t
      cases b<;>rfl
 .obtain⟨h,m⟩:=c
  cases h with
  |some r=>rfl
  |none=>
   dsimp only;refine dM (Co λ_ c=>?_) λt=>?_
   .rfl
   .obtain⟨b,g⟩:=t
    cases b<;>rfl
end TS
namespace L2
open PySem PySem.Spec PyProof.Rows
section
open PySem.SeqAt
open PySem.AutoSeq1 (wpAny_loadPart')
open PySem.MeetsSeq PySem.MeetsSeq2 PySem.MeetsSeq3
def FL{c:List Value}{d:List Int}(h:IntsAre c d){i:Nat}{a:Int}(e:d[i]?\a):∃t,c[i]?\(.int a t):=by
 induction h generalizing i with
 |nil=>simp at e
 |cons b t _ f=>
  cases i with
  |zero=>simp at e;subst e;exact#[t,rfl]
  |succ i=>simp at e;obtain⟨u,g⟩:=f e;exact#[u,by simpa using g]
theorem OR(l b:Addr)(a j:Array Value)(n C:Nat)(E F:Option Addr)(G H:Array (Option Value))(m f:List Int)(y:IntsAre a.toList m)(z:IntsAre j.toList f)(k:Nat):
  ∀i:Nat,a.size-i=k->i<=a.size->i<=j.size->Meets (Builtin.«list.__eq__.loop» #[[.ref l, .ref b,rawInt i,rawInt 0],[]])
   (λA R s=>s.heap.get? l\{cls:= .type "list",dict:=E,data:= .seq a n,slots:=G}/\s.heap.get? b\{cls:= .type "list",dict:=F,data:= .seq j C,slots:=H}/\
    R (.ok (.ret (.bool (HT.lexLt (m.drop i) (f.drop i))))) s):=by
 have X:a.size=m.length:=by rw[<-y.length];simp
 have Y:j.size=f.length:=by rw[<-z.length];simp
 induction k with
 |zero=>
  intro i I J L prog w A R s h;obtain⟨r,g,d,v,os⟩:=s;obtain⟨o,p,h⟩:=h
  wp_walk using wpAny_loadPart' o,wpAny_loadPart' p
  have wX:a[((i:Nat):Int).toNat]? =none:=by simp;lia
  rw[wX];have M:m.drop i= []:=abA ()
  rw[M] at h
  have N:HT.lexLt [] (f.drop i)=decide (a.size<j.size):=by
   by_cases c:i<f.length
   .rw[rg c,HT.nN]
    exact(GT ()).symm
   .rw[abA (),HT.pA]
    exact(GM ()).symm
  rw[N] at h
  wp_walk using wpAny_loadPart' o,wpAny_loadPart' p
  exact h
 |succ k O=>
  intro i I J L prog w A R s h;obtain⟨r,g,d,v,os⟩:=s;obtain⟨o,p,h⟩:=h
  wp_walk using wpAny_loadPart' o,wpAny_loadPart' p
  have x:i<m.length:=()
  obtain⟨t,P⟩:=FL y (cZ x);have wX:a[((i:Nat):Int).toNat]?\(.int m[i] t):=by rw[wJ,<-gE];exact P
  have Q:((i:Int)+1)=((i+1:Nat):Int):=by push_cast;rfl
  rw[wX]
  by_cases c:i<f.length
  .obtain⟨u,S⟩:=FL z (cZ c)
   have qK:j[((i:Nat):Int).toNat]?\(.int f[i] u):=by rw[wJ,<-gE];exact S
   rw[qK];rw[rg x,rg c,HT.jy] at h;obtain⟨e,T,B⟩:=HT.AK A.in1 #[r,g,d,v,os] m[i] t f[i] u;refine ir (T prog w _ _ ?_);cases e with
   |true=>
    rw[AC (B.mp rfl)] at h
    wp_walk
    rw[Q]
    exact#[aaO acs _,aaG entry_eq_loop (by
     rw[Wp acs _];exact O (i+1) () () () prog w A R _ #[o,p,h])]
   |false=>
    rw[tz (λq=>absurd (B.mpr q) cQ)] at h
    wp_walk using wpAny_loadPart' o,wpAny_loadPart' p
    rw[wX,qK];have U:=HT.Bj A.in1 #[r,g,d,v,os] m[i] t f[i] u prog w
    wp_walk using U
    exact h
  .have qK:j[((i:Nat):Int).toNat]? =none:=by simp;lia
   rw[qK];rw[rg x,abA (show f.length<=i by lia),HT.nM] at h
   wp_walk using wpAny_loadPart' o,wpAny_loadPart' p
   show R (.ok (.ret (.bool (decide (a.size<j.size))))) _;rw[GM ()]
   exact h
end
section
open PySem.SeqAt
open PySem.AutoSeq1 (wpAny_loadPart')
open PySem.MeetsSeq PySem.MeetsSeq2 PySem.MeetsSeq3
def Ah(l b:Addr)(a c:Array Value)(n i:Nat)(j k:Option Addr)(m o:Array (Option Value))(e f:List Int)(r:IntsAre a.toList e)(t:IntsAre c.toList f):
  Meets (Builtin.«list.__lt__» #[[.ref l, .ref b],[]])
   (λ_ R s=>s.heap.get? l\{cls:= .type "list",dict:=j,data:= .seq a n,slots:=m}/\s.heap.get? b\{cls:= .type "list",dict:=k,data:= .seq c i,slots:=o}/\
    R (.ok (.ret (.bool (HT.lexLt e f)))) s):=by
 intro prog w A R s h;obtain⟨u,g,d,v,os⟩:=s;obtain⟨p,q,h⟩:=h;have x:=AutoSeq1.sub_list_list
 wp_walk using wpAny_loadPart' p,wpAny_loadPart' q
 exact#[aaO acs _,aaG entry_eq_loop (by
  rw[Wp acs _];exact OR l b a c n i j k m o e f r t _ 0 rfl (fg _) (fg _) prog w A R _ #[p,q,h])]
end
section
variable {prog:Program} {w:World} {A:Around} {E:Value->Shared->Prop} {s:Shared}
def Gn(o:s.heap.IsList l a)(p:s.heap.IsList b d)(q:IntsAre a.toList e)(r:IntsAre d.toList f)(t:A.units<cLine)
  (h:Q (HT.lexLt e f) s):wpAny (model prog w) A (oneLt' true (.ref l) (.ref b)) Q E s:=by
 rfl';obtain⟨⟨cls,v,i,x⟩,g,j,n,k⟩:=id o;obtain⟨⟨H,y,data2,z⟩,B,m,C,c⟩:=id p;ac_rfl;simp only at j k m c;subst j k m c;rw[oneLt'_eq];simp only[aaU];refine ir (wpAny_cRoomFor t ?_);refine ir (wpAny_callSpecialIfBound?_slot #[_,g,rfl] PySem.F.slot_list_lt (aa5 PySem.F.slot_list_lt #[_,g,rfl] PySem.F.entry_list_lt (PySem.F.args_list_lt_2 _ _) (Ah l b a d n C v y x z e f q r) #[g,B,?_]));exact SC h
end
theorem yP:∀a:List Int,HT.lexLt a a=false
 | []=>rfl
 |x::b=>by rw[HT.jy,AC rfl];exact yP b
theorem Ki:∀a b c:List Int,HT.lexLt a b=true->HT.lexLt b c=true->HT.lexLt a c=true
 | [],[],_,h,_=>by cases h
 | [],_::_,[],_,h=>by cases h
 | [],_::_,_::_,_,_=>rfl
 |_::_,[],_,h,_=>by cases h
 |_::_,_::_,[],_,h=>by cases h
 |x::i,y::j,z::k,g,e=>by
  rw[HT.jy] at*
  by_cases f:x=y
  .rw[AC f] at g
   by_cases d:y=z
   .rw[AC d] at e
    rw[AC (f.trans d)];exact Ki i j k g e
   .rw[tz d] at e
    rw[tz (by rw[f];exact d),f];exact e
  .rw[tz f] at g
   have l:=KB g
   by_cases d:y=z
   .rw[tz (by rw[<-d];exact f),<-d];exact g
   .rw[tz d] at e
    have m:=KB e;rw[tz ()]
    exact GT ()
def Ej(r:List Nat):List Int:=r.map λ(n:Nat)=>(n:Int)
def KZ(H:Hp)(L:List (Addr×List Nat)):Prop:=∀p∈L,H p.1\(.lst ((Ej p.2).map V.int))
section
variable {X:Cx}
end
end L2
namespace PySem.SetTable
def oI(xs:Array Nat):Prop:=∀i j (a:j<xs.size),i<j->xs[i]! <xs[j]!
def NZ{a:Array Nat}{i d:Nat}(h:i<a.size):a.getD i d=a[i]! :=by
 simp[Array.getD,h]
theorem yw(R:oI h)(j:Nat):∀(f lo g:Nat),g-lo<=f->lo<=g->g<=h.size->(∀i,i<lo->h[i]! <j)->(∀i,g<=i->i<h.size->j<=h[i]!)->
  lo<=below.go h j f lo g/\below.go h j f lo g<=g/\(∀i,i<below.go h j f lo g->h[i]! <j)/\∀i,below.go h j f lo g<=i->i<h.size->j<=h[i]!
 |0,lo,g,m,n,k,a,b=>by
  have:lo=g:=()
  subst this;rw[below.go];exact#[bM _,bM _,a,b]
 |f+1,lo,g,m,n,k,a,b=>by
  rw[below.go]
  by_cases c:lo<g
  .rw[AC c]
   have l:(lo+g) / 2<h.size:=()
   dsimp only;rw[NZ l]
   by_cases d:h[(lo+g) / 2]! <j
   .rw[AC d]
    have:=yw R j f ((lo+g) / 2+1) g () () k (λi p=>by
     by_cases e:i=(lo+g) / 2
     .rw[e];exact d
     .have:=R i ((lo+g) / 2) l ();lia) b
    exact#[(),this.2.1,this.2.2]
   .rw[tz d]
    have:=yw R j f lo ((lo+g) / 2) () () () a (λi q o=>by
     by_cases e:i=(lo+g) / 2
     .rw[e];lia
     .have:=R ((lo+g) / 2) i o ();lia)
    exact#[this.1,(),this.2.2]
  .rw[tz c]
   have:lo=g:=()
   subst this;exact#[bM _,bM _,a,b]
def jt{xs:Array Nat}(R:oI xs)(j:Nat):below xs j<=xs.size/\(∀i,i<below xs j->xs[i]! <j)/\∀i,below xs j<=i->i<xs.size->j<=xs[i]! :=by
 have:=yw R j xs.size 0 xs.size () (fg _) (bM _) (λi h=>by lia) (λi a b=>by lia)
 exact#[this.2.1,this.2.2]
def below_at(R:oI a)(h:a[i]?\j):below a j=i:=by
 obtain⟨b,e⟩:=wB.mp h;have g:a[i]! =j:=by simp[b,e]
 obtain⟨k,d,f⟩:=jt R j;apply Nat.le_antisymm
 .apply FB
  intro c
  have:=d i ()
  lia
 .apply FB
  intro c;have l:=f (below a j) (bM _) ()
  have m:=R (below a j) i b ()
  lia
def r9{t:SetTable}(R:oI t.place)(h:t.place[i]?\j):t.slot j= .live i:=by
 unfold slot;rw[below_at R h];simp[h]
def GJ{t:SetTable}(R:oI t.place)(a:t.dummies= #[])(h:∀i:Nat,t.place[i]? ≠some j):t.slot j= .empty:=by
 unfold slot
 have b:(t.place[below t.place j]? ==some j)=false:=by
  rw[aaH];exact h _
 dsimp only;rw[tz (by rw[b];exact cQ)]
 unfold has;rw[a];rfl
def om(mask:Nat)(p:Probe):Probe:=
 if p.more>0 then {p with j:=p.j+1,more:=p.more-1} else
 let (i,perturb):=leap mask p.i p.perturb
 {p with j:=i,more:=runEnd mask i-i,i,perturb}
def bV(mask:Nat)(h:Int):Probe:={j:=bits h%(mask+1),more:=runEnd mask (bits h%(mask+1))-bits h%(mask+1),i:=bits h%(mask+1),perturb:=bits h,dummy:=none}
def Mt(t:SetTable)(h:Int):t.probeStart h=bV t.mask h:=rfl
def qM(mask:Nat)(h:Int):Nat->Probe
 |0=>bV mask h
 |k+1=>om mask (qM mask h k)
def bK(mask:Nat)(h:Int)(k:Nat):Nat:=(qM mask h k).j
def MU(h:Int):bits h<2^64:=by
 unfold bits;have a:0<=h%(2^64:Int):=acX _ ∅
 have b:h%(2^64:Int)<2^64:=acn _ ∅
 lia
def eV(mask:Nat)(i p:Nat):Nat->Nat×Nat
 |0=>(i,p)
 |r+1=>leap mask (eV mask i p r).1 (eV mask i p r).2
theorem lP(mask i p:Nat):∀r,(eV mask i p r).2=p / 32^r
 |0=>by simp[eV]
 |r+1=>by
  show(eV mask i p r).2 / 32=_;rw[lP mask i p r,Nat.div_div_eq_div_mul,Nat.pow_succ]
def RK(mask:Nat)(i:Nat):Nat:=(i*5+1)%(mask+1)
def k6(mask:Nat)(i:Nat):Nat->Nat
 |0=>i
 |r+1=>RK mask (k6 mask i r)
theorem mw(mask i:Nat)(a:Nat):∀b,k6 mask i (a+b)=k6 mask (k6 mask i a) b
 |0=>rfl
 |b+1=>by
  show RK mask (k6 mask i (a+b))=_;rw[mw mask i a b];rfl
theorem vh{mask i p a:Nat}(h:(eV mask i p a).2=0):∀r,eV mask i p (a+r)=(k6 mask (eV mask i p a).1 r,0)
 |0=>by rw[Nat.add_zero,k6];exact aaW rfl h
 |r+1=>by
  show leap mask (eV mask i p (a+r)).1 (eV mask i p (a+r)).2=_;rw[vh h r];unfold leap;simp[k6,RK]
def wM(mask:Nat):Prop:=mask=7\/mask=31\/mask=127\/mask=511
def Wg(mask:Nat):Nat->Nat->List Nat
 |_,0=> []
 |i,n+1=>i::Wg mask (RK mask i) n
theorem Gd{mask s:Nat}:∀{i n:Nat},s∈Wg mask i n->∃r,r<n/\k6 mask i r=s
 |i,0,h=>by cases h
 |i,n+1,h=>by
  rcases bY.mp h with rfl|h
  .exact#[0,(),rfl]
  .obtain⟨r,a,e⟩:=Gd h
   refine#[r+1,(),?_]
   have:=mw mask i 1 r
   rw[show 1+r=r+1 by lia] at this
   rw[this];exact e
def Wh{mask:Nat}(h:wM mask):(∀s,s<=mask->∃r,r<=mask/\k6 mask 0 r=s)/\k6 mask 0 (mask+1)=0:=by
 have key:∀m,(am (m+1)).all (λs=>(Wg m 0 (m+1)).contains s)=true->∀s,s<=m->∃r,r<=m/\k6 m 0 r=s:=λm a s b=>by
  have:=acK.mp a s (eJ.mpr ())
  obtain⟨r,c,e⟩:=Gd (List.contains_iff_mem.mp this);exact#[r,(),e]
 rcases h with rfl|rfl|rfl|rfl
 .exact#[key 7 (by decide+kernel),by decide+kernel]
 .exact#[key 31 (by decide+kernel),by decide+kernel]
 .exact#[key 127 (by decide+kernel),by decide+kernel]
 .exact#[key 511 (by decide+kernel),by decide+kernel]
def cover{mask:Nat}(h:wM mask){i s:Nat}(d:i<=mask)(e:s<=mask):∃r,r<=mask/\k6 mask i r=s:=by
 obtain⟨o,per⟩:=Wh h;obtain⟨a,f,rfl⟩:=o i d;obtain⟨b,g,rfl⟩:=o s e
 by_cases c:a<=b
 .refine#[b-a,(),?_]
  rw[<-mw,show a+(b-a)=b by lia]
 .refine#[mask+1-a+b,(),?_]
  rw[<-mw,show a+(mask+1-a+b)=mask+1+b by lia,mw,per]
def cU(mask:Nat)(p:Probe):Nat->Probe
 |0=>p
 |k+1=>om mask (cU mask p k)
theorem l7(mask:Nat)(p:Probe)(a:Nat):∀b,cU mask p (a+b)=cU mask (cU mask p a) b
 |0=>rfl
 |b+1=>by
  show om mask (cU mask p (a+b))=_;rw[l7 mask p a b];rfl
theorem nG(mask:Nat)(h:Int):∀k,qM mask h k=cU mask (bV mask h) k
 |0=>rfl
 |k+1=>by
  show om mask _=om mask _;rw[nG mask h k]
theorem uC(mask:Nat)(p:Probe):∀c,c<=p.more->cU mask p c={p with j:=p.j+c,more:=p.more-c}
 |0,_=>rfl
 |c+1,a=>by
  show om mask (cU mask p c)=_;rw[uC mask p c ()]
  unfold om;rw[AC (by show p.more-c>0;lia)]
  show({p with j:=p.j+c+1,more:=p.more-c-1}:Probe)={p with j:=p.j+(c+1),more:=p.more-(c+1)}
  rw[show p.more-c-1=p.more-(c+1) by lia,show p.j+c+1=p.j+(c+1) by lia]
def SQ(mask:Nat)(p:Probe)(a:Nat×Nat):Probe:={p with j:=a.1,more:=runEnd mask a.1-a.1,i:=a.1,perturb:=a.2}
def more_le(mask i:Nat):runEnd mask i-i<=9:=by
 unfold runEnd
 split<;>lia
def rA(mask:Nat)(p:Probe):cU mask p (p.more+1)=SQ mask p (leap mask p.i p.perturb):=by
 show om mask (cU mask p p.more)=_;rw[uC mask p p.more (bM _)];unfold om;rw[tz (by show ¬p.more-p.more>0;lia)]
 rfl
theorem xN(mask:Nat)(p:Probe):∀r,∃k,k<=p.more+1+10*r/\cU mask p k=SQ mask p (eV mask p.i p.perturb (r+1))
 |0=>#[p.more+1,(),rA mask p]
 |r+1=>by
  obtain⟨k,a,e⟩:=xN mask p r;have b:=more_le mask (eV mask p.i p.perturb (r+1)).1;refine#[k+((runEnd mask (eV mask p.i p.perturb (r+1)).1-(eV mask p.i p.perturb (r+1)).1)+1),(),?_]
  rw[l7,e];exact rA mask (SQ mask p (eV mask p.i p.perturb (r+1)))
def GH(mask i p:Nat)(r:Nat):(eV mask i p (r+1)).1<=mask:=by
 show(((eV mask i p r).1*5+1+(eV mask i p r).2 / 32)%(mask+1))<=mask
 have:=rm ((eV mask i p r).1*5+1+(eV mask i p r).2 / 32) (show 0<mask+1 by lia)
 lia
def KA{mask i:Nat}(h:i<=mask):i+(runEnd mask i-i)<=mask:=by
 unfold runEnd
 split<;>lia
structure uA (mask:Nat) (p:Probe):Prop where
 le:p.j+p.more<=mask
 more:p.more<=9
 per:p.perturb<2^64
 dum:p.dummy=none
theorem uA.om{mask:Nat}{p:Probe}(o:uA mask p):uA mask (om mask p):=by
 unfold SetTable.om
 split
 .next h=>exact#[by show p.j+1+(p.more-1)<=mask;have:=o.le;lia,by show p.more-1<=9;have:=o.more;lia,o.per,o.dum]
 .refine#[KA (by have:=rm (p.i*5+1+p.perturb / 32) (show 0<mask+1 by lia);show(p.i*5+1+p.perturb / 32)%(mask+1)<=mask;lia),more_le _ _,?_,o.dum]
  show p.perturb / 32<2^64
  have:=o.per
  lia
def uA.start(mask:Nat)(h:Int):uA mask (bV mask h):=#[KA (mask:=mask) (i:=bits h%(mask+1)) (by have:=rm (bits h) (show 0<mask+1 by lia);lia),more_le _ _,MU h,rfl]
theorem uA.cU{mask:Nat}{p:Probe}(o:uA mask p):∀k,uA mask (cU mask p k)
 |0=>o
 |k+1=>(o.cU k).om
def meets{mask:Nat}(f:wM mask){p:Probe}(o:uA mask p){s:Nat}(a:s<=mask):∃k,k<10*turns mask/\(cU mask p k).j=s:=by
 have z:(eV mask p.i p.perturb 13).2=0:=by
  rw[lP];exact Nat.div_eq_of_lt (fG o.per ∅)
 obtain⟨r,c,e⟩:=cover f (GH mask p.i p.perturb 12) a;obtain⟨k,d,b⟩:=xN mask p (12+r);refine#[k,?_,?_]
 .have:=o.more
  unfold turns;lia
 .rw[b]
  show(eV mask p.i p.perturb (12+r+1)).1=s;rw[show 12+r+1=13+r by lia,vh z]
  exact e
theorem Bi(R:oI t.place)(o:t.dummies= #[])(hashAt:Nat->Int)(h:Int):∀(K d:Nat)(p:Probe),p.dummy=none->K<d->(∀i:Nat,t.place[i]? ≠some (cU t.mask p K).j)->
  ∃e,e<=K/\(∀f,f<e->∃i:Nat,t.place[i]?\(cU t.mask p f).j/\hashAt i≠h)/\
   (((∀i:Nat,t.place[i]? ≠some (cU t.mask p e).j)/\probe.go t hashAt h d p\(.empty (cU t.mask p e).j none))\/
    (∃i:Nat,t.place[i]?\(cU t.mask p e).j/\hashAt i=h/\probe.go t hashAt h d p\(.candidate (cU t.mask p e).j i (cU t.mask p (e+1)))))
 |K,0,p,_,v,_=>by lia
 |K,d+1,p,q,v,r=>by
  by_cases c:∃i:Nat,t.place[i]?\p.j
  .obtain⟨i,g⟩:=c
   have s:=r9 R g
   by_cases l:hashAt i=h
   .refine#[0,fg _,λf u=>by lia, .inr #[i,g,l,?_]]
    rw[probe.go,s];dsimp only;rw[AC (~~~l)]
    rfl
   .cases K with
    |zero=>exact absurd g (r i)
    |succ K=>
     have n:(om t.mask p).dummy=none:=by
      unfold om
      split<;>exact q
     have m:∀k,cU t.mask (om t.mask p) k=cU t.mask p (k+1):=λk=>by
      have:=l7 t.mask p 1 k
      rw[show 1+k=k+1 by lia] at this
      exact this.symm
     obtain⟨e,x,a,b⟩:=Bi R o hashAt h K d (om t.mask p) n () (by rw[m];exact r)
     have w:probe.go t hashAt h (d+1) p=probe.go t hashAt h d (om t.mask p):=by
      rw[probe.go,s];dsimp only;rw[tz (~~~l)]
      rfl
     refine#[e+1,(),λf u=>?_,?_]
     .cases f with
      |zero=>exact#[i,g,l]
      |succ f=>
       have:=a f ()
       rw[m] at this;exact this
     .rw[m,m] at b
      rw[w];exact b
  .have c:∀i:Nat,t.place[i]? ≠some p.j:=λi g=>c #[i,g]
   refine#[0,fg _,λf u=>by lia, .inl #[c,?_]]
   rw[probe.go,GJ R o c];dsimp only;rw[q];rfl
structure TOk (t:SetTable) (hs:List Int):Prop where
 few:wM t.mask
 dum:t.dummies= #[]
 rise:oI t.place
 size:t.place.size=hs.length
 le:∀(i j:Nat),t.place[i]?\j->j<=t.mask
 room:t.place.size<=t.mask
 path:∀(i:Nat)(h:Int),hs[i]?\h->∃k,t.place[i]?\(bK t.mask h k)/\∀k',k'<k->∃i':Nat,t.place[i']?\(bK t.mask h k')
def D5(mask:Nat)(h:Int)(k:Nat):bK mask h k<=mask:=by
 unfold bK;rw[nG]
 have:=((uA.start mask h).cU k).le
 lia
def TOk.empty(T:TOk t a):∃s,s<=t.mask/\∀i:Nat,t.place[i]? ≠some s:=by
 apply FB;intro c
 have all:∀s∈am (t.mask+1),s∈t.place.toList:=λs a=>by
  apply FB;intro n;refine c #[s,by have:=eJ.mp a;lia,λi b=>n ?_]
  rw[<-gE] at b;exact fb b
 have:=Wb.aD wK all
 rw[jR,dY] at this
 have:=T.room
 lia
theorem TOk.probe(T:TOk t g)(hashAt:Nat->Int)(h:Int)(k:Nat):
  ∃d,k<=d/\(∀e,k<=e->e<d->∃i:Nat,t.place[i]?\(bK t.mask h e)/\hashAt i≠h)/\
   (((∀i:Nat,t.place[i]? ≠some (bK t.mask h d))/\t.probe hashAt h (qM t.mask h k)\(.empty (bK t.mask h d) none))\/
    (∃i:Nat,t.place[i]?\(bK t.mask h d)/\hashAt i=h/\t.probe hashAt h (qM t.mask h k)\(.candidate (bK t.mask h d) i (qM t.mask h (d+1))))):=by
 obtain⟨s,j,l⟩:=T.empty;have o:=(uA.start t.mask h).cU k;rw[<-nG] at o;obtain⟨K,m,n⟩:=meets T.few o j;have f:∀c,cU t.mask (qM t.mask h k) c=qM t.mask h (k+c):=λc=>by rw[nG,nG,<-l7]
 obtain⟨d,p,a,b⟩:=Bi T.rise T.dum hashAt h K (10*turns t.mask) (qM t.mask h k) o.dum m (by rw[n];exact l)
 refine#[k+d,(),λe q r=>?_,?_]
 .have:=a (e-k) ()
  rw[f,show k+(e-k)=e by lia] at this
  exact this
 .rw[f,f] at b
  exact b
def lI{xs:Array a}(x:a)(e:p<=xs.size)(i:Nat):(insertAt xs p x)[i]? =if i<p then xs[i]? else if i=p then some x else xs[i-1]? :=by
 rw[<-gE,abk];have lt:(xs.toList.take p).length=p:=by rw[jS,dY];lia
 by_cases c:i<p
 .rw[AC c,i5 (),KQ c,gE]
 .rw[tz c]
  by_cases d:i=p
  .subst d
   rw[AC rfl,kN (),lt,rj];rfl
  .rw[tz d,kN (),lt]
   obtain⟨m,b⟩:∃m,i-p=m+1:=#[i-p-1,()]
   rw[b,wD,Ey,gE]
   congr 1;lia
def fT(xs:Array a)(p:Nat)(x:a):(insertAt xs p x).size=xs.size+1:=by
 rw[<-dY,(abB xs p x).length_eq];simp
def j8{a:Array Nat}{i j:Nat}(h:a[i]?\j):a[i]! =j:=by
 obtain⟨b,e⟩:=wB.mp h;simp[b,e]
def Mm{xs:Array Nat}(R:oI xs){j:Nat}(h:∀i:Nat,xs[i]? ≠some j):oI (insertAt xs (below xs j) j):=by
 obtain⟨t,w,x⟩:=jt R j;have g:=lI (xs:=xs) j t;intro a b y A;rw[fT] at y
 have m:∀i,i<xs.size+1->∃v,(insertAt xs (below xs j) j)[i]?\v/\((i<below xs j/\xs[i]?\v)\/(i=below xs j/\v=j)\/(below xs j<i/\xs[i-1]?\v)):=λi r=>by
  rw[g i]
  by_cases c:i<below xs j
  .rw[AC c,qh ()]
   exact#[_,rfl, .inl #[c,rfl]]
  .rw[tz c]
   by_cases d:i=below xs j
   .rw[AC d];exact#[j,rfl, .inr (.inl #[d,rfl])]
   .rw[tz d,qh ()]
    exact#[_,rfl, .inr (.inr #[(),rfl])]
 obtain⟨G,B,C⟩:=m a ()
 obtain⟨H,E,s⟩:=m b ()
 rw[j8 B,j8 E];have lo:∀i v,i<below xs j->xs[i]?\v->v<j:=λi v n f=>by have:=w i n;rw[j8 f] at this;exact this
 have r:∀i v,below xs j<=i->xs[i]?\v->j<v:=λi v n f=>by
  have:=x i n (wB.mp f).1
  rw[j8 f] at this
  have:v≠j:=λz=>h i (by rw[f,z])
  lia
 have o:∀i k v u,xs[i]?\v->xs[k]?\u->i<k->v<u:=λi k v u n f F=>by
  have:=R i k (wB.mp f).1 F
  rw[j8 n,j8 f] at this;exact this
 rcases C with ⟨q,p⟩ | ⟨q,rfl⟩ | ⟨q,p⟩
 .rcases s with ⟨l,e⟩ | ⟨l,rfl⟩ | ⟨l,e⟩
  .exact o _ _ _ _ p e A
  .exact lo _ _ q p
  .have:=lo _ _ q p;have:=r (b-1) _ () e;lia
 .rcases s with ⟨l,e⟩ | ⟨l,rfl⟩ | ⟨l,e⟩
  .lia
  .lia
  .exact r (b-1) _ () e
 .rcases s with ⟨l,e⟩ | ⟨l,rfl⟩ | ⟨l,e⟩
  .lia
  .lia
  .exact o _ _ _ _ p e ()
def Pz{xs:Array Nat}(R:oI xs){j s:Nat}:(∃i:Nat,(insertAt xs (below xs j) j)[i]?\s)↔s=j\/∃i:Nat,xs[i]?\s:=by
 obtain⟨a,_,_⟩:=jt R j;have g:=lI (xs:=xs) j a
 constructor
 .rintro⟨i,h⟩
  rw[g i] at h
  split at h
  .exact .inr #[i,h]
  .split at h
   .exact .inl (FM h).symm
   .exact .inr #[_,h]
 .rintro(rfl| ⟨i,h⟩)
  .exact#[below xs s,by rw[g,tz (),AC rfl]]
  .by_cases c:i<below xs j
   .exact#[i,by rw[g,AC c];exact h]
   .exact#[i+1,by rw[g,tz (),tz ()];exact h]
theorem TOk.put(T:TOk t l){h:Int}{k:Nat}(v:∀i:Nat,t.place[i]? ≠some (bK t.mask h k))(w:∀a,a<k->∃i:Nat,t.place[i]?\(bK t.mask h a))(room:t.place.size+1<=t.mask):
  (t.put (bK t.mask h k)).2=below t.place (bK t.mask h k)/\below t.place (bK t.mask h k)<=l.length/\
  TOk (t.put (bK t.mask h k)).1 (l.take (below t.place (bK t.mask h k))++h::l.drop (below t.place (bK t.mask h k))):=by
 obtain⟨x,z,A⟩:=jt T.rise (bK t.mask h k);have g:=lI (xs:=t.place) (bK t.mask h k) x;have sz:=T.size;have o:=λs=>Pz (s:=s) (j:=bK t.mask h k) T.rise;refine#[rfl,(),T.few,?_,Mm T.rise v,?_,?_,?_,?_]
 .show(if has t.dummies _=true then _ else t.dummies)= #[]
  rw[T.dum];rfl
 .show(insertAt t.place _ _).size=_
  rw[fT,cI,jS,cx,BE];lia
 .intro i j p
  have p:(insertAt t.place (below t.place (bK t.mask h k)) (bK t.mask h k))[i]?\j:=p
  rcases(o j).mp #[i,p] with rfl| ⟨u,e⟩
  .exact D5 _ _ _
  .exact T.le _ _ e
 .show(insertAt t.place _ _).size<=_
  rw[fT];exact room
 .intro i e b
  show ∃f,(insertAt t.place (below t.place (bK t.mask h k)) (bK t.mask h k))[i]?\(bK t.mask e f)/\∀a,a<f->∃u:Nat,(insertAt t.place (below t.place (bK t.mask h k)) (bK t.mask h k))[u]?\(bK t.mask e a);have lt:(l.take (below t.place (bK t.mask h k))).length=below t.place (bK t.mask h k):=by rw[jS];lia
  by_cases c:i<below t.place (bK t.mask h k)
  .rw[i5 (),KQ c] at b
   obtain⟨f,q,r⟩:=T.path i e b;exact#[f,by rw[g,AC c];exact q,λa n=>(o _).mpr (.inr (r a n))]
  .rw[kN (),lt] at b
   by_cases d:i=below t.place (bK t.mask h k)
   .rw[d,rj] at b
    cases(FM b);exact#[k,by rw[d,g,tz (),AC rfl],λa n=>(o _).mpr (.inr (w a n))]
   .obtain⟨m,y⟩:∃m,i-below t.place (bK t.mask h k)=m+1:=#[i-below t.place (bK t.mask h k)-1,()]
    rw[y,wD,Ey] at b;obtain⟨f,q,r⟩:=T.path _ e b;refine#[f,?_,λa n=>(o _).mpr (.inr (r a n))];rw[g,tz c,tz d,show i-1=below t.place (bK t.mask h k)+m by lia]
    exact q
theorem wq(mask i p:Nat):∀r,eV mask i p (r+1)=eV mask (leap mask i p).1 (leap mask i p).2 r
 |0=>rfl
 |r+1=>by
  show leap mask (eV mask i p (r+1)).1 (eV mask i p (r+1)).2=_;rw[wq mask i p r];rfl
def Own(o:Array (Option Nat))(s:Nat):Prop:=(o.getD s (some 0)).isNone=false
theorem yu{mask:Nat}(e:Array (Option Nat)):∀(f:Nat)(p:Probe),p.j=p.i->p.more=runEnd mask p.i-p.i->p.i<=runEnd mask p.i->(∃r,r<f/\¬Own e (eV mask p.i p.perturb r).1)->
  ∃h,layClean.free mask e f p.i p.perturb\(cU mask p h).j/\¬Own e (cU mask p h).j/\∀g,g<h->Own e (cU mask p g).j
 |0,p,_,_,_,#[r,u,_]=>by lia
 |f+1,p,v,C,E,#[r,u,o]=>by
  have run:∀c,c<=p.more->(cU mask p c).j=p.i+c:=λc s=>by rw[uC mask p c s];show p.j+c=_;rw[v]
  cases l:(am (runEnd mask p.i+1-p.i)).find? λk=>(e.getD (p.i+k) (some 0)).isNone with
  |some k=>
   obtain⟨w,as,bs,m,x⟩:=List.find?_eq_some_iff_append.mp l;have F:k<runEnd mask p.i+1-p.i:=eJ.mp (by rw[m];simp)
   have y:as.length=k:=by
    have z:as.length<(am (runEnd mask p.i+1-p.i)).length:=by rw[m];simp
    have:=wH (n:=runEnd mask p.i+1-p.i) (i:=as.length) (~~~z)
    rw[m,kN (bM _),rj] at this;exact(FM this).symm
   refine#[k,?_,?_,λg A=>?_]
   .rw[layClean.free,l,run k ()]
   .rw[run k ()]
    unfold Own;rw[w];exact Bool.noConfusion
   .rw[run g ()]
    have B:g∈as:=by
     have:=wH (n:=runEnd mask p.i+1-p.i) (i:=g) ()
     rw[m,i5 ()] at this
     exact fb this
    have:=x g B
    unfold Own;exact Bool.not_eq_true' _▸this
  |none=>
   have all:=List.find?_eq_none.mp l
   have own:∀c,c<=p.more->Own e (p.i+c):=λc s=>by
    have:=all c (eJ.mpr ())
    unfold Own;exact qi.mpr this
   cases r with
   |zero=>exact absurd (own 0 (fg _)) o
   |succ r=>
    have t:=rA mask p
    obtain⟨h,a,b,c⟩:=yu e f (SQ mask p (leap mask p.i p.perturb)) rfl rfl (by
     show(leap mask p.i p.perturb).1<=runEnd mask (leap mask p.i p.perturb).1;unfold runEnd;split<;>lia) #[r,(),by rw[wq] at o;exact o]
    rw[<-t] at a b c;have q:∀k,cU mask (cU mask p (p.more+1)) k=cU mask p (p.more+1+k):=λk=>(l7 mask p (p.more+1) k).symm;refine#[p.more+1+h,?_,?_,λg A=>?_]
    .rw[layClean.free,l,<-q,<-a,t];rfl
    .rw[<-q];exact b
    .by_cases d:g<=p.more
     .rw[run g d];exact own g d
     .have:=c (g-(p.more+1)) ()
      rw[q,show p.more+1+(g-(p.more+1))=g by lia] at this
      exact this
structure Laid (mask:Nat) (hs:List Int) (owner:Array (Option Nat)) (ss:List Nat):Prop where
 size:owner.size=mask+1
 len:ss.length=hs.length
 nd:ss.Nodup
 le:∀s∈ss,s<=mask
 get:∀s,s<=mask->∀k,owner.getD s (some 0)\k↔ss[k]?\s
 path:∀(k:Nat)(h:Int),hs[k]?\h->∃c,ss[k]?\(bK mask h c)/\∀c',c'<c->bK mask h c'∈ss
def Laid.own{mask:Nat}{c:List Int}{a:Array (Option Nat)}{b:List Nat}(L:Laid mask c a b){s:Nat}(h:s<=mask):Own a s↔s∈b:=by
 unfold Own
 constructor
 .intro e
  cases o:a.getD s (some 0) with
  |none=>rw[o] at e;cases e
  |some k=>exact fb ((L.get s h k).mp o)
 .intro e
  obtain⟨k,d⟩:=zQ e;rw[(L.get s h k).mpr d];rfl
def ID{mask:Nat}(f:wM mask){l:List Int}{g:Array (Option Nat)}{m:List Nat}(L:Laid mask l g m)(room:l.length<=mask)(h:Int):
  ∃j,layClean.free mask g (turns mask) (bits h%(mask+1)) (bits h)\j/\Laid mask (l++ [h]) (g.setIfInBounds j (some l.length)) (m++ [j]):=by
 have o:=uA.start mask h
 obtain⟨s,C,F⟩:∃s,s<=mask/\s∉m:=by
  apply FB;intro c
  have all:∀s∈am (mask+1),s∈m:=λs l=>by
   apply FB;intro n;exact c #[s,by have:=eJ.mp l;lia,n]
  have:=Wb.aD wK all
  rw[jR,L.len] at this;lia
 have z:(eV mask (bV mask h).i (bV mask h).perturb 13).2=0:=by
  rw[lP];exact Nat.div_eq_of_lt (fG o.per ∅)
 obtain⟨r,N,e⟩:=cover f (GH mask (bV mask h).i (bV mask h).perturb 12) C
 have O:(bV mask h).i<=mask:=by
  have:=rm (bits h) (show 0<mask+1 by lia)
  show bits h%(mask+1)<=mask;lia
 obtain⟨p,a,b,c⟩:=yu g (turns mask) (bV mask h) rfl rfl (by unfold runEnd;split<;>lia) #[13+r,by unfold turns;lia,by
  rw[vh z];show ¬Own g (k6 mask _ r);rw[e,L.own C];exact F]
 have E:∀k,(cU mask (bV mask h) k).j=bK mask h k:=λk=>by unfold bK;rw[nG]
 rw[E] at a b;have u:=D5 mask h p;rw[L.own u] at b;refine#[bK mask h p,a,?_,?_,?_,?_,?_,?_]
 .rw[abj];exact L.size
 .rw[cI,cI,L.len];rfl
 .exact iT.mpr #[L.nd,by simp,λx t y G z=>b (by rw[<-fB.mp G,<-z];exact t)]
 .intro x t
  rcases cF.mp t with t|t
  .exact L.le x t
  .rw[fB.mp t];exact u
 .intro x t k
  have w:(g.setIfInBounds (bK mask h p) (some l.length)).getD x (some 0)=if bK mask h p=x then some l.length else g.getD x (some 0):=by
   rw[Hj,Hj,acf]
   by_cases d:bK mask h p=x
   .rw[AC d,AC d,AC (by rw[L.size];lia)];rfl
   .rw[tz d,tz d]
  rw[w]
  by_cases d:bK mask h p=x
  .rw[AC d]
   constructor
   .intro e
    cases(FM e);rw[<-L.len,kN (bM _),rj,<-d];rfl
   .intro e
    by_cases q:k<m.length
    .rw[i5 q] at e
     exact absurd (by rw[d];exact fb e) b
    .have:k<(m++ [bK mask h p]).length:=(dZ.mp e).1
     rw[cI] at this
     have:k<m.length+1:=this
     rw[show k=m.length by lia,L.len]
  .rw[tz d,L.get x t k]
   constructor
   .intro e
    rw[i5 (dZ.mp e).1];exact e
   .intro e
    by_cases q:k<m.length
    .rw[i5 q] at e;exact e
    .have:k<(m++ [bK mask h p]).length:=(dZ.mp e).1
     rw[cI] at this
     have:k<m.length+1:=this
     rw[show k=m.length by lia,kN (bM _),rj] at e
     exact absurd (FM e) d
 .intro k H v
  by_cases q:k<l.length
  .rw[i5 q] at v
   obtain⟨I,w,J⟩:=L.path k H v;exact#[I,by rw[i5 (by rw[L.len];exact q)];exact w,λA B=>fZ _ (J A B)]
  .have:k<(l++ [h]).length:=(dZ.mp v).1
   rw[cI] at this
   have:k<l.length+1:=this
   have M:k=l.length:=()
   subst M;rw[kN (bM _),rj] at v;cases(FM v);refine#[p,by rw[<-L.len,kN (bM _),rj];rfl,λA B=>fZ _ ?_]
   have:=c A B
   rw[E] at this;exact(L.own (D5 _ _ _)).mp this
def IE(mask:Nat):Laid mask [] (dc (mask+1) none) [] where
 size:=by simp
 len:=rfl
 nd:=gd
 le:=λs h=>by cases h
 get:=λs a k=>by
  rw[Hj,Array.getElem?_replicate,AC ()]
  simp
 path:=λk h e=>by cases e
def A5(mask:Nat)(a:Option (Array (Option Nat)×Nat))(h:Int):Option (Array (Option Nat)×Nat):=do
 let (owner,k) <-a
 let j <-layClean.free mask owner (turns mask) (bits h%(mask+1)) (bits h)
 pure (owner.setIfInBounds j (some k),k+1)
theorem A6{mask:Nat}(f:wM mask):∀(b done:List Int)(a:Array (Option Nat))(d:List Nat),Laid mask done a d->done.length+b.length<=mask+1->
  ∃c i,b.foldl (A5 mask) (some (a,done.length))\(c,done.length+b.length)/\Laid mask (done++b) c i
 | [],done,a,d,L,_=>#[a,d,rfl,by rw[gR];exact L]
 |h::b,done,a,d,L,l=>by
  rw[cx] at l;obtain⟨j,e,m⟩:=ID f L () h
  have n:A5 mask (some (a,done.length)) h\(a.setIfInBounds j (some done.length),done.length+1):=by
   unfold A5;simp[e]
  obtain⟨c,i,g,k⟩:=A6 f b (done++ [h]) _ _ m (by rw[cI];show done.length+1+b.length<=_;lia)
  refine#[c,i,?_,by rw[lD] at k;exact k]
  rw[acW,n];rw[cI] at g;have g:b.foldl (A5 mask) (some (a.setIfInBounds j (some done.length),done.length+1))\(c,done.length+1+b.length):=g;rw[g,cx]
  congr 2;lia
def Df{mask:Nat}(f:wM mask)(b:List Int)(room:b.length<=mask+1):∃a c,layClean mask b.toArray\a/\Laid mask b a c:=by
 rfl';obtain⟨a,c,e,L⟩:=A6 f b [] _ _ (IE mask) (~~~room)
 ac_rfl;refine#[a,c,?_,by simpa using L]
 have:layClean mask b.toArray=(b.foldl (A5 mask) (some (dc (mask+1) none,0))).map (·.1):=by
  unfold layClean;rw[List.foldl_toArray];rfl
 have e:b.foldl (A5 mask) (some (dc (mask+1) none,0))\(a,[].length+b.length):=e;rw[this,e];rfl
def eQ(mask:Nat)(a:Array (Option Nat)):List (Nat×Nat):=(am (mask+1)).filterMap λj=>(a.getD j none).map (j,·)
def LP{mask:Nat}{b:List Int}{a:Array (Option Nat)}{c:List Nat}(L:Laid mask b a c){j k:Nat}:(j,k)∈eQ mask a↔c[k]?\j:=by
 unfold eQ;rw[acj]
 have dflt:∀s,s<=mask->a.getD s none=a.getD s (some 0):=λs b=>by
  rw[Hj,Hj,qh (by rw[L.size];lia)];rfl
 constructor
 .rintro⟨s,d,e⟩
  have d:=eJ.mp d;rw[dflt s ()] at e
  cases o:a.getD s (some 0) with
  |none=>rw[o] at e;cases e
  |some f=>
   rw[o] at e;have e:=FM e;have h:s=j:=(abd e).1;have i:f=k:=(abd e).2;rw[<-h,<-i];exact(L.get s () f).mp o
 .intro e
  have g:=L.le j (fb e);refine#[j,eJ.mpr (),?_]
  rw[dflt j g,(L.get j g k).mpr e];rfl
def IH(mask:Nat)(c:Array (Option Nat)):((eQ mask c).map (·.1)).Pairwise (·<·):=by
 unfold eQ;rw[mO,List.pairwise_filterMap];refine abz.imp λ {a b} h x d y e=>?_;cases f:c.getD a none with
 |none=>rw[f] at d;cases d
 |some i=>
  cases g:c.getD b none with
  |none=>rw[g] at e;cases e
  |some j=>
   rw[f] at d;rw[g] at e;cases(FM d);cases(FM e);exact h
theorem OK{mask:Nat}(f:wM mask)(l:List Int)(room:l.length<=mask)(finger moves:Nat)(led plain:Bool):
  ∃t g,laid mask finger moves led plain l.toArray\(t,g)/\t.mask=mask/\t.led=led/\t.plain=plain/\t.moves=moves/\g.toList.Perm (am l.length)/\TOk t (g.toList.map λk=>l.getD k 0):=by
 rfl';obtain⟨d,u,e,L⟩:=Df f l ()
 have m:=λ {j k:Nat}=>LP (j:=j) (k:=k) L;have v:=IH mask d;ac_rfl
 have G:((eQ mask d).map (·.2)).Nodup:=by
  rw[Bv,mO];rw[mO] at v;refine v.imp_of_mem λ {a b} H q r z=>?_;obtain⟨I,J⟩:=a;obtain⟨M,bk⟩:=b;have A:=m.mp H;have N:=m.mp q;have z:J=bk:=z;rw[z,N] at A
  have:=FM A
  have r:I<M:=r;lia
 have perm:((eQ mask d).map (·.2)).Perm (am l.length):=by
  refine(Bw G wK).mpr λk=>?_;rw[cM,eJ]
  constructor
  .rintro⟨⟨j,Z⟩,h,rfl⟩
   have:=(dZ.mp (m.mp h)).1
   rw[L.len] at this;exact this
  .intro n
   have O:k<u.length:=by rw[L.len];exact n
   exact#[(u[k],k),m.mpr (cZ O),rfl]
 have P:(eQ mask d).length=l.length:=by
  have:=perm.length_eq
  simpa using this
 refine#[{mask,place:=((eQ mask d).map (·.1)).toArray,dummies:= #[],finger,led,moves,plain},((eQ mask d).map (·.2)).toArray,?_,rfl,rfl,rfl,rfl,by simpa using perm,?_]
 .unfold laid
  rw[e];rfl
 have w:∀(i j:Nat),((eQ mask d).map (·.1)).toArray[i]?\j↔∃k,(eQ mask d)[i]?\(j,k):=λi j=>by
  rw[List.getElem?_toArray,fi];cases o:(eQ mask d)[i]? with
  |none=>simp
  |some x=>
   obtain⟨a,b⟩:=x;simp
 have y:∀s,s∈u->∃i:Nat,((eQ mask d).map (·.1)).toArray[i]?\s:=λs Q=>by
  obtain⟨k,n⟩:=zQ Q;obtain⟨i,p⟩:=zQ (m.mpr n);exact#[i,(w i s).mpr #[k,p]]
 refine#[f,rfl,?_,?_,?_,?_,?_]
 .intro a b q r
  have q:b<((eQ mask d).map (·.1)).length:=q
  have:=JM.mp v a b () q r
  simp[show a<(eQ mask d).length by simpa using(show a<((eQ mask d).map (·.1)).length by lia),show b<(eQ mask d).length by simpa using q]
  simpa using this
 .simp
 .intro i j h
  obtain⟨k,n⟩:=(w i j).mp h;exact L.le j (fb (m.mp (fb n)))
 .show((eQ mask d).map (·.1)).toArray.size<=mask
  simp[P];exact room
 .intro i B p
  rw[fi] at p;cases o:(eQ mask d)[i]? with
  |none=>
   have:(((eQ mask d).map (·.2)).toArray.toList)[i]? =none:=by simp[o]
   rw[this] at p;cases p
  |some x=>
   obtain⟨j,k⟩:=x;have R:(((eQ mask d).map (·.2)).toArray.toList)[i]?\k:=by simp[o]
   rw[R] at p;have C:=m.mp (fb o);have n:k<l.length:=by rw[<-L.len];exact(dZ.mp C).1
   have S:l[k]?\B:=by
    rw[<-FM p];show _\(l.getD k 0);rw[cW,cZ n];rfl
   obtain⟨c,E,T⟩:=L.path k B S;rw[C] at E;refine#[c,(w i _).mpr #[k,by rw[o,FM E]],λU X=>y _ (T U X)]
end PySem.SetTable
namespace PySem
open SetTable PyProof.Rows
def cE(w:World):Bool:=w.params.followText "set-order"
structure fL (bt:Bool) (o:Obj) (es:Array (Int×Value)) (ep:Nat) (t:SetTable):Prop where
 ex:o.ExactSet
 dat:o.data= .set es ep t
 tok:TOk t (es.toList.map (·.1))
 pl:t.plain=true
 ld:t.led= !bt
 few:5*es.size<3*t.mask
theorem TOk.fits(T:TOk t a):t.fits a.length=true:=by
 simp only[SetTable.fits,SetTable.fill,T.dum,T.size,uu,aaN,aa3,true_and]
 have:=T.room
 rw[T.size] at this;simpa using this
theorem fL.fits(S:fL w o a b t):t.fits a.size=true:=by
 have:=TOk.fits S.tok
 simpa using this
def AR{mask n:Nat}(f:wM mask)(h:5*n<3*mask):n+1<=mask:=by
 rcases f with rfl|rfl|rfl|rfl<;>lia
def IF(T:TOk t (f.toList.map (·.1)))(few:5*f.size<3*t.mask)(h:Int)(x:Value):
  ∃p g,layNew t f h x=(SetTable.insertAt f p (h,x),g,false,false)/\TOk g ((SetTable.insertAt f p (h,x)).toList.map (·.1))/\g.mask=t.mask/\g.plain=t.plain/\g.led=t.led:=by
 obtain⟨d,_,a,b⟩:=TOk.probe T (λ_=>h+1) h 0;obtain⟨m,n⟩:=b.resolve_right (λ#[i,_,c,_]=>by have c:h+1=h:=c;lia)
 have fs:t.freeSlot h\(bK t.mask h d,false):=by
  unfold SetTable.freeSlot;rw[Mt,show bV t.mask h=qM t.mask h 0 from rfl,n];rfl
 have sz:t.place.size=f.size:=by rw[T.size];simp
 obtain⟨o,u,j⟩:=TOk.put T (h:=h) (k:=d) m (λq r=>let #[i,s,_]:=a q (fg _) r;#[i,s]) (by rw[sz];exact AR T.few few)
 have e:(SetTable.insertAt f (below t.place (bK t.mask h d)) (h,x)).toList.map (·.1)=(f.toList.map (·.1)).take (below t.place (bK t.mask h d))++h::(f.toList.map (·.1)).drop (below t.place (bK t.mask h d)):=by
  rw[abk];simp
 rw[<-e] at j;refine#[below t.place (bK t.mask h d),(t.put (bK t.mask h d)).1,?_,j,rfl,rfl,rfl]
 have l:(t.put (bK t.mask h d)).1.fits (SetTable.insertAt f (below t.place (bK t.mask h d)) (h,x)).size=true:=by
  have:=TOk.fits j
  rw[aS,dY] at this;exact this
 unfold layNew;rw[fs];show(SetTable.insertAt f (t.put (bK t.mask h d)).2 (h,x),(t.put (bK t.mask h d)).1.orStandIn (SetTable.insertAt f (t.put (bK t.mask h d)).2 (h,x)).size,false,!(t.put (bK t.mask h d)).1.fits (SetTable.insertAt f (t.put (bK t.mask h d)).2 (h,x)).size)=_;rw[o];unfold SetTable.orStandIn;rw[AC l,l];rfl
def Ie{mask n:Nat}(f:wM mask)(a:3*mask<=5*n)(b:5*(n-1)<3*mask)(c:n<=306):wM (sizeAbove (grown n)-1)/\5*n<3*(sizeAbove (grown n)-1)/\n<=sizeAbove (grown n)-1/\sizeAbove (grown n)<=512:=by
 rcases f with rfl|rfl|rfl|rfl
 .have:n=5:=()
  subst this;exact#[.inr (.inl rfl),∅,∅,∅]
 .have:n=19:=()
  subst this;exact#[.inr (.inr (.inl rfl)),∅,∅,∅]
 .have:n=77:=()
  subst this;exact#[.inr (.inr (.inr rfl)),∅,∅,∅]
 .lia
theorem zp{t:SetTable}{c:Array (Int×Value)}(T:TOk t (c.toList.map (·.1)))(d:t.tooFull=true)(near:5*(c.size-1)<3*t.mask)(small:c.size<=306):
  ∃f a,t.relaid (c.map (·.1)) (grown c.size)\(f,a)/\a.toList.Perm (am c.size)/\(a.filterMap (c[·]?)).toList.Perm c.toList/\(a.filterMap (c[·]?)).size=c.size/\
   TOk f ((a.filterMap (c[·]?)).toList.map (·.1))/\f.plain=t.plain/\f.led=t.led/\5*c.size<3*f.mask/\sizeAbove (grown c.size)<=512:=by
 have sz:t.place.size=c.size:=by rw[T.size];simp
 have m:3*t.mask<=5*c.size:=by
  unfold SetTable.tooFull SetTable.fill at d;rw[T.dum,sz] at d;simp at d;lia
 rfl';obtain⟨o,p,q,r⟩:=Ie T.few m near small;obtain⟨f,a,e,em,s,u,_,g,v⟩:=OK o (c.toList.map (·.1)) (~~~q) t.finger (t.movedTo (sizeAbove (grown c.size)-1)) t.led t.plain
 rw[aS,dY] at g;ac_rfl
 have i:(a.filterMap (c[·]?)).toList.Perm c.toList:=by
  rw[ac5];exact(g.filterMap _).trans (by rw[filterMap_getElem?_range])
 have w:(a.filterMap (c[·]?)).size=c.size:=by rw[<-dY,i.length_eq,dY]
 refine#[f,a,?_,g,i,w,?_,u,s,by rw[em];exact p,r]
 .unfold SetTable.relaid
  rw[show c.map (·.1)=(c.toList.map (·.1)).toArray by apply Array.toList_inj.mp;simp]
  exact e
 .have:(a.filterMap (c[·]?)).toList.map (·.1)=a.toList.map λk=>(c.toList.map (·.1)).getD k 0:=by
   rw[ac5];have lt:∀k∈a.toList,k<c.size:=λk h=>eJ.mp (g.mem_iff.mp h);generalize a.toList=l at lt
   induction l with
   |nil=>rfl
   |cons k l x=>
    have h:=lt k (dH ..);rw[List.filterMap_cons_some (b:=c[k]) (by simp[h]),gF,gF,x λj y=>lt j (eM _ y)]
    simp[h]
  rw[this];exact v
def D0(T:TOk t (b.toList.map (·.1)))(f:t.tooFull=true)(near:5*(b.size-1)<3*t.mask)(small:b.size<=306):
  ∃g d,relayAll t b (grown b.size)=(g,d,false)/\g.toList.Perm b.toList/\TOk d (g.toList.map (·.1))/\d.plain=t.plain/\d.led=t.led/\5*b.size<3*d.mask:=by
 rfl';obtain⟨d,a,e,j,k,q,h,l,m,n,_⟩:=zp T f near small;ac_rfl;refine#[_,d,?_,k,h,l,m,n];unfold relayAll;rw[e];dsimp only;have c:coversAll a b.size=true:=List.isPerm_iff.mpr j
 have o:d.fits (a.filterMap (b[·]?)).size=true:=by
  have:=TOk.fits h
  rw[aS,dY] at this;exact this
 rw[c,o];rfl
end PySem
set_option maxHeartbeats 1000000
namespace PySem
open SetTable PyProof.Rows
section
variable {prog:Program} {w:World} {A:Around} {E:Value->Shared->Prop} {s:Shared}
def lB{h:Heap}(g:h.get? a\o)(e:o.data= .set f d t)(b:Array (Int×Value))(c:SetTable):
  (h.update a (Obj.putSet b c)).get? a\{o with data:= .set b (d+1) c}:=by
 have:=On (Obj.putSet b c) g (by rw[putSet_of b c e];rfl)
 rw[putSet_of b c e] at this;exact this
theorem Em(h:s.heap.get? a\o)(S:fL (cE w) o b X t)(B:ElemsOf (intKind prog w) b.toList)
  (C:(intKind prog w).is k x=true) (room:b.size<=305)
  (Y:(∃e∈b.toList,(intKind prog w).is k e.2=true)->Q false s)
  (F:¬(∃e∈b.toList,(intKind prog w).is k e.2=true)->∀n G H Z t',Heap.SameBut a s.heap n->n.get? a\G->fL (cE w) G H Z t'->H.toList.Perm (b.toList++ [((intKind prog w).hash k,x)])->Q true {s with heap:=n}):
  wpAny (model prog w) A (setAddHashed a x ((intKind prog w).hash k)) Q E s:=by
 have i:=S.dat;have I:=S.fits;obtain⟨d,rfl⟩:=acx C;have J:(Value.int k d).scannable=true:=rfl;have hb:b.size<scanBound:=by show b.size<4096;lia
 unfold setAddHashed setAddHashedIn;refine KM (ir (SL h i I ?_));dsimp only;rw[byScan_of J hb B];simp only[↓reduceIte];unfold setAddByScan;refine ir ?_;refine ir (aaX ?_);refine ir (wpAny_setScan_of C h i I B ?_);cases L:List.findIdx? (λe=>(intKind prog w).is k e.2) b.toList with
 |some j=>
  dsimp only;obtain⟨hj,q,_⟩:=List.findIdx?_eq_some_iff_getElem.mp L;exact mo (mo (Y #[b.toList[j],rh hj,q]))
 |none=>
  dsimp only
  have M:¬∃e∈b.toList,(intKind prog w).is k e.2=true:=by
   rintro⟨e,he,hp⟩
   have:=List.findIdx?_eq_none_iff.mp L e he
   rw[hp] at this;exact Bool.noConfusion this
  rfl';obtain⟨p,f,eL,l,m1,u,N⟩:=IF S.tok S.few ((intKind prog w).hash k) (.int k d);ac_rfl;rw[eL];dsimp only;refine ir (mo ?_);rw[show f.plain=true by rw[u];exact S.pl]
  simp only[↓reduceIte];refine ir ?_;rw[hashByValue_scannable 8 J];refine mo ?_;simp only[plainKind, ↓reduceIte];have g:(SetTable.insertAt b p ((intKind prog w).hash k,Value.int k d)).size=b.size+1:=SetTable.fT ..;have v:=abB b p ((intKind prog w).hash k,Value.int k d);rw[BD] at v;refine ir (abt h i ?_ (by rw[g];refine abu ?_;show b.size+1<4096;lia))
  have y:=lB h i (SetTable.insertAt b p ((intKind prog w).hash k,Value.int k d)) f;have O:=aaK s.heap a (Obj.putSet (SetTable.insertAt b p ((intKind prog w).hash k,Value.int k d)) f)
  by_cases c:f.tooFull=true
  .rw[c]
   simp only[adb,Bool.and_true, ↓reduceIte];rfl';obtain⟨z,P,eR,R,T2,p2,l2,T⟩:=D0 l c (by rw[g,m1];have:=S.few;lia) (by rw[g];lia)
   ac_rfl;rw[eR];dsimp only;have U:z.size=b.size+1:=by rw[<-dY,R.length_eq,dY,g]
   refine ir (mo ?_);refine ir (abt y rfl ?_ (by rw[U];refine abu ?_;show b.size+1<4096;lia))
   have rN:=lB y rfl z P;refine mo (mo (F M _ _ z _ P (O.trans (aaK _ a _)) rN #[S.ex,rfl,T2,by rw[p2,u];exact S.pl,by rw[l2,N];exact S.ld,by rw[U];rw[g] at T;exact T] (R.trans v)))
  .have m:f.tooFull=false:=by simpa using c
   rw[m];simp only[adb,zM,f9, ↓reduceIte];refine mo (mo (F M _ _ _ _ f O y #[S.ex,rfl,l,by rw[u];exact S.pl,by rw[N];exact S.ld,?_] v))
   unfold SetTable.tooFull SetTable.fill at m;rw[l.dum,l.size] at m;simp at m;lia
def xZ{Q₁:Value->Shared->Prop}
  (h:Q₁ (.ref s.heap.objs.size) {s with heap:=s.heap.push {cls:= .type "set",dict:=none,data:= .set #[] 0 (.fresh 0 0 (!cE w))}}):
  codeAny (model prog w) A (.call (.builtin "set.__new__") #[[.type "set"],[]]) (wants Q₁ E) s:=by
 refine abZ ?_;refine ir (abc F.newCall_set_0 (mo #[aaO F.plain_set_new _,aaG F.entry_set_new ?_]));rw[Wp F.plain_set_new _];unfold Builtin.«set.__new__» Builtin.Frozenset.newClass;have a:=sub_set_self;obtain⟨b,g,d,c,os⟩:=s;dsimp only
 wp_walk
 refine aaZ (mo ?_);dsimp only;simp only[newObj];refine ir (wpAny_alloc (mo ?_));exact mo h
theorem sI 
  (h:Q (.ref s.heap.objs.size) {s with heap:=s.heap.push {cls:= .type "set",dict:=none,data:= .set #[] 0 (.fresh 0 0 (!cE w))}}):
  wpAny (model prog w) A (call (.type "set") []) Q E s:=by
 obtain⟨c,t,g⟩:=F.called_set.mro;have i:=F.called_set.made;have u:=F.called_set.sub;refine aaQ (abZ ?_);show wpAny _ _ (callAny (.type "set") _) _ _ _;refine mo #[ack _ (by decide+kernel),aaG F.entry_type_call ?_]
 rw[Around.under_plain (weight_type_call_type "set" [] []) rfl];have v:=F.called_set.notType;have x:=F.called_set.canCreate;have j:=F.typeCall_set_0
 repeat (any_goals (first|assumption|wp_step))
 refine aaL (xZ (E:=E) (Q₁:=λobj a=>obj= .ref s.heap.objs.size/\a={s with heap:=s.heap.push {cls:= .type "set",dict:=none,data:= .set #[] 0 (.fresh 0 0 (!cE w))}}) #[rfl,rfl]) λr a b=>?_
 cases r with
 |error e=>exact b
 |ok k=>
  cases k with
  |ret obj=>
   obtain⟨rfl,rfl⟩:=b;have l:(s.heap.push {cls:= .type "set",dict:=none,data:= .set #[] 0 (.fresh 0 0 (!cE w))}).get? s.heap.objs.size\{cls:= .type "set",dict:=none,data:= .set #[] 0 (.fresh 0 0 (!cE w))}:=Gc _ rfl;have m:Shared.TypeIs {s with heap:=s.heap.push {cls:= .type "set",dict:=none,data:= .set #[] 0 (.fresh 0 0 (!cE w))}} (.ref s.heap.objs.size) "set":=#[_,l,rfl]
   have n:=F.called_set.init.lookup;have o:=F.called_set.init.bind (.ref s.heap.objs.size)
   repeat (any_goals (first|assumption|wp_step))
   refine aaL (aa7 (R:=wants (λr f=>r= .none/\Q (.ref s.heap.objs.size) f) E) F.called_set.init.plain F.entry_set_init (check_set_init m ?_)) λp f d=>?_
   .unfold Builtin.«set.__init__» noKeywords
    wp_walk
    exact#[rfl,h]
   .cases p with
    |error e=>exact d
    |ok q=>
     cases q with
     |ret r=>
      obtain⟨rfl,y⟩:=d
      repeat (any_goals (first|assumption|wp_step))
     |_=>exact d.elim
  |_=>exact b.elim
def fL.new(w:World):fL (cE w) {cls:= .type "set",dict:=none,data:= .set #[] 0 (.fresh 0 0 (!cE w))} #[] 0 (.fresh 0 0 (!cE w)) where
 ex:=#[rfl,rfl,rfl]
 dat:=rfl
 tok:=#[.inl rfl,rfl,λi j a=>by simp[SetTable.fresh] at a,rfl,λi j h=>by simp[SetTable.fresh] at h,by simp[SetTable.fresh],λi h e=>by simp at e]
 pl:=rfl
 ld:=rfl
 few:=by simp[SetTable.fresh]
end
namespace F
def wW:entryFor table "set.__iter__"\Builtin.«frozenset.__iter__»:=
 entryFor_alias (id':="frozenset.__iter__") (by kernel_rfl) rfl (by decide+kernel) (by kernel_rfl)
def jQ:Manifest.owners.lookup (String.ofList ['r','o','t','a','r','e','t','i','_','t','e','s'].reverse)\Manifest.sig_set_iterator:=by kernel_rfl
def bP:Slot "set_iterator" "__next__" "set_iterator.__next__":=
 .of (owner:="set_iterator") (n:="__next__") (by rw[typeLookup_type,builtinLookup_eq_fast];kernel_rfl) (by decide+kernel) (by decide+kernel) (by decide+kernel)
  (by first|exact .inl (by decide+kernel) |exact .inr (by decide+kernel)) (by rw[isSubtype_type];kernel_rfl)
def gK:entryFor table "set_iterator.__next__"\Builtin.«set_iterator.__next__»:=entryFor_of_tree (by kernel_rfl)
def gD(a:Value):argsOk "set_iterator.__next__" #[[a],[]]:=by
 unfold argsOk;rw[signature?_of (id:="set_iterator.__next__") (n:= ['_','_','t','x','e','n','_','_']) (o:= ['r','o','t','a','r','e','t','i','_','t','e','s']) (by kernel_rfl) jQ];kernel_rfl
def iz:Slot "set_iterator" "__iter__" "set_iterator.__iter__":=
 .of (owner:="set_iterator") (n:="__iter__") (by rw[typeLookup_type,builtinLookup_eq_fast];kernel_rfl) (by decide+kernel) (by decide+kernel) (by decide+kernel)
  (by first|exact .inl (by decide+kernel) |exact .inr (by decide+kernel)) (by rw[isSubtype_type];kernel_rfl)
def lG:entryFor table "set_iterator.__iter__"\Builtin.«dict_keyiterator.__iter__»:=
 entryFor_alias (id':="dict_keyiterator.__iter__") (by kernel_rfl) rfl (by decide+kernel) (by kernel_rfl)
def kQ(a:Value):argsOk "set_iterator.__iter__" #[[a],[]]:=by
 unfold argsOk;rw[signature?_of (id:="set_iterator.__iter__") (n:= ['_','_','r','e','t','i','_','_']) (o:= ['r','o','t','a','r','e','t','i','_','t','e','s']) (by kernel_rfl) jQ];kernel_rfl
end F
theorem we:∀(l:List a)(i:Nat)(h:i<l.length),(l[i]::l.eraseIdx i).Perm l
 |y::l,0,_=> .refl _
 |y::l,i+1,h=>by
  have:=we l i (~~~h)
  simp only[List.getElem_cons_succ,KR];exact(List.Perm.swap ..).trans (this.cons y)
theorem Gw(next:Nat->Nat):∀(a k:Nat)(left:List b)(out:Array b),left.length<=a->(pickOrder.go next a k left out).toList.Perm (out.toList++left)
 |0,k,left,out,h=>by
  have:left= []:=abq.mp ()
  subst this;simp[pickOrder.go]
 |a+1,k,[],out,h=>by
  simp[pickOrder.go]
 |a+1,k,y::left,out,h=>by
  have lt:next k%(y::left).length<(y::left).length:=rm _ (by simp)
  unfold pickOrder.go;rw[cZ lt];dsimp only;refine(Gw next a (k+1) _ _ (by rw[List.length_eraseIdx_of_lt lt];simp at h ⊢;lia)).trans ?_
  rw[BD,lD];refine abN _ ?_;exact we _ _ lt
def fV(w:World)(a:Addr)(c:Nat)(b:Array (Int×Value)):Array (Int×Value):=if cE w=true then pickOrder (w.params.setOrder a c) b else b
def zd(w:World)(a:Addr)(c:Nat)(b:Array (Int×Value)):(fV w a c b).toList.Perm b.toList:=by
 unfold fV
 split
 .unfold pickOrder
  simpa using Gw (w.params.setOrder a c) b.size 0 b.toList #[] (by simp)
 .exact .refl _
def kH(w:World)(a:Addr)(c:Nat)(b:Array (Int×Value)):(fV w a c b).size=b.size:=by
 rw[<-dY,(zd w a c b).length_eq,dY]
def eS(w:World)(t:SetTable)(i:Nat):Nat:=if cE w=true then 0 else if i=0 then 0 else t.place[i-1]! +1
section
variable {prog:Program} {w:World} {A:Around} {E:Value->Shared->Prop} {s:Shared}
def EN(T:TOk t a)(d:cE w=false){i:Nat}(f:i<=a.length):below t.place (eS w t i)=i:=by
 have sz:=T.size;obtain⟨g,c,e⟩:=jt T.rise (eS w t i);unfold eS at*;rw[tz (by rw[d];exact cQ)] at*
 by_cases z:i=0
 .rw[AC z] at*
  rcases Nat.eq_zero_or_pos (below t.place 0) with h|h
  .rw[h,z]
  .exact absurd (c 0 h) (Nat.not_lt_zero _)
 .rw[tz z] at*
  generalize below t.place (t.place[i-1]! +1)=b at*
  rcases acA b i with h|h|h
  .have:=e (i-1) () ()
   lia
  .exact h
  .have:=c i h
   have:=T.rise (i-1) i () ()
   lia
theorem mN(f:s.heap.get? a\o)(S:fL (cE w) o c d t)(l:i<=c.size)
  (h:Q (((fV w a d c)[i]?).map λe=>(e.2,eS w t (i+1))) s):wpAny (model prog w) A (setNext a (eS w t i) i d) Q E s:=by
 have g:=S.dat;have j:=S.fits;unfold setNext;refine ir (SL f g j ?_);dsimp only;unfold setsByText;refine ir (ir (aaZ (mo ?_)));cases b:cE w with
 |true=>
  refine acg (GT (show w.params.followText "set-order"=true from b)) ?_;rw[tz (by simp)]
  unfold setWalk setsByText;refine ir (ir (SL f g j ?_));dsimp only;refine ir (ir (aaZ (mo ?_)));refine acg (GT (show w.params.followText "set-order"=true from b)) ?_;refine ir (aaZ (mo (mo ?_)));unfold fV eS at h;rw[AC b,AC b] at h;unfold eS;rw[AC b];exact h
 |false=>
  refine ab2 (GM (show ¬w.params.followText "set-order"=true from by rw[show w.params.followText "set-order"=false from b];exact cQ)) ?_
  refine ab2 ?_ ?_
  .refine GM ?_
   show ¬((!t.plain&&decide (c.size>1))=true);rw[S.pl];simp
  refine ir ?_;show wpAny _ _ (if (!t.led&& !c.isEmpty)=true then _ else _) _ _ _;rw[tz (by rw[S.ld,b];simp)]
  refine mo ?_;have m:=EN (w:=w) S.tok b (i:=i) (~~~l)
  rw[m];refine mo ?_;have sz:t.place.size=c.size:=by rw[S.tok.size];simp
  unfold fV at h;rw[tz (by rw[b];exact cQ)] at h
  by_cases lt:i<c.size
  .have k:i<t.place.size:=()
   rw[qh lt] at h ⊢;rw[qh k];dsimp only
   have e:eS w t (i+1)=t.place[i]+1:=by
    unfold eS;rw[tz (by rw[b];exact cQ),tz ()]
    simp[k]
   rw[Option.map_some,e] at h;exact h
  .rw[Et ()] at h ⊢
   exact h
end
def i7(w:World)(h:Heap)(I a:Addr)(t:SetTable)(i n b:Nat):Prop:=
 ∃o,h.get? I\o/\o.cls= .type "set_iterator"/\o.data= .fields [.int (eS w t i:Nat) 0, .int i 0, .ref a, .int n 0, .int b 0].toArray
section
variable {prog:Program} {w:World} {A:Around} {E:Value->Shared->Prop} {s:Shared}
def i7.typeIs(x:i7 w s.heap I a t i n b):s.TypeIs (.ref I) "set_iterator":=let #[o,c,d,_]:=x;#[o,c,d]
def uj(b:s.heap.get? a\o)(S:fL (cE w) o c g t)
  (h:Q (.ref s.heap.objs.size) {s with heap:=s.heap.push {cls:= .type "set_iterator",data:= .fields [.int (eS w t 0:Nat) 0, .int (0:Nat) 0, .ref a, .int c.size 0, .int g 0].toArray}}):
  wpAny (model prog w) A (pyIter (.ref a)) Q E s:=by
 have d:=S.dat;have f:=S.fits;have i:s.TypeIs (.ref a) "set":=#[o,b,S.ex.1];refine wpAny_pyIter_slot i F.slot_set_iter (P3 F.slot_set_iter i F.wW ?_ (F.args_set_iter_1 _));unfold Builtin.«frozenset.__iter__» Builtin.Frozenset.slot0 slotArgs;simp only[abJ,abF,f9, ↓reduceIte,bind_assoc,jH,abr];unfold Builtin.Frozenset.addrOf Builtin.Frozenset.sizeOf;refine ir (mo ?_)
 try dsimp only
 refine ir (mo ?_);refine ir (ir (ab9 b d f (mo ?_)));unfold setDrawn setsByText;refine ir (ir (SL b d f ?_));dsimp only;refine ir (ir (aaZ (mo ?_)));refine mo ?_;refine ab2 ?_ ?_
 .refine GM ?_
  show ¬((!w.params.followText "set-order"&&(!t.plain&&decide (c.size>1)))=true);rw[S.pl];simp
 refine ir (mo ?_);refine ir ?_;unfold setEpoch;refine ir (SL b d f (mo ?_));refine ir (Pi (mo #[_,rfl,"set_iterator",_,#[_,Gc _ rfl,rfl],F.bP.lookup,?_]));have e:eS w t 0=0:=by unfold eS;simp
 rw[e] at h;exact h
def uk(b:i7 w s.heap I a t i c.size d)(j:s.heap.get? a\o)(S:fL (cE w) o c d t)
  (k:(fV w a d c)[i]?\x) (n:∀f,i7 w f I a t (i+1) c.size d->Heap.SameBut I s.heap f->Q (some x.2) {s with heap:=f}):wpAny (model prog w) A (pyNext (.ref I)) Q E s:=by
 obtain⟨u,g,p,e⟩:=id b
 have q:i<c.size:=by
  have:=(wB.mp k).1
  rwa [kH] at this
 unfold pyNext
 refine ir (aba (abp (name:=Str.ofString "__next__") b.typeIs F.bP
  (P3 F.bP b.typeIs F.gK ?_ (F.gD _))))
 unfold Builtin.«set_iterator.__next__»;refine ir (m:=slotArgs "__next__" 0 _) (mo ?_);refine ir (wpAny_fieldsOf g e ?_);dsimp only;refine ir (ab9 j S.dat S.fits ?_);rw[tz (by simp)]
 refine ir ?_;rw[wJ,wJ,wJ];refine mN j S (sr q) ?_;rw[k];dsimp only[Option.map_some];refine ir (aa4 g e (by simp) ?_)
 have l:=On (Obj.mapFields (·.setIfInBounds 0 (rawInt (eS w t (i+1):Nat)))) g (aaV (aat e _));have h:=aat e (·.setIfInBounds 0 (rawInt (eS w t (i+1):Nat)));refine ir (aa4 l h (by simp) ?_)
 have r:=On (Obj.mapFields (·.setIfInBounds 1 (rawInt ((i:Int)+1)))) l (aaV (aat h _));refine mo #[_,rfl,mo (n _ #[_,r,?_,?_] ((aaK ..).trans (aaK ..)))]
 .exact(Obj.cls_mapFields ..).trans ((Obj.cls_mapFields ..).trans p)
 .rw[aat h];simp[rawInt]
def ou(j:A.handled=none)(c:i7 w s.heap I a t d.size d.size e)(f:s.heap.get? a\o)(S:fL (cE w) o d e t)
  (k:∀g,Heap.ExtBut I s.heap g->Q none {s with heap:=g}):wpAny (model prog w) A (pyNext (.ref I)) Q E s:=by
 obtain⟨l,h,n,i⟩:=id c;unfold pyNext
 refine ir (aba (abp (name:=Str.ofString "__next__") c.typeIs F.bP
  (P3 F.bP c.typeIs F.gK ?_ (F.gD _))))
 unfold Builtin.«set_iterator.__next__»;refine ir (m:=slotArgs "__next__" 0 _) (mo ?_);refine ir (wpAny_fieldsOf h i ?_);dsimp only;refine ir (ab9 f S.dat S.fits ?_);rw[tz (by simp)]
 refine ir ?_;rw[wJ,wJ,wJ];refine mN f S (bM _) ?_;rw[Et (by rw[kH];exact bM _)]
 dsimp only[Option.map_none];refine ir (aa4 h i (by simp) ?_)
 show wpAny _ _ (newExc (.type "StopIteration") []>>=_) _ _ _;refine ir ?_;simp only[newExc,newTuple];refine ir (Pi ?_ (by size_fits))
 refine ir (m:=firstArgMember _ _) (abc (a:=Value.none) (by first|rfl| (simp only[firstArgMember];rfl)) ?_)
 refine Pi ?_ (by size_fits)
 simp only[raiseNew];refine ir (wpAny_handled ?_);rw[show A.in1.handled=none from j];refine ir (mo (wpAny_throw ?_));refine ir (wpAny_isInstance (T:="StopIteration") (b:=true) #[_,Gc _ rfl,rfl] isSubtype_stop ?_);exact mo (k _ (((aaK ..).extBut.push _).push _))
def Walks.sets(p:A.handled=none)(I a:Addr)(q:a≠I)(S:fL (cE w) o c f t):
  Walks prog w A I [I,a] [I] c.size (λi v=>∃x,(fV w a f c)[i]?\x/\v=x.2) (λi h=>i7 w h I a t i c.size f/\h.get? a\o) where
 sub:=λb d=>by simp at d;simp[d]
 frame:=λi h j st k=>#[let #[u,y,r]:=st.1;#[u,k I (by simp) _ y,r],k a (by simp) _ st.2]
 item:=λi s Q E z st g=>by
  have l:(fV w a f c)[i]?\((fV w a f c)[i]'(by rw[kH];exact z)):=qh _
  refine uk st.1 st.2 S l λj B n=>?_;exact g _ j s.toks #[_,l,rfl] #[B,(n.2 a q).trans st.2] λb o d e=>n.extBut b o (λh=>d (by simp[h])) e
 done:=λs Q E st g=>ou p st.1 st.2 S λj C=>g j s.toks λb o d e=>C b o (λh=>d (by simp[h])) e
 self:=λi s Q E st g=>by
  refine wpAny_pyIter_slot st.1.typeIs F.iz (P3 F.iz st.1.typeIs F.lG ?_ (F.kQ _));unfold Builtin.«dict_keyiterator.__iter__»;refine ir (m:=slotArgs "__iter__" 0 _) (mo ?_);exact mo #[_,rfl,"set_iterator",_,st.1.typeIs,F.bP.lookup,g]
end
section
variable {prog:Program} {w:World} {A:Around} {E:Value->Shared->Prop} {s:Shared}
def sq(hh:A.handled=none)(J:s.heap.get? a\o)(S:fL (cE w) o c d t)
  (hQ:∀k tk,s.heap.objs.size<k.objs.size->(∀b o,s.heap.get? b\o->k.get? b\o)->Q ((fV w a d c).toList.map (·.2)) {s with heap:=k,toks:=tk}) (hn:c.size<=sizeLine:=by size_fits):
  wpAny (model prog w) A (collect (.ref a)) Q E s:=by
 have m:a<s.heap.objs.size:=Do J;unfold collect;refine ir (wpAny_runValue (aaG F.entry_proto_collect ?_));rw[Wp F.plain_proto_collect _];show wpAny _ A.in1 (newList []>>=λl=>again (.builtin "list.__iadd__" #[[l, .ref a],[]])) _ _ s;refine ir (Pi ?_);refine mo #[aaO F.plain_list_iadd _,aaG F.entry_list_iadd ?_];rw[Wp F.plain_list_iadd _];have n:(s.heap.push {cls:= .type "list",data:= .seq ([]:List Value).toArray}).get? a\o:=Da _ J;show wpAny _ A.in1 (Builtin.List.listExtendWith (.ref s.heap.objs.size) (.ref a) (.ref s.heap.objs.size)) _ _ {s with heap:=s.heap.push {cls:= .type "list",data:= .seq ([]:List Value).toArray}}
 unfold Builtin.List.listExtendWith;have hT:Shared.TypeIs {s with heap:=s.heap.push {cls:= .type "list",data:= .seq ([]:List Value).toArray}} (.ref a) "set":=#[o,n,S.ex.1]
 refine ir (acG hT ?_);have h1:Builtin.List.listSameRef (.ref s.heap.objs.size) (.ref a)=false:=by simp[Builtin.List.listSameRef,vx m]
 have f:(Value.type "set"==Value.type "list")=false:=∅
 have h3:(Value.type "set"==Value.type "tuple")=false:=∅
 simp only[h1,f,h3,Bool.or_false,f9,SZ];refine ir (uj n S ?_);generalize L:(s.heap.push {cls:= .type "list",data:= .seq ([]:List Value).toArray}).objs.size=I;have p:I=s.heap.objs.size+1:=by rw[<-L,aa6]
 have q:a≠I:=by rw[p];exact bJ (ur m)
 have M:s.heap.objs.size≠I:=by rw[p];exact bJ (zK _)
 have N:s.heap.objs.size≠a:=vx m;have r:((s.heap.push {cls:= .type "list",data:= .seq ([]:List Value).toArray}).push {cls:= .type "set_iterator",data:= .fields [.int (eS w t 0:Nat) 0, .int (0:Nat) 0, .ref a, .int c.size 0, .int d 0].toArray}).get? s.heap.objs.size\{cls:= .type "list",data:= .seq ([]:List Value).toArray}:=Da _ (Gc _ rfl);have O:((s.heap.push {cls:= .type "list",data:= .seq ([]:List Value).toArray}).push {cls:= .type "set_iterator",data:= .fields [.int (eS w t 0:Nat) 0, .int (0:Nat) 0, .ref a, .int c.size 0, .int d 0].toArray}).get? I\{cls:= .type "set_iterator",data:= .fields [.int (eS w t 0:Nat) 0, .int (0:Nat) 0, .ref a, .int c.size 0, .int d 0].toArray}:=by rw[<-L];exact Gc _ rfl
 have u:((s.heap.push {cls:= .type "list",data:= .seq ([]:List Value).toArray}).push {cls:= .type "set_iterator",data:= .fields [.int (eS w t 0:Nat) 0, .int (0:Nat) 0, .ref a, .int c.size 0, .int d 0].toArray}).get? a\o:=Da _ n;have P:∀b o,s.heap.get? b\o->((s.heap.push {cls:= .type "list",data:= .seq ([]:List Value).toArray}).push {cls:= .type "set_iterator",data:= .fields [.int (eS w t 0:Nat) 0, .int (0:Nat) 0, .ref a, .int c.size 0, .int d 0].toArray}).get? b\o:=λb o e=>Da _ (Da _ e);generalize ((s.heap.push {cls:= .type "list",data:= .seq ([]:List Value).toArray}).push {cls:= .type "set_iterator",data:= .fields [.int (eS w t 0:Nat) 0, .int (0:Nat) 0, .ref a, .int c.size 0, .int d 0].toArray})=f at r O u P ⊢;have v:Shared.TypeIs {s with heap:=f} (.ref a) "set":=#[o,u,S.ex.1]
 refine ir (KM ?_);unfold Builtin.List.listLengthHint;refine ir (acY v F.slot_set_len.lookup ?_)
 (generalize y:("set.__len__":String)=R;(fail_if_success (clear y R));wp_delta;rw[show splitId R\("set","__len__") from by subst y;decide+kernel];subst y)
 refine ir (wpAny_isInstance (b:=true) v sub_set_self ?_);dsimp only;refine ab2 ∅ ?_
 refine acg (by decide+kernel) ?_
 refine ir (acG v ?_);refine mo ?_;refine acg (by decide+kernel) ?_
 refine ir (aaX ?_);refine ir ?_;show wpAny _ A.in1 (updateSeq s.heap.objs.size (·.push .none)>>=λ_=>updateSeq s.heap.objs.size (·.pop)) _ _ _;refine ir (abg r rfl ?_);have T:=On (Obj.mapSeq (·.push Value.none)) r rfl;refine abg T rfl ?_;have Vx:=On (Obj.mapSeq (·.pop)) T rfl
 have z:∀b o,b≠s.heap.objs.size->f.get? b\o->
   ((f.update s.heap.objs.size (Obj.mapSeq (·.push Value.none))).update s.heap.objs.size (Obj.mapSeq (·.pop))).get? b\o:=
  λb o g e=>(IR _ _ (Ne.symm g)).trans ((IR _ _ (Ne.symm g)).trans e)
 have W:=(Walks.sets (prog:=prog) (A:=A.in1) hh I a q S).toS;have B:s.heap.objs.size∉ [I,a]:=by simp[M,N]
 refine mo #[aaO F.plain_extend_loop _,codeAny_extend_loopS W hn _ B _ c.size 0 _ _ _ rfl (fg _)
  #[#[_,z _ _ (Ne.symm M) O,rfl,rfl],z _ _ (Ne.symm N) u] Vx (ItemsOf.nil _) λh i c' U X Y=>?_]
 show wpAny _ A (load s.heap.objs.size>>=_) _ _ h;refine ir (wpAny_load X ?_)
 have hZ:h={s with heap:=h.heap,toks:=h.toks}:=by
  obtain⟨jZ,g',d',tk',Wi⟩:=h;obtain⟨_,C,G,H,_⟩:=U;have C:g'=s.gens:=C;have G:d'=s.drawn:=G;have H:Wi=s.os:=H;subst C G H;rfl
 have ea:i.toList=(fV w a d c).toList.map (·.2):=by
  refine wI λj=>?_;rw[gE,fi,gE];have sz:i.size=(fV w a d c).size:=by rw[Y.1,kH]
  by_cases lt:j<i.size
  .obtain⟨x,hx,hv⟩:=Y.2 j i[j] (qh lt)
   rw[hx,qh lt,hv];rfl
  .rw[Et (),Et ()];rfl
 rw[hZ];show wpAny _ _ (pure i.toList) Q E _;rw[ea];refine mo (hQ _ _ (Do X) λb o e=>?_);have g:=Do e;have Z:b≠s.heap.objs.size:=bJ g;have b2:b≠I:=by rw[p];exact bJ (ur g)
 exact U.heap b o (by simp[Z,b2]) (z b o Z (P b o e))
def yL(p:k.Perm j):∀{e:List Int},IntsAre j e->∃f,IntsAre k f/\f.Perm e:=by
 induction p with
 |nil=>intro e h;exact#[e,h, .refl _]
 |cons x _ o=>
  intro e h;cases h with
  |cons n t h=>
   obtain⟨f,a,b⟩:=o h;exact#[n::f, .cons n t a,b.cons n]
 |swap x y l=>
  intro e h;cases h with
  |cons n t h=>
   cases h with
   |cons m u h=>exact#[_, .cons m u (.cons n t h), .swap ..]
 |trans _ _ g i=>
  intro e h;obtain⟨f,a,b⟩:=i h;obtain⟨q,c,d⟩:=g a;exact#[q,c,d.trans b]
def GL(x:A.handled=none)(y:s.heap.get? a\o)(S:fL (cE w) o d f t)(z:IntsAre (d.toList.map (·.2)) i)(j:d.size<64)
  (h:∀k B q (out:Array Value) (e:Nat) (g:List Int),(∀b o,s.heap.get? b\o->k.get? b\o)->s.heap.objs.size<=q->k.get? q\{cls:= .type "list",data:= .seq out e}->IntsAre out.toList g->g.Perm i->g.Pairwise (·<=·)->Q (.ref q) {s with heap:=k,toks:=B}):
  wpAny (model prog w) A (call (.builtin "sorted") [.ref a]) Q E s:=by
 have C:=(zd w a f d).map (λe:Int×Value=>e.2);obtain⟨l,F,G⟩:∃l,IntsAre ((fV w a f d).toList.map (·.2)) l/\l.Perm i:=yL C z;have sz:((fV w a f d).toList.map (·.2)).length=d.size:=by rw[aS,dY,kH]
 refine aaY ac4 acL acM (acN _) ?_;unfold Builtin.«sorted»;refine ir (m:=checkCount "sorted" 1 1 _) (mo ?_);have r:64<=sizeLine:=∅
 refine ir (sq x y S (λc tk1 H I=>?_) ())
 refine ir (aa9 ?_ (by rw[sz];lia))
 have n:(c.push (seqObj "list" ((fV w a f d).toList.map (·.2)).toArray 0)).get? c.objs.size\(seqObj "list" ((fV w a f d).toList.map (·.2)).toArray 0):=Gc _ rfl;refine ir (KM (P3 slot_list_sort #[_,n,rfl] entry_list_sort (list_sort_tree n F (by rw[sz];exact j) λout g J L M=>#[_,rfl,?_]) (abl _)))
 obtain⟨p,N⟩:∃p,((c.push (seqObj "list" ((fV w a f d).toList.map (·.2)).toArray 0)).update c.objs.size (Obj.mapSeq λ_=> #[])).get? c.objs.size\(seqObj "list" #[] p):=#[_,ab0 n (λ_=> #[])];have R:((c.push (seqObj "list" ((fV w a f d).toList.map (·.2)).toArray 0)).update c.objs.size (Obj.mapSeq λ_=> #[])).objs.size=c.objs.size+1:=by rw[aa0,aa6]
 have O:((((c.push (seqObj "list" ((fV w a f d).toList.map (·.2)).toArray 0)).update c.objs.size (Obj.mapSeq λ_=> #[])).push (seqObj "tuple" ((fV w a f d).toList.map (·.2)).toArray 0)).push (seqObj "list" #[] 0)).get? c.objs.size\(seqObj "list" #[] p):=
  Da _ (Da _ N)
 have P:=ab0 O (λ_=>out);refine mo #[_,rfl,h _ _ c.objs.size out _ g (λb o e=>?_) (sr H) P J (L.trans G) M];have u:=I b o e;have v:b≠c.objs.size:=bJ (Do u);show((((((c.push (seqObj "list" ((fV w a f d).toList.map (·.2)).toArray 0)).update c.objs.size (Obj.mapSeq λ_=> #[])).push (seqObj "tuple" ((fV w a f d).toList.map (·.2)).toArray 0)).push (seqObj "list" #[] 0)).update c.objs.size (Obj.mapSeq λ_=>out))).get? b\o;rw[aaI _ _ _ _ v];refine Da _ (Da _ ?_);rw[aaI _ _ _ _ v];exact Da _ u
end
section
variable {prog:Program} {w:World} {A:Around} {E:Value->Shared->Prop} {s:Shared}
def ItemsAre.ints(h:ItemsAre (intKind prog w) c b):∀v∈b,∃i t,v= .int i t:=by
 induction h with
 |nil=>intro v a;simp at a
 | @cons k f c b d _ e=>
  intro v a
  rcases bY.mp a with rfl|a
  .obtain⟨t,rfl⟩:=acx d
   exact#[k,t,rfl]
  .exact e v a
def qf(f:IsTupleKey (intKind prog w) s.heap j a)(h:Q false s):wpAny (model prog w) A (ofAClassStatement 8 (.ref a)) Q E s:=by
 have k:=f.typeIs;obtain⟨o,c,n,l,_,m,p⟩:=f;unfold ofAClassStatement;refine ir (acG k ?_);dsimp only;simp only[abI, ↓reduceIte];refine ir (mo ?_);simp only[abF,f9, ↓reduceIte];refine ir (abn l m ?_);dsimp only;refine ir ?_;rw[<-Array.forIn_toList];refine abG _ (λb r d=>r.1=none/\d=s/\∀v∈b,∃i t,v=Value.int i t) _ ?_ ?_ _ _ #[rfl,rfl,p.ints]
 .rintro v b r d ⟨e,rfl,g⟩
  obtain⟨i,t,rfl⟩:=g v dH;refine ir (abc (show ofAClassStatement 7 (.int i t)=pure false from by unfold ofAClassStatement;rfl) ?_)
  simp only[f9,SZ];exact mo #[rfl,rfl,λu q=>g u (eM _ q)]
 .rintro⟨x,y⟩ d ⟨e,rfl,_⟩
  simp only at e;subst e;exact mo h
def He(j:IsTupleKey (intKind prog w) s.heap n b)(stored:List Value)(o:∀y∈stored,∃f a,y=Value.ref a/\IsTupleKey (intKind prog w) s.heap f a)(h:Q false s):
  wpAny (model prog w) A (searchCouldBeSeen (.ref b) stored) Q E s:=by
 unfold searchCouldBeSeen;refine ir ?_;refine abG _ (λd r g=>r.1=none/\g=s/\∀y∈d,∃f a,y=Value.ref a/\IsTupleKey (intKind prog w) s.heap f a) _ ?_ ?_ _ _ #[rfl,rfl,o]
 .rintro y d r g ⟨i,rfl,k⟩
  obtain⟨f,a,rfl,l⟩:=k y dH;have m:∀y∈d,∃f a,y=Value.ref a/\IsTupleKey (intKind prog w) g.heap f a:=λy p=>k y (eM _ p);have e:(carriedByValue (Value.ref b)&&carriedByValue (Value.ref a))=false:=by simp[carriedByValue]
  dsimp only;rw[e,Bool.or_false]
  by_cases c:(b==a)=true
  .rw[AC c]
   exact mo #[rfl,rfl,m]
  .rw[tz c]
   refine ir (wpAny_eqIsQuiet_tuple j ?_);simp only[abF,f9,SZ];refine ir (wpAny_eqIsQuiet_tuple l ?_);simp only[abF,f9,SZ];refine ir (qf j ?_);simp only[f9,SZ];refine ir (qf l ?_);simp only[f9,SZ];exact mo #[rfl,rfl,m]
 .rintro⟨q,t⟩ g ⟨i,rfl,_⟩
  simp only at i;subst i;exact mo h
def Aw(f:IsTupleKey (intKind prog w) s.heap j a)(h:Q true s):wpAny (model prog w) A (hashByValue 8 (.ref a)) Q E s:=by
 rfl';have l:=f.typeIs;obtain⟨o,c,n,m,_,p,q⟩:=f;ac_rfl;unfold hashByValue;refine ir (acY l F.slot_tuple_hash.lookup ?_);dsimp only;refine ir (abn m p ?_);refine ir ?_;show wpAny _ _ (forIn c _ _) _ _ s;rw[<-Array.forIn_toList];refine abG _ (λb r d=>r.1=none/\d=s/\∀v∈b,∃i t,v=Value.int i t) _ ?_ ?_ _ _ #[rfl,rfl,q.ints]
 .rintro v b r d ⟨e,rfl,g⟩
  obtain⟨i,t,rfl⟩:=g v dH;refine ir (abc (show hashByValue 7 (.int i t)=pure true from by unfold hashByValue;rfl) ?_)
  simp only[abF,f9,SZ];exact mo #[rfl,rfl,λu x=>g u (eM _ x)]
 .rintro⟨z,B⟩ d ⟨e,rfl,_⟩
  simp only at e;subst e;exact mo h
def ML(prog:Program)(w:World)(h:Heap)(b:Array (Int×Value)):Prop:=∀(i:Nat)(e:Int×Value),b[i]?\e->∃k a,e=(tupleKeyHash (intKind prog w) k, .ref a)/\IsTupleKey (intKind prog w) h k a
def Qk(a:Array (Int×Value))(i:Nat):Int:=(a[i]?.map (·.1)).getD 0
def NN(h:wM m):m%2=1:=by rcases h with rfl|rfl|rfl|rfl<;>rfl
def Bk{a:Array Nat}(R:oI a){i j v:Nat}(b:a[i]?\v)(c:a[j]?\v):i=j:=by
 rw[<-below_at R b,<-below_at R c]
theorem rf(hu:A.units<cLine)(ho:s.heap.get? a\o)(S:fL (cE w) o q M t)(P:ML prog w s.heap q)(hk:IsTupleKey (intKind prog w) s.heap u b)
  (Rn:(∃(i:Nat)(c:Addr),q[i]?\(tupleKeyHash (intKind prog w) u, .ref c)/\IsTupleKey (intKind prog w) s.heap u c)->∀r:Option Nat,(B=false->r.isSome=true)->Q (.there r) s)
  (Cz:(∀(i:Nat)(e:Int×Value),q[i]?\e->∀c,e.2= .ref c->¬IsTupleKey (intKind prog w) s.heap u c)->∀g,(∀i:Nat,t.place[i]? ≠some (bK t.mask (tupleKeyHash (intKind prog w) u) g))->(∀j,j<g->∃i:Nat,t.place[i]?\(bK t.mask (tupleKeyHash (intKind prog w) u) j))->
   Q (.free (bK t.mask (tupleKeyHash (intKind prog w) u) g) false) s):
  wpAny (model prog w) A (setSearch a (.ref b) (tupleKeyHash (intKind prog w) u) B) Q E s:=by
 generalize hh:tupleKeyHash (intKind prog w) u=h at*;have T:=S.tok;obtain⟨s0,hs0,Yt⟩:=T.empty;obtain⟨K,hK,Z⟩:=meets T.few (uA.start t.mask h) hs0;have Z:bK t.mask h K=s0:=by unfold bK;rw[nG];exact Z
 have kb:K<6000:=by
  have:10*turns t.mask<=5260:=by
   rcases T.few with e|e|e|e<;>rw[e]<;>decide
  lia
 have sz:t.place.size=q.size:=by rw[T.size];simp
 have hN:(t.mask%2==0)=false:=by rw[NN T.few];rfl
 have N:∀(n:Nat)(k:Nat)(l:Nat)(O:Option Probe),K+1-k<=n->n<l->k<=K->O.getD (t.probeStart h)=qM t.mask h k->(∀j,j<k->∃i:Nat,t.place[i]?\(bK t.mask h j))->
   (∀(i:Nat) c,q[i]?\(h, .ref c)->IsTupleKey (intKind prog w) s.heap u c->∀C,t.place[i]?\(bK t.mask h C)->k<=C)->
   wpAny (model prog w) A (setSearchFrom a (.ref b) h B l O) Q E s:=by
  intro n
  induction n with
  |zero=>intro k l O h1 h2 h3;lia
  |succ n ih=>
   intro k l O h1 h2 h3 h4 h5 h6;obtain⟨f,rfl⟩:∃f,l=f+1:=#[l-1,()]
   unfold setSearchFrom;refine ir (SL ho S.dat S.fits ?_);dsimp only;unfold SetTable.gaveWay;rw[hN];simp only[f9,SZ]
   have Yb:∀(i:Nat)(e:Int×Value),q[i]?\e->Qk q i=e.1:=λi e d=>by
    show(q[i]?.map (·.1)).getD 0=e.1;rw[d];rfl
   generalize I:t.probe _ h (O.getD (t.probeStart h))=r;have I:t.probe (Qk q) h (qM t.mask h k)=r:=by rw[<-h4];exact I
   generalize Qk q=hA at Yb I;obtain⟨g,Ij,hp,alt⟩:=TOk.probe T hA h k
   have k0K:g<=K:=by
    apply FB;intro c;obtain⟨i,d,_⟩:=hp K h3 ()
    rw[Z] at d;exact Yt i d
   have RW:∀j,j<g->∃i:Nat,t.place[i]?\(bK t.mask h j):=λj h'=>by
    by_cases c:j<k
    .exact h5 j c
    .obtain⟨i,d,_⟩:=hp j () h'
     exact#[i,d]
   have F:∀(i:Nat) c,q[i]?\(h, .ref c)->IsTupleKey (intKind prog w) s.heap u c->∀C,t.place[i]?\(bK t.mask h C)->g<=C:=λi c d hc C R=>by
    have hkx:=h6 i c d hc C R;apply FB;intro z;obtain⟨p,G,qL⟩:=hp C hkx ()
    have:i=p:=Bk T.rise R G
    subst this;exact qL (Yb i _ d)
   rcases alt with ⟨Od,M⟩ | ⟨i,d,hhi,M⟩
   .rw[M] at I
    subst I;dsimp only;refine mo (Cz (λi e d c hc YE=>?_) g Od RW);obtain⟨j,a',U,X⟩:=P i e d;subst U;cases hc
    have:j=u:=X.inj YE
    subst this;rw[hh] at d;obtain⟨ky,YZ,hy2⟩:=T.path i h (by rw[fi,gE,d];rfl)
    have lt:=F i _ d YE ky YZ
    by_cases c1:g<ky
    .obtain⟨p,G⟩:=hy2 g c1
     exact Od p G
    .have:ky=g:=()
     subst this;exact Od i YZ
   .rw[M] at I
    subst I;dsimp only
    have Y2:i<q.size:=by
     have:=(wB.mp d).1
     lia
    obtain⟨j,c,U,X⟩:=P i q[i] (qh Y2);have L:q[i]?\(tupleKeyHash (intKind prog w) j, .ref c):=by rw[qh Y2,U]
    have H:wpAny (model prog w) A (match q[i]? with
      |some (fst,y)=>do
       let m <-holding [y] (eqBool y (Value.ref b))
       let J <-setState a
       if (B&&m)=true then pure (SetFound.there none)
        else
         match J.2.snd.sameMemory t.moves t.mask with
         |some same=>
          match if same=true then J.2.snd.slot (bK t.mask h g) else Slot.empty with
          |Slot.live p=>
           match J.fst[p]? with
           |some (fst,y')=>do
            let v <-isSame y' y
            let Y <-pure (if v=true then some p else none)
            match Y with
             |none=>do
              rule "set.search.anew"
              setSearchFrom a (Value.ref b) h B f none
             |some p=>
              if m=true then pure (SetFound.there (some p))
              else setSearchFrom a (Value.ref b) h B f (some (qM t.mask h (g+1)))
           |none=>do
            let Y <-pure none
            match Y with
             |none=>do
              rule "set.search.anew"
              setSearchFrom a (Value.ref b) h B f none
             |some p=>
              if m=true then pure (SetFound.there (some p))
              else setSearchFrom a (Value.ref b) h B f (some (qM t.mask h (g+1)))
          |x=>do
           let Y <-pure none
           match Y with
            |none=>do
             rule "set.search.anew"
             setSearchFrom a (Value.ref b) h B f none
            |some p=>
             if m=true then pure (SetFound.there (some p))
             else setSearchFrom a (Value.ref b) h B f (some (qM t.mask h (g+1)))
         |x=>unsupported "set.changed-during-lookup:is-the-new-block-at-the-old-address"
      |x=>unsupported "internal:set-entry") Q E s:=by
     rw[L];dsimp only;refine ir (KM (wpAny_eqBool_tuple hu X hk ?_));refine ir (SL ho S.dat S.fits ?_);dsimp only;have sm:t.sameMemory t.moves t.mask\true:=by unfold SetTable.sameMemory;simp
     have qL:j≠u->wpAny (model prog w) A (setSearchFrom a (Value.ref b) h B f (some (qM t.mask h (g+1)))) Q E s:=λne=>by
      by_cases kk:g=K
      .subst kk
       rw[Z] at d;exact absurd d (Yt i)
      refine ih (g+1) f _ () () () rfl (λRA h''=>?_) λp c' G tD C R=>?_
      .by_cases z:RA=g
       .subst z;exact#[i,d]
       .exact RW RA ()
      .have l1:=F p c' G tD C R
       have:C≠g:=λz=>by
        subst z
        have:p=i:=Bk T.rise R d
        subst this;rw[L] at G;cases G;exact ne (X.inj tD)
       lia
     have there:j=u->∀r:Option Nat,(B=false->r.isSome=true)->Q (.there r) s:=λe=>by
      subst e;rw[hh] at L;exact Rn #[i,c,L,X]
     by_cases e:j=u
     .rw[GT e,Bool.and_true]
      cases B with
      |true=>exact mo (there e none λz=>absurd z ∅)
      |false=>
       simp only[f9,SZ];rw[sm];dsimp only;rw[AC rfl,r9 T.rise d];dsimp only;rw[L];dsimp only;refine ir (wpAny_isSame_ref_self ?_);refine ir (mo ?_);simp only[aaU];exact mo (there e (some i) λ_=>rfl)
     .rw[GM e,zM]
      simp only[f9,SZ];rw[sm];dsimp only;rw[AC rfl,r9 T.rise d];dsimp only;rw[L];dsimp only;refine ir (wpAny_isSame_ref_self ?_);refine ir (mo ?_);simp only[aaU];exact qL e
    by_cases led:(!t.led)=true
    .rw[AC led]
     refine ir (He hk _ (λy hy=>?_) ?_)
     .obtain⟨e,he,rfl⟩:=cM.mp hy
      have he:=(Array.mem_filter.mp (Array.mem_toList_iff.mp he)).1;obtain⟨p,G,rfl⟩:=Array.mem_iff_getElem.mp he;obtain⟨RA,c',U,YD⟩:=P p q[p] (qh G);exact#[RA,c',by rw[U],YD]
     .simp only[f9,SZ]
      exact H
    .rw[tz led]
     exact H
 refine N (K+1) 0 100000 none (bM _) () (fg _) rfl (λj h'=>by lia) λi c d hc C _=>fg _
end
section
variable {prog:Program} {w:World} {A:Around} {E:Value->Shared->Prop} {s:Shared}
def vC(b:Addr)(a:Array (Int×Value)):byScan (.ref b) a=false:=rfl
def Av(k:A.units<cLine)(g:s.heap.get? a\o)(S:fL (cE w) o f j t)(P:ML prog w s.heap f)(l:IsTupleKey (intKind prog w) s.heap d b)
  (m:(∃(i:Nat)(c:Addr),f[i]?\(tupleKeyHash (intKind prog w) d, .ref c)/\IsTupleKey (intKind prog w) s.heap d c)->∀r:Option Nat,r.isSome=true->Q r s)
  (n:(∀(i:Nat)(e:Int×Value),f[i]?\e->∀c,e.2= .ref c->¬IsTupleKey (intKind prog w) s.heap d c)->Q none s):
  wpAny (model prog w) A (setFind a (.ref b) (tupleKeyHash (intKind prog w) d)) Q E s:=by
 unfold setFind setFindIn;refine ir (SL g S.dat S.fits ?_);dsimp only;rw[vC];simp only[f9,SZ];refine ir (rf k g S P l (λh r p=>?_) λh q _ _=>?_)
 .exact mo (m h r (p rfl))
 .exact mo (n h)
def En(hu:A.units<cLine)(n:s.heap.get? a\o)(S:fL (cE w) o d ep t)(P:ML prog w s.heap d)(J:IsTupleKey (intKind prog w) s.heap g b)(room:d.size<=305)
  (hy:(∃(i:Nat)(c:Addr),d[i]?\(tupleKeyHash (intKind prog w) g, .ref c)/\IsTupleKey (intKind prog w) s.heap g c)->Q false s)
  (L:(∀(i:Nat)(e:Int×Value),d[i]?\e->∀c,e.2= .ref c->¬IsTupleKey (intKind prog w) s.heap g c)->∀z M N uK t',Heap.SameBut a s.heap z->z.get? a\M->fL (cE w) M N uK t'->N.toList.Perm (d.toList++ [(tupleKeyHash (intKind prog w) g, .ref b)])->Q true {s with heap:=z}):
  wpAny (model prog w) A (setAddHashed a (.ref b) (tupleKeyHash (intKind prog w) g)) Q E s:=by
 have u:=S.dat;have O:=S.fits;have T:=S.tok;have sz:t.place.size=d.size:=by rw[T.size];simp
 unfold setAddHashed setAddHashedIn;refine KM (ir (SL n u O ?_));dsimp only;rw[vC];simp only[f9,SZ];refine ir (rf hu n S P J (λh r hr=>?_) λh k B RW=>?_)
 .exact mo (hy h)
 .dsimp only
  refine ir (SL n u O ?_);dsimp only;obtain⟨p1,p2,l⟩:=TOk.put T B RW (by rw[sz];exact AR T.few S.few)
  rw[p1]
  have e:(SetTable.insertAt d (below t.place (bK t.mask (tupleKeyHash (intKind prog w) g) k)) (tupleKeyHash (intKind prog w) g,Value.ref b)).toList.map (·.1)=(d.toList.map (·.1)).take (below t.place (bK t.mask (tupleKeyHash (intKind prog w) g) k))++tupleKeyHash (intKind prog w) g::(d.toList.map (·.1)).drop (below t.place (bK t.mask (tupleKeyHash (intKind prog w) g) k)):=by
   rw[abk];simp
  rw[<-e] at l;have C:(t.put (bK t.mask (tupleKeyHash (intKind prog w) g) k)).1.plain=true:=S.pl;have ld:(t.put (bK t.mask (tupleKeyHash (intKind prog w) g) k)).1.led= !cE w:=S.ld;have mk:(t.put (bK t.mask (tupleKeyHash (intKind prog w) g) k)).1.mask=t.mask:=rfl;generalize hx:((tupleKeyHash (intKind prog w) g,Value.ref b):Int×Value)=x at*;generalize hp:below t.place (bK t.mask (tupleKeyHash (intKind prog w) g) k)=p at*;generalize (t.put (bK t.mask (tupleKeyHash (intKind prog w) g) k)).1=m at*;rw[AC C];refine ir (Aw J ?_);simp only[aaU,adb,Bool.true_and];have q:(SetTable.insertAt d p x).size=d.size+1:=SetTable.fT ..;have F:=abB d p x;rw[BD] at F;refine ir (abt n u ?_ (by rw[q];refine abu ?_;show d.size+1<4096;lia))
  have v:=lB n u (SetTable.insertAt d p x) m;have R:=aaK s.heap a (Obj.putSet (SetTable.insertAt d p x) m)
  have G:m.fits (SetTable.insertAt d p x).size=true:=by
   have:=TOk.fits l
   rw[aS,dY] at this;exact this
  by_cases j:m.tooFull=true
  .rw[AC j]
   refine ah λG0 k=>?_;obtain⟨y,f,U,_,pf,X,T2,H,l2,Y,ZL⟩:=zp l j (by rw[q,mk];have:=S.few;lia) (by rw[q];lia)
   refine k ?_;rw[q] at U Y ZL;refine ir ?_;unfold setRelay;refine ir (SL v rfl G ?_);dsimp only;have big:512<=sizeLine:=∅
   rw[tz (),U]
   have Z:(f.filterMap ((SetTable.insertAt d p x)[·]?)).size=d.size+1:=by rw[X,q]
   refine ir (abc (a:=(f.filterMap ((SetTable.insertAt d p x)[·]?),y)) ?_ ?_)
   .show(if ((f.filterMap ((SetTable.insertAt d p x)[·]?)).size !=(SetTable.insertAt d p x).size)=true then _ else pure (f.filterMap ((SetTable.insertAt d p x)[·]?),y))=_
    rw[tz (by rw[X];simp)]
   .dsimp only
    refine abt v rfl ?_ (by rw[Z];refine abu ?_;show d.size+1<4096;lia)
    have rN:=lB v rfl (f.filterMap ((SetTable.insertAt d p x)[·]?)) y;exact mo (L h _ _ _ _ y (R.trans (aaK _ a _)) rN #[S.ex,rfl,T2,by rw[H];exact C,by rw[l2];exact ld,by rw[Z];exact Y] (pf.trans F))
  .rw[tz j]
   refine mo (L h _ _ _ _ m R v #[S.ex,rfl,l,C,ld,?_] F);have I:m.tooFull=false:=by simpa using j
   unfold SetTable.tooFull SetTable.fill at I;rw[l.dum,l.size] at I;simp at I;lia
variable {a b:Addr} {o:Obj} {es:Array (Int×Value)} {ep:Nat} {t:SetTable} {ks:List Int}
open Classical in
noncomputable def oZ(prog:Program)(w:World)(h:Heap)(es:Array (Int×Value))(ks:List Int):Bool:=decide (∃(i:Nat)(c:Addr),es[i]?\(tupleKeyHash (intKind prog w) ks, .ref c)/\IsTupleKey (intKind prog w) h ks c)
def N7(h:∀(i:Nat)(e:Int×Value),es[i]?\e->∀c,e.2= .ref c->¬IsTupleKey (intKind prog w) s.heap ks c):oZ prog w s.heap es ks=false:=by
 classical
 unfold oZ;exact GM λ#[i,c,d,f]=>h i _ d c rfl f
def Ly(h:∃(i:Nat)(c:Addr),es[i]?\(tupleKeyHash (intKind prog w) ks, .ref c)/\IsTupleKey (intKind prog w) s.heap ks c):oZ prog w s.heap es ks=true:=by
 classical
 unfold oZ;exact GT h
def ui(k:A.units+64<cLine)(d:s.heap.get? a\o)(S:fL (cE w) o es ep t)(P:ML prog w s.heap es)(e:IsTupleKey (intKind prog w) s.heap ks b)
  (h:∀f,Q (oZ prog w s.heap es ks) {s with toks:=f}):wpAny (model prog w) A (contains (.ref a) (.ref b)) Q E s:=by
 have c:s.TypeIs (.ref a) "set":=#[o,d,S.ex.1];unfold contains
 try with_reducible refine KM ?_
 refine ir (acY c F.slot_set_contains.lookup ?_);show wpAny _ _ (if (some (Value.builtin "set.__contains__")==some Value.none)=true then _ else _) _ E s;rw[tz (by rw[beq_builtin_none];exact cQ)]
 refine ir (wpAny_callSpecialUnlessNone?_slot (name:=Str.ofString "__contains__") c F.slot_set_contains
  (P3 F.slot_set_contains c entry_set_contains ?_ (F.args_set_contains_2 _ _)))
 unfold Builtin.«frozenset.__contains__» Builtin.Frozenset.oneOther;simp only[abJ,bind_assoc];unfold Builtin.Frozenset.addrOf Builtin.Frozenset.withSetAsKey setContains;refine ir (mo ?_)
 try dsimp only
 refine ir (mo ?_)
 try dsimp only
 refine ir (abo ?_);refine KM ?_;refine ir (wpAny_pyHash_tuple ?_ e ?_)
 .show A.units+1<cLine;lia
 refine ir (Av (s:={s with toks:=s.toks+(ks.length+1)}) ?_ d S P e (λg r i=>?_) λj=>?_)
 .show A.units+1<cLine;lia
 .refine mo ?_
  show wpAny _ _ (ret (Value.bool r.isSome)) _ _ _;rw[i]
  have:=h (s.toks+(ks.length+1))
  rw[Ly g] at this;exact mo #[_,rfl,SC this]
 .refine mo ?_
  have:=h (s.toks+(ks.length+1))
  rw[N7 j] at this;exact mo #[_,rfl,SC this]
end
end PySem
set_option maxHeartbeats 4000000
namespace L2
open PySem PySem.Spec PyProof.Rows
inductive FV where
 |int (i:Int) |bl (b:Bool)
inductive XD where
 |tX (b:Bool) (ps:List (Int×Int)) |tU (ks:List (Int×Int)) (vs:List FV)
inductive D where
 |bo|bl (b:Bool) |int (i:Int) |str (x:Str) |lst (l:List D) |tup (l:List D) |jF (ns:List Int) |rng (lo hi:Int) |obj (a:Addr) |dG (w:List (List Nat)) |set (b:Bool) (l:List Int) |x (k:XD) |err (C:Addr) (ks:List Str) (l:List D)
structure DC where
 K:ac
 C:Addr
def ao(n:Nat):D:= .int n
def av(r:List Nat):D:= .lst (r.map ao)
def aW(w:List (List Nat)):D:= .lst (w.map av)
def vz(a:Array (Int×Value))(b:List Int):Prop:=(∀e∈a.toList,∃k t,e=(hashInt k,Value.int k t))/\b.Nodup/\∃c,IntsAre (a.toList.map (·.2)) c/\c.Perm b
def gB(b:Bool)(a:Addr)(d:List Int)(h:Heap):Prop:=∃o c e t,h.get? a\o/\fL b o c e t/\vz c d
def cO(p:Int×Int):Int:=reduceHash (Builtin.Tuple.tupleHashOf [hashInt p.1,hashInt p.2])
inductive i8 (H:Hp):List (Int×Addr)->List (Int×Int)->Prop
 |nil:i8 H [] []
 |cons {a:Addr} {p:Int×Int} {es:List (Int×Addr)} {ps:List (Int×Int)}:H a\(.tup [.int p.1, .int p.2])->i8 H es ps->i8 H ((cO p,a)::es) (p::ps)
theorem i8.mono{H a:Hp}(s:ba H a):∀{b:List (Int×Addr)}{c:List (Int×Int)},i8 H b c->i8 a b c
 |_,_, .nil=> .nil
 |_,_, .cons h t=> .cons (s _ _ h) (t.mono s)
def fP(b:Bool)(a:Addr)(d:List (Int×Addr))(h:Heap):Prop:=∃o c f t,h.get? a\o/\fL b o c f t/\c.toList.Perm (d.map λe=>(e.1,Value.ref e.2))
def QE:FV->Value->Prop
 | .int i,v=>∃t,v= .int i t
 | .bl b,v=>v= .bool b
inductive KU:List DictEntry->List (Int×Addr)->List FV->Prop
 |nil:KU [] [] []
 |cons {e:DictEntry} {l:List DictEntry} {h:Int} {a:Addr} {v:FV} {es:List (Int×Addr)} {vs:List FV}:e.hash=h->e.key= .ref a->QE v e.val->KU l es vs->KU (e::l) ((h,a)::es) (v::vs)
def iE(a:Addr)(c:List (Int×Addr))(d:List FV)(h:Heap):Prop:=(a==sysModules)=false/\∃o b e,h.get? a\o/\o.ExactDict/\o.data= .dict b e/\KU b.toList c d
def K1(H:Hp)(a:Addr)(d:Heap->Prop):XD->Prop
 | .tX b e=>e.Nodup/\∃c,d=fP b a c/\i8 H c e
 | .tU ks f=>ks.Nodup/\∃c,d=iE a c f/\i8 H c ks
theorem K1.mono{H c:Hp}(s:ba H c){d:Heap->Prop}:∀{k:XD},K1 H a d k->K1 c a d k
 | .tX _ _,#[n,b,e,p]=>#[n,b,e,p.mono s]
 | .tU _ _,#[n,b,e,p]=>#[n,b,e,p.mono s]
def Hq(H:Hp)(d:Option Addr)(a:List Str)(b:List V):Prop:=(d=none/\a= []/\b= [])\/∃c,d\c/\H c\(zY c (a.zip b))/\a.length=b.length
def Hq.mono{H d:Hp}(s:ba H d)(h:Hq H e f g):Hq d e f g:=h.imp id λ#[i,a,b,c]=>#[i,a,s _ _ b,c]
mutual
inductive Dv (Z:DC) (H:Hp):V->D->Prop
 |bo:Dv Z H .bo .bo
 |bl (b:Bool):Dv Z H (.bl b) (.bl b)
 |int (i:Int):Dv Z H (.int i) (.int i)
 |str (x:Str) (h:PyData.strOk x=true):Dv Z H (.str x) (.str x)
 |lst {a:Addr} {xs:List V} {ds:List D}:H a\(.lst xs)->DvAll Z H xs ds->Dv Z H (.ref a) (.lst ds)
 |tup {a:Addr} {xs:List V} {ds:List D}:H a\(.tup xs)->DvAll Z H xs ds->Dv Z H (.ref a) (.tup ds)
 |obj (a:Addr):Dv Z H (.ref a) (.obj a)
 |rng {a:Addr} {lo hi:Int}:H a\(.rng lo hi)->Dv Z H (.ref a) (.rng lo hi)
 |jF {a:Addr} {ns:List Int}:cK Z.K H a (ns.map V.int)->ns.length<=63->Dv Z H (.ref a) (.jF ns)
 |dG {p dx R:Addr} {w:List (List Nat)}:H p\(.ins Z.C dx [("rows", .ref R)])->Dv Z H (.ref R) (aW w)->Wb.Good w->1<=w.length->w.length<=14->Dv Z H (.ref p) (.dG w)
 |set {a:Addr} {b:Bool} {ns:List Int}:H a\(.ext (gB b a ns))->Dv Z H (.ref a) (.set b ns)
 |x {a:Addr} {φ:Heap->Prop} {k:XD}:H a\(.ext φ)->K1 H a φ k->Dv Z H (.ref a) (.x k)
 |err {a C:Addr} {od:Option Addr} {ks:List Str} {xs:List V} {ds:List D}:H a\(mQ C a od)->Hq H od ks xs->DvAll Z H xs ds->Dv Z H (.ref a) (.err C ks ds)
inductive DvAll (Z:DC) (H:Hp):List V->List D->Prop
 |nil:DvAll Z H [] []
 |cons {v:V} {vs:List V} {d:D} {ds:List D}:Dv Z H v d->DvAll Z H vs ds->DvAll Z H (v::vs) (d::ds)
end
def cK.mono{K:ac}{H b:Hp}(s:ba H b)(h:cK K H a c):cK K b a c:=by
 rcases h with (h| ⟨o,h⟩) |h
 .exact .inl (.inl (s _ _ h))
 .exact .inl (.inr #[o,s _ _ h])
 .exact .inr h
section
variable {Z:DC} {H H' G G':Hp}
def Dv.ofInt{v:V}{i:Int}(h:Dv Z H v (.int i)):v= .int i:=by cases h;rfl
def Dv.Gj(h:Dv Z H v (.bl b)):v= .bl b:=by cases h;rfl
def Dv.jK(h:Dv Z H v (.lst b)):∃a c,v= .ref a/\H a\(.lst c)/\DvAll Z H c b:=by cases h with|lst h e=>exact#[_,_,rfl,h,e]
def Dv.pE{v:V}{ds:List D}(h:Dv Z H v (.tup ds)):∃a xs,v= .ref a/\H a\(.tup xs)/\DvAll Z H xs ds:=by cases h with|tup h e=>exact#[_,_,rfl,h,e]
def Dv.O1{v:V}{ns:List Int}(h:Dv Z H v (.jF ns)):∃a,v= .ref a/\cK Z.K H a (ns.map V.int)/\ns.length<=63:=by cases h with|jF h z=>exact#[_,rfl,h,z]
def DvAll.O0(h:DvAll Z H a []):a= []:=by cases h;rfl
def DvAll.DB(h:DvAll Z H c (d::e)):∃v f,c=v::f/\Dv Z H v d/\DvAll Z H f e:=by cases h with|cons a b=>exact#[_,_,rfl,a,b]
def DvAll.ofOne(h:DvAll Z H c [d]):∃v,c= [v]/\Dv Z H v d:=by
 obtain⟨v,e,rfl,a,b⟩:=h.DB;rw[b.O0];exact#[v,rfl,a]
def DvAll.Ja(h:DvAll Z H f [d,e]):∃v u,f= [v,u]/\Dv Z H v d/\Dv Z H u e:=by
 obtain⟨v,g,rfl,a,b⟩:=h.DB;obtain⟨u,rfl,c⟩:=b.ofOne;exact#[v,u,rfl,a,c]
theorem Dv.mono(s:ba H H'){v:V}{d:D}(h:Dv Z H v d):Dv Z H' v d:=
 Dv.rec (motive_1:=λv d _=>Dv Z H' v d) (motive_2:=λc e _=>DvAll Z H' c e) .bo .bl .int .str (λh _ a=> .lst (s _ _ h) a) (λh _ a=> .tup (s _ _ h) a) .obj (λh=> .rng (s _ _ h)) (λh z=> .jF (h.mono s) z) (λh _ g a b r=> .dG (s _ _ h) r g a b) (λh=> .set (s _ _ h)) (λh k=> .x (s _ _ h) (k.mono s)) (λh k _ a=> .err (s _ _ h) (k.mono s) a) .nil (λ_ _ a b=> .cons a b) h
def DvAll.ind{p:List V->List D->Prop}(n:p [] [])(c:∀{v:V}{e:List V}{d:D}{f:List D},Dv Z H v d->DvAll Z H e f->p e f->p (v::e) (d::f)){f:List D}(h:DvAll Z H e f):p e f:=
 DvAll.rec (motive_1:=λ_ _ _=>True) (motive_2:=λe f _=>p e f) trivial (λ_=>trivial) (λ_=>trivial) (λ_ _=>trivial) (λ_ _ _=>trivial) (λ_ _ _=>trivial) (λ_=>trivial) (λ_=>trivial) (λ_ _=>trivial) (λ_ _ _ _ _ _=>trivial) (λ_=>trivial) (λ_ _=>trivial) (λ_ _ _ _=>trivial) n (λa b _ q=>c a b q) h
theorem DvAll.mono(s:ba H H'){d:List D}(h:DvAll Z H c d):DvAll Z H' c d:=h.ind .nil λa _ b=> .cons (a.mono s) b
theorem DvAll.length(h:DvAll Z H a b):a.length=b.length:=h.ind (p:=λa b=>a.length=b.length) rfl λ_ _ e=>KF (·+1) e
def DvAll.get{b:List V}{i:Nat}{d:D}(h:DvAll Z H b c)(e:c[i]?\d):∃v,b[i]?\v/\Dv Z H v d:=by
 revert i
 refine h.ind (p:=λb c=>∀{i:Nat},c[i]?\d->∃v,b[i]?\v/\Dv Z H v d) (λe=>by cases e) λa _ f i e=>?_
 cases i with
 |zero=>cases e;exact#[_,rfl,a]
 |succ i=>exact f e
def DvAll.Kb{b:List V}{c:List D}{i:Nat}{v:V}(h:DvAll Z H b c)(e:b[i]?\v):∃d,c[i]?\d/\Dv Z H v d:=by
 revert i
 refine h.ind (p:=λb c=>∀{i:Nat},b[i]?\v->∃d,c[i]?\d/\Dv Z H v d) (λe=>by cases e) λa _ f i e=>?_
 cases i with
 |zero=>cases e;exact#[_,rfl,a]
 |succ i=>exact f e
def DvAll.append(h:DvAll Z H c d)(k:DvAll Z H e f):DvAll Z H (c++e) (d++f):=h.ind (p:=λc d=>DvAll Z H (c++e) (d++f)) k λa _ b=> .cons a b
theorem DvAll.take:∀{b:List V}{c:List D}(n:Nat),DvAll Z H b c->DvAll Z H (b.take n) (c.take n)
 |_,_,0,_=>DvAll.nil
 |_,_,n+1, .nil=>DvAll.nil
 |_,_,n+1, .cons a as=>DvAll.cons a (as.take n)
theorem DvAll.drop:∀{b:List V}{c:List D}(n:Nat),DvAll Z H b c->DvAll Z H (b.drop n) (c.drop n)
 |_,_,0,h=>h
 |_,_,n+1, .nil=>by simpa using DvAll.nil
 |_,_,n+1, .cons a as=>by simpa using as.drop n
theorem DvAll.set{v:V}{d:D}(h:Dv Z H v d):∀{b:List V}{c:List D}(n:Nat),DvAll Z H b c->DvAll Z H (b.set n v) (c.set n d)
 |_,_,_, .nil=> .nil
 |_,_,0, .cons a as=> .cons h as
 |_,_,n+1, .cons a as=> .cons a (DvAll.set h n as)
theorem DvAll.ints:∀(a:List Int),DvAll Z H (a.map V.int) (a.map D.int)
 | []=> .nil
 |n::a=> .cons (.int n) (DvAll.ints a)
def DvAll.snoc{e:List D}(a:DvAll Z H c e)(b:Dv Z H v d):DvAll Z H (c++ [v]) (e++ [d]):=a.append (.cons b .nil)
structure Ext (G H G' H':Hp):Prop where
 gg:ba G G'
 sub:ba G' H'
 hh:ba H H'
 off:∀b,H b≠none->G b=none->G' b=none
theorem Ext.refl(s:ba G H):Ext G H G H:=#[.refl _,s, .refl _,λ_ _ h=>h]
theorem Ext.trans{c d f i:Hp}(a:Ext G H c d)(b:Ext c d f i):Ext G H f i:=
 #[a.gg.trans b.gg,b.sub,a.hh.trans b.hh,λx h g=>b.off x (λz=>by
  cases e:H x with
  |none=>exact h e
  |some o=>rw[a.hh x o e] at z;cases z) (a.off x h g)]
def Ext.new{o:HO}(s:ba G H)(h:H p=none):Ext G H (upd G p o) (upd H p o):=by
 have a:G p=none:=s.free h;refine#[aX a o,λb u e=>?_,aX h o,λb c a=>?_]
 .by_cases z:b=p
  .subst z;rw[aw] at e ⊢;exact e
  .rw[aB z] at e ⊢;exact s b u e
 .have:b≠p:=λz=>c (by rw[z];exact h)
  rw[aB this];exact a
end
abbrev DN:=List (Option D)
structure dJ (Z:DC) (G:Hp) (σ:St) (ρ:DN):Prop where
 len:ρ.length=σ.length
 at_:∀(i:Nat)(d:D),ρ[i]?\(some d)->∃v,σ[i]?\(some v)/\Dv Z G v d
section
variable {Z:DC} {G G' H H':Hp} {σ:St} {ρ:DN}
theorem dJ.mono(e:dJ Z G σ ρ)(s:ba G G'):dJ Z G' σ ρ:=#[e.len,λi d h=>let #[v,a,b]:=e.at_ i d h;#[v,a,b.mono s]]
theorem dJ.set{i:Nat}{v:V}{d:D}(e:dJ Z G σ ρ)(h:Dv Z G v d):dJ Z G (σ.set i (some v)) (ρ.set i (some d)):=by
 refine#[by rw[gb,gb];exact e.len,λj c a=>?_]
 by_cases z:i=j
 .subst z
  by_cases b:i<ρ.length
  .rw[iS b] at a
   cases FM a;exact#[v,by rw[iS (e.len▸b)],h]
  .rw[Bx (iU b)] at a
   rw[gQ (iU b)] at a;cases a
 .rw[f7 z] at a ⊢
  exact e.at_ j c a
end
abbrev bh:=DN->(D->Prop)->Prop
abbrev dE:=DN->(Bool->Prop)->Prop
abbrev gJ:=DN->(List D->Prop)->Prop
abbrev gY:=D->D->(D->Prop)->Prop
abbrev eN:=D->DN->(DN->Prop)->Prop
abbrev i6:=DN->(List D->Prop)->Prop
def e8(Z:DC)(t:bh):TE:=λe H Q=>∃(G:Hp)(a:DN)(P:D->Prop),ba G H/\dJ Z G e a/\t a P/\∀d,P d->∀v b c,Ext G H b c->Dv Z b v d->Q v c
def liftT(Z:DC)(t:dE):TT:=λd H Q=>∃(G:Hp)(a:DN)(P:Bool->Prop),ba G H/\dJ Z G d a/\t a P/\∀b,P b->∀e c,Ext G H e c->Q b c
def yQ(Z:DC)(t:gJ):TA:=λf H Q=>∃(G:Hp)(a:DN)(P:List D->Prop),ba G H/\dJ Z G f a/\t a P/\∀b,P b->∀c d e,Ext G H d e->DvAll Z d c b->Q c e
def b9(Z:DC)(r:gY):R2:=λx y H Q=>∃(G:Hp)(a b:D)(P:D->Prop),ba G H/\Dv Z G x a/\Dv Z G y b/\r a b P/\∀d,P d->∀v c e,Ext G H c e->Dv Z c v d->Q v e
def iK(Z:DC)(r:List D->(D->Prop)->Prop):List V->Hp->VK->Prop:=λe H Q=>∃(G:Hp)(a:List D)(P:D->Prop),ba G H/\DvAll Z G e a/\r a P/\∀d,P d->∀v b c,Ext G H b c->Dv Z b v d->Q v c
abbrev cc:=List D->(D->Prop)->Prop
def aV(Z:DC)(a:cc):Sp:=λb H Q _=>iK Z a b H Q
def DE(Z:DC)(X:Cx)(e:Expr)(t:bh):Prop:=PE X e (e8 Z t)
def DT(Z:DC)(X:Cx)(e:Expr)(t:dE):Prop:=PT X e (liftT Z t)
def DA(Z:DC)(X:Cx)(a:List Expr)(t:gJ):Prop:=PA X a (yQ Z t)
def PE.imp{X:Cx}{t t':TE}(h:PE X e t)(f:∀b H Q,t' b H Q->t b H Q):PE X e t':=λa s b H Q I q=>h a s b H Q I (f _ _ _ q)
def PT.imp{X:Cx}{t c:TT}(h:PT X e t)(f:∀b H Q,c b H Q->t b H Q):PT X e c:=λa s b H Q I q=>h a s b H Q I (f _ _ _ q)
def PW.imp{X:Cx}{t c:TT}(h:PW X e t)(f:∀b H Q,c b H Q->t b H Q):PW X e c:=λd a s b H Q I q=>h d a s b H Q I (f _ _ _ q)
def PA.imp{X:Cx}{d:List Expr}{t t':TA}(h:PA X d t)(f:∀b H Q,t' b H Q->t b H Q):PA X d t':=λc a s b H Q I q=>h c a s b H Q I (f _ _ _ q)
def OpR.imp{X:Cx}{f:Value->Value->Sem Value}{r d:R2}(h:OpR X f r)(g:∀x y H Q,d x y H Q->r x y H Q):OpR X f d:=λc s e H x y v u Q I a b q=>h c s e H x y v u Q I a b (g _ _ _ _ q)
def CallR.imp{X:Cx}{f:Value}{r d:List V->Hp->VK->Prop}(h:CallR X f r)(g:∀c H Q,d c H Q->r c H Q):CallR X f d:=λb s e H c i Q I a q=>h b s e H c i Q I a (g _ _ _ q)
def vN(i:Nat):bh:=λa P=>∃d,a[i]?\(some d)/\P d
def dC(d:D):bh:=λ_ P=>P d
section
variable {Z:DC} {X:Cx}
def aa(i:Nat)(f:X.N[i]?\x:=by rfl)(b:l5 X.env.scope x:=by subst_eqs)(c:(x==("__debug__":Str))=false:=by decide)
  (g:(x==("__classdict__":Str))=false:=by decide):DE Z X (.Name x a) (vN i):=by
 refine(DS f b c g).imp λk H Q h=>?_;rfl';obtain⟨G,m,P,s,e,⟨d,c,p⟩,q⟩:=h;ac_rfl;exact let #[v,b,dv]:=e.at_ i d c;#[v,b,q d p v G H (.refl s) dv]
def az{i j pos}:DE Z X (.Constant (.int i) j pos) (dC (.int i)):=by
 refine Sg.imp λc H Q a=>?_;rfl';obtain⟨G,f,P,s,e,p,q⟩:=a;ac_rfl;exact q _ p _ G H (.refl s) (.int i)
def eX{b j pos}:DE Z X (.Constant (.bool b) j pos) (dC (.bl b)):=by
 refine Wk.imp λd H Q a=>?_;rfl';obtain⟨G,g,P,s,e,p,q⟩:=a;ac_rfl;exact q _ p _ G H (.refl s) (.bl b)
def bR{j pos}:DE Z X (.Constant .none j pos) (dC .bo):=by
 refine Si.imp λc H Q a=>?_;rfl';obtain⟨G,f,P,s,e,p,q⟩:=a;ac_rfl;exact q _ p _ G H (.refl s) .bo
def gr{x j pos}(h:PyData.strOk x=true:=by decide+kernel):DE Z X (.Constant (.str x) j pos) (dC (.str x)):=by
 refine DR.imp λc H Q a=>?_;rfl';obtain⟨G,f,P,s,e,p,q⟩:=a;ac_rfl;exact q _ p _ G H (.refl s) (.str x h)
def Lf(d:Gl X x)(b:∃c,X.mg x\(.int i c))(f:(x==("__debug__":Str))=false:=by decide):DE Z X (.Name x a) (dC (.int i)):=by
 obtain⟨c,b⟩:=b;exact(Gu d b (v:= .int i) #[c,rfl] f).imp λg H Q #[G,h,P,s,e,p,q]=>q _ p _ G H (.refl s) (.int i)
def Nc(r:gY)(d e:bh):bh:=λc P=>d c λa=>e c λb=>r a b P
variable {a b c:Expr} {ta tb tc:bh} {pos:Pos}
def Dh:∀f H Q,e8 Z (Nc r ta tb) f H Q->Qp (b9 Z r) (e8 Z ta) (e8 Z tb) f H Q:=by
 intro f H Q k;rfl';obtain⟨G,j,P,s,e,h,q⟩:=k;ac_rfl;refine#[G,j,_,s,e,h,λa m v n E g dv=>?_];refine#[n,j,_,g.sub,e.mono g.gg,m,λb o u p F i t=>?_];exact#[p,a,b,P,i.sub,dv.mono i.gg,t,o,λd w x y z A B=>q d w x y z ((g.trans i).trans A) B]
def aK(e:OpR X (binaryOp d) (b9 Z r))(f:DE Z X a ta)(g:DE Z X b tb):DE Z X (.BinOp a d b pos) (Nc r ta tb):=(DQ e f g).imp Dh
def xk(e:OpR X (compareOp d) (b9 Z r))(f:DE Z X a ta)(g:DE Z X b tb)(h:behindInMarks d b=false):DE Z X (.Compare a [d] [b] pos) (Nc r ta tb):=(Pe e f g h).imp Dh
def HH(t:bh):dE:=λe P=>t e λd=>∃k,d= .bl k/\P k
def Bc:∀d H Q,liftT Z (HH t) d H Q->JD (e8 Z t) d H Q:=by
 intro d H Q f;rfl';obtain⟨G,i,P,s,e,h,q⟩:=f;ac_rfl;exists G,i,_,s,e,h;rintro _ ⟨k,rfl,p⟩ v j l m dv;cases dv.Gj;exact#[k,rfl,q k p j l m]
def aQ(f:OpR X (compareOp d) (b9 Z r))(g:DE Z X a ta)(i:DE Z X b tb)(j:behindInMarks d b=false):DT Z X (.Compare a [d] [b] pos) (HH (Nc r ta tb)):=
 (Pw f g i j).imp λe H Q h=>by
  obtain h:=Bc e H Q h;exact Dh e H _ h
def B5(r e:gY)(f g tc:bh):bh:=λd P=>f d λx=>g d λy=>r x y λz=>∃k,z= .bl k/\(if k=true then tc d λh=>e y h P else P (.bl false))
def yR:∀f H Q,e8 Z (B5 r o ta tb tc) f H Q->Eh (b9 Z r) (b9 Z o) (e8 Z ta) (e8 Z tb) (e8 Z tc) f H Q:=by
 intro f H Q y;rfl';obtain⟨G,g,P,s,e,h,q⟩:=y;ac_rfl;refine#[G,g,_,s,e,h,λa A v B Y i dv=>?_];refine#[B,g,_,i.sub,e.mono i.gg,A,λb C u E X j p=>?_];exists E,a,b,_,j.sub,dv.mono j.gg,p,C;rintro _ ⟨k,rfl,t⟩ v' w F l I;cases I.Gj;exists k,rfl;have x:=(i.trans j).trans l;cases k with
 |false=>exact bX (q _ t _ w F x (.bl false))
 |true=>
  refine b8 #[w,g,_,l.sub,e.mono x.gg,t,λc J w' L H4 m M=>?_];exact#[L,b,c,P,m.sub,(p.mono l.gg).mono m.gg,M,J,λd N n O R S T=>q d N n O R ((x.trans m).trans S) T]
def Le(g:OpR X (compareOp d) (b9 Z r))(h:OpR X (compareOp e) (b9 Z f))(i:DE Z X a ta)(j:DE Z X b tb)(k:DE Z X c tc)
  (l:lastMarks [d,e] [b,c]=false:=by with_unfolding_all rfl):DE Z X (.Compare a [d,e] [b,c] pos) (B5 r f ta tb tc):=(L7 g h i j k l).imp yR
def Lk(i:OpR X (compareOp d) (b9 Z r))(j:OpR X (compareOp e) (b9 Z f))(k:DE Z X a ta)(l:DE Z X b tb)(m:DE Z X c tc)
  (n:lastMarks [d,e] [b,c]=false:=by with_unfolding_all rfl):DT Z X (.Compare a [d,e] [b,c] pos) (HH (B5 r f ta tb tc)):=
 (Mi i j k l m n).imp λg H Q h=>by
  obtain h:=Bc g H Q h;exact yR g H _ h
def uf:D->Bool
 | .bo=>false
 | .bl b=>b
 | .int i=>i !=0
 | .str x=>x.length !=0
 | .lst l=>!l.isEmpty
 | .tup l=>!l.isEmpty
 | .jF l=>!l.isEmpty
 | .rng lo d=>decide (lo<d)
 | .obj _=>true
 | .dG _=>true
 | .set _ l=>!l.isEmpty
 | .x _=>true
 | .err _ _ _=>true
def Y5:D->Bool
 | .bl _=>true
 | .int _=>true
 | .lst _=>true
 | .tup _=>true
 | .bo=>true
 |_=>false
def XB(t:bh):dE:=λe P=>t e λd=>Y5 d=true/\P (uf d)
def vX(h:DvAll Z G d e):d.isEmpty=e.isEmpty:=by cases h<;>rfl
def fM(ha:DE Z X a ta)(he:∀whole,isTrue a X.env whole=(do let v <-whole;standAt a.pos;holding [v] (truthy v)):=by intro _;rfl):DT Z X a (XB ta):=by
 refine(Mj ha he).imp ?_;intro σ H Q aO;rfl';obtain⟨G,ρ,P,s,e,h,q⟩:=aO;ac_rfl;exists G,ρ,_,s,e,h;rintro d ⟨hd,p⟩ v G1 H1 x1 dv;refine#[uf d,?_,q _ p G1 H1 x1];cases dv with
 |bo=>rfl
 |bl b=>rfl
 |int i=>rfl
 |lst h a=>exact .inl #[_,cK.of (x1.sub _ _ h),by rw[vX a];rfl]
 |tup h a=>exact .inr (.inl #[_,gj.of (x1.sub _ _ h),by rw[vX a];rfl])
 |_=>cases hd
def Xk(t u:dE):dE:=λd P=>t d λc=>if c=true then u d P else P false
def dOr(t u:dE):dE:=λd P=>t d λc=>if c=true then P true else u d P
def Xv(t:dE):dE:=λd P=>t d λc=>P (!c)
variable {tA Eg:dE} {rest:List Expr}
def DW(Z:DC)(X:Cx)(e:Expr)(t:dE):Prop:=PW X e (liftT Z t)
def DW.dt(h:DW Z X e t):DT Z X e t:=PW.pt h
def yk(d:DT Z X a tA):DW Z X (.BoolOp .And [a] pos) tA:=PB d
def qw(d:DT Z X a tA):DW Z X (.BoolOp .Or [a] pos) tA:=Sw d
def Ce(k:DT Z X a tA)(f:DW Z X (.BoolOp .And (b::rest) pos) Eg):DW Z X (.BoolOp .And (a::b::rest) pos) (Xk tA Eg):=by
 refine(Su k f).imp ?_;intro t H Q l;rfl';obtain⟨G,g,P,s,e,h,q⟩:=l;ac_rfl;refine#[G,g,_,s,e,h,λc i j n d=>?_];cases c with
 |true=>exact b8 #[j,g,P,d.sub,e.mono d.gg,i,λb f o p r=>q b f o p (d.trans r)]
 |false=>exact bX (q _ i j n d)
def uJ(k:DT Z X a tA)(f:DW Z X (.BoolOp .Or (b::rest) pos) Eg):DW Z X (.BoolOp .Or (a::b::rest) pos) (dOr tA Eg):=by
 refine(Wm k f).imp ?_;intro t H Q l;rfl';obtain⟨G,g,P,s,e,h,q⟩:=l;ac_rfl;refine#[G,g,_,s,e,h,λc i j n d=>?_];cases c with
 |false=>exact bX #[j,g,P,d.sub,e.mono d.gg,i,λb f o p r=>q b f o p (d.trans r)]
 |true=>exact b8 (q _ i j n d)
def qv(d:DT Z X a tA):DT Z X (.UnaryOp .Not a pos) (Xv tA):=by
 refine(Ss d).imp ?_;rintro l H Q ⟨G,f,P,s,e,h,q⟩;exact#[G,f,_,s,e,h,λc g i j k=>q _ g i j k]
def UQ(e f:bh):bh:=λd P=>e d λx=>∃c,x= .bl c/\if c=true then f d P else P (.bl false)
def U4(d:bh):bh:=λe P=>d e λx=>∃c,x= .bl c/\P (.bl (!c))
def JZ{op}(h:DE Z X a ta):DE Z X (.BoolOp op [a] pos) ta:=Sk h
def B8(k:DE Z X a ta)(f:DE Z X (.BoolOp .And (b::rest) pos) tb):DE Z X (.BoolOp .And (a::b::rest) pos) (UQ ta tb):=by
 refine(Sa k f).imp ?_;intro u H Q l;rfl';obtain⟨G,g,P,s,e,h,q⟩:=l;ac_rfl;exists G,g,_,s,e,h;rintro _ ⟨c,rfl,i⟩ v j n d dv;cases dv.Gj;exists c,rfl;cases c with
 |true=>exact b8 #[j,g,P,d.sub,e.mono d.gg,i,λb f v o p r t=>q b f v o p (d.trans r) t]
 |false=>exact bX (q _ i _ j n d (.bl false))
def QZ(d:DE Z X a ta):DE Z X (.UnaryOp .Not a pos) (U4 ta):=by
 refine(Sj d).imp ?_;intro n H Q f;rfl';obtain⟨G,i,P,s,e,h,q⟩:=f;ac_rfl;exists G,i,_,s,e,h;rintro _ ⟨c,rfl,j⟩ v k l m dv;cases dv.Gj;exact#[c,rfl,q _ j _ k l m (.bl _)]
def vM:gJ:=λ_ P=>P []
def uE(e:bh)(t:gJ):gJ:=λd P=>e d λx=>t d λf=>P (x::f)
variable {es:List Expr} {t:gJ} {e:Expr}
def ag:DA Z X [] vM:=by
 refine eH.imp λg H Q d=>?_;rfl';obtain⟨G,i,P,s,e,p,q⟩:=d;ac_rfl;exact q _ p _ G H (.refl s) .nil
def ae(d:DE Z X e ta)(j:DA Z X es t)(k:starEach (e::es) X.env=(false,eval e X.env)::starEach es X.env:=by rfl):DA Z X (e::es) (uE ta t):=by
 refine(bU d j k).imp ?_;intro w H Q l;rfl';obtain⟨G,g,P,s,e,h,q⟩:=l;ac_rfl;refine#[G,g,_,s,e,h,λa d v n y f dv=>?_];exact#[n,g,_,f.sub,e.mono f.gg,d,λz o A p r i u=>q _ o _ p r (f.trans i) (.cons (dv.mono i.gg) u)]
def Ng(t:gJ):bh:=λf P=>t f λd=>d.length<=sizeLine/\P (.tup d)
def Xt(t:gJ):bh:=λf P=>t f λd=>d.length<=sizeLine/\P (.lst d)
def bS{d}(h:DA Z X es t):DE Z X (.Tuple es d pos) (Ng t):=by
 refine(Kv h).imp ?_;intro n H Q i;rfl';obtain⟨G,k,P,s,e,h,q⟩:=i;ac_rfl;exists G,k,_,s,e,h;rintro r ⟨l,m⟩ u v w d f;exact#[by rw[f.length];exact l,λp g=>q _ m _ _ _ (d.trans (.new d.sub g)) (.tup aw (f.mono (aX (d.sub.free g) _)))]
def cz(h:DA Z X es t):DE Z X (.List es pos) (Xt t):=by
 refine(DP h).imp ?_;intro n H Q i;rfl';obtain⟨G,k,P,s,e,h,q⟩:=i;ac_rfl;exists G,k,_,s,e,h;rintro r ⟨l,m⟩ u v w d f;exact#[by rw[f.length];exact l,λp g=>q _ m _ _ _ (d.trans (.new d.sub g)) (.lst aw (f.mono (aX (d.sub.free g) _)))]
def uD(r:List D->(D->Prop)->Prop)(t:gJ):bh:=λd P=>t d λf=>r f P
def qA:∀f H Q,e8 Z (uD r t) f H Q->yQ Z t f H λg i=>iK Z r g i Q:=by
 intro f H Q k;rfl';obtain⟨G,m,P,s,e,h,q⟩:=k;ac_rfl;exact#[G,m,_,s,e,h,λn o g p i j u=>#[p,n,P,j.sub,u,o,λd w v x y z dv=>q d w v x y (j.trans z) dv]]
def Ni(F:FnOk X.prog X.w X.K X.mg X.base bZ k f g i (aV Z d))(m:b7 k X.A)(n:Gl X x)(o:X.mg x\(.ref f))(r:aA X.K (.ref f)=true)(u:Binds X.K g i [])
  (v:DA Z X (e::es) t) (y:(x==("__debug__":Str))=false:=by decide) (z:starEach (e::es) X.env=(false,eval e X.env)::starEach es X.env:=by rfl) (B:(backTo pos (starEach es X.env)).any (·.1)=false:=by rfl):
  DE Z X (.Call (.Name x p) (e::es) [] pos) (uD d t):=
 (Gs F m n o r u .nil vd v y z B).imp λC H Q h=>by
  rfl';have h:=qA C H Q h;obtain⟨G,I,P,s,e,h,q⟩:=h;ac_rfl;exact#[G,I,P,s,e,h,λJ L j M l N O=>by show aV Z d (j++ []) l Q E0;rw[gR];exact q J L j M l N O]
def aH{id:String}{x:Str}{p:Pos}{r:List D->(D->Prop)->Prop}(d:CallR X (.builtin id) (iK Z r))(f:Gl X x)(g:X.mg x=none)(h:bootBuiltins x\(.builtin id))(i:DA Z X (e::es) t)(j:x≠"__name__":=by decide)(k:(x==("__debug__":Str))=false:=by decide)
  (l:starEach (e::es) X.env=(false,eval e X.env)::starEach es X.env:=by rfl) (m:(backTo pos (starEach es X.env)).any (·.1)=false:=by rfl):
  DE Z X (.Call (.Name x p) (e::es) [] pos) (uD r t):=(mD d f g h i j k l m).imp qA
def hV(d:CallR X (.type T) (iK Z r))(f:Gl X x)(g:X.mg x=none)(h:bootBuiltins x\(.type T))(i:DA Z X (e::es) t)(j:x≠"__name__":=by decide)(k:(x==("__debug__":Str))=false:=by decide)
  (l:starEach (e::es) X.env=(false,eval e X.env)::starEach es X.env:=by rfl) (m:(backTo pos (starEach es X.env)).any (·.1)=false:=by rfl):
  DE Z X (.Call (.Name x p) (e::es) [] pos) (uD r t):=(rY d f g h i j k l m).imp qA
end
end L2
namespace L2
open PySem PySem.Spec PyProof.Rows
section
variable {Z:DC} {X:Cx}
def M1:gY:=λx y P=>match x,y with
 | .int i, .int j=>P (.int (i+j))
 | .lst a, .lst b=>a.length+b.length<=sizeLine/\P (.lst (a++b))
 | .tup a, .tup b=>a≠ []/\a.length+b.length<=sizeLine/\b≠ []/\P (.tup (a++b))
 |_,_=>False
def dI(c:Int->Int->Prop)(g:Int->Int->Int):gY:=λx y P=>match x,y with
 | .int i, .int j=>c i j/\P (.int (g i j))
 |_,_=>False
def UZ(g:Int->Int->Int):gY:=λx y P=>match x,y with
 | .int i, .int j=>P (.int (g i j))
 |_,_=>False
def XA:gY:=UZ λi j=>i-j
def TF:gY:=λx y P=>match x,y with
 | .int i, .int j=>JP i j/\P (.int (i*j))
 | .lst a, .int k=> -(2^63)<=k/\k<2^63/\a.length*k.toNat<=sizeLine/\P (.lst (ar k.toNat a).flatten)
 |_,_=>False
def Xm:gY:=dI Ti λi j=>i / j
def Xu:gY:=dI (λ_ j=>0<j) λi j=>i%j
def Xy:gY:=dI Tj λi j=>i^j.toNat
def Di(h:OpR X f (rI c λi j=> .int (g i j))):OpR X f (b9 Z (dI c g)):=by
 refine h.imp ?_;intro x y H Q e;rfl';obtain⟨G,a,b,P,s,l,m,d,q⟩:=e;ac_rfl;unfold dI at d
 split at d
 .exact#[_,_,l.ofInt,m.ofInt,d.1,q _ d.2 _ G H (.refl s) (.int _)]
 .exact d.elim
def RM(h:OpR X f (DZ λi j=> .int (g i j))):OpR X f (b9 Z (UZ g)):=by
 refine h.imp ?_;intro x y H Q d;rfl';obtain⟨G,a,b,P,s,k,l,c,q⟩:=d;ac_rfl;unfold UZ at c
 split at c
 .exact#[_,_,k.ofInt,l.ofInt,q _ c _ G H (.refl s) (.int _)]
 .exact c.elim
def Kr:OpR X (binaryOp .Sub) (b9 Z XA):=RM R8
def j3:OpR X (binaryOp .FloorDiv) (b9 Z Xm):=Di O8
def cJ:OpR X (binaryOp .Mod) (b9 Z Xu):=Di R4
def Kq:OpR X (binaryOp .Pow) (b9 Z Xy):=Di R7
def bL(e:X.K=Z.K:=by rfl):OpR X (binaryOp .Add) (b9 Z M1):=by
 refine(R0.or (DL.or (O7))).imp ?_;rintro x y H Q ⟨G,a,b,P,s,h,i,c,q⟩;unfold M1 at c
 split at c
 .exact .inl #[_,_,h.ofInt,i.ofInt,q _ c _ G H (.refl s) (.int _)]
 .obtain⟨r,t,rfl,j,d⟩:=h.jK
  obtain⟨u,k,rfl,l,f⟩:=i.jK;obtain⟨m,n⟩:=c;refine .inr (.inl #[_,_,_,_,rfl,rfl,s _ _ j,s _ _ l,by rw[d.length,f.length];exact m,λp g=>?_])
  exact q _ n _ _ _ (.new s g) (.lst aw ((d.append f).mono (aX (s.free g) _)))
 .obtain⟨r,t,rfl,j,d⟩:=h.pE
  obtain⟨u,k,rfl,l,f⟩:=i.pE;obtain⟨v,m,o,n⟩:=c;refine .inr (.inr #[_,_,_,_,rfl,rfl,gj.of (s _ _ j),gj.of (s _ _ l),?_,by rw[d.length,f.length];exact m,?_])
  .rintro rfl;cases d;exact v rfl
  .refine#[?_,λ_ p g=>q _ n _ _ _ (.new s g) (.tup aw ((d.append f).mono (aX (s.free g) _)))]
   rintro rfl;cases f;exact(o rfl).elim
 .exact c.elim
theorem DvAll.rep(h:DvAll Z G a b):∀k:Nat,DvAll Z G (ar k a).flatten (ar k b).flatten
 |0=> .nil
 |k+1=>by rw[wG,wG,n9,n9];exact h.append (DvAll.rep h k)
def k8:OpR X (binaryOp .Mult) (b9 Z TF):=by
 refine(R5.or Ku).imp ?_;intro x y H Q h;rfl';obtain⟨G,a,b,P,s,d,e,c,q⟩:=h;ac_rfl;unfold TF at c
 split at c
 .exact .inl #[_,_,d.ofInt,e.ofInt,c.1,q _ c.2 _ G H (.refl s) (.int _)]
 .obtain⟨r,t,rfl,j,f⟩:=d.jK
  obtain⟨k,l,m,n⟩:=c;refine .inr #[_,_,_,rfl,e.ofInt,s _ _ j,k,l,by rw[f.length];exact m,λp g=>?_]
  exact q _ n _ _ _ (.new s g) (.lst aw ((f.rep _).mono (aX (s.free g) _)))
 .exact c.elim
mutual
def D.py:D->Option PyData
 | .bo=>some .none
 | .bl b=>some (.bool b)
 | .int i=>some (.int i)
 | .str x=>some (.str x)
 | .lst l=>(iM l).map PyData.list
 | .tup l=>(iM l).map PyData.tuple
 | .jF _=>none
 | .rng _ _=>none
 | .obj _=>none
 | .dG _=>none
 | .set _ _=>none
 | .x _=>none
 | .err _ _ _=>none
def iM:List D->Option (List PyData)
 | []=>some []
 |d::ds=>(D.py d).bind λa=>(iM ds).map λas=>a::as
end
def Dv.dp{K:ac}{G:Hp}{v:V}{d:D}(h:Dv Z G v d):∀{e:PyData},d.py\e->Dp K G v e:=by
 refine Dv.rec (motive_1:=λv d _=>∀{e:PyData},d.py\e->Dp K G v e) (motive_2:=λn f _=>∀{g:List PyData},iM f\g->jI K G n g) ?_ ?_ ?_ ?_ ?_ ?_ ?_ ?_ ?_ ?_ ?_ ?_ ?_ ?_ ?_ h
 .intro e h;rw[D.py] at h;cases h;exact .bo
 .intro b e h;rw[D.py] at h;cases h;exact .bl b
 .intro i e h;rw[D.py] at h;cases h;exact .int i
 .intro x k e h;rw[D.py] at h;cases h;exact .str x k
 .intro a o f q _ j e h
  rw[D.py] at h;cases c:iM f with
  |none=>rw[c] at h;cases h
  |some l=>rw[c] at h;cases h;exact .lst (cK.of q) (j c)
 .intro a o f q _ j e h
  rw[D.py] at h;cases c:iM f with
  |none=>rw[c] at h;cases h
  |some l=>rw[c] at h;cases h;exact .tup (gj.of q) (j c)
 .intro a e h;simp[D.py] at h
 .intro a lo u _ e h;simp[D.py] at h
 .intro a r _ _ e h;simp[D.py] at h
 .intro p z R w _ _ _ _ _ _ e h;simp[D.py] at h
 .intro a b r _ e h;simp[D.py] at h
 .intro a A k _ _ e h;simp[D.py] at h
 .intro a C B E o f _ _ _ _ e h;simp[D.py] at h
 .intro g h;rw[iM] at h;cases h;exact .nil
 .intro v n d f _ _ s t g h
  rw[iM] at h;cases c:d.py with
  |none=>rw[c] at h;cases h
  |some x=>
   rw[c] at h;cases m:iM f with
   |none=>rw[m] at h;cases h
   |some y=>rw[m] at h;cases h;exact .cons (s c) (t m)
def gj.mono{K:ac}{H b:Hp}(s:ba H b)(h:gj K H a c):gj K b a c:=by
 rcases h with (h| ⟨o,h⟩) |h
 .exact .inl (.inl (s _ _ h))
 .exact .inl (.inr #[o,s _ _ h])
 .exact .inr h
theorem Dp.mono{K:ac}{G H:Hp}(s:ba G H){v:V}{d:PyData}(h:Dp K G v d):Dp K H v d:=
 Dp.rec (motive_1:=λv d _=>Dp K H v d) (motive_2:=λc e _=>jI K H c e) .bo .bl .int .str (λh _ a=> .lst (h.mono s) a) (λh _ a=> .tup (h.mono s) a) .nil (λ_ _ a b=> .cons a b) h
def Tx(c:Bool):gY:=λx y P=>∃a b,x.py\a/\y.py\b/\a.depth<=64/\P (.bl (if c then !PyData.eqv a b else PyData.eqv a b))
abbrev sT:gY:=Tx false
abbrev wU:gY:=Tx true
def jc(e:X.A.units+64<cLine):OpR X (compareOp .Eq) (b9 Z sT):=by
 refine(R1 e).imp ?_;intro x y H Q f;rfl';obtain⟨G,a,b,P,s,h,i,⟨c,d,j,k,l,m⟩,q⟩:=f;ac_rfl;exact#[c,d,(h.dp j).mono s,(i.dp k).mono s,l,q _ m _ G H (.refl s) (.bl _)]
def m8(e:X.A.units+64<cLine):OpR X (compareOp .NotEq) (b9 Z wU):=by
 refine(R6 e).imp ?_;intro x y H Q f;rfl';obtain⟨G,a,b,P,s,h,i,⟨c,d,j,k,l,m⟩,q⟩:=f;ac_rfl;exact#[c,d,(h.dp j).mono s,(i.dp k).mono s,l,q _ m _ G H (.refl s) (.bl _)]
def E2(h:P (.bl (decide (i=j)))):sT (.int i) (.int j) P:=#[.int i, .int j,rfl,rfl,by simp[PyData.depth],by
 have:PyData.eqv (.int i) (.int j)=decide (i=j):=by
  rw[PyData.eqv]
  by_cases z:i=j<;>simp[z]
 simpa [this] using h]
def M8(h:P (.bl (!decide (i=j)))):wU (.int i) (.int j) P:=#[.int i, .int j,rfl,rfl,by simp[PyData.depth],by
 have:PyData.eqv (.int i) (.int j)=decide (i=j):=by
  rw[PyData.eqv]
  by_cases z:i=j<;>simp[z]
 simpa [this] using h]
def E1(p:Int->Int->Bool):gY:=λx y P=>match x,y with
 | .int i, .int j=>P (.bl (p i j))
 |_,_=>False
def yS(h:OpR X f (DZ λi j=> .bl (p i j))):OpR X f (b9 Z (E1 p)):=by
 refine h.imp ?_;intro x y H Q d;rfl';obtain⟨G,a,b,P,s,g,k,c,q⟩:=d;ac_rfl;unfold E1 at c
 split at c
 .exact#[_,_,g.ofInt,k.ofInt,q _ c _ G H (.refl s) (.bl _)]
 .exact c.elim
end
end L2
namespace L2
open PySem PySem.Spec PyProof.Rows
section
variable {Z:DC} {X:Cx}
abbrev dLt:gY:=E1 λi j=>decide (i<j)
abbrev dLe:gY:=E1 λi j=>decide (i<=j)
abbrev dGt:gY:=E1 λi j=>decide (j<i)
def Dz:OpR X (compareOp .Lt) (b9 Z dLt):=yS Wf
def IV:OpR X (compareOp .LtE) (b9 Z dLe):=yS We
def u3:OpR X (compareOp .Gt) (b9 Z dGt):=yS Wd
def IB:D->Bool
 | .bo=>true
 |_=>false
def TB(a:Bool):gY:=λx y P=>match y with
 | .bo=>P (.bl (if a then !IB x else IB x))
 |_=>False
def A1(h:Dv Z G v d):decide (v= .bo)=IB d:=by cases h<;>rfl
def pD:OpR X (compareOp .Is) (b9 Z (TB false)):=by
 refine R3.imp ?_;rintro x y H Q ⟨G,a,b,P,s,d,e,c,q⟩;cases e<;>first|exact c.elim|skip
 exact#[rfl,by rw[A1 d];exact q _ c _ G H (.refl s) (.bl _)]
def jd:OpR X (compareOp .IsNot) (b9 Z (TB true)):=by
 refine O9.imp ?_;rintro x y H Q ⟨G,a,b,P,s,d,e,c,q⟩;cases e<;>first|exact c.elim|skip
 exact#[rfl,by rw[A1 d];exact q _ c _ G H (.refl s) (.bl _)]
def di:D->Bool
 | .bo=>true
 | .bl _=>true
 | .int _=>true
 | .str _=>true
 |_=>false
def iZ:D->D->Bool
 | .bo, .bo=>true
 | .bl a, .bl b=>a==b
 | .bl a, .int b=>(if a then 1 else 0)==b
 | .int a, .bl b=>a==(if b then 1 else 0)
 | .int a, .int b=>a==b
 | .str a, .str b=>a==b
 |_,_=>false
def inD(x:D)(l:List D):Bool:=l.any λy=>iZ y x
def sZ(h:Dv Z G v d):iI v=di d:=by cases h<;>rfl
def oX(h:DvAll Z G b c):b.all iI=c.all di:=h.ind (p:=λb c=>b.all iI=c.all di) rfl λa _ e=>by rw[abD,abD,sZ a,e]
def Cg(h:Dv Z G v d)(k:Dv Z G u e):yp v u=iZ d e:=by cases h<;>first|rfl| (cases k<;>rfl)
theorem Iz(h:Dv Z G v d):∀{b:List V}{c:List D},DvAll Z G b c->Ry v b=inD d c
 |_,_, .nil=>rfl
 |_,_, .cons a as=>by
  unfold Ry inD;rw[abE,abE,Cg a h];exact KF _ (Iz h as)
def QU(a:Bool):gY:=λx y P=>match y with
 | .lst l=>di x=true/\l.all di=true/\P (.bl (if a then !inD x l else inD x l))
 | .tup l=>di x=true/\l.all di=true/\P (.bl (if a then !inD x l else inD x l))
 |_=>False
def PK:∀x y H Q,b9 Z (QU c) x y H Q->Wt X.K c x y H Q:=by
 rintro x y H Q ⟨G,a,b,P,s,d,l,f,q⟩;cases l<;>first|exact f.elim|skip
 .rename_i p g m h e
  obtain⟨i,j,k⟩:=f;refine#[p,g,rfl, .inl (cK.of (s _ _ h)),by rw[sZ d];exact i,by rw[oX e];exact j,?_]
  rw[Iz d e];exact q _ k _ G H (.refl s) (.bl _)
 .rename_i p g m h e
  obtain⟨i,j,k⟩:=f;refine#[p,g,rfl, .inr (gj.of (s _ _ h)),by rw[sZ d];exact i,by rw[oX e];exact j,?_]
  rw[Iz d e];exact q _ k _ G H (.refl s) (.bl _)
def Dy:OpR X (compareOp .In) (b9 Z (QU false)):=Jc.imp PK
def mB:OpR X (compareOp .NotIn) (b9 Z (QU true)):=An.imp PK
def Xs:gY:=λx y P=>match x,y with
 | .lst l, .int i=>∃d,fQ l i\d/\P d
 | .tup l, .int i=>∃d,fQ l i\d/\P d
 | .jF l, .int i=>∃n,fQ l i\n/\P (.int n)
 |_,_=>False
def BP(h:DvAll Z G b a)(e:fQ a i\d):∃v,fQ b i\v/\Dv Z G v d:=by
 unfold fQ at e ⊢;rw[h.length];cases z:iB a.length i with
 |none=>rw[z] at e;cases e
 |some j=>rw[z] at e;exact h.get e
def MN(f:a->b)(l:List a)(i:Int):fQ (l.map f) i=(fQ l i).map f:=by
 unfold fQ;rw[aS];cases iB l.length i with
 |none=>rfl
 |some j=>show(l.map f)[j]? =_;rw[fi];rfl
variable {a b c e:Expr} {ta tb tc te:bh} {pos:Pos}
def aY(p:DE Z X a ta)(r:DE Z X b tb)(t:X.K=Z.K:=by rfl)(u:sD b:=by exact λ_ _=>rfl):DE Z X (.Subscript a b pos) (Nc Xs ta tb):=by
 refine(Jg (yO.or Rz) p r u).imp λw H Q h=>?_;rfl';obtain⟨G,x,P,s,e,h,q⟩:=Dh w H Q h;ac_rfl;refine#[G,x,P,s,e,h,λd y v z A B dv=>?_];rfl';obtain⟨C,E,F,I,J,L,M⟩:=q d y v z A B dv;ac_rfl;refine#[C,E,F,I,J,L,λN k O R S T U=>?_];obtain⟨G,a,b,P,s,l,m,f,q⟩:=M N k O R S T U;unfold Xs at f
 split at f
 .obtain⟨d,i,j⟩:=f
  obtain⟨_,_,rfl,h,e⟩:=l.jK;obtain⟨v,n,dv⟩:=BP e i;exact .inl #[_,_,_,v,rfl,m.ofInt,cK.of (s _ _ h),n,q _ j _ G _ (.refl s) dv]
 .obtain⟨d,i,j⟩:=f
  obtain⟨_,_,rfl,h,e⟩:=l.pE;obtain⟨v,n,dv⟩:=BP e i;exact .inr #[_,_,_,v,rfl,m.ofInt,gj.of (s _ _ h),n,q _ j _ G _ (.refl s) dv]
 rotate_left
 .exact f.elim
 .obtain⟨d,i,j⟩:=f
  rfl';obtain⟨_,rfl,h,_⟩:=l.O1;ac_rfl;refine .inl #[_,_,_, .int d,rfl,m.ofInt,by rw[t];exact h.mono s,by rw[MN,i];rfl,q _ j _ G _ (.refl s) (.int d)]
def cutD{f:Type}(d:List f)(lo g:Option Int):List f:=(d.drop (HT.cg d.length 0 lo)).take (HT.cg d.length d.length g-HT.cg d.length 0 lo)
def JV(h:DvAll Z G d f)(lo g:Option Int):DvAll Z G (vL d lo g) (cutD f lo g):=by
 unfold vL cutD;rw[h.length];exact(h.drop _).take _
def La(f:d->h)(l:List d)(lo g:Option Int):cutD (l.map f) lo g=(cutD l lo g).map f:=by
 unfold cutD;rw[aS,vw,acu]
abbrev Ho:=DN->(Option Int->Prop)->Prop
def Nb:Ho:=λ_ P=>P none
def U5(t:bh):Ho:=λf P=>t f λd=>match d with
 | .int i=>P (some i)
 |_=>False
def V5(Z:DC)(t:Ho):TO:=λg H Q=>∃(G:Hp)(d:DN)(P:Option Int->Prop),ba G H/\dJ Z G g d/\t d P/\∀o,P o->∀h f,Ext G H h f->Q o f
def DO(Z:DC)(X:Cx)(e:Option Expr)(t:Ho):Prop:=PO X e (V5 Z t)
def PO.imp{e:Option Expr}{t t':TO}(h:PO X e t)(f:∀g H Q,t' g H Q->t g H Q):PO X e t':=λd s g H Q I q=>h d s g H Q I (f _ _ _ q)
def ko:DO Z X none Nb:=by
 refine Pp.imp λg H Q d=>?_;rfl';obtain⟨G,i,P,s,e,p,q⟩:=d;ac_rfl;exact q _ p G H (.refl s)
def kq(h:DE Z X e te):DO Z X (some e) (U5 te):=by
 refine(Pq h).imp ?_;intro n H Q g;rfl';obtain⟨G,j,P,s,e,h,q⟩:=g;ac_rfl;refine#[G,j,_,s,e,h,λd f v k l m dv=>?_];cases dv<;>first|exact f.elim|skip
 exact#[_,rfl,q _ f k l m]
def dSl(g:bh)(h i:Ho):bh:=λf P=>g f λx=>h f λlo=>i f λd=>match x with
 | .lst l=>P (.lst (cutD l lo d))
 | .tup l=>¬(HT.cg l.length 0 lo=0/\HT.cg l.length l.length d=l.length)/\P (.tup (cutD l lo d))
 | .jF l=>P (.lst ((cutD l lo d).map D.int))
 |_=>False
variable {lo hi:Option Expr} {tl th:Ho} {p2:Pos}
def ja(r:DE Z X e te)(m:DO Z X lo tl)(g:DO Z X hi th)(t:X.K=Z.K:=by rfl):DE Z X (.Subscript e (.Slice lo hi none p2) pos) (dSl te tl th):=by
 refine(Ma (PY.or SJ) r m g).imp ?_;intro C H Q w;rfl';obtain⟨G,n,P,s,o,h,q⟩:=w;ac_rfl;refine#[G,n,_,s,o,h,λd z v A F j dv=>?_];refine#[A,n,_,j.sub,o.mono j.gg,z,λl m B I k=>?_];refine#[B,n,_,k.sub,(o.mono j.gg).mono k.gg,m,λu g J L f=>?_];have x:=(j.trans k).trans f;have dv:=(dv.mono k.gg).mono f.gg;cases dv<;>first|exact g.elim|skip
 .rename_i h e
  exact .inl #[_,_,rfl,cK.of (f.sub _ _ h),λp i=>q _ g _ _ _ (x.trans (.new f.sub i)) (.lst aw ((JV e l u).mono (aX (f.sub.free i) _)))]
 .rename_i h e
  refine .inr #[_,_,rfl,gj.of (f.sub _ _ h),by rw[e.length];exact g.1,λp i=>q _ g.2 _ _ _ (x.trans (.new f.sub i)) (.tup aw ((JV e l u).mono (aX (f.sub.free i) _)))]
 .rename_i h _
  refine .inl #[_,_,rfl,by rw[t];exact h.mono f.sub,λp i=>q _ g _ _ _ (x.trans (.new f.sub i)) (.lst aw ?_)]
  show DvAll Z _ (cutD _ l u) _;rw[La];exact .ints _
def Ts:cc:=λd P=>match d with
 | [.lst l]=>P (.int l.length)
 | [.tup l]=>P (.int l.length)
 | [.jF l]=>P (.int l.length)
 |_=>False
def bC(f:X.K=Z.K:=by rfl):CallR X (.builtin "len") (iK Z Ts):=by
 refine z0.imp ?_;rintro g H Q ⟨G,i,P,s,dv,d,q⟩;unfold Ts at d
 split at d
 .obtain⟨_,rfl,a⟩:=dv.ofOne
  obtain⟨_,_,rfl,h,e⟩:=a.jK;exact#[_,_,rfl, .inl (cK.of (s _ _ h)),by rw[e.length];exact q _ d _ G H (.refl s) (.int _)]
 .obtain⟨_,rfl,a⟩:=dv.ofOne
  obtain⟨_,_,rfl,h,e⟩:=a.pE;exact#[_,_,rfl, .inr (gj.of (s _ _ h)),by rw[e.length];exact q _ d _ G H (.refl s) (.int _)]
 .obtain⟨_,rfl,a⟩:=dv.ofOne
  obtain⟨_,rfl,h,_⟩:=a.O1;exact#[_,_,rfl, .inl (by rw[f];exact h.mono s),by rw[aS];exact q _ d _ G H (.refl s) (.int _)]
 .exact d.elim
def MO:cc:=λd P=>match d with
 | [.lst l]=>P (.lst l)
 | [.tup l]=>P (.lst l)
 |_=>False
def sO:CallR X (.type "list") (iK Z MO):=by
 refine qO.imp ?_;rintro g H Q ⟨G,i,P,s,dv,d,q⟩;unfold MO at d
 split at d
 .obtain⟨_,rfl,a⟩:=dv.ofOne
  obtain⟨_,_,rfl,h,e⟩:=a.jK;exact#[_,_,rfl, .inl (cK.of (s _ _ h)),λp f=>q _ d _ _ _ (.new s f) (.lst aw (e.mono (aX (s.free f) _)))]
 .obtain⟨_,rfl,a⟩:=dv.ofOne
  obtain⟨_,_,rfl,h,e⟩:=a.pE;exact#[_,_,rfl, .inr (gj.of (s _ _ h)),λp f=>q _ d _ _ _ (.new s f) (.lst aw (e.mono (aX (s.free f) _)))]
 .exact d.elim
def V1:String->D->Bool
 |"int", .int _=>true
 |"int", .bl _=>true
 |"bool", .bl _=>true
 |"list", .lst _=>true
 |"tuple", .tup _=>true
 |_,_=>false
def Wa(n:String):Bool:=n=="int"||n=="bool"||n=="list"||n=="tuple"
def O3:D->Bool
 | .bo=>true
 | .bl _=>true
 | .int _=>true
 | .str _=>true
 | .lst _=>true
 | .tup _=>true
 |_=>false
def Xr(n:String)(t:bh):bh:=λf P=>t f λd=>O3 d=true/\P (.bl (V1 n d))
def RG{K:ac}{H:Hp}{v:V}{d:D}{n:String}(hn:Wa n=true)(hd:O3 d=true)(h:Dv Z H v d):∃t,kX K H v t/\aj K t (.type n)\(V1 n d):=by
 unfold Wa at hn;rw[Bool.or_eq_true,Bool.or_eq_true,Bool.or_eq_true,beq_iff_eq,beq_iff_eq,beq_iff_eq,beq_iff_eq] at hn;cases h with
 |bo=>exists _, .bo;rcases hn with ((rfl|rfl) |rfl) |rfl<;>kernel_rfl
 |bl b=>exists _, .bl b;rcases hn with ((rfl|rfl) |rfl) |rfl<;>kernel_rfl
 |int b=>exists _, .int b;rcases hn with ((rfl|rfl) |rfl) |rfl<;>kernel_rfl
 |str b=>exists _, .str b;rcases hn with ((rfl|rfl) |rfl) |rfl<;>kernel_rfl
 |lst h a=>exists _, .lst h;rcases hn with ((rfl|rfl) |rfl) |rfl<;>kernel_rfl
 |tup h a=>exists _, .tup h;rcases hn with ((rfl|rfl) |rfl) |rfl<;>kernel_rfl
 |_=>cases hd
end
section
variable {Z:DC} {X:Cx} {a b c e:Expr} {ta tb tc te:bh} {pos:Pos}
def B9(n:String)(l:DE Z X a ta)(m:Gl X "isinstance")(o:X.mg "isinstance"=none)(g:Gl X x)(r:X.mg x=none)(u:bootBuiltins x\(.type n))(ok:Wa n=true:=by decide)
  (w:x≠"__name__":=by decide) (y:(x==("__debug__":Str))=false:=by decide) (i:starEach [a, .Name x f] X.env=(false,eval a X.env)::starEach [.Name x f] X.env:=by rfl)
  (z:(backTo pos (starEach [.Name x f] X.env)).any (·.1)=false:=by rfl) (A:starEach [.Name x f] X.env=(false,eval (.Name x f) X.env)::starEach [] X.env:=by rfl):
  DE Z X (.Call (.Name "isinstance" p) [a, .Name x f] [] pos) (Xr n ta):=by
 have B:PE X (.Name x f) (tC (.ty n)):=Gr g r u rfl w y;refine(mD BW m o (by decide+kernel) (bU l (bU B eH A) i) ∅ ∅ i z).imp ?_
 intro O H Q C;rfl';obtain⟨G,F,P,s,e,h,q⟩:=C;ac_rfl;exists G,F,_,s,e,h;rintro d ⟨I,J⟩ v L j k dv;obtain⟨t,M,N⟩:=RG (K:=X.K) (H:=j) ok I (dv.mono k.sub);exact#[v,n,t,_,rfl,M,N,q _ J _ L j k (.bl _)]
def rR(Z:DC)(g:eN):TG:=λv j H Q=>∃(G:Hp)(f:DN)(d:D)(P:DN->Prop),ba G H/\dJ Z G j f/\Dv Z G v d/\g d f P/\∀h,P h->∀i,dJ Z G i h->Q i H
def DG(Z:DC)(X:Cx)(e:Expr)(g:eN):Prop:=PG X e (rR Z g)
def PG.imp{e:Expr}{t i:TG}(h:PG X e t)(f:∀v g H Q,i v g H Q->t v g H Q):PG X e i:=λd s g H v u Q I r q=>h d s g H v u Q I r (f _ _ _ _ q)
def sV(i:Nat):eN:=λd f P=>P (f.set i (some d))
def bI(i:Nat)(f:X.N.Nodup)(g:X.N[i]?\x:=by rfl)(j:Loc X.env.scope x:=by exact Or.inl rfl)(k:X.fn x=true\/X.env.scope.names.lookup x\.local:=by subst_eqs):DG Z X (.Name x l) (sV i):=by
 refine(Gv f g j k).imp λv o H Q m=>?_;rfl';obtain⟨G,r,d,P,s,e,dv,h,q⟩:=m;ac_rfl;exact q _ h _ (e.set dv)
abbrev nJ:=List D->DN->(DN->Prop)->Prop
def RL(Z:DC)(g:nJ):zW:=λj k H Q=>∃(G:Hp)(d:DN)(f:List D)(P:DN->Prop),ba G H/\dJ Z G k d/\DvAll Z G j f/\g f d P/\∀h,P h->∀i,dJ Z G i h->Q i H
def QC(Z:DC)(X:Cx)(d:List Expr)(g:nJ):Prop:=BM X d (RL Z g)
def BM.imp{i:List Expr}{t j:zW}(h:BM X i t)(f:∀v g H Q,j v g H Q->t v g H Q):BM X i j:=λd s g H v u Q I r q=>h d s g H v u Q I r (f _ _ _ _ q)
def Nm:nJ:=λd f P=>d= []/\P f
def J0(g:eN)(f:nJ):nJ:=λh i P=>match h with
 |d::r=>g d i λj=>f r j P
 | []=>False
def yg:QC Z X [] Nm:=by
 refine zf.imp λv g H Q d=>?_;rfl';obtain⟨G,j,k,P,s,e,dv,⟨h,p⟩,q⟩:=d;subst h;cases dv;ac_rfl;exact#[rfl,q _ p _ e]
def j6(i:DG Z X e g)(j:QC Z X d f)(k:(assignEach (e::d) X.env).map (·.2)=assign e X.env::(assignEach d X.env).map (·.2):=by rfl):QC Z X (e::d) (J0 g f):=by
 refine(qF i j k).imp ?_;intro v t H Q l;rfl';obtain⟨G,n,w,P,s,e,dv,h,q⟩:=l;ac_rfl;cases dv with
 |nil=>exact h.elim
 |cons a as=>
  refine#[_,_,rfl,G,n,_,_,s,e,a,h,λo p x r=>?_];exact#[G,o,_,P,s,r,as,p,q]
def Np(n:Nat)(f:nJ):eN:=λd g P=>match d with
 | .tup l=>l.length=n/\f l g P
 |_=>False
def Ca(n:Nat)(i:X.calm=true)(h:QC Z X f g)(j:(assignEach f X.env).length=n:=by rfl)(l:(assignEach f X.env).findIdx? (·.1)=none:=by rfl):DG Z X (.Tuple f k pos) (Np n g):=by
 refine(DU i h j l).imp ?_;rintro v r H Q ⟨G,m,d,P,s,e,dv,h,q⟩;cases dv<;>first|exact h.elim|skip
 rename_i a o t p f
 exact#[a,o,rfl,gj.of (s _ _ p),by rw[f.length];exact h.1,G,m,_,P,s,e,f,h.2,q]
def xI(Z:DC)(G:Hp)(J:It)(g:List D):Prop:=∀h f,ba G h->ba h f->∀i:Nat,(i<g.length->J.go i f)/\(g.length<=i->J.stop i f)/\
 ∀x j,i<g.length->J.yld i f x j->∃k d,Ext h f k j/\g[i]?\d/\Dv Z k x d
def uW(Z:DC)(i:i6):TI:=λj H R=>∃(G:Hp)(d:DN)(P:List D->Prop),ba G H/\dJ Z G j d/\i d P/\∀f,P f->∀J g h,Ext G H g h->xI Z g J f->R J h
def DI(Z:DC)(X:Cx)(d e:Expr)(f:i6):Prop:=PI X d e (uW Z f)
def PI.imp{i e:Expr}{t t':TI}(h:PI X i e t)(f:∀g H Q,t' g H Q->t g H Q):PI X i e t':=λd s g H Q I q=>h d s g H Q I (f _ _ _ q)
def Vc(t:bh):i6:=λf P=>t f λd=>match d with
 | .lst l=>P l
 |_=>False
def OH{K:ac}{a:Addr}(h:G a\(.lst f))(e:DvAll Z G f j):xI Z G (Uw K a) j:=by
 intro o r k m i;have g:=cK.of (K:=K) (m _ _ (k _ _ h));have l:=e.length;refine#[λn=>#[f,f[i],g,cZ ()],λn=>#[f,g,()],?_]
 rintro x s n ⟨rfl,p⟩;obtain⟨d,q,dv⟩:=e.Kb (p _ g);exact#[o,d, .refl m,q,dv.mono k]
def bq(h:DE Z X e te):DI Z X j e (Vc te):=by
 refine(Po h).imp ?_;intro r H Q k;rfl';obtain⟨G,m,P,s,n,h,q⟩:=k;ac_rfl;refine#[G,m,_,s,n,h,λd f v o p g dv=>?_];cases dv<;>first|exact f.elim|skip
 rename_i i e
 exact#[_,rfl,#[_,cK.of (g.sub _ _ i)],q _ f _ o p g (OH i e)]
def dR(lo:Int)(n:Nat):List D:=(am n).map λ(k:Nat)=>D.int (lo+(k:Int))
def wo{lo:Int}{n i:Nat}(h:i<n):(dR lo n)[i]?\(.int (lo+i)):=by
 unfold dR;rw[fi,wH h];rfl
def LK(lo:Int)(n:Nat):xI Z G (QH lo n) (dR lo n):=by
 intro f h j g i;have l:(dR lo n).length=n:=by unfold dR;simp
 rw[l];refine#[λd=>d,λd=>d,?_];rintro x k d ⟨rfl,rfl⟩;exact#[f,_, .refl g,wo d, .int _]
def XH(t:gJ):i6:=λd P=>t d λf=>match f with
 | [.int j]=>(-(2^62)<=j/\j<2^62)/\P (dR 0 j.toNat)
 |_=>False
variable {t:gJ}
def iH(l:List D):List D:=l.mapIdx λi x=> .tup [.int (i:Int),x]
def Q2(t:gJ):i6:=λd P=>t d λf=>match f with
 | [.lst l]=>P (iH l)
 |_=>False
def OG{K:ac}{a:Addr}(h:G a\(.lst f))(e:DvAll Z G f g):xI Z G (Uv K a) (iH g):=by
 intro r s m j i;have k:=cK.of (K:=K) (j _ _ (m _ _ h));have l:=e.length;rw[show(iH g).length=g.length by unfold iH;simp]
 refine#[λn=>#[f,f[i],k,cZ ()],λn=>#[f,k,()],?_]
 rintro x u n ⟨t,y,rfl,o,rfl,p⟩;obtain⟨d,q,dv⟩:=e.Kb (p _ k);refine#[_,_, .new j o,by unfold iH;rw[List.getElem?_mapIdx,q];rfl,?_]
 exact .tup aw (.cons (.int _) (.cons ((dv.mono m).mono (aX (j.free o) _)) .nil))
def kn{k1}(j:Gl X "enumerate")(k:X.mg "enumerate"=none)(l:DA Z X [a] t)(m:starEach [a] X.env= [(false,eval a X.env)]:=by rfl):DI Z X (.Tuple g k1 i) (.Call (.Name "enumerate" p) [a] [] pos) (Q2 t):=by
 refine(Pn j k l m).imp ?_;intro x H Q n;rfl';obtain⟨G,r,P,s,u,h,q⟩:=n;ac_rfl;refine#[G,r,_,s,u,h,λz d A v w f dv=>?_]
 split at d
 .obtain⟨_,rfl,a⟩:=dv.ofOne
  obtain⟨_,_,rfl,h,e⟩:=a.jK;exact#[_,rfl,#[_,f.sub _ _ h],q _ d _ v w f (OG h e)]
 .exact d.elim
def zx(src:List (Option Nat))(d:DN):DN:=src.map λo=>o.bind λi=>(d[i]?).bind id
theorem dJ.src{ρ:DN}(e:dJ Z G g ρ)(src:List (Option Nat)):dJ Z G (n4 src g) (zx src ρ):=by
 refine#[by unfold n4 zx;simp,λi d h=>?_]
 unfold zx at h;unfold n4;rw[fi] at h ⊢;cases k:src[i]? with
 |none=>rw[k] at h;cases h
 |some o=>
  rw[k] at h;cases o with
  |none=>cases h
  |some j=>
   have f:(ρ[j]?).bind id\d:=FM h;cases m:ρ[j]? with
   |none=>rw[m] at f;cases f
   |some z=>
    rw[m] at f;rfl';have n:z\d:=f;subst n;obtain⟨v,p,dv⟩:=e.at_ j d m;ac_rfl;exact#[v,by show some ((g[j]?).bind id)=_;rw[p];rfl,dv]
def lcW(g:eN)(i:dE)(j:bh):List D->DN->List D->(DN->List D->Prop)->Prop
 | [],k,f,N=>N k f
 |x::l,k,f,N=>g x k λh=>i h λb=>if b=true then j h λd=>f.length<sizeLine/\lcW g i j l h (f++ [d]) N else lcW g i j l h f N
def U0(f:i6)(g:eN)(h:dE)(i:bh)(src:List (Option Nat)):bh:=λd P=>f d λj=>lcW g h i j (zx src d) [] λ_ out=>P (.lst out)
def qT(g:eN)(h:dE)(i:i6)(j:eN)(k:dE)(l:bh):List D->DN->List D->(List D->Prop)->Prop
 | [],_,d,P=>P d
 |x::m,n,d,P=>g x n λf=>h f λb=>if b=true then i f λo=>lcW j k l o f d λp q=>qT g h i j k l m p q P else qT g h i j k l m f d P
def TC(f:i6)(g:eN)(h:dE)(i:i6)(j:eN)(k:dE)(l:bh)(src:List (Option Nat)):bh:=λd P=>f d λm=>qT g h i j k l m (zx src d) [] λout=>P (.lst out)
def yc:dE:=λ_ P=>P true
def zU(Z:DC)(X:Cx)(d:List Expr)(t:dE):Prop:=oH X d (liftT Z t)
def oH.imp{d:List Expr}{t j:TT}(h:oH X d t)(f:∀i H Q,j i H Q->t i H Q):oH X d j:=λg s i H Q I q=>h g s i H Q I (f _ _ _ q)
def c7:zU Z X [] yc:=by
 refine GB.imp λg H Q d=>?_;rfl';obtain⟨G,i,P,s,e,p,q⟩:=d;ac_rfl;exact q _ p G H (.refl s)
def mi(h:DT Z X c d):zU Z X [c] d:=Px h
def CS(Z:DC)(f g:Hp)(h:Addr)(j:DN)(d:List D)(k:St)(H:Hp):Prop:=
 ∃(G:Hp)(i:List V),ba f G/\ba G H/\ba g H/\(∀b,g b≠none->f b=none->G b=none)/\G h=none/\H h\(.lst i)/\DvAll Z G i d/\dJ Z G k j
def gO(s:ba H d){b:Addr}(h:H b≠none):d b≠none:=λz=>by
 cases e:H b with
 |none=>exact h e
 |some o=>rw[s b o e] at z;cases z
def oS{d:Type}{l:List d}{i:Nat}{x:d}(h:l[i]?\x):l.drop i=x::l.drop (i+1):=by
 obtain⟨f,e⟩:=dZ.mp h;rw[rg f,e]
theorem A8(hA:n f=none)(B:Hp)(it:xI Z B J p)(i:Nat)(M:DN)(k:List D)(X:St)(H:Hp)
  (c:CS Z m n f M k X H) (hG:∀G,ba m G->ba B G) (hi:i<p.length) (h:lcW g w A (p.drop i) M k N):
  J.go i H/\∀x C,J.yld i H x C->rR Z g x X C λq H4=>liftT Z w q H4 λb O=>
   if b=true then e8 Z A q O λv P=>∃l,P f\(.lst l)/\l.length<sizeLine/\(∃r s,CS Z m n f r s q (upd P f (.lst (l++ [v])))/\lcW g w A (p.drop (i+1)) r s N)
   else ∃r s,CS Z m n f r s q O/\lcW g w A (p.drop (i+1)) r s N:=by
 rfl';obtain⟨R,l,S,s2,T,off,gA,U,Y,en⟩:=c;obtain⟨go,_,yld⟩:=it R H (hG _ S) s2 i;ac_rfl;refine#[go hi,λx C y=>?_];rfl';obtain⟨G3,d,E,hd,dv⟩:=yld x C hi y;rw[oS hd] at h;ac_rfl;refine#[G3,M,d,_,E.sub,en.mono E.gg,dv,h,λF I q L=>?_];refine#[G3,F,_,E.sub,L,I,λb hb G5 O u=>?_];have j:=E.trans u;have a:∀{G t:Hp},Ext R H G t->G f=none:=λx=>x.off f (by rw[U];exact λz=>nomatch z) gA
 have Gk:∀{G t:Hp},Ext R H G t->∀b,n b≠none->m b=none->G b=none:=λx b I h2=>x.off b (gO T I) (off b I h2);cases b with
 |false=>
  refine bX #[F,k,#[G5,l,S.trans j.gg,j.sub,T.trans j.hh,Gk j,a j,j.hh _ _ U,Y.mono j.gg,L.mono u.gg],?_];simpa using hb
 |true=>
  refine b8 #[G5,F,_,u.sub,L.mono u.gg,(~~~hb),λd' fq v G6 P x6 Vf=>?_]
  have x:=j.trans x6;refine#[l,x.hh _ _ U,by rw[Y.length];exact fq.1,F,_,#[G6,l++ [v],S.trans x.gg,λb o e=>?_,λb o e=>?_,Gk x,a x,aw,(Y.mono x.gg).snoc Vf,(L.mono u.gg).mono x6.gg],fq.2]
  .rw[aB (aF e (a x))];exact x.sub _ _ e
  .rw[aB (aF e hA)];exact(T.trans x.hh) _ _ e
def CS.done(c:CS Z i h d p f q j)(g:Ext G H i h)(r:h d=none):∃k,Ext G H k j/\Dv Z k (.ref d) (.lst f):=by
 rfl';obtain⟨u,v,w,x,y,off,l,A,B,F⟩:=c;ac_rfl;refine#[upd u d (.lst v),#[(g.gg.trans w).trans (aX l _),λb o e=>?_,g.hh.trans y,λb m C=>?_], .lst aw (B.mono (aX l _))]
 .by_cases z:b=d
  .subst z;rw[aw] at e;cases e;exact A
  .rw[aB z] at e;exact x _ _ e
 .have n:=gO g.hh m
  rw[aB (λz=>n (by rw[z];exact r))]
  exact off b n (g.off b m C)
def CS.begin(s:ba d f)(i:f g=none)(l:dJ Z d k j):CS Z d f g j [] k (upd f g (.lst [])):=
 #[d,[], .refl _,λb o e=>by rw[aB (aF e (s.free i))];exact s _ _ e,aX i _,λ_ _ h=>h,s.free i,aw, .nil,l]
variable {tg iter elt:Expr} {ifs:List Expr} {scope:Scope} {NC:List Str} {src:List (Option Nat)} {wi:i6} {g:eN} {tt:dE}
def Kk:∀o H Q,e8 Z (U0 wi g tt te src) o H Q->Qn (uW Z wi) (rR Z g) (liftT Z tt) (e8 Z te) src o H Q:=by
 intro o H Q C;rfl';obtain⟨G,E,P,s,y,h,q⟩:=C;ac_rfl;refine#[G,E,_,s,y,h,λf F J z I p A L r=>?_];refine#[λi m u k=>m=f.length-i/\i<=f.length/\∃l d,CS Z z I L l d u k/\lcW g tt te (f.drop i) l d λ_ out=>P (.lst out),#[_,rfl,fg _,_,[], .begin p.sub r ((y.mono p.gg).src src),F],?_];intro i m u k M;rfl';obtain⟨rfl,U,l,d,c,v⟩:=M;ac_rfl
 by_cases B:i<f.length
 .obtain⟨N,turn⟩:=A8 r z A i l d u k c (λ_ s=>s) B v
  exact .inr #[N,_,λY a n=>#[f.length-(i+1),(),rfl,B,n],turn]
 .have e:f.drop i= []:=By ()
  rfl';rw[e] at v;obtain⟨O,x,dv⟩:=c.done p r;obtain⟨R,b,S,T,_⟩:=c;ac_rfl;exact .inl #[(A R k S T i).2.1 (),q _ v _ O k x dv]
def oO(f:X.calm=true)(c:bQ X scope)(h:c9 scope X.N src NC)(i:DI Z X tg iter wi)
  (j:∀d s H,DG Z (cH X scope NC d s H) tg g) (k:∀d s H,zU Z (cH X scope NC d s H) ifs tt) (l:∀d s H,DE Z (cH X scope NC d s H) elt te)
  (m:∀x,foldedSetIterable iter X.env x=pure x:=by intro _;rfl):DE Z X (.ListComp elt [#[tg,iter,ifs,0]] scope pos) (U0 wi g tt te src):=(Ph f c h i j k l m).imp Kk
variable {t0 i0 t1 i1:Expr} {f0 f1:List Expr} {ic:i6} {g1:eN} {eI:dE}
def OP:∀σ H Q,e8 Z (TC wi g tt ic g1 eI te src) σ H Q->Um (uW Z wi) (rR Z g) (liftT Z tt) (uW Z ic) (rR Z g1) (liftT Z eI) (e8 Z te) src σ H Q:=by
 intro σ H Q aO;rfl';obtain⟨G,ρ,P,s,en,h,q⟩:=aO;ac_rfl;refine#[G,ρ,_,s,en,h,λp hd J F u x1 it l hA=>?_];refine#[λi m fK I=>m=p.length-i/\i<=p.length/\∃w j,CS Z F u l w j fK I/\qT g tt ic g1 eI te (p.drop i) w j λout=>P (.lst out),#[_,rfl,fg _,_,[], .begin x1.sub hA ((en.mono x1.gg).src src),hd],?_];intro i m fK I iR;rfl';obtain⟨rfl,hi,w,j,c,hl⟩:=iR;ac_rfl
 by_cases c8:i<p.length
 .have c0:=c
  rfl';obtain⟨S,r,T,s2,s3,off,gA,rK,bw,Vk⟩:=c;obtain⟨go,_,yld⟩:=it S I T s2 i;ac_rfl;refine .inr #[go c8,λU L=>∃Y a,CS Z F u l Y a U L/\qT g tt ic g1 eI te (p.drop (i+1)) Y a λout=>P (.lst out),λU L n=>#[p.length-(i+1),(),rfl,c8,n],λx H3 y=>?_]
  rfl';obtain⟨G3,d,x3,Ob,dv⟩:=yld x H3 c8 y;rw[oS Ob] at hl;ac_rfl;refine#[G3,w,d,_,x3.sub,Vk.mono x3.gg,dv,hl,λt M gf wV=>?_];refine#[G3,t,_,x3.sub,wV,M,λb X G5 H5 x5=>?_];have A:=x3.trans x5;have Bf:∀{G N:Hp},Ext S I G N->G l=none:=λx=>x.off l (by rw[rK];exact λz=>nomatch z) gA
  have Gk:∀{G N:Hp},Ext S I G N->∀b,u b≠none->F b=none->G b=none:=λx b M h2=>x.off b (gO s3 M) (off b M h2);cases b with
  |false=>exact bX #[t,j,#[G5,r,T.trans A.gg,A.sub,s3.trans A.hh,Gk A,Bf A,A.hh _ _ rK,bw.mono A.gg,wV.mono x5.gg],by simpa using X]
  |true=>
   refine b8 #[G5,t,_,x5.sub,wV.mono x5.gg,(~~~X),λO hes J1 G6 H6 x6 OF=>?_]
   have x:=A.trans x6;have c6:CS Z G6 H6 l t j gf H6->True:=λ_=>trivial
   refine#[λk m uy B=>m=O.length-k/\k<=O.length/\∃(QB:DN)(EF:List D),(∃(G:Hp)(r:List V),ba G6 G/\ba G B/\ba u B/\(∀b,u b≠none->F b=none->G b=none)/\G l=none/\B l\(.lst r)/\DvAll Z G r EF/\dJ Z G uy QB)/\
    lcW g1 eI te (O.drop k) QB EF λw xM=>qT g tt ic g1 eI te (p.drop (i+1)) w xM λout=>P (.lst out),
    #[_,rfl,fg _,t,j,#[G6,r, .refl _,x.sub,s3.trans x.hh,Gk x,Bf x,x.hh _ _ rK,bw.mono x.gg,(wV.mono x5.gg).mono x6.gg],hes],?_]
   intro k m uy B iR;rfl';obtain⟨rfl,hk,QB,EF,⟨G7,Td,a1,a2,a3,a4,a5,a6,a7,a8⟩,Rp⟩:=iR;ac_rfl;have g16:ba F G6:=T.trans x.gg
   by_cases Oo:k<O.length
   .obtain⟨go1,_,aab⟩:=OF G7 B a1 a2 k
    refine .inr #[go1 Oo,λU L=>∃(Y:DN)(a:List D),(∃(G:Hp)(r:List V),ba G6 G/\ba G L/\ba u L/\(∀b,u b≠none->F b=none->G b=none)/\G l=none/\L l\(.lst r)/\DvAll Z G r a/\dJ Z G U Y)/\
     lcW g1 eI te (O.drop (k+1)) Y a λw xM=>qT g tt ic g1 eI te (p.drop (i+1)) w xM λout=>P (.lst out),λU L n=>#[O.length-(k+1),(),rfl,Oo,n],λy H8 hy=>?_]
    rfl';obtain⟨G8,d8,x8,hd8,Vg⟩:=aab y H8 Oo hy;rw[oS hd8] at Rp;ac_rfl;refine#[G8,QB,d8,_,x8.sub,a8.mono x8.gg,Vg,Rp,λTh h9 σ9 Q5=>?_];refine#[G8,Th,_,x8.sub,Q5,h9,λb X W6 QF Qy=>?_];have C:=x8.trans Qy;have oA:∀{G N:Hp},Ext G7 B G N->G l=none:=λx=>x.off l (by rw[a6];exact λz=>nomatch z) a5
    have oB:∀{G N:Hp},Ext G7 B G N->∀b,u b≠none->F b=none->G b=none:=λx b M h2=>x.off b (gO a3 M) (a4 b M h2);cases b with
    |false=>exact bX #[Th,EF,#[W6,Td,a1.trans C.gg,C.sub,a3.trans C.hh,oB C,oA C,C.hh _ _ a6,a7.mono C.gg,Q5.mono Qy.gg],by simpa using X]
    |true=>
     refine b8 #[W6,Th,_,Qy.sub,Q5.mono Qy.gg,(~~~X),λd' fq v G11 Us x11 XM=>?_]
     have E:=C.trans x11;refine#[Td,E.hh _ _ a6,by rw[a7.length];exact fq.1,Th,_,#[G11,Td++ [v],a1.trans E.gg,λb o e=>?_,λb o e=>?_,oB E,oA E,aw,(a7.mono E.gg).snoc XM,(Q5.mono Qy.gg).mono x11.gg],fq.2]
     .rw[aB (aF e (oA E))];exact E.sub _ _ e
     .rw[aB (aF e hA)];exact(a3.trans E.hh) _ _ e
   .have e:O.drop k= []:=By ()
    rw[e] at Rp;exact .inl #[(OF G7 B a1 a2 k).2.1 (),QB,EF,#[G7,Td,g16.trans a1,a2,a3,a4,a5,a6,a7,a8],Rp]
 .have e:p.drop i= []:=By ()
  rfl';rw[e] at hl;obtain⟨G',x,dv⟩:=c.done x1 hA;obtain⟨S,r,T,s2,_⟩:=c;ac_rfl;exact .inl #[(it S I T s2 i).2.1 (),q _ hl _ G' I x dv]
def QY(f:X.calm=true)(c:bQ X scope)(h:c9 scope X.N src NC)(i:DI Z X t0 i0 wi)
  (j:∀d s H,DG Z (cH X scope NC d s H) t0 g) (k:∀d s H,zU Z (cH X scope NC d s H) f0 tt) (wX:∀d s H,DI Z (cH X scope NC d s H) t1 i1 ic) (l:∀d s H,DG Z (cH X scope NC d s H) t1 g1)
  (m:∀d s H,zU Z (cH X scope NC d s H) f1 eI) (n:∀d s H,DE Z (cH X scope NC d s H) elt te)
  (o:∀x,foldedSetIterable i0 X.env x=pure x:=by intro _;rfl) (p:∀env x,foldedSetIterable i1 env x=pure x:=by intro _ _;rfl):
  DE Z X (.ListComp elt [#[t0,i0,f0,0],#[t1,i1,f1,0]] scope pos) (TC wi g tt ic g1 eI te src):=(Sh f c h i j k wX l m n o p).imp OP
end
inductive dX (R:V->D->List Addr->Prop):List V->List D->List Addr->Prop
 |nil:dX R [] [] []
 |cons {v:V} {vs:List V} {d:D} {ds:List D} {f fs:List Addr}:R v d f->dX R vs ds fs->dX R (v::vs) (d::ds) (f++fs)
def Y4:D->Bool
 | .lst _=>true
 |_=>false
def Own(Z:DC)(G H:Hp):Nat->V->D->List Addr->Prop
 |0,v,d,c=>Dv Z G v d/\c= []
 |n+1,v,d,c=>(∃a e g i,v= .ref a/\d= .lst g/\H a\(.lst e)/\c=a::i/\dX (Own Z G H n) e g i)\/(1<=n/\∃a e g,v= .ref a/\d= .tup g/\G a\(.tup e)/\dX (λv d f=>(Y4 d=true/\Own Z G H n v d f)\/(Y4 d=false/\Dv Z G v d/\f= [])) e g c)\/(∃a h,v= .ref a/\H a\(.ext h)/\c= [a]/\((n=98/\∃b j,d= .set b j/\h=gB b a j)\/(n=97/\∃k,d= .x k/\K1 G a h k)))
theorem Own.lst{Z:DC}{G H:Hp}{n:Nat}{v:V}{c:List D}{f:List Addr}(o:Own Z G H (n+1) v (.lst c) f):∃a d g h,v= .ref a/\D.lst c= .lst g/\H a\(.lst d)/\f=a::h/\dX (Own Z G H n) d g h:=by
 rcases o with o| ⟨_,a,d,c,_,e,_⟩ | ⟨a,i,_,_,_,⟨_,b,j,e,_⟩ | ⟨_,k,e,_⟩⟩
 .exact o
 .cases e
 .cases e
 .cases e
def Own.Uk{b:Bool}(o:Own Z G H 99 v (.set b c) d):∃a,v= .ref a/\H a\(.ext (gB b a c))/\d= [a]:=by
 rcases o with ⟨_,_,_,_,_,e,_⟩ | ⟨_,a,j,l,_,e,_⟩ | ⟨a,m,f,g,h,⟨_,b,c,e,i⟩ | ⟨_,k,e,_⟩⟩
 .cases e
 .cases e
 .cases e;subst i;exact#[a,f,g,h]
 .cases e
def Own.xA(o:Own Z G H 98 v (.x k) d):∃a c,v= .ref a/\H a\(.ext c)/\d= [a]/\K1 G a c k:=by
 rcases o with ⟨_,_,_,_,_,e,_⟩ | ⟨_,a,j,l,_,e,_⟩ | ⟨a,c,f,g,h,⟨_,b,m,e,n⟩ | ⟨_,k,e,i⟩⟩
 .cases e
 .cases e
 .cases e
 .cases e;exact#[a,c,f,g,h,i]
def Own.one{d:D}(o:Own Z G H 1 v d b):∃a c e f,v= .ref a/\d= .lst e/\H a\(.lst c)/\b=a::f/\dX (Own Z G H 0) c e f:=by
 rcases o with o| ⟨z,_⟩ | ⟨_,_,_,_,_,⟨z,_⟩ | ⟨z,_⟩⟩
 .exact o
 .exact absurd z ∅
 .exact absurd z ∅
 .exact absurd z ∅
def dX.imp{i:List V}(o:dX R i j c)(h:∀v d f,(∀b∈f,b∈c)->R v d f->g v d f):dX g i j c:=by
 induction o with
 |nil=>exact .nil
 |cons a _ k=>exact .cons (h _ _ _ (λb e=>fZ _ e) a) (k λv d f l r=>h v d f (λb e=>dP _ (l b e)) r)
theorem dX.length(o:dX R a b c):a.length=b.length:=by
 induction o with
 |nil=>rfl
 |cons _ _ d=>exact KF (·+1) d
section
variable {Z:DC} {G G' H H':Hp}
def Own.keep:∀{v:V}{d:D}{g:List Addr},Own Z G H n v d g->ba G G'->(∀b∈g,H' b=H b)->Own Z G' H' n v d g:=by
 induction n with
 |zero=>exact λh s _=>#[h.1.mono s,h.2]
 |succ n u=>
  intro v d g h s k
  rcases h with ⟨a,j,l,w,c,m,e,i,o⟩ | ⟨p,a,j,l,c,m,e,o⟩ | ⟨a,x,c,e,i,y⟩
  .subst i
   exact .inl #[a,j,l,w,c,m,by rw[k a (dH ..)];exact e,rfl,o.imp λv d f t r=>u r s λb q=>k b (eM _ (t b q))]
  .exact .inr (.inl #[p,a,j,l,c,m,s _ _ e,o.imp λv d f t r=>r.imp (λr=>#[r.1,u r.2 s λb q=>k b (t b q)]) λr=>#[r.1,r.2.1.mono s,r.2.2]])
  .exact .inr (.inr #[a,x,c,by rw[k a (by rw[i];exact dH ..)];exact e,i,y.imp id λ#[p,k,z,A]=>#[p,k,z,A.mono s]])
def dX.TL(o:dX R e g h)(k:∀v d f,(∀b∈f,b∈h)->R v d f->Dv Z G' v d):DvAll Z G' e g:=by
 induction o with
 |nil=>exact .nil
 |cons a _ i=>exact .cons (k _ _ _ (λb c=>fZ _ c) a) (i λv d f j r=>k v d f (λb c=>dP _ (j b c)) r)
def Own.TK(o:HO->Prop)(y:∀j,o (.lst j))(t:∀u,o (.ext u)):∀{v:V}{d:D}{l:List Addr},Own Z G H n v d l->ba G G'->(∀b∈l,∀x,o x->H b\x->G' b\x)->Dv Z G' v d:=by
 induction n with
 |zero=>exact λh s _=>h.1.mono s
 |succ n w=>
  intro v d l h s k
  rcases h with ⟨a,j,z,B,i,c,g,e,m⟩ | ⟨_,a,j,z,i,c,g,m⟩ | ⟨a,u,i,g,e,A⟩
  .subst e i c
   exact .lst (k a (dH ..) _ (y _) g) (m.TL λv d f e r=>w r s λb p=>k b (eM _ (e b p)))
  .subst i c
   exact .tup (s _ _ g) (m.TL λv d f e r=>r.elim (λr=>w r.2 s λb p=>k b (e b p)) λr=>r.2.1.mono s)
  .subst i e
   rcases A with ⟨_,b,C,c,q⟩ | ⟨_,E,c,q⟩
   .subst c q
    exact .set (k a (dH ..) _ (t _) g)
   .subst c
    exact .x (k a (dH ..) _ (t _) g) (q.mono s)
def Own.dv{v:V}{d:D}(h:Own Z G H n v d a)(s:ba G G')(k:∀b∈a,∀o,H b\o->G' b\o):Dv Z G' v d:=h.TK (λ_=>True) (λ_=>trivial) (λ_=>trivial) s λb c x _ e=>k b c x e
def dX.flat(o:dX (Own Z G H 0) b c d):DvAll Z G b c/\d= []:=by
 induction o with
 |nil=>exact#[.nil,rfl]
 |cons a _ e=>exact#[.cons a.1 e.1,by rw[a.2,e.2];rfl]
def DvAll.own(h:DvAll Z G c d):dX (Own Z G H 0) c d []:=h.ind (p:=λc d=>dX (Own Z G H 0) c d []) .nil λa _ b=> .cons (f:= []) (fs:= []) #[a,rfl] b
def Dv.flat{v:V}{d:D}(h:Dv Z G v d)(f:di d=true):Dv Z G' v d:=by
 cases h with
 |bo=>exact .bo
 |bl b=>exact .bl b
 |int i=>exact .int i
 |str x k=>exact .str x k
 |_=>cases f
end
mutual
def lJ:D->Bool
 | .bo=>true
 | .bl _=>true
 | .int _=>true
 | .str _=>true
 | .tup l=>pC l
 |_=>false
def pC:List D->Bool
 | []=>true
 |d::ds=>lJ d&&pC ds
end
theorem Dv.lJ(k:∀b g,G b\(.tup g)->e b\(.tup g))(h:Dv Z G v d):L2.lJ d=true->Dv Z e v d:=by
 have c:∀{p:Prop}{d:D},L2.lJ d=false->L2.lJ d=true->p:=λa b=>by rw[a] at b;cases b
 refine Dv.rec (motive_1:=λv d _=>L2.lJ d=true->Dv Z e v d) (motive_2:=λl j _=>pC j=true->DvAll Z e l j) (λ_=> .bo) (λb _=> .bl b) (λi _=> .int i) (λx h _=> .str x h) (λ_ _ _=>c (by rw[L2.lJ]<;>simp)) (λh _ m f=> .tup (k _ _ h) (m (by rw[L2.lJ] at f;exact f))) (λ_=>c (by rw[L2.lJ]<;>simp)) (λ_=>c (by rw[L2.lJ]<;>simp)) (λ_ _=>c (by rw[L2.lJ]<;>simp)) (λ_ _ _ _ _ _=>c (by rw[L2.lJ]<;>simp)) (λ_=>c (by rw[L2.lJ]<;>simp)) (λ_ _=>c (by rw[L2.lJ]<;>simp)) (λ_ _ _ _=>c (by rw[L2.lJ]<;>simp)) (λ_=> .nil) (λ_ _ n o f=>?_) h
 rw[pC,uu] at f;exact .cons (n f.1) (o f.2)
theorem DvAll.lJ(k:∀b g,G b\(.tup g)->e b\(.tup g))(h:DvAll Z G d c):pC c=true->DvAll Z e d c:=by
 refine h.ind (p:=λd c=>pC c=true->DvAll Z e d c) (λ_=> .nil) λa _ i f=>?_;rw[pC,uu] at f;exact .cons (a.lJ k f.1) (i f.2)
def Pa:HO->Bool
 | .lst _=>true
 | .ext _=>true
 |_=>false
def Own.dvL(h:Own Z G H n v d c)(s:ba G a)(k:∀b∈c,∀o,Pa o=true->H b\o->a b\o):Dv Z a v d:=h.TK (λo=>Pa o=true) (λ_=>rfl) (λ_=>rfl) s k
structure Bs where
 G₀:Hp
 H₀:Hp
 Gf:Hp
structure SIx (Z:DC) (B:Bs) (md:List Nat) (ρ:DN) (σ:St) (H G:Hp) (fp:Nat->List Addr):Prop where
 ex:Ext B.G₀ B.H₀ G H
 fl:ba B.Gf G
 len:ρ.length=σ.length
 at_:∀(i:Nat)(d:D),ρ[i]?\(some d)->∃v,σ[i]?\(some v)/\Own Z G H (md.getD i 0) v d (fp i)
 nd:∀i,(fp i).Nodup
 ap:∀i j b,i≠j->b∈fp i->b∉fp j
 nw:∀i b,b∈fp i->B.H₀ b=none/\H b≠none/\G b=none
def SI(Z:DC)(B:Bs)(a:List Nat)(b:DN)(c:St)(H:Hp):Prop:=∃G d,SIx Z B a b c H G d
def cP:List Nat->DN->DN
 |_,[]=> []
 | [],o::a=>o::a
 |0::b,o::a=>o::cP b a
 | (_+1)::b,_::a=>none::cP b a
theorem rZ:∀(a:List Nat)(b:DN),(cP a b).length=b.length
 |a,[]=>by cases a<;>rfl
 | [],o::b=>rfl
 |0::a,o::b=>by rw[cP,cx,rZ a b,cx]
 | (_+1)::a,_::b=>by rw[cP,cx,rZ a b,cx]
theorem vf:∀(c:List Nat)(e:DN)(i:Nat),(cP c e)[i]?\(some d)->c.getD i 0=0/\e[i]?\(some d)
 |c,[],i,h=>by cases c<;>simp[cP] at h
 | [],o::e,i,h=>#[by simp,h]
 |0::c,o::e,0,h=>#[rfl,by simpa [cP] using h]
 |0::c,o::e,i+1,h=>by
  rw[cP,wD] at h;obtain⟨a,b⟩:=vf c e i h;exact#[by rw[List.getD_cons_succ];exact a,by rw[wD];exact b]
 | (_+1)::c,_::e,0,h=>by simp[cP] at h
 | (_+1)::c,_::e,i+1,h=>by
  rw[cP,wD] at h;obtain⟨a,b⟩:=vf c e i h;exact#[by rw[List.getD_cons_succ];exact a,by rw[wD];exact b]
def vo(b:List Nat):Bool->DN->DN
 |true,a=>a
 |false,a=>cP b a
def xq:Bool->D->Prop
 |true,d=>lJ d=true
 |false,_=>True
section
variable {Z:DC} {B:Bs} {md:List Nat} {ρ:DN} {σ:St} {H G:Hp} {fp:Nat->List Addr}
def Jl(h:(cP md ρ)[i]?\(some d)):md.getD i 0=0/\ρ[i]?\(some d):=vf md ρ i h
def SIx.yo(S:SIx Z B md ρ σ H G fp):dJ Z G σ (cP md ρ):=by
 refine#[by rw[rZ];exact S.len,λi d h=>?_]
 obtain⟨z,h⟩:=Jl h;obtain⟨v,a,o⟩:=S.at_ i d h;rw[z] at o;exact#[v,a,o.1]
def SIx.sX(S:SIx Z B md ρ σ H G fp):dJ Z H σ ρ:=by
 refine#[S.len,λi d h=>?_];obtain⟨v,a,o⟩:=S.at_ i d h;exact#[v,a,o.dv S.ex.sub λb _ u e=>e]
theorem SIx.grow{c f:Hp}(S:SIx Z B md ρ σ H G fp)(x:Ext G H c f):SIx Z B md ρ σ f c fp where
 ex:=S.ex.trans x
 fl:=S.fl.trans x.gg
 len:=S.len
 at_:=λi d h=>by
  obtain⟨v,j,o⟩:=S.at_ i d h;refine#[v,j,o.keep x.gg λb a=>?_];cases e:H b with
  |none=>exact absurd e (S.nw i b a).2.1
  |some u=>exact x.hh _ _ e
 nd:=S.nd
 ap:=S.ap
 nw:=λi b a=>let #[k,g,l]:=S.nw i b a;#[k,gO x.hh g,x.off b g l]
def Ext.all(s:ba G H)(x:Ext H H b a):Ext G H G a:=#[.refl _,s.trans x.hh,x.hh,λ_ _ h=>h]
open Classical in
noncomputable def jf(G H:Hp)(fp:Nat->List Addr):Hp:=λb=>if ∃i,b∈fp i then(match H b with|some (.lst xs)=>some (.lst xs) |some (.ext φ)=>some (.ext φ) |_=>none) else G b
open Classical in
noncomputable def rQ(G:Hp)(fp:Nat->List Addr):Hp:=λb=>if ∃i,b∈fp i then none else G b
def MB(i:Nat)(h:b∈fp i)(a:Pa o=true)(e:H b\o):jf G H fp b\o:=by
 unfold jf;rw[AC #[i,h],e];cases o<;>first|rfl|cases a
def so(h:¬∃i,b∈fp i):jf G H fp b=G b:=tz h
def SIx.NG(S:SIx Z B md ρ σ H G fp):ba G (jf G H fp)/\ba (jf G H fp) H/\dJ Z (jf G H fp) σ ρ:=by
 have c:ba G (jf G H fp):=λb o e=>by
  by_cases h:∃i,b∈fp i
  .obtain⟨i,f⟩:=h
   rw[(S.nw i b f).2.2] at e;cases e
  .rw[so h];exact e
 refine#[c,λb o e=>?_,S.len,λi d h=>?_]
 .by_cases h:∃i,b∈fp i
  .unfold jf at e
   rw[AC h] at e
   split at e
   .next l a=>rw[a];exact e
   .next m a=>rw[a];exact e
   .cases e
  .rw[so h] at e;exact S.ex.sub _ _ e
 .obtain⟨v,g,o⟩:=S.at_ i d h
  exact#[v,g,o.dvL c λb j u k a=>MB i j k a]
def SIx.Ud(S:SIx Z B md ρ σ H G fp)(x:Ext (jf G H fp) H a g):Ext G H (rQ a fp) g/\∀b d,a b\(.tup d)->rQ a fp b\(.tup d):=by
 obtain⟨j,l,_⟩:=S.NG;refine#[#[λb o e=>?_,λb o e=>?_,x.hh,λb f k=>?_],λb d e=>?_]
 .have h:¬∃i,b∈fp i:=by
   rintro⟨i,c⟩;rw[(S.nw i b c).2.2] at e;cases e
  unfold rQ;rw[tz h];exact x.gg _ _ (j _ _ e)
 .unfold rQ at e
  split at e
  .cases e
  .exact x.sub _ _ e
 .unfold rQ
  split
  .rfl
  .next h=>exact x.off b f (by rw[so h];exact k)
 .have h:¬∃i,b∈fp i:=by
   rintro⟨i,c⟩;have f:=(S.nw i b c).2.1;cases hw:jf G H fp b with
   |none=>rw[x.off b f hw] at e;cases e
   |some o=>
    have:=x.gg _ _ hw
    rw[e] at this;cases FM this;unfold jf at hw;rw[AC #[i,c]] at hw
    split at hw<;>cases hw
  unfold rQ;rw[tz h];exact e
theorem SIx.ev(S:SIx Z B md ρ σ H G fp)(m:Bool)(h:t (vo md m ρ) P)
  (f:∀d,P d->xq m d/\∀v b a,SIx Z B md ρ σ a b fp->Ext G H b a->Dv Z b v d->Q v a):e8 Z t σ H Q:=by
 cases m with
 |false=>exact#[G,_,P,S.ex.sub,S.yo,h,λd c v b a x dv=>(f d c).2 v b a (S.grow x) x dv]
 |true=>
  obtain⟨j,i,e⟩:=S.NG;refine#[jf G H fp,_,P,i,e,h,λd c v b a x dv=>?_];obtain⟨g,k⟩:=S.Ud x;exact(f d c).2 v _ a (S.grow g) g (dv.lJ k (f d c).1)
def SIx.XX(S:SIx Z B md ρ σ H G fp)(h:t ρ P)(c:∀b,P b->∀a,SIx Z B md ρ σ a G fp->Q b a):liftT Z t σ H Q:=
 #[H,ρ,P, .refl _,S.sX,h,λb d e a x=>c b d a (S.grow (Ext.all S.ex.sub x))]
def SIx.lA{i:Nat}{v:V}{d:D}(S:SIx Z B md ρ σ H G fp)(l:md.getD i 0=0)(dv:Dv Z G v d):SIx Z B md (ρ.set i (some d)) (σ.set i (some v)) H G (λj=>if j=i then[] else fp j) where
 ex:=S.ex
 fl:=S.fl
 len:=by rw[gb,gb];exact S.len
 at_:=λj c h=>by
  by_cases z:i=j
  .subst z
   by_cases a:i<ρ.length
   .rw[iS a] at h
    cases FM h;exact#[v,iS (by rw[<-S.len];exact a),by rw[l,AC rfl];exact#[dv,rfl]]
   .rw[Bx (iU a),gQ (iU a)] at h;cases h
  .rw[f7 z] at h ⊢
   rw[tz (Ne.symm z)];exact S.at_ j c h
 nd:=λj=>by split;exact gd;exact S.nd j
 ap:=λj k b ne e f=>by
  split at e
  .cases e
  .split at f
   .cases f
   .exact S.ap j k b ne e f
 nw:=λj b g=>by
  split at g
  .cases g
  .exact S.nw j b g
def SIx.uc{f:List Addr}(S:SIx Z B md ρ σ H G fp)(m:md.getD i 0=n)(o:Own Z G H n v d f)(nd:f.Nodup)(nw:∀b∈f,B.H₀ b=none/\H b≠none/\G b=none)(ap:∀b∈f,∀j,j≠i->b∉fp j):
  SIx Z B md (ρ.set i (some d)) (σ.set i (some v)) H G (λj=>if j=i then f else fp j) where
 ex:=S.ex
 fl:=S.fl
 len:=by rw[gb,gb];exact S.len
 at_:=λj c h=>by
  by_cases z:i=j
  .subst z
   by_cases e:i<ρ.length
   .rw[iS e] at h
    cases FM h;exact#[v,iS (by rw[<-S.len];exact e),by rw[m,AC rfl];exact o]
   .rw[Bx (iU e),gQ (iU e)] at h;cases h
  .rw[f7 z] at h ⊢
   rw[tz (Ne.symm z)];exact S.at_ j c h
 nd:=λj=>by split;exact nd;exact S.nd j
 ap:=λj k b ne g a=>by
  split at g
  .next z=>
   rw[tz (λw=>ne (z.trans w.symm))] at a;exact ap b g k (λw=>ne (z.trans w.symm)) a
  .next z=>
   split at a
   .exact ap b a j z g
   .exact S.ap j k b ne g a
 nw:=λj b l=>by
  split at l
  .exact nw b l
  .exact S.nw j b l
noncomputable def plus(G H:Hp)(F:Addr->Prop):Hp:=λb=>open Classical in if F b then H b else G b
def mE(h:F b):plus G H F b=H b:=by unfold plus;rw[AC h]
def je(h:¬F b):plus G H F b=G b:=by unfold plus;rw[tz h]
def kc(s:ba G H):ba (plus G H F) H:=λb o e=>by
 by_cases h:F b
 .rw[mE h] at e;exact e
 .rw[je h] at e;exact s _ _ e
def fH(s:ba G H):ba G (plus G H F):=λb o e=>by
 by_cases h:F b
 .rw[mE h];exact s _ _ e
 .rw[je h];exact e
def SIx.evR(S:SIx Z B md ρ σ H G fp)(h:t ρ P)(g:∀d,P d->∀v a c,Ext B.G₀ B.H₀ a c->Dv Z a v d->Q v c):e8 Z t σ H Q:=by
 let F:Addr->Prop:=λb=>∃i,b∈fp i
 have s:=S.ex.sub
 have j:Ext B.G₀ B.H₀ (plus G H F) H:=#[S.ex.gg.trans (fH s),kc s,S.ex.hh,λb f k=>by
  rw[je (λ#[i,l]=>f (S.nw i b l).1)];exact S.ex.off b f k]
 refine#[plus G H F,ρ,P,kc s,#[S.len,λi d h=>?_],h,λd m v a c x dv=>g d m v a c (j.trans x) dv];obtain⟨v,n,o⟩:=S.at_ i d h;exact#[v,n,o.dv (fH s) λb f u e=>by rw[mE #[i,f]];exact e]
end
structure cG where
 nx:DN->Prop
 rt:D->Prop
 bk:DN->Prop:=λ_=>False
 ct:DN->Prop:=λ_=>False
 xc:DN->D->Prop:=λ_ _=>False
abbrev b6:=cG->DN->Prop
structure Meets (Z:DC) (X:Cx) (B:Bs) (md:List Nat) (rn:Nat) (E:cG) (Dn:Ends):Prop where
 nx:∀ρ,E.nx ρ->∀σ H,SI Z B md ρ σ H->Dn.nx σ H
 rt:∀d,E.rt d->∀v f G' H',Ext B.G₀ B.H₀ G' H'->Own Z G' H' rn v d f->f.Nodup->(∀b∈f,B.H₀ b=none/\H' b≠none/\G' b=none)->Dn.rt v H'
 bk:∀ρ,E.bk ρ->∀σ H,SI Z B md ρ σ H->Dn.bk σ H
 ct:∀ρ,E.ct ρ->∀σ H,SI Z B md ρ σ H->Dn.ct σ H
 xc:∀ρ d,E.xc ρ d->∀σ H G fp a,SIx Z B md ρ σ H G fp->Dv Z G (.ref a) d->JS X σ H a
def mW(Z:DC)(X:Cx)(a:List Nat)(c:Nat)(t:b6):TS:=λd e H=>∃(B:Bs)(b:DN)(E:cG),SI Z B a b e H/\t E b/\Meets Z X B a c E d
def DSt(Z:DC)(X:Cx)(a:List Nat)(b:Nat)(st:Stmt)(t:b6):Prop:=PS X st (mW Z X a b t)
def DSs(Z:DC)(X:Cx)(a:List Nat)(b:Nat)(c:List Stmt)(t:b6):Prop:=jU X c (mW Z X a b t)
def PS.imp{X:Cx}{st:Stmt}{t c:TS}(h:PS X st t)(f:∀D b H,c D b H->t D b H):PS X st c:=λa s b H D I q=>h a s b H D I (f _ _ _ q)
def jU.imp{X:Cx}{st:List Stmt}{t c:TS}(h:jU X st t)(f:∀D b H,c D b H->t D b H):jU X st c:=λa s b H D I q=>h a s b H D I (f _ _ _ q)
section
variable {Z:DC} {X:Cx} {md:List Nat} {rn:Nat} {st:Stmt} {GV:List Stmt} {t u:b6} {e:Expr} {te:bh} {pos:Pos}
def uH:b6:=λE a=>E.nx a
def dSeq(t u:b6):b6:=λE a=>t {E with nx:=u E} a
def aI:DSs Z X md rn [] uH:=by
 refine GA.imp λD b H a=>?_;obtain⟨B,c,E,S,h,M⟩:=a;exact M.nx _ h _ _ S
def af(a:DSt Z X md rn st t)(b:DSs Z X md rn GV u):DSs Z X md rn (st::GV) (dSeq t u):=by
 refine(eB a b).imp λD k H c=>?_;rfl';obtain⟨B,f,E,S,h,M⟩:=c;ac_rfl;exact#[B,f,_,S,h,#[λg i m n j=>#[B,g,E,j,i,M],M.rt,M.bk,M.ct,M.xc]]
def aq(a:DSt Z X md rn st t):DSs Z X md rn [st] t:=pO a
def qu:DSt Z X md rn st (λ_ _=>False):=by
 refine Mf.imp λD b H a=>?_;obtain⟨B,c,E,S,h,M⟩:=a;exact h
def TH(a:bh):b6:=λE b=>a b E.rt
def aM(a:DE Z X e te):DSt Z X md 0 (.Return (some e) pos) (TH te):=by
 refine(DY a).imp λD l H c=>?_;rfl';obtain⟨B,n,E,⟨G,o,S⟩,h,M⟩:=c;ac_rfl;exact S.evR h λd g v i j x dv=>M.rt d g v [] i j x #[dv,rfl] gd (λb k=>by cases k)
def U7(i:Nat):b6:=λE a=>∃d,a[i]?\(some d)/\E.rt d
def Fd(i:Nat)(f:md.getD i 0=rn:=by rfl)(g:X.N[i]?\x:=by rfl)(a:l5 X.env.scope x:=by subst_eqs)(b:(x==("__debug__":Str))=false:=by decide)(j:(x==("__classdict__":Str))=false:=by decide):
  DSt Z X md rn (.Return (some (.Name x c)) pos) (U7 i):=by
 refine(DY (DS g a b j)).imp λD n H k=>?_;rfl';obtain⟨B,q,E,⟨G,m,S⟩,⟨d,b,h⟩,M⟩:=k;obtain⟨v,a,o⟩:=S.at_ i d b;rw[f] at o;ac_rfl;exact#[v,a,M.rt d h v (m i) G H S.ex o (S.nd i) (S.nw i)]
def AD(c:dE)(t u:b6):b6:=λE a=>c a λb=>if b=true then t E a else u E a
def br(j:DT Z X c tc)(k:DSs Z X md rn a t)(d:DSs Z X md rn b u):DSt Z X md rn (.If c a b pos) (AD tc t u):=by
 refine(Pt j k d).imp ?_;intro D n H l;rfl';obtain⟨B,f,E,⟨G,g,S⟩,h,M⟩:=l;ac_rfl;refine S.XX h λb d p i=>?_;cases b with
 |true=>exact b8 #[B,f,E,#[G,g,i],(d),M]
 |false=>exact bX #[B,f,E,#[G,g,i],(d),M]
def E6(b:List Nat)(m:Bool)(i:Nat)(c:bh):b6:=λE a=>c (vo b m a) λd=>xq m d/\E.nx (a.set i (some d))
def aP(m:Bool)(i:Nat)(g:X.N.Nodup)(j:DE Z X e k)(l:c.getD i 0=0:=by rfl)(n:X.N[i]?\x:=by rfl)(o:Loc X.env.scope x:=by subst_eqs)(p:swapsWith e (some (.Name x a)) b.line X.env=pure false:=by rfl)
  (q:X.fn x=true\/X.env.scope.names.lookup x\.local:=by subst_eqs):DSt Z X c z (.Assign [.Name x a] e b) (E6 c m i k):=by
 refine(gT g n o j p q).imp ?_;intro D A H r;rfl';obtain⟨B,F,E,⟨G,I,S⟩,h,M⟩:=r;ac_rfl;exact S.ev m h λd f=>#[f.1,λv w J y x dv=>M.nx _ f.2 _ _ #[w,_,y.lA l dv]]
def jb(i:Nat){NC:List Str}{src:List (Option Nat)}(q:X.calm=true)(r:X.N.Nodup)(c:bQ X a)(w:c9 a X.N src NC)(y:DI Z X k iter n)
  (z:∀j s H,DG Z (cH X a NC j s H) k g) (A:∀j s H,zU Z (cH X a NC j s H) f o) (C:∀j s H,DE Z (cH X a NC j s H) b te)
  (F:swapsWith (.ListComp b [#[k,iter,f,0]] a pos) (some (.Name x l)) m.line X.env=pure true:=by rfl) (I:md.getD i 0=0:=by rfl) (J:X.N[i]?\x:=by rfl) (L:Loc X.env.scope x:=by subst_eqs)
  (O:X.fn x=true\/X.env.scope.names.lookup x\.local:=by subst_eqs)
  (P:∀x,foldedSetIterable iter X.env x=pure x:=by intro _;rfl):DSt Z X md rn (.Assign [.Name x l] (.ListComp b [#[k,iter,f,0]] a pos) m) (E6 md false i (U0 n g o te src)):=by
 refine(mF q r J L c w y z A C F O P).imp ?_;intro D Q H R;rfl';obtain⟨B,t,E,⟨G,u,S⟩,h,M⟩:=R;ac_rfl;refine Kk Q H _ (S.ev false h λd p=>#[p.1,λv U H' Y x dv=>M.nx _ p.2 _ _ #[U,_,Y.lA I dv]])
end
end L2
namespace L2
open PySem PySem.Spec PyProof.Rows
section
variable {Z:DC} {X:Cx} {B:Bs} {md:List Nat} {rn:Nat} {ρ:DN} {σ:St} {H G:Hp} {fp:Nat->List Addr}
def Kj(Z:DC)(a:List Nat)(g:eN):TG:=λv f H Q=>∃(B:Bs)(b:DN)(d:D)(P:DN->Prop)(G:Hp)(h:Nat->List Addr),SIx Z B a b f H G h/\Dv Z G v d/\g d b P/\∀c,P c->∀e i,SIx Z B a c e H G i->Q e H
def OO(Z:DC)(a:List Nat)(g:nJ):zW:=λf h H Q=>∃(B:Bs)(b:DN)(c:List D)(P:DN->Prop)(G:Hp)(i:Nat->List Addr),SIx Z B a b h H G i/\DvAll Z G f c/\g c b P/\∀d,P d->∀e j,SIx Z B a d e H G j->Q e H
def KW(Z:DC)(X:Cx)(a:List Nat)(e:Expr)(g:eN):Prop:=PG X e (Kj Z a g)
def JQ(Z:DC)(X:Cx)(a:List Nat)(b:List Expr)(g:nJ):Prop:=BM X b (OO Z a g)
def aN(i:Nat)(b:X.N.Nodup)(c:e.getD i 0=0:=by rfl)(f:X.N[i]?\x:=by rfl)(g:Loc X.env.scope x:=by subst_eqs)(j:X.fn x=true\/X.env.scope.names.lookup x\.local:=by subst_eqs):KW Z X e (.Name x a) (sV i):=by
 refine(Gv b f g j).imp λv m H Q k=>?_;rfl';obtain⟨B,o,d,P,G,p,S,dv,h,q⟩:=k;ac_rfl;exact q _ h _ _ (S.lA c dv)
def d6:JQ Z X md [] Nm:=by
 refine zf.imp λv c H Q a=>?_;rfl';obtain⟨B,e,f,P,G,g,S,dv,⟨h,p⟩,q⟩:=a;subst h;cases dv;ac_rfl;exact#[rfl,q _ p _ _ S]
def bA(d:KW Z X md e g)(f:JQ Z X md b c)(i:(assignEach (e::b) X.env).map (·.2)=assign e X.env::(assignEach b X.env).map (·.2):=by rfl):JQ Z X md (e::b) (J0 g c):=by
 refine(qF d f i).imp ?_;intro v s H Q j;rfl';obtain⟨B,l,u,P,G,m,S,dv,h,q⟩:=j;ac_rfl;cases dv with
 |nil=>exact h.elim
 |cons a as=>exact#[_,_,rfl,B,l,_,_,G,m,S,a,h,λn o w p r=>#[B,n,_,P,G,p,r,as,o,q]]
def gS(n:Nat)(f:X.calm=true)(h:JQ Z X md b e)(g:(assignEach b X.env).length=n:=by rfl)(i:(assignEach b X.env).findIdx? (·.1)=none:=by rfl):KW Z X md (.Tuple b k c) (Np n e):=by
 refine(DU f h g i).imp ?_;rintro v p H Q ⟨B,j,d,P,G,l,S,dv,h,q⟩;cases dv<;>first|exact h.elim|skip
 rename_i a m r o b
 exact#[a,m,rfl,gj.of (S.ex.sub _ _ o),by rw[b.length];exact h.1,B,j,_,P,G,l,S,b,h.2,q]
def Xl(b:List Nat)(c:bh)(g:eN):b6:=λE a=>c (cP b a) λd=>g d a E.nx
def qs(i:DE Z X e c)(j:KW Z X md a g)(k:swapsWithSole [a] e b.line X.env=pure false:=by rfl)(hw:swappedStores [a] e X.env=pure none:=by rfl)
  (l:(assignEach [a] X.env).map (·.2)= [assign a X.env]:=by rfl):DSt Z X md rn (.Assign [a] e b) (Xl md c g):=by
 refine(xC i j k hw l).imp ?_;intro D w H m;rfl';obtain⟨B,o,E,⟨G,p,S⟩,h,M⟩:=m;ac_rfl;exact S.ev false h λd q=>#[trivial,λv f z r x dv=>#[B,o,d,E.nx,f,p,r,dv,q,λA s C t u=>M.nx _ s _ _ #[f,t,u]]]
def mj(g:eN)(a:b6)(E:cG):List D->DN->Prop
 | [],b=>E.nx b
 |x::c,b=>g x b λd=>a {nx:=mj g a E c,ct:=mj g a E c,bk:=E.nx,rt:=E.rt,xc:=E.xc} d
def Tz(b:List Nat)(m:Bool)(c:i6)(g:eN)(d:b6):b6:=λE a=>c (vo b m a) λe=>mj g d E e a
def AV(S:SIx Z B md h c H G fp)(O:xI Z G J k)(P:mj g r E k h)(M:Meets Z X B md rn E q):
  ∃W:Nat->Nat->St->Hp->Prop,(∃m,W 0 m c H)/\∀i m c H,W i m c H->
   (J.stop i H/\q.nx c H)\/(J.go i H/\∃N:St->Hp->Prop,(∀j a,N j a->∃F,F<m/\W (i+1) F j a)/\∀x a,J.yld i H x a->Kj Z md g x c a λI v=>mW Z X md rn r {q with nx:=N,ct:=N,bk:=q.nx} I v):=by
 let p:Bs:={B with Gf:=G}
 have back:∀h c H,SI Z p md h c H->SI Z B md h c H:=λh c H #[s,t,f]=>#[s,t,#[f.ex,S.fl.trans f.fl,f.len,f.at_,f.nd,f.ap,f.nw]];have Q:SIx Z p md h c H G fp:=#[S.ex, .refl _,S.len,S.at_,S.nd,S.ap,S.nw];refine#[λi m c H=>m=k.length-i/\i<=k.length/\∃h,SI Z p md h c H/\mj g r E (k.drop i) h,#[_,rfl,fg _,h,#[G,fp,Q],P],?_];intro i m I v R;rfl';obtain⟨rfl,hi,U,⟨s,t,f⟩,u⟩:=R;obtain⟨Y,stop,yld⟩:=O s v f.fl f.ex.sub i;ac_rfl
 by_cases z:i<k.length
 .refine .inr #[Y z,λj a=>∃l,SI Z p md l j a/\mj g r E (k.drop (i+1)) l,λj a n=>#[k.length-(i+1),(),rfl,z,n],λx a y=>?_]
  rfl';obtain⟨L,d,x3,Ob,dv⟩:=yld x a z y;rw[oS Ob] at u;ac_rfl;refine#[p,U,d,_,L,t,f.grow x3,dv,u,λA h4 gf C S4=>?_];exact#[p,A,_,#[L,C,S4],h4,#[λl o j a b=>#[l,b,o],M.rt,λl o j a b=>M.nx _ o _ _ (back _ _ _ b),λl o j a b=>#[l,b,o],λl d o j a G' rG a' b jJ=>M.xc l d o j a G' rG a' #[b.ex,S.fl.trans b.fl,b.len,b.at_,b.nd,b.ap,b.nw] jJ]]
 .have e:k.drop i= []:=By ()
  rw[e] at u;exact .inl #[stop (),M.nx _ u _ _ (back _ _ _ #[s,t,f])]
variable {tg iter:Expr} {body:List Stmt} {wi:i6} {g:eN} {tb:b6} {pos:Pos}
def dh(a:X.calm=true)(b:PassesOwn (model X.prog X.w) X.A X.env X.xe)(c:DI Z X tg iter wi)(d:KW Z X md tg g)(e:DSs Z X md rn body tb)
  (f:∀x,foldedSetIterable iter X.env x=pure x:=by intro _;rfl):DSt Z X md rn (.For tg iter body [] pos) (Tz md false wi g tb):=by
 refine(Kx b a c d e f).imp ?_;intro D n H i;rfl';obtain⟨B,p,E,⟨G,q,S⟩,h,M⟩:=i;ac_rfl;exact#[G,_,_,S.ex.sub,S.yo,h,λr k J s t l m=>AV (S.grow l) m k M]
def RN(Z:DC)(d:i6):TI:=λe H R=>∃(G:Hp)(a:DN)(P:List D->Prop),ba G H/\dJ Z G e a/\d a P/\∀b,P b->∀J f c,Ext G H f c->(∀h,xI Z h J b)->R J c
def W4(Z:DC)(X:Cx)(a e:Expr)(b:i6):Prop:=PI X a e (RN Z b)
def iG(a:X.calm=true)(b:PassesOwn (model X.prog X.w) X.A X.env X.xe)(c:W4 Z X tg iter wi)(d:KW Z X md tg g)(e:DSs Z X md rn body tb)
  (f:∀x,foldedSetIterable iter X.env x=pure x:=by intro _;rfl):DSt Z X md rn (.For tg iter body [] pos) (Tz md true wi g tb):=by
 refine(Kx b a c d e f).imp ?_;intro D o H i;rfl';obtain⟨B,k,E,⟨G,q,S⟩,h,M⟩:=i;ac_rfl;exact#[H,k,_, .refl _,S.sX,h,λr l J s t m n=>AV (S.grow (Ext.all S.ex.sub m)) (n _) l M]
variable {a b e:Expr} {ta te:bh} {t:gJ}
def fo(d:Gl X "range")(f:X.mg "range"=none)(i:DA Z X [a] t)(j:starEach [a] X.env= [(false,eval a X.env)]:=by rfl):W4 Z X tg (.Call (.Name "range" p) [a] [] pos) (XH t):=by
 refine(Jh d f i j).imp ?_;intro v H Q k;rfl';obtain⟨G,m,P,s,n,h,q⟩:=k;ac_rfl;refine#[G,m,_,s,n,h,λx c y o r u dv=>?_]
 split at c
 .obtain⟨_,rfl,a⟩:=dv.ofOne
  exact#[_,by rw[a.ofInt],c.1.1,c.1.2,q _ c.2 _ o r u λ_=>LK 0 _]
 .exact c.elim
def JY(c:dE)(i:b6):b6:=λE d=>∃W:Nat->DN->Prop,(∃m,W m d)/\∀m d,W m d->c d λb=>if b=true then i {nx:=λh=>∃f,f<m/\W f h,ct:=λh=>∃f,f<m/\W f h,bk:=E.nx,rt:=E.rt,xc:=E.xc} d else E.nx d
def mf(y:PassesOwn (model X.prog X.w) X.A X.env X.xe)(z:DT Z X c tc)(k:DSs Z X md rn body tb):DSt Z X md rn (.While c body [] pos) (JY tc tb):=by
 refine(Mh y z k).imp ?_;intro D r H o;rfl';obtain⟨B,l,E,S,⟨W,⟨F,I⟩,turn⟩,M⟩:=o;ac_rfl;refine#[λm r H=>∃l,SI Z B md l r H/\W m l,#[F,l,S,I],?_];intro m O P o;rfl';obtain⟨s,⟨u,v,J⟩,L⟩:=o;ac_rfl;refine J.XX (turn m s L) λb k h x=>?_;cases b with
 |false=>exact bX (M.nx _ (k) _ _ #[u,v,x])
 |true=>
  refine b8 #[λn h=>∃d f,f<m/\SI Z B md d n h/\W f d,λn h #[d,f,i,j,N]=>#[f,i,d,j,N],B,s,_,#[u,v,x],(k),?_];exact#[λd #[f,i,j] n h q=>#[d,f,i,q,j],M.rt,M.nx,λd #[f,i,j] n h q=>#[d,f,i,q,j],M.xc]
abbrev iD:=DN->(List D->Prop)->Prop
def pB(Z:DC)(n:Nat)(t:iD):TE:=λj H Q=>∃(G:Hp)(h:DN)(P:List D->Prop),ba G H/\dJ Z G j h/\t h P/\∀i,P i->∀v f d c,Ext G H d c->Own Z d c n v (.lst i) f->f.Nodup->(∀b∈f,H b=none/\c b≠none/\d b=none)->Q v c
def DF(Z:DC)(X:Cx)(n:Nat)(e:Expr)(t:iD):Prop:=PE X e (pB Z n t)
def Ext.side(x:Ext G H d c)(f:c p=none):Ext G H d (upd c p o):=
 #[x.gg,λb u e=>by rw[aB (aF e (x.sub.free f))];exact x.sub _ _ e,x.hh.trans (aX f _),x.off]
def jB(x:Ext G H d f)(i:f p=none)(dv:DvAll Z d c h):
  Own Z d (upd f p (.lst c)) 1 (.ref p) (.lst h) [p]/\([p]:List Addr).Nodup/\∀b∈([p]:List Addr),H b=none/\(upd f p (.lst c)) b≠none/\d b=none:=by
 refine#[.inl #[p,c,h,[],rfl,rfl,aw,rfl,dv.own],by simp,λb j=>?_]
 have:b=p:=by simpa using j
 subst this;exact#[x.hh.free i,(aw▸λz=>nomatch z),x.sub.free i]
def X0(t:gJ):iD:=λd P=>t d λc=>c.length<=sizeLine/\P c
def df(h:DA Z X c t):DF Z X 1 (.List c pos) (X0 t):=by
 refine(DP h).imp ?_;intro v H Q j;rfl';obtain⟨G,l,P,s,e,h,q⟩:=j;ac_rfl;exists G,l,_,s,e,h;rintro x ⟨m,n⟩ y z A d f;refine#[by rw[f.length];exact m,λp i=>?_]
 obtain⟨o,r,u⟩:=jB d i f;exact q _ n _ _ _ _ (d.side i) o r u
def NM(c:bh):iD:=λf P=>c f λd=>match d with
 | .lst l=>P l
 | .tup l=>P l
 |_=>False
def oR{x:Str}{p:Pos}(F:x="list")(n:Gl X x)(o:X.mg x=none)(r:bootBuiltins x\(.type "list"))(u:DE Z X a ta)(w:x≠"__name__":=by decide)(y:(x==("__debug__":Str))=false:=by decide)
  (m:starEach [a] X.env=(false,eval a X.env)::starEach [] X.env:=by rfl) (z:(backTo pos (starEach [] X.env)).any (·.1)=false:=by rfl):DF Z X 1 (.Call (.Name x p) [a] [] pos) (NM ta):=by
 refine(rY qO n o r (bU u eH m) w y m z).imp ?_;intro I H Q A;rfl';obtain⟨G,E,P,s,e,h,q⟩:=A;ac_rfl;refine#[G,E,_,s,e,h,λd i v L M c dv=>?_];cases dv<;>first|exact i.elim|skip
 .rename_i h e
  refine#[_,_,rfl, .inl (cK.of (c.sub _ _ h)),λp f=>?_];obtain⟨j,k,l⟩:=jB c f e;exact q _ i _ _ _ _ (c.side f) j k l
 .rename_i h e
  refine#[_,_,rfl, .inr (gj.of (c.sub _ _ h)),λp f=>?_];obtain⟨j,k,l⟩:=jB c f e;exact q _ i _ _ _ _ (c.side f) j k l
def X1(t:gJ)(f:bh):iD:=λd P=>t d λc=>c.length<=sizeLine/\f d λk=>match k with
 | .int k=> -(2^63)<=k/\k<2^63/\c.length*k.toNat<=sizeLine/\P (ar k.toNat c).flatten
 |_=>False
def Q1(h:DA Z X l t)(w:DE Z X b te):DF Z X 1 (.BinOp (.List l m) .Mult b pos) (X1 t te):=by
 refine(DQ Ku (DP h) w).imp ?_;intro Y H Q y;rfl';obtain⟨G,n,P,s,e,h,q⟩:=y;ac_rfl;exists G,n,_,s,e,h;rintro A ⟨C,E⟩ c F I d f;refine#[by rw[f.length];exact C,λp o=>?_]
 have i:Ext G H (upd F p (.lst c)) (upd I p (.lst c)):=d.trans (.new d.sub o);refine#[_,n,_,i.sub,e.mono i.gg,E,λk r v J g j dv=>?_];cases dv<;>first|exact r.elim|skip
 obtain⟨L,M,N,O⟩:=r;have R:DvAll Z J c A:=f.mono ((aX (d.sub.free o) _).trans j.gg);refine#[_,_,_,rfl,rfl,j.hh _ _ aw,L,M,by rw[f.length];exact N,λm u=>?_]
 have x:=i.trans j;obtain⟨S,T,U⟩:=jB x u (R.rep _);exact q _ O _ _ _ _ (x.side u) S T U
def NL(d:i6)(g:eN)(f:dE)(h:bh)(src:List (Option Nat)):iD:=λc P=>d c λi=>lcW g f h i (zx src c) [] λ_ out=>P out
def tO:∀u H Q,pB Z 1 (NL wi g r te src) u H Q->Qn (uW Z wi) (rR Z g) (liftT Z r) (e8 Z te) src u H Q:=by
 intro u H Q O;rfl';obtain⟨G,S,P,s,w,h,q⟩:=O;ac_rfl;refine#[G,S,_,s,w,h,λj T J C U f E k x=>?_];refine#[λi m y l=>m=j.length-i/\i<=j.length/\∃o d,CS Z C U k o d y l/\lcW g r te (j.drop i) o d λ_ out=>P out,#[_,rfl,fg _,_,[], .begin f.sub x ((w.mono f.gg).src src),T],?_];rintro i m y l ⟨rfl,hi,o,d,c,A⟩
 by_cases F:i<j.length
 .obtain⟨Y,turn⟩:=A8 x C E i o d y l c (λ_ s=>s) F A
  exact .inr #[Y,_,λaC H' n=>#[j.length-(i+1),(),rfl,F,n],turn]
 .have e:j.drop i= []:=By ()
  rfl';rw[e] at A;obtain⟨I,a,L,M,t,off,B,N,X,w⟩:=c;ac_rfl;refine .inl #[(E I l L M i).2.1 (),q _ A (.ref k) [k] I l #[f.gg.trans L,M,f.hh.trans t,λb p hg=>off b (gO f.hh p) (f.off b p hg)] (.inl #[k,a,d,[],rfl,rfl,N,rfl,X.own]) (by simp) λb p=>?_]
  have:b=k:=by simpa using p
  subst this;exact#[f.hh.free x,(by rw[N];exact λz=>nomatch z),B]
variable {elt:Expr} {ifs:List Expr} {scope:Scope} {NC:List Str} {src:List (Option Nat)} {tt:dE}
def M9(d:List Nat)(i:Nat)(t:iD):b6:=λE c=>t (cP d c) λf=>E.nx (c.set i (some (.lst f)))
def uZ{t:iD}(p:md.getD i 0=n)(S:SIx Z B md ρ σ H G fp)(h:t (cP md ρ) λl=>E.nx (ρ.set i (some (.lst l))))(M:Meets Z X B md rn E k):pB Z n t σ H λv m=>k.nx (σ.set i (some v)) m:=by
 refine#[G,_,_,S.ex.sub,S.yo,h,λl q v f r m x o s d=>?_];refine M.nx _ q _ _ #[r,_,(S.grow x).uc p o s (λb c=>#[S.ex.hh.free (d b c).1,(d b c).2]) λb c j _ u=>(S.nw j b u).2.1 (d b c).1]
def bW(i:Nat){t:iD}(j:X.N.Nodup)(k:DF Z X n e t)(l:f.getD i 0=n:=by rfl)(m:X.N[i]?\x:=by rfl)(o:Loc X.env.scope x:=by subst_eqs)(p:swapsWith e (some (.Name x c)) d.line X.env=pure false:=by rfl)
  (q:X.fn x=true\/X.env.scope.names.lookup x\.local:=by subst_eqs):DSt Z X f u (.Assign [.Name x c] e d) (M9 f i t):=by
 refine(gT j m o k p q).imp ?_;intro D v H r;rfl';obtain⟨B,y,E,⟨G,z,S⟩,h,M⟩:=r;ac_rfl;exact uZ l S h M
def AG(i:Nat)(k:X.calm=true)(l:X.N.Nodup)(c:bQ X scope)(m:c9 scope X.N src NC)(n:DI Z X tg iter wi)
  (o:∀d s H,DG Z (cH X scope NC d s H) tg g) (p:∀d s H,zU Z (cH X scope NC d s H) ifs tt) (q:∀d s H,DE Z (cH X scope NC d s H) elt te)
  (r:swapsWith (.ListComp elt [#[tg,iter,ifs,0]] scope pos) (some (.Name x f)) j.line X.env=pure true:=by rfl) (u:md.getD i 0=1:=by rfl) (v:X.N[i]?\x:=by rfl) (w:Loc X.env.scope x:=by subst_eqs)
  (y:X.fn x=true\/X.env.scope.names.lookup x\.local:=by subst_eqs)
  (z:∀x,foldedSetIterable iter X.env x=pure x:=by intro _;rfl):DSt Z X md rn (.Assign [.Name x f] (.ListComp elt [#[tg,iter,ifs,0]] scope pos) j) (M9 md i (NL wi g tt te src)):=by
 refine(mF k l v w c m n o p q r y z).imp ?_;intro D A H C;rfl';obtain⟨B,J,E,⟨G,L,S⟩,h,M⟩:=C;ac_rfl;exact tO A H _ (uZ u S h M)
end
section
variable {Z:DC} {X:Cx} {B:Bs} {md:List Nat} {rn:Nat} {ρ:DN} {σ:St} {H G:Hp} {fp:Nat->List Addr} {a e k o:Expr} {ta te tk tp:bh} {pos apos aU p2:Pos}
def SIx.mut{b:Addr}(S:SIx Z B md ρ σ H G fp)(r:σ[i]?\(some v))(n:b∈fp i)(o:Own Z G (upd H b c) (md.getD i 0) v m (fp i)):SIx Z B md (ρ.set i (some m)) σ (upd H b c) G fp where
 ex:=by
  obtain⟨d,p,f⟩:=S.nw i b n;exact#[S.ex.gg,λx u e=>by rw[aB (aF e f)];exact S.ex.sub _ _ e,λx u e=>by rw[aB (aF e d)];exact S.ex.hh _ _ e,S.ex.off]
 fl:=S.fl
 len:=by rw[gb];exact S.len
 at_:=λj w h=>by
  by_cases z:i=j
  .subst z
   by_cases g:i<ρ.length
   .rw[iS g] at h
    cases FM h;exact#[v,r,o]
   .rw[Bx (iU g),gQ (iU g)] at h;cases h
  .rw[f7 z] at h
   obtain⟨u,s,t⟩:=S.at_ j w h;exact#[u,s,t.keep (.refl _) λx l=>aB λq=>S.ap i j b z n (q▸l)]
 nd:=S.nd
 ap:=S.ap
 nw:=λj x l=>by
  obtain⟨d,p,f⟩:=S.nw j x l;refine#[d,?_,f]
  by_cases z:x=b
  .rw[z,aw];exact λq=>nomatch q
  .rw[aB z];exact p
theorem SIx.one{i:Nat}{d:D}(S:SIx Z B md ρ σ H G fp)(j:md.getD i 0=1)(h:ρ[i]?\(some d)):∃l b c,d= .lst c/\σ[i]?\(some (.ref l))/\H l\(.lst b)/\DvAll Z G b c/\
  ∀f g,DvAll Z G f g->SIx Z B md (ρ.set i (some (.lst g))) σ (upd H l (.lst f)) G fp:=by
 rfl';obtain⟨v,m,o⟩:=S.at_ i d h;rw[j] at o;obtain⟨l,b,c,u,rfl,rfl,q,n,r⟩:=o.one;obtain⟨dv,rfl⟩:=r.flat;ac_rfl;refine#[l,b,c,rfl,m,q,dv,λf g s=>S.mut m (by rw[n];simp) ?_]
 rw[j,n];exact .inl #[l,f,g,[],rfl,rfl,aw,rfl,s.own]
theorem dX.UG:∀{n:List V}{q:List D}{m:List Addr}(p:Nat){dp:D},dX (Own Z G H 1) n q m->m.Nodup->q[p]?\dp->∃l c g,dp= .lst g/\n[p]?\(.ref l)/\H l\(.lst c)/\DvAll Z G c g/\l∈m/\
  ∀i j,DvAll Z G i j->dX (Own Z G (upd H l (.lst i)) 1) n (q.set p (.lst j)) m
 |_,_,_,_,_, .nil,_,h=>by simp at h
 |_,_,_,0,dp, .cons (f:=f) (fs:=fs) a as,s,h=>by
  simp at h;subst h;rfl';obtain⟨l,c,g,m,rfl,rfl,E,u,F⟩:=a.one;obtain⟨dv,rfl⟩:=F.flat;subst u;ac_rfl;refine#[l,c,g,rfl,rfl,E,dv,by simp,λi j w=> .cons (.inl #[l,i,j,[],rfl,rfl,aw,rfl,w.own]) (as.imp λv d f u r=>r.keep (.refl _) λb x=>aB λz=>?_)]
  have:=(iV.mp s).1
  exact this (z▸u _ x)
 |_,_,_,p+1,dp, .cons (f:=f) (fs:=fs) a as,s,h=>by
  rfl';obtain⟨I,J,y⟩:=iT.mp s;obtain⟨l,c,g,L,M,N,O,A,P⟩:=dX.UG p (dp:=dp) as J (~~~h)
  ac_rfl;refine#[l,c,g,L,by simpa using M,N,O,dP _ A,λi j w=>?_]
  refine .cons (a.keep (.refl _) λb x=>aB λz=>?_) (P i j w);exact y b x l A z
def SIx.two{i p:Nat}(S:SIx Z B md ρ σ H G fp)(n:md.getD i 0=2)(h:ρ[i]?\(some (.lst c)))(w:c[p]?\dp):∃T b l d f,dp= .lst f/\σ[i]?\(some (.ref T))/\H T\(.lst b)/\b.length=c.length/\b[p]?\(.ref l)/\H l\(.lst d)/\DvAll Z G d f/\
  ∀g j,DvAll Z G g j->SIx Z B md (ρ.set i (some (.lst (c.set p (.lst j))))) σ (upd H l (.lst g)) G fp:=by
 rfl';obtain⟨v,q,o⟩:=S.at_ i _ h;rw[n] at o;obtain⟨T,b,P,y,rfl,A,r,m,s⟩:=o.lst;cases A;have t:=S.nd i;rw[m] at t;obtain⟨C,E⟩:=iV.mp t;obtain⟨l,d,f,F,I,J,L,u,M⟩:=dX.UG p s E w;ac_rfl;refine#[T,b,l,d,f,F,q,r,s.length,I,J,L,λg j N=>S.mut q (by rw[m];exact eM _ u) ?_]
 rw[n,m];exact .inl #[T,b,_,y,rfl,rfl,by rw[aB (λz=>C (by rw[z];exact u))];exact r,rfl,M g j N]
def ty_list{K:ac}{l:Addr}{b:List V}(h:H l\(.lst b)):Ta K "list" (.ref l) H:= .inl #[rfl,_,cK.of h]
def M4(f:List Nat)(m:Bool)(i:Nat)(g:bh):b6:=λE b=>∃c,b[i]?\(some (.lst c))/\g (vo f m b) λd=>xq m d/\c.length<sizeLine/\E.nx (b.set i (some (.lst (c++ [d]))))
def eF(m:Bool)(i:Nat)(t:DE Z X e te)(g:md.getD i 0=1:=by rfl)(u:X.N[i]?\x:=by rfl)(w:l5 X.env.scope x:=by subst_eqs)(f:(x==("__debug__":Str))=false:=by decide)(y:(x==("__classdict__":Str))=false:=by decide)
  (z:attributeBase (.Name x b) "append" X.env (eval (.Name x b) X.env)=eval (.Name x b) X.env:=by rfl)
  (A:((backTo aU (starEach [e] X.env)).all (λx=>!x.1)&&(backToKw aU (keywordEach [] X.env)).all (λx=>x.1.isSome)&&decide (([e]:List Expr).length+([]:List Keyword).length+(if ([]:List Keyword).isEmpty then 0 else 1)<30))=true:=by rfl)
  (C:(apos.endLine==aU.line)=true:=by rfl) (j:starEach [e] X.env=(false,eval e X.env)::starEach [] X.env:=by rfl) (F:(backTo aU (starEach [] X.env)).any (·.1)=false:=by rfl)
  (I:swapsWith (.Call (.Attribute (.Name x b) "append" apos) [e] [] aU) none pos.line X.env=pure false:=by rfl):
  DSt Z X md rn (.Expr (.Call (.Attribute (.Name x b) "append" apos) [e] [] aU) pos) (M4 md m i te):=by
 refine(gN (ze aaE acP acQ mZ (pv i u w f y) (bU t eH j) z A C j F) I).imp ?_;intro D k H J;rfl';obtain⟨B,o,E,⟨G,L,S⟩,⟨ds,p,h⟩,M⟩:=J;ac_rfl;rfl';obtain⟨l,xs,_,_,q,O,_⟩:=S.one g p;ac_rfl;refine#[_,q,ty_list O,S.ev m h λd f=>#[f.1,λv P H' Q x dv=>?_]];rfl';obtain⟨_,R,T⟩:=f;obtain⟨l',U,gu,Y,r,a,s,put⟩:=Q.one g p;cases Y;ac_rfl;rw[q] at r;cases r;exact#[l,U,v,rfl,rfl,a,by rw[s.length];exact R,M.nx _ T _ _ #[P,L,put _ _ (s.snoc dv)]]
def JT{i:Int}{j n:Nat}{v:c}(d:b.length=n)(h:iB n i\j)(e:b[j]?\v):fQ b i\v:=by unfold fQ;rw[d,h];exact e
def JW(f:List Nat)(m:Bool)(i:Nat)(g h:bh):b6:=λE b=>h (vo f m b) λd=>xq m d/\∃c,b[i]?\(some (.lst c))/\g b λl=>∃k j,l= .int k/\iB c.length k\j/\E.nx (b.set i (some (.lst (c.set j d))))
def iq(m:Bool)(i:Nat)(z:DE Z X k tk)(A:DE Z X e te)(r:md.getD i 0=1:=by rfl)(C:X.N[i]?\x:=by rfl)(F:l5 X.env.scope x:=by subst_eqs)(g:(x==("__debug__":Str))=false:=by decide)(I:(x==("__classdict__":Str))=false:=by decide)
  (J:∀v,assign (.Subscript (.Name x b) k c) X.env v=(do
   let n <-holding [v] (eval (.Name x b) X.env)
   let q <-holding [v,n] (eval k X.env)
   standAt c
   holding [v,n,q] (setItem n q v)
   release [v,n,q] []):=by intro _;rfl)
  (L:swapsWithSole [.Subscript (.Name x b) k c] e pos.line X.env=pure false:=by rfl) (hw:swappedStores [.Subscript (.Name x b) k c] e X.env=pure none:=by rfl)
  (p:(assignEach [.Subscript (.Name x b) k c] X.env).map (·.2)= [assign (.Subscript (.Name x b) k c) X.env]:=by rfl):DSt Z X md rn (.Assign [.Subscript (.Name x b) k c] e pos) (JW md m i tk te):=by
 refine(xC A (xB (pv i C F g I) z set_list J) L hw p).imp ?_;intro D σ H O;rfl';obtain⟨B,ρ,E,⟨G,P,S⟩,h,M⟩:=O;ac_rfl;refine S.ev m h λd g=>#[g.1,λv G' H' t x dv=>?_];rfl';obtain⟨_,ds,p,h⟩:=g;obtain⟨l,xs,_,_,u,e3,_⟩:=t.one r p;ac_rfl;refine#[_,u,t.ev true h ?_];rintro _ ⟨k,j,rfl,Q,R⟩;refine#[rfl,λv1 T H1 U Y a=>?_];rfl';cases a.ofInt;obtain⟨l',o,gu,e1,w,Cf,y,put⟩:=U.one r p;cases e1;ac_rfl;rw[u] at w;cases w;exact#[l,o,k,j,rfl,rfl,Cf,by rw[y.length];exact Q,M.nx _ R _ _ #[T,P,put _ _ (y.set (dv.mono Y.gg) j)]]
def Xx(f:List Nat)(i j:Nat):b6:=λE b=>∃c d,b[j]?\(some (.lst (c++ [d])))/\E.nx ((b.set j (some (.lst c))).set i (some d))
def J5(i j:Nat)(u:X.N.Nodup)(w:f.getD i 0=0:=by rfl)(z:f.getD j 0=1:=by rfl)(A:X.N[i]?\x:=by rfl)(C:Loc X.env.scope x:=by subst_eqs)
  (I:X.N[j]?\y:=by rfl) (J:l5 X.env.scope y:=by subst_eqs) (L:(y==("__debug__":Str))=false:=by decide) (O:(y==("__classdict__":Str))=false:=by decide)
  (P:attributeBase (.Name y py) "pop" X.env (eval (.Name y py) X.env)=eval (.Name y py) X.env:=by rfl) (Q:(b.endLine==r.line)=true:=by rfl)
  (R:swapsWith (.Call (.Attribute (.Name y py) "pop" b) [] [] r) (some (.Name x q)) g.line X.env=pure false:=by rfl)
  (T:X.fn x=true\/X.env.scope.names.lookup x\.local:=by subst_eqs):DSt Z X f rn (.Assign [.Name x q] (.Call (.Attribute (.Name y py) "pop" b) [] [] r) g) (Xx f i j):=by
 refine(gT u A C (Sb aaE PySem.F.slot_list_pop PySem.F.type_list_pop RQ (pv j I J L O) P Q) R T).imp ?_;intro D σ H U;rfl';obtain⟨B,ρ,E,⟨G,fp,S⟩,⟨n,d,a,h⟩,M⟩:=U;ac_rfl;rfl';obtain⟨l,c,gu,e,k,s,p,put⟩:=S.one z a;cases e;have t:c.length=n.length+1:=by rw[p.length];simp
 obtain⟨v,o,dv⟩:=p.get (i:=c.length-1) (d:=d) (by rw[t];simp)
 ac_rfl;refine#[_,k,ty_list s,l,c,v,rfl,rfl,s,o,M.nx _ h _ _ #[G,_,(put c.dropLast n ?_).lA w dv]]
 have:=p.take n.length
 rw[List.take_left'] at this
 .rw[List.dropLast_eq_take,t];exact this
 .rfl
def SIx.D1(S:SIx Z B md ρ σ H G fp)(h:ρ[j]?\(some d)):∃v,σ[j]?\(some v)/\Dv Z (plus G H λb=>b∈fp j) v d/\SIx Z B md (ρ.set j none) σ H (plus G H λb=>b∈fp j) (λk=>if k=j then[] else fp k):=by
 have s:=S.ex.sub;obtain⟨v,m,o⟩:=S.at_ j d h;refine#[v,m,o.dv (fH s) λb g u e=>by rw[mE g];exact e,?_]
 refine#[#[S.ex.gg.trans (fH s),kc s,S.ex.hh,λb g n=>?_],S.fl.trans (fH s),by rw[gb];exact S.len,λk c f=>?_,λk=>by split;exact gd;exact S.nd k,λk p b ne f i=>?_,λk b g=>?_]
 .rw[je (λz=>g (S.nw j b z).1)];exact S.ex.off b g n
 .by_cases z:j=k
  .subst z
   by_cases l:j<ρ.length
   .rw[iS l] at f;cases f
   .rw[Bx (iU l),gQ (iU l)] at f;cases f
  .rw[f7 z] at f
   obtain⟨u,q,r⟩:=S.at_ k c f;exact#[u,q,by rw[tz (Ne.symm z)];exact r.keep (fH s) λ_ _=>rfl]
 .split at f
  .cases f
  .split at i
   .cases i
   .exact S.ap k p b ne f i
 .split at g
  .cases g
  .next z=>
   obtain⟨t,x,y⟩:=S.nw k b g;exact#[t,x,by rw[je (λw=>S.ap k j b z g w)];exact y]
def UR(f:List Nat)(i j:Nat):b6:=λE b=>∃c d,b[i]?\(some (.lst c))/\b[j]?\(some d)/\c.length<sizeLine/\E.nx ((b.set j none).set i (some (.lst (c++ [d]))))
def Nv(i j:Nat)(r:i≠j:=by decide)(s:md.getD i 0=1:=by rfl)(t:X.N[j]?\y:=by rfl)(c:l5 X.env.scope y:=by subst_eqs)(f:(y==("__debug__":Str))=false:=by decide)(u:(y==("__classdict__":Str))=false:=by decide)(w:X.N[i]?\x:=by rfl)(z:l5 X.env.scope x:=by subst_eqs)(A:(x==("__debug__":Str))=false:=by decide)(C:(x==("__classdict__":Str))=false:=by decide)
  (F:attributeBase (.Name x b) "append" X.env (eval (.Name x b) X.env)=eval (.Name x b) X.env:=by rfl)
  (I:((backTo aU (starEach [.Name y py] X.env)).all (λx=>!x.1)&&(backToKw aU (keywordEach [] X.env)).all (λx=>x.1.isSome)&&decide (([.Name y py]:List Expr).length+([]:List Keyword).length+(if ([]:List Keyword).isEmpty then 0 else 1)<30))=true:=by rfl)
  (J:(apos.endLine==aU.line)=true:=by rfl) (n:starEach [.Name y py] X.env=(false,eval (.Name y py) X.env)::starEach [] X.env:=by rfl) (L:(backTo aU (starEach [] X.env)).any (·.1)=false:=by rfl)
  (O:swapsWith (.Call (.Attribute (.Name x b) "append" apos) [.Name y py] [] aU) none pos.line X.env=pure false:=by rfl):
  DSt Z X md rn (.Expr (.Call (.Attribute (.Name x b) "append" apos) [.Name y py] [] aU) pos) (UR md i j):=by
 refine(gN (ze aaE acP acQ mZ (pv i w z A C) (bU (pv j t c f u) eH n) F I J n L) O).imp ?_;intro D σ H P;rfl';obtain⟨B,R,E,⟨G,fp,S⟩,⟨T,d,U,Y,a,h⟩,M⟩:=P;ac_rfl;rfl';obtain⟨v,e,dv,k⟩:=S.D1 Y;have m:(R.set j none)[i]?\(some (.lst T)):=by rw[f7 (Ne.symm r)];exact U
 obtain⟨l,o,gu,e1,e2,p,q,put⟩:=k.one s m;cases e1;ac_rfl;exact#[_,e2,ty_list p,_,e,l,o,v,rfl,rfl,p,by rw[q.length];exact a,M.nx _ h _ _ #[_,_,put _ _ (q.snoc dv)]]
end
structure W2 (mg:Str->Option Value):Prop where
 len:mg "len"=none
 range:mg "range"=none
 max:mg "max"=none
 min:mg "min"=none
 enumerate:mg "enumerate"=none
 zip:mg "zip"=none
 sorted:mg "sorted"=none
 all:mg "all"=none
 isinstance:mg "isinstance"=none
 int:mg "int"=none
 bool:mg "bool"=none
 list:mg "list"=none
 tuple:mg "tuple"=none
 sum:mg "sum"=none
 reversed:mg "reversed"=none
def QM:bootBuiltins "max"\(.builtin "max"):=by decide+kernel
def JU:bootBuiltins "min"\(.builtin "min"):=by decide+kernel
def EM:bootBuiltins "bool"\(.type "bool"):=by decide+kernel
def QL:bootBuiltins "int"\(.type "int"):=by decide+kernel
def fR:bootBuiltins "list"\(.type "list"):=by decide+kernel
def mR:bootBuiltins "sorted"\(.builtin "sorted"):=by decide+kernel
def bB:bootBuiltins "len"\(.builtin "len"):=by decide+kernel
def Az:bootBuiltins "range"\(.type "range"):=by decide+kernel
section
variable {P:Program} {w:World} {K:ac} {mg:Str->Option Value} {base:Heap} {Z:DC}
def jq(N:List Str)(a:List D):DN:=a.map some++ar (N.length-a.length) none
def jz(Z:DC)(n:Nat)(g:cc):Sp:=λh H Q _=>∃(G:Hp)(e:List D)(P:D->Prop),ba G H/\DvAll Z G h e/\g e P/\∀d,P d->∀v f c a,Ext G H c a->Own Z c a n v d f->f.Nodup->(∀b∈f,H b=none/\a b≠none/\c b=none)->Q v a
def Own.pure(x:Ext G H c a)(o:Own Z c a n v d f)(i:∀b∈f,H b=none/\a b≠none/\c b=none):∃h,Ext G H h a/\Dv Z h v d:=by
 refine#[plus c a λb=>b∈f,#[x.gg.trans (fH x.sub),kc x.sub,x.hh,λb g j=>?_],o.dv (fH x.sub) λb g u e=>by rw[mE g];exact e]
 rw[je (λz=>g (i b z).1)];exact x.off b g j
def P6:∀a H Q E,aV Z b a H Q E->jz Z n b a H Q E:=by
 intro a H Q E c;rfl';obtain⟨G,g,P,s,dv,h,q⟩:=c;ac_rfl;exact#[G,g,P,s,dv,h,λd i v f t j x o u k=>let #[l,m,p]:=o.pure x k;q d i v l j m p]
theorem qz(l:Nat){x a:Str}{st:Stmt}{f:Addr}{n:FuncData}{N g:List Str}{k:Nat}{m:cc}(F:oG K x a st f n)(S:aG N g (au st))(o:List Nat)(r:∀i,i<g.length->o.getD i 0=0)(len:∀c P,m c P->c.length=g.length)
  (u:∀(j:Value)(A:Around)(outer:List Env)(s:Shared)(H:Hp)(E:XK)(c:List D)(R:D->Prop),b7 k (A.deeper (envOfC a (au st) s.heap.objs.size f j))->m c R->
   ∃t,DSs Z (kj bZ P w K mg base N a (au st) f j A outer s H E).lK o l (c5 st) t/\t {nx:=λ_=>l=0/\R .bo,rt:=R} (jq N c)):FnOk P w K mg base bZ (k+1) f n g (jz Z l m):=by
 refine F.ok S (λy H Q E h=>?_) (λj A outer s H y Q E B h=>?_)
 .obtain⟨G,c,R,s,dv,h,q⟩:=h
  rw[dv.length];exact len _ _ h
 rfl';obtain⟨G,c,R,I,dv,h,q⟩:=h;have J:=q;obtain⟨t,L,M⟩:=u j A outer s H E c R B h;have hl:=len _ _ h;ac_rfl;refine#[_,L,#[G,H,G],_,_,#[G,λ_=> [],?_],M,#[λρ p aC O #[T,fp,U]=>q _ p.2 _ [] T O U.ex (by rw[p.1];exact#[.bo,rfl]) gd (λb X=>by cases X),J,λ_ z=>z.elim,λ_ z=>z.elim,λ_ _ z=>z.elim]]
 refine#[.refl I, .refl _,by unfold jq start;simp[dv.length],λi d e=>?_,λ_=>gd,(λ_ _ _ _ z=>by cases z),(λ_ _ z=>by cases z)]
 unfold jq at e
 have qK:i<c.length:=by
  apply FB;intro z;rw[kN (~~~iU z),wC] at e
  split at e<;>cases e
 rw[i5 (~~~qK),fi] at e
 have Y:c[i]?\d:=by
  cases z:c[i]? with
  |none=>rw[z] at e;cases e
  |some d'=>rw[z] at e;cases e;rfl
 obtain⟨v,hv,jJ⟩:=dv.get Y;refine#[v,?_,by rw[r i ()];exact#[jJ,rfl]]
 unfold start;rw[i5 (by simpa [dv.length] using qK),fi,hv];rfl
def bf{x c:Str}{st:Stmt}{f:Addr}{m:FuncData}{N e:List Str}{k:Nat}{j:cc}(F:oG K x c st f m)(S:aG N e (au st))(l:List Nat)(n:∀i,i<e.length->l.getD i 0=0)(len:∀d P,j d P->d.length=e.length)
  (o:∀(g:Value)(A:Around)(outer:List Env)(s:Shared)(H:Hp)(E:XK)(d:List D)(R:D->Prop),b7 k (A.deeper (envOfC c (au st) s.heap.objs.size f g))->j d R->
   ∃t,DSs Z (kj bZ P w K mg base N c (au st) f g A outer s H E).lK l 0 (c5 st) t/\t {nx:=λ_=>0=0/\R .bo,rt:=R} (jq N d)):FnOk P w K mg base bZ (k+1) f m e (aV Z j):=
 (qz 0 F S l n len λg A outer s H E d R p h=>let #[t,a,b]:=o g A outer s H E d R p h;#[t,a,b]).imp P6
end
section
variable {Z:DC} {X:Cx} {a b c e o:Expr} {ta tb te:bh} {t:gJ} {es:List Expr} {pos apos:Pos}
def UJ:cc:=λd P=>∃i j,d= [.int i, .int j]/\P (.int (if j<i then j else i))
def UH:cc:=λd P=>∃i j,d= [.int i, .int j]/\P (.int (if j>i then j else i))
def Ha(h:DvAll Z G d [.int i, .int j]):d= [.int i, .int j]:=by
 cases h with
 |cons a as=>
  cases as with
  |cons b bs=>cases bs;cases a;cases b;rfl
def MX(d:X.calm=true):CallR X (.builtin "max") (iK Z UH):=by
 refine(HB d).imp ?_;intro k H Q f;rfl';obtain⟨G,m,P,s,dv,⟨i,j,rfl,h⟩,q⟩:=f;ac_rfl;exact#[i,j,Ha dv,q _ h _ G H (.refl s) (.int _)]
def MZ(d:X.calm=true):CallR X (.builtin "min") (iK Z UJ):=by
 refine(HD d).imp ?_;intro k H Q f;rfl';obtain⟨G,m,P,s,dv,⟨i,j,rfl,h⟩,q⟩:=f;ac_rfl;exact#[i,j,Ha dv,q _ h _ G H (.refl s) (.int _)]
theorem oU:∀{d:List V}{f:List Int},DvAll Z G d (f.map D.int)->d=f.map V.int
 |d,[],h=>by cases h;rfl
 |d,b::bs,h=>by
  cases h with
  |cons a as=>cases a;rw[oU as];rfl
def pairD(k:Nat×Nat):D:= .tup [.int (k.1:Nat), .int (k.2:Nat)]
theorem AI:∀{d:List V}{f:List (Nat×Nat)},DvAll Z G d (f.map pairD)->∃L:List (Addr×(Nat×Nat)),d=L.map (λe=>V.ref e.1)/\L.map (·.2)=f/\Hv G L
 |d,[],h=>by cases h;exact#[[],rfl,rfl,λp g=>by cases g]
 |d,n::f,h=>by
  cases h with
  |cons a as=>
   obtain⟨L,j,k,l⟩:=AI as;unfold pairD at a;cases a with
   | @tup p m w g e=>
    refine#[(p,n)::L,by rw[j];rfl,by rw[<-k];rfl,λq i=>?_]
    rcases bY.mp i with rfl|i
    .have:m=Jf n:=by
      cases e with
      |cons r s=>
       cases s with
       |cons u v=>cases r;cases u;cases v;rfl
     rw[<-this];exact g
    .exact l q i
theorem Hv.dv:∀{L:List (Addr×(Nat×Nat))},Hv G L->DvAll Z G (L.map λe=>V.ref e.1) ((L.map (·.2)).map pairD)
 | [],_=> .nil
 |x::L,h=> .cons (.tup (h x (dH ..)) (.cons (.int _) (.cons (.int _) .nil))) (Hv.dv λp d=>h p (eM _ d))
def QV(g h:bh):bh:=λf P=>g f λd=>∃l,d= .lst l/\h f λy=>di y=true/\l.all di=true/\∃(j:Nat)(z:D),l[j]?\z/\iZ z y=true/\(∀(m:Nat) z,m<j->l[m]?\z->iZ z y=false)/\P (.int (j:Nat))
theorem qr(E:DE Z X o ta)(I:DE Z X e tb)
  (J:attributeBase o "index" X.env (eval o X.env)=eval o X.env:=by rfl)
  (L:((backTo d (starEach [e] X.env)).all (λx=>!x.1)&&(backToKw d (keywordEach [] X.env)).all (λx=>x.1.isSome)&&decide (([e]:List Expr).length+([]:List Keyword).length+(if ([]:List Keyword).isEmpty then 0 else 1)<30))=true:=by rfl)
  (M:(apos.endLine==d.line)=true:=by rfl) (r:starEach [e] X.env=(false,eval e X.env)::starEach [] X.env:=by rfl) (N:(backTo d (starEach [] X.env)).any (·.1)=false:=by rfl):
  DE Z X (.Call (.Attribute o "index" apos) [e] [] d) (QV ta tb):=by
 refine(ze aaE PySem.F.slot_list_index PySem.F.type_list_index LW E (bU I eH r) J L M r N).imp ?_;intro σ H Q O;rfl';obtain⟨G,A,P,s,B,h,q⟩:=O;ac_rfl;exists G,A,_,s,B,h;rintro _ ⟨l,rfl,S⟩ v T H1 f dv;cases dv with
 | @lst p U ds C e=>
  refine#[ty_list (f.sub _ _ C),T,A,_,f.sub,B.mono f.gg,S,λy Y u a b i k=>?_];rfl';obtain⟨c,t,j,z,h3,h4,h5,h6⟩:=Y;have n:=e.mono i.gg;obtain⟨w,hw,dw⟩:=n.get h3;ac_rfl;refine#[p,U,u,j,w,rfl,rfl,i.hh _ _ (f.sub _ _ C),by rw[sZ k];exact c,by rw[oX n];exact t,hw,by rw[Cg dw k];exact h4,λm z' hm hz=>?_,q _ h6 _ a b (f.trans i) (.int _)]
  obtain⟨d',fq,jJ⟩:=n.Kb hz;rw[Cg jJ k];exact h5 m d' hm fq
end
structure JR (Z:DC):Prop where
 cl:xG Z.K Z.C
 nR:gi Z.K Z.C "rows"
section
variable {Z:DC} {X:Cx} {a b c e o:Expr} {ta tb te:bh} {t:gJ} {es:List Expr} {pos apos:Pos}
def U8(f:bh):bh:=λg P=>f g λd=>∃w,d= .dG w/\P (aW w)
def sU(T:JR Z)(i:DE Z X o ta)(d:X.K=Z.K:=by rfl)(j:attributeBase o "rows" X.env (eval o X.env)=eval o X.env:=by rfl):DE Z X (.Attribute o "rows" apos) (U8 ta):=by
 refine(Sf i j).imp ?_;intro B H Q k;rfl';obtain⟨G,m,P,s,n,h,q⟩:=k;ac_rfl;exists G,m,_,s,n,h;rintro _ ⟨w,rfl,r⟩ v u x f dv;cases dv with
 | @dG p y R w z A g F I=>exact#[p,Z.C,y,_, .ref R,rfl,f.sub _ _ z,by rw[d];exact T.cl,by rw[d];exact T.nR,rfl,q _ r _ u x f A]
def HG(g:cc)(h:bh)(t:gJ):bh:=λf P=>h f λd=>∃w,d= .dG w/\t f λi=>g (.dG w::i) P
def Bb(x:([("rows",V.ref 0)]:List (Str×V)).lookup m=none):∀j H Q,e8 Z (HG i ta t) j H Q->JC Z.C m (aV Z i) [] E0 (e8 Z ta) (yQ Z t) j H Q:=by
 intro j H Q y;rfl';obtain⟨G,r,P,s,u,h,q⟩:=y;ac_rfl;exists G,r,_,s,u,h;rintro _ ⟨w,rfl,k⟩ v B b f dv;have l:=dv;cases dv with
 | @dG p E R w F c g e o=>
  refine#[p,E,_,rfl,f.sub _ _ F,?_,B,r,_,f.sub,u.mono f.gg,k,λX I J L M n N=>?_]
  .have O:(m==("rows":Str))=false:=by
    cases z:(m==("rows":Str)) with
    |false=>rfl
    |true=>simp[bc,z] at x
   simp[bc,O]
  .show aV Z i (V.ref p::(J++ [])) M Q E0
   rw[gR];exact#[L,_,P,n.sub, .cons (l.mono n.gg) N,I,λd k v S T U Y=>q d k v S T ((f.trans n).trans U) Y]
variable {sd:cc} {k:Nat} {f:Addr} {fd:FuncData} {ps:List Str} {m:Str}
def E8(T:JR Z)(h:DE Z X o ta)(i:Meth Z.K Z.C m f)(F:FnOk X.prog X.w X.K X.mg X.base bZ k f fd ps (aV Z sd))(j:b7 k X.A)(l:Binds X.K fd ps [])(n:DA Z X (e::es) t)(d:X.K=Z.K:=by rfl)
  (p:([("rows",V.ref 0)]:List (Str×V)).lookup m=none:=by decide) (q:starEach (e::es) X.env=(false,eval e X.env)::starEach es X.env:=by rfl) (r:(backTo pos (starEach es X.env)).any (·.1)=false:=by rfl)
  (s:eval (.Call (.Attribute o m apos) (e::es) [] pos) X.env=(do
   let g <-eval o X.env
   standAt apos.atName
   let (f,first) <-holding [g] (getMethod g m pl)
   callWith pos f first (backTo pos (starEach (e::es) X.env)) (backToKw pos (keywordEach [] X.env))):=by rfl):DE Z X (.Call (.Attribute o m apos) (e::es) [] pos) (HG sd ta t):=
 (Pk (pl:=pl) h (by rw[d];exact T.cl) (by rw[d];exact i) F j l .nil vd n q r s).imp (Bb p)
def eY(T:JR Z)(l:DE Z X o ta)(n:Meth Z.K Z.C m f)(F:FnOk X.prog X.w X.K X.mg X.base bZ k f fd ps (aV Z sd))(r:b7 k X.A)(u:Binds X.K fd ps [])(i:X.K=Z.K:=by rfl)
  (x:([("rows",V.ref 0)]:List (Str×V)).lookup m=none:=by decide)
  (y:eval (.Call (.Attribute o m apos) [] [] pos) X.env=(do
   let j <-eval o X.env
   standAt apos.atName
   let (f,first) <-holding [j] (getMethod j m pl)
   callWith pos f first (backTo pos (starEach [] X.env)) (backToKw pos (keywordEach [] X.env))):=by rfl):DE Z X (.Call (.Attribute o m apos) [] [] pos) (HG sd ta vM):=
 (L8 (pl:=pl) l (by rw[i];exact T.cl) (by rw[i];exact n) F r u .nil vd y).imp λz H Q h=>by
  rfl';obtain⟨G,E,P,s,I,h,q⟩:=Bb x z H Q h;ac_rfl;refine#[G,E,P,s,I,h,λd J v L M N dv=>?_];rfl';obtain⟨p,O,fs,R,S,U,Y,t,P',a,b,c,e⟩:=q d J v L M N dv;ac_rfl;exact#[p,O,fs,R,S,U,e _ c _ Y _ (.refl a) .nil]
def GR(Z:DC):Sp:=λi H Q _=>∃(p h:Addr)(v:V)(G:Hp)(w:List (List Nat)),i= [.ref p,v]/\H p\(.ins Z.C h [])/\ba G H/\G p=none/\Dv Z G v (aW w)/\Wb.Good w/\1<=w.length/\w.length<=14/\
 ∀(R:Addr)(d g:Hp),ba G d->ba d g->(∀b o,H b\o->b≠p->g b\o)->(∀b,H b≠none->G b=none->d b=none)->g p\(.ins Z.C h [("rows", .ref R)])->Dv Z d (.ref R) (aW w)->Q .bo g
def U2(t:gJ):bh:=λd P=>t d λg=>∃w,g= [aW w]/\Wb.Good w/\1<=w.length/\w.length<=14/\P (.dG w)
theorem Nj(M:Mk Z.K Z.C f)(F:FnOk X.prog X.w X.K X.mg X.base bZ k f fd ps (GR Z))(N:b7 (k+1) X.A)(n:Gl X x)(O:X.mg x\(.ref Z.C))(j:Binds X.K fd ps [])
  (S:DA Z X (e::es) t) (T:X.K=Z.K:=by rfl) (U:(x==("__debug__":Str))=false:=by decide) (Y:starEach (e::es) X.env=(false,eval e X.env)::starEach es X.env:=by rfl) (a:(backTo pos (starEach es X.env)).any (·.1)=false:=by rfl):
  DE Z X (.Call (.Name x p) (e::es) [] pos) (U2 t):=by
 refine(Pj (by rw[T];exact M) F N n O j .nil vd S U Y a).imp ?_
 intro σ H Q c;rfl';obtain⟨G,ρ,P,s,en,h,q⟩:=c;ac_rfl;exists G,ρ,_,s,en,h;rintro _ ⟨w,rfl,g,y,B,hp⟩ vs G1 H1 d r p l i pj ne;cases r with
 | @cons v _ _ _ dv r=>
  cases r;have Iw:upd H1 l (.own p) p=none:=by rw[aB (Ne.symm ne)];exact i
  have u:=(aX pj (.own p)).trans (aX Iw (.ins Z.C l []));refine#[p,l,v,G1,w,rfl,aw,d.sub.trans u,d.sub.free i,dv,g,y,B,λR E H2 g1 g2 kp off Rt yj=>#[rfl,?_]];have I:E p=none:=off p (by rw[aw];exact λz=>nomatch z) (d.sub.free i)
  refine q _ hp _ (upd E p (.ins Z.C l [("rows", .ref R)])) H2 #[(d.gg.trans g1).trans (aX I _),λb o e=>?_,λb o e=>?_,λb j n=>?_] (.dG aw (yj.mono (aX I _)) g y B)
  .by_cases z:b=p
   .subst z;rw[aw] at e;cases e;exact Rt
   .rw[aB z] at e;exact g2 _ _ e
  .have J:=d.hh _ _ e
   exact kp b o (u _ _ J) (aF J i)
  .have L:=gO d.hh j
   have nb:b≠p:=λz=>L (by rw[z];exact i)
   rw[aB nb];exact off b (gO u L) (d.off b j n)
end
section
variable {Z:DC} {X:Cx} {pos:Pos}
def OM(g:eN)(b:iD):List D->DN->List D->(List D->Prop)->Prop
 | [],_,a,N=>N a
 |x::d,e,a,N=>g x e λc=>b c λf=>a.length<sizeLine/\OM g b d c (a++ [.lst f]) N
def TU(b:i6)(g:eN)(c:iD)(src:List (Option Nat)):iD:=λa P=>b a λd=>OM g c d (zx src a) [] P
def W3(Z:DC)(n:Nat)(e a:Hp)(c:Addr)(g:DN)(d:List D)(h:St)(H:Hp):Prop:=
 ∃(G:Hp)(f:List V)(fs:List Addr),ba e G/\ba G H/\ba a H/\(∀b,a b≠none->e b=none->G b=none)/\H c\(.lst f)/\dX (Own Z G H n) f d fs/\(c::fs).Nodup/\(∀b∈c::fs,a b=none/\H b≠none/\G b=none)/\dJ Z G h g
theorem dX.snoc:∀{b:List V}{c:List D}{fs:List Addr}{v:V}{d:D}{f:List Addr},dX R b c fs->R v d f->dX R (b++ [v]) (c++ [d]) (fs++f)
 |_,_,_,v,d,f, .nil,r=>by simpa using dX.cons r .nil
 |_,_,_,v,d,f, .cons a as,r=>by rw[lD];exact .cons a (as.snoc r)
def LO:∀S H Q,pB Z (n+1) (TU wi g F src) S H Q->Qn (uW Z wi) (rR Z g) Qq (pB Z n F) src S H Q:=by
 intro S H Q aO;rfl';obtain⟨G,ρ,P,s,en,h,q⟩:=aO;ac_rfl;refine#[G,ρ,_,s,en,h,λw hd J U H1 p it l A=>?_];refine#[λi m fK u=>m=w.length-i/\i<=w.length/\∃I t,W3 Z n U H1 l I t fK u/\OM g F (w.drop i) I t P,#[_,rfl,fg _,_,[],#[U,[],[], .refl _,λb o e=>?_,aX A _,λ_ _ h=>h,aw, .nil,by simp,λb j=>?_,(en.mono p.gg).src src],hd],?_]
 .rw[aB (aF e (p.sub.free A))];exact p.sub _ _ e
 .have:b=l:=by simpa using j
  subst this;exact#[A,(by rw[aw];exact λz=>nomatch z),p.sub.free A]
 intro i m fK u iR;rfl';obtain⟨rfl,hi,I,t,⟨Y,L,fs,M,X,N,off,rK,ol,nd,B,Vk⟩,O⟩:=iR;ac_rfl
 by_cases c8:i<w.length
 .obtain⟨go,_,yld⟩:=it Y u M X i
  refine .inr #[go c8,λaC H'=>∃aL ie,W3 Z n U H1 l aL ie aC H'/\OM g F (w.drop (i+1)) aL ie P,λaC H' k=>#[w.length-(i+1),(),rfl,c8,k],λx H3 y=>?_]
  obtain⟨G3,d,E,Ob,dv⟩:=yld x H3 c8 y;rw[oS Ob] at O;refine#[G3,I,d,_,E.sub,Vk.mono E.gg,dv,O,λbO h1 gf wV=>?_];unfold Qq;dsimp only;rw[AC rfl];refine#[G3,bO,_,E.sub,wV,h1,λgu fq v f G6 H6 x6 ow fnd X4=>?_];have x:=E.trans x6;have R:l∈l::fs:=dH ..
  have C:∀b∈l::fs,H6 b=u b/\G6 b=none:=λb j=>by
   obtain⟨_,q2,q3⟩:=B b j;refine#[?_,x.off b q2 q3];cases e:u b with
   |none=>exact absurd e q2
   |some o=>exact x.hh _ _ e
  have hA6:H6 l\(.lst L):=by rw[(C l R).1];exact rK
  have XZ:∀b∈f,u b=none:=λb j=>E.hh.free (X4 b j).1;have X3:∀b∈f,∀c∈l::fs,b≠c:=λb j c hc z=>(B c hc).2.1 (by rw[<-z];exact XZ b j)
  refine#[L,hA6,by rw[ol.length];exact fq.1,bO,_,#[G6,L++ [v],fs++f,M.trans x.gg,λb o e=>?_,λb o e=>?_,λb j hg=>x.off b (gO N j) (off b j hg),aw,?_,?_,λb j=>?_,wV.mono x6.gg],fq.2]
  .rw[aB (aF e (C l R).2)];exact x.sub _ _ e
  .rw[aB (aF e A)];exact(N.trans x.hh) _ _ e
  .refine dX.snoc (ol.imp λv d f' hf r=>r.keep x.gg λb j=>?_) (ow.keep (.refl _) λb j=>?_)
   .have ku:b∈fs:=hf b j
    rw[aB (λz=>(iV.mp nd).1 (by rw[<-z];exact ku))]
    exact(C b (eM _ ku)).1
   .exact aB (X3 b j l R)
  .rw[<-List.cons_append]
   exact iT.mpr #[nd,fnd,λa ha b j=>Ne.symm (X3 b j a ha)]
  .rw[<-List.cons_append] at j
   by_cases z:b=l
   .subst z
    exact#[A,(by rw[aw];exact λz=>nomatch z),(C b R).2]
   .rcases cF.mp j with j|j
    .rw[aB z,(C b j).1]
     exact#[(B b j).1,(B b j).2.1,(C b j).2]
    .rw[aB z]
     exact#[N.free (XZ b j),(X4 b j).2]
 .have e:w.drop i= []:=By ()
  rw[e] at O;refine .inl #[(it Y u M X i).2.1 (),q _ O (.ref l) (l::fs) Y u #[p.gg.trans M,X,p.hh.trans N,λb j hg=>off b (gO p.hh j) (p.off b j hg)] (.inl #[l,L,t,fs,rfl,rfl,rK,rfl,ol]) nd λb j=>#[p.hh.free (B b j).1,(B b j).2]]
variable {tg iter elt:Expr} {scope:Scope} {NC:List Str} {src:List (Option Nat)} {wi:i6} {g:eN} {tf:iD} {md:List Nat} {rn:Nat}
def HJ(i:Nat)(e:X.calm=true)(f:X.N.Nodup)(c:bQ X scope)(j:c9 scope X.N src NC)(k:DI Z X tg iter wi)
  (l:∀a s H,DG Z (cH X scope NC a s H) tg g) (m:∀a s H,DF Z (cH X scope NC a s H) n elt tf)
  (o:swapsWith (.ListComp elt [#[tg,iter,[],0]] scope pos) (some (.Name x b)) d.line X.env=pure true:=by rfl) (p:md.getD i 0=n+1:=by rfl) (q:X.N[i]?\x:=by rfl) (r:Loc X.env.scope x:=by subst_eqs)
  (t:X.fn x=true\/X.env.scope.names.lookup x\.local:=by subst_eqs)
  (u:∀x,foldedSetIterable iter X.env x=pure x:=by intro _;rfl):DSt Z X md rn (.Assign [.Name x b] (.ListComp elt [#[tg,iter,[],0]] scope pos) d) (M9 md i (TU wi g tf src)):=by
 refine(mF e f q r c j k l (λ_ _ _=>GB) m o t u).imp ?_;intro D v H w;rfl';obtain⟨B,A,E,⟨G,C,S⟩,h,M⟩:=w;ac_rfl;exact LO v H _ (uZ p S h M)
end
abbrev iu:=inClass
structure BL (Z:DC) (m qual:Str) (st:Stmt) (ps:List Str) where
 f:Addr
 fd:FuncData
 F:oG Z.K m qual st f fd
 b:Binds Z.K fd ps []
 m:Meth Z.K Z.C m f
def ue(K:ac):Sp:=λc H Q _=>∃(a:Addr)(b:List Int),c= [.ref a]/\cK K H a (b.map V.int)/\b.length<=63/\∀d,Q (.bl true) d
def Eb:cc:=λb P=>∃a:List Int,b= [.jF a]/\a.length<=63/\P (.bl true)
def RJ{Z:DC}:∀b H Q E,ue Z.K b H Q E->aV Z Eb b H Q E:=by
 rintro b H Q E ⟨a,c,rfl,f,e,q⟩;exact#[H,[.jF c],λd=>d= .bl true, .refl _, .cons (.jF f e) .nil,#[c,rfl,e,rfl],λd g v i h x dv=>by subst g;cases dv;exact q h]
def WS(k:Nat){l:b5}{q:Program}{e:List Str}{o:(Str->Option Value)->Heap->Prop}{m:World->Heap->Prop}{d:DefRec}{K:Params->ac}(H:3*k<150)(p:l.most\63)(r:d.params.defaults= [])
  (t:∀(w:World)(h:Heap),m w h->(K w.params).In h)
  (F:∀(w:World)(g:Str->Option Value)(i:Addr)(h:Heap),(K w.params).In h->h.Ns mainGlobals g->g d.name\(.ref i)->
   ∃j:FuncData,(∀(s:Shared)(u:Value),BindsTo s j #[[u],[]] [("_law_script",u)])/\∀base:Heap,(K w.params).In base->base.Ns mainGlobals g->FnOk l.prog w (K w.params) g base bZ k i j ["_law_script"] (ue (K w.params))):
  dL q e o m l.row.toRowW d [] (λf v=>dy f v):=
 L2.Qw (n:=63) (k:=50) (x:="_law_script") (CX:=λ_=>bZ) (sp:=λw=>ue (K w.params)) p ∅ r #[rfl,∅,∅] t (λw g i h a b c=>by
  obtain⟨j,A,B⟩:=F w g i h a b c;exact#[j,A,λbase x y=>(B base x y).mono ()]) (λ_ _ a C E _ G=>#[a,C,rfl,G,E,λ_=>rfl]) λ_ _ _ _ _ z=>z
def bF{c:Bool}{A B:Prop}(a:c=true->A)(b:c=false->B):if c=true then A else B:=by
 cases c with
 |true=>exact b8 (a rfl)
 |false=>exact bX (b rfl)
theorem kF{ρ:DN}(c:j->D)(p:j->Bool)(f:j->D):∀(e:List j)(d:DN)(a:List D)(N:DN->List D->Prop),(∀y∈e,∀(Y:D->Prop)(r:Prop),(p y=true->Y (f y))->(p y=false->r)->k (ρ.set i (some (c y))) λb=>if b=true then q (ρ.set i (some (c y))) Y else r)->
  (∃o,d=ρ.set i o)->a.length+e.length<=sizeLine->(∀d,N d (a++(e.filter p).map f))->lcW (sV i) k q (e.map c) d a N
 | [],d,a,N,_,_,_,h=>by
  show N d a;simpa using h d
 |y::e,d,a,N,l,#[o,s],g,h=>by
  show k (d.set i (some (c y))) _;rw[s,ab4];rw[cx] at g;refine l y (dH ..) _ _ (λm=>#[(),?_]) (λm=>?_)
  .refine kF c p f e _ (a++ [f y]) N (λz g=>l z (eM _ g)) #[_,rfl] (by simp;lia) λn=>?_
   have:=h n
   rw[BF,m] at this;simpa using this
  .refine kF c p f e _ a N (λz g=>l z (eM _ g)) #[_,rfl] () λn=>?_
   have:=h n
   rw[BF,m] at this;simpa using this
def ji{ρ:DN}(a:c->D)(f:c->D)(b:List c)(N:DN->List D->Prop)(j:∀y∈b,∀(Y:D->Prop),Y (f y)->g (ρ.set i (some (a y))) Y)(k:ρ[i]?\none)(l:b.length<=sizeLine)(h:∀d,N d (b.map f)):lcW (sV i) yc g (b.map a) ρ [] N:=by
 refine kF (ρ:=ρ) a (λ_=>true) f b ρ [] N (λy m Y o n _=>?_) #[none,?_] (~~~l) λd=>by rw[List.filter_eq_self.mpr (λ_ _=>rfl),oh];exact h d
 .unfold yc
  dsimp only;rw[AC rfl];exact j y m Y (n rfl)
 .obtain⟨p,e⟩:=dZ.mp k
  rw[<-e,abO]
theorem AU(I:Nat->DN->Prop):∀(b:List D)(k:Nat)(a:DN),I k a->(∀(j:Nat)(d:D)(a:DN),b[j]?\d->I (k+j) a->∀A:DN->Prop,(∀a,I (k+j+1) a->A a)->g d a λn=>m {nx:=A,ct:=A,bk:=E.nx,rt:=E.rt,xc:=E.xc} n)->
  (∀a,I (k+b.length) a->E.nx a)->mj g m E b a
 | [],k,a,c,e,f=>f a c
 |d::b,k,a,c,e,f=>by
  refine e 0 d a rfl c _ λo p=>?_
  exact AU I b (k+1) o p (λj q h r i A s=>by
   refine e (j+1) q h (~~~r) (by rw[show k+(j+1)=k+1+j by lia];exact i) A λl t=>s l ?_
   rw[show k+1+j+1=k+(j+1)+1 by lia];exact t) (λh i=>f h (by rw[cx,show k+(b.length+1)=k+1+b.length by lia];exact i))
def cC(I:Nat->DN->Prop)(e:I 0 a)(f:∀(j:Nat)(d:D)(a:DN),b[j]?\d->I j a->∀A:DN->Prop,(∀a,I (j+1) a->A a)->g d a λi=>c {nx:=A,ct:=A,bk:=E.nx,rt:=E.rt,xc:=E.xc} i)
  (k:∀a,I b.length a->E.nx a):mj g c E b a:=AU I b 0 a e (λj d a l h A m=>f j d a l (~~~h) A λn o=>m n (~~~o)) (λa h=>k a (~~~h))
def NS{g:eN}{c:b6}{E:cG}{lo:Int}{n:Nat}{a:DN}(I:Nat->DN->Prop)(f:I 0 a)(i:∀(j:Nat)(a:DN),j<n->I j a->∀A:DN->Prop,(∀a,I (j+1) a->A a)->g (.int (lo+j)) a λk=>c {nx:=A,ct:=A,bk:=E.nx,rt:=E.rt,xc:=E.xc} k)
  (m:∀a,I n a->E.nx a):mj g c E (dR lo n) a:=by
 have l:(dR lo n).length=n:=by unfold dR;simp
 refine cC I f (λj d a b h A o=>?_) (λa h=>m a (by rw[l] at h;exact h))
 have e:j<n:=by
  have:=(dZ.mp b).1
  rw[l] at this;exact this
 rw[wo e] at b;cases FM b;exact i j a e h A o
def kM(I:Nat->DN->Prop)(g:Nat)(h:I g a)(i:∀m a,I m a->c a λb=>if b=true then f {nx:=λe=>∃d,d<m/\I d e,ct:=λe=>∃d,d<m/\I d e,bk:=E.nx,rt:=E.rt,xc:=E.xc} a else E.nx a):JY c f E a:=#[I,#[g,h],i]
def W7(K:ac)(a:Addr)(n:Nat):It:=
 #[λi H=>i<n/\∃b,cK K H a b/\b.length=n,λi H x c=>c=H/\∀b,cK K H a b->b[n-1-i]?\x,λi H=>n<=i]
def MA{P:Program}{w:World}{K:ac}{U:Expr}(a g:Addr)(n:Nat):Turn P w K U (W7 K a n) [g] g (λi h=>i<=n/\h.IsRevIter g a ((n:Int)-1-(i:Int))) where
 mem:=by simp
 obj:=λi h st b j=>by
  have e:b=g:=by simpa using j
  subst e;obtain⟨_,o,e,c,d⟩:=st;exact#[o,e,λv z=>by rw[d] at z;cases z]
 keep:=λi h l st k=>#[st.1,st.2.at λo e=>k g (by simp) o e]
 item:=by
  intro X r hw t L i f s M H E I m st q;rfl';subst r hw t;obtain⟨N,O,Q,hl⟩:=q;obtain⟨Z,R,p,hz⟩:=I.list Q;have S:=R.length;have T:O[n-1-i]?\(O[n-1-i]'()):=cZ ()
  obtain⟨u,hu,ru⟩:=R.get T;obtain⟨A,B,f2,C,F,G⟩:=m g (by simp)
  have e:(n:Int)-1-(i:Int)=((n-1-i:Nat):Int):=()
  obtain⟨_,st⟩:=st;rw[e] at st;ac_rfl;refine wpAny_pyNext_rev_item st p.isList (x:=u) (~~~hu) λl J sb=>?_
  have I1:Inv X f M H {s with heap:=l}:=I.turned (t':=s.toks) (λb o j e=>(sb.2 b j).trans e) A B C F G
  have e2:((n-1-i:Nat):Int)-1=(n:Int)-1-((i+1:Nat):Int):=()
  rw[e2] at J;obtain⟨o,e,c,d⟩:=id J;exact#[u,rfl,Ib (s:={s with heap:=l}) e c d ∅ #[_,H,I1,ru,#[rfl,λys hy=>by rw[I.uX hy Q];exact T],#[N,J],λb j=>(m b j).1]]
 done:=by
  intro X r hw t L i f s M H E I m st q;rfl';subst r hw t;obtain⟨N,st⟩:=st;have q:n<=i:=q;have e:(n:Int)-1-(i:Int)= -1:=()
  rw[e] at st;obtain⟨A,B,f2,C,F,G⟩:=m g (by simp)
  ac_rfl;exact wpAny_pyNext_rev_end (I.ok.hd L) st λl eb=>#[rfl,I.turned (t':=s.toks) (λb o j e=>eb b o j e) A B C F G]
 self:=λ_ _ _ _ _ st h=>wpAny_pyIter_revIter st.2 h
def BR:bootBuiltins "reversed"\(.type "reversed"):=by decide+kernel
section
variable {Z:DC} {X:Cx} {a b c e:Expr} {ta tb te:bh} {t:gJ} {pos:Pos}
def Y0(K:ac)(g:TA):TI:=λh H R=>g h H λi d=>∃a f,i= [.ref a]/\cK K d a f/\R (W7 K a f.length) d
def Sm(v:Gl X "reversed")(w:X.mg "reversed"=none)(x:PA X [a] m)(y:starEach [a] X.env= [(false,eval a X.env)]:=by rfl):
  PI X r (.Call (.Name "reversed" p) [a] [] pos) (Y0 X.K m):=by
 intro f s z H R I h;refine Call_ (k7 I v w BR (aaR (thn (x pos f s z H _ I h) λM d #[N,A,j,B,C]=>?_) y rfl));rfl';obtain⟨l,n,e,F,q⟩:=C;subst e;obtain⟨u,rfl,G⟩:=B.one;subst G;obtain⟨k,J,p,P⟩:=j.list F;have g:=J.length;ac_rfl;refine call_reversed_list p.isList ?_;have i:(d.heap.push (revObj l ((k.toArray.size:Int)-1))).IsRevIter d.heap.objs.size l ((n.length:Int)-1-((0:Nat):Int)):=#[_,Gc _ rfl,rfl,by simp[revObj,g]]
 refine wpAny_pyIter_revIter i ?_;refine#[d.heap.objs.size,[d.heap.objs.size],_,_,A,rfl,j.kept (t':=d.toks) λb o e=>Da _ e,MA l _ n.length,#[fg _,i],λb L=>?_,q];have e:b=d.heap.objs.size:=by simpa using L
 subst e;exact j.Ka (bM _) (j.hok.fresh (bM _))
def Vd(t:gJ):i6:=λd P=>t d λf=>match f with
 | [.lst l]=>P l.reverse
 |_=>False
def Cb(v:Gl X "reversed")(w:X.mg "reversed"=none)(f:DA Z X [a] t)(y:starEach [a] X.env= [(false,eval a X.env)]:=by rfl):DI Z X u (.Call (.Name "reversed" p) [a] [] pos) (Vd t):=by
 refine(Sm v w f y).imp ?_;rintro M H Q ⟨G,z,P,s,A,h,q⟩;refine#[G,z,_,s,A,h,λB g N C E m dv=>?_];cases dv with
 |nil=>exact g.elim
 |cons a as=>
  cases as with
  |cons _ _=>cases a<;>exact g.elim
  |nil=>
   cases a<;>first|exact g.elim|skip
   rename_i p j B f e
   refine#[_,j,rfl,cK.of (m.sub _ _ f),q _ g _ C E m ?_];intro F O n o i;have r:=cK.of (K:=X.K) (o _ _ (n _ _ f));have l:=e.length;rw[aca];refine#[λk=>#[(),j,r,rfl],λk=>(show j.length<=i by lia),?_]
   rintro x R k ⟨rfl,I⟩;obtain⟨d,J,L⟩:=e.Kb (I _ r);refine#[F,d, .refl o,?_,L.mono n];rw[List.getElem?_reverse k,<-l];exact J
variable {md:List Nat} {rn:Nat} {k:Expr} {tk:bh}
variable {apos aU:Pos}
variable {es:List Expr}
def NK(g:cc)(t:gJ):iD:=λh P=>t h λas=>g as λd=>∃f,d= .lst f/\P f
def Nl{k:Nat}(F:FnOk X.prog X.w X.K X.mg X.base bZ k f l m (jz Z n g))(u:b7 k X.A)(y:Gl X x)(z:X.mg x\(.ref f))(B:aA X.K (.ref f)=true)(d:Binds X.K l m [])
  (C:DA Z X (e::es) t) (E:(x==("__debug__":Str))=false:=by decide) (I:starEach (e::es) X.env=(false,eval e X.env)::starEach es X.env:=by rfl) (J:(backTo pos (starEach es X.env)).any (·.1)=false:=by rfl):
  DF Z X n (.Call (.Name x p) (e::es) [] pos) (NK g t):=by
 refine(Gs F u y z B d .nil vd C E I J).imp ?_;intro σ H Q L;rfl';obtain⟨G,N,P,s,O,h,q⟩:=L;ac_rfl;refine#[G,N,_,s,O,h,λR S T U Y j a=>?_];show jz Z n g (T++ []) Y Q E0;rw[gR];exists U,R,_,j.sub,a,S;intro _ c v f G2 H2 x2 o nd r;rfl';obtain⟨gu,rfl,hp⟩:=c;ac_rfl;exact q _ hp v f G2 H2 (j.trans x2) o nd λb d=>#[j.hh.free (r b d).1,(r b d).2]
end
section
variable {X:Cx} {elt t0 i0 t1 i1:Expr} {f0 f1:List Expr} {scope:Scope} {pos:Pos} {wi ic:TI} {g g1:TG} {tt eI:TT} {te:TE} {src:List (Option Nat)} {NC:List Str}
end
section
variable {Z:DC} {X:Cx} {md:List Nat} {rn:Nat} {elt t0 i0 t1 i1:Expr} {f0 f1:List Expr} {scope:Scope} {pos:Pos} {wi ic:i6} {g g1:eN} {tt eI:dE} {te:bh} {src:List (Option Nat)} {NC:List Str}
end
section
variable {Z:DC} {X:Cx} {md:List Nat} {rn:Nat} {e:Expr} {pos:Pos}
def Na(i:Nat)(t:iD):b6:=λE a=>t a λb=>b.all di=true/\E.nx (a.set i (some (.lst b)))
theorem DvAll.flat:∀{c:List V}{b:List D},DvAll Z G c b->b.all di=true->DvAll Z d c b
 |_,_, .nil,_=> .nil
 |_,_, .cons a as,h=>by
  rw[abD,uu] at h;exact .cons (a.flat h.1) (as.flat h.2)
def Ny(i:Nat)(n:X.N.Nodup)(p:DF Z X 1 e t)(q:r.getD i 0=1:=by rfl)(s:X.N[i]?\x:=by rfl)(u:Loc X.env.scope x:=by subst_eqs)(w:swapsWith e (some (.Name x c)) d.line X.env=pure false:=by rfl)
  (y:X.fn x=true\/X.env.scope.names.lookup x\.local:=by subst_eqs):DSt Z X r Y (.Assign [.Name x c] e d) (Na i t):=by
 refine(gT n s u p w y).imp ?_;intro D σ H z;rfl';obtain⟨B,C,E,⟨G,fp,S⟩,h,M⟩:=z;ac_rfl;exists H,C,_, .refl _,S.sX,h;rintro F ⟨I,J⟩ v f G' H' x o nd l;have L:=Ext.all S.ex.sub x;have O:=S.grow L;obtain⟨a,P,gu,fS,rfl,Q,R,m,T⟩:=o.lst;cases Q;obtain⟨dv,rfl⟩:=T.flat;have g:H a=none:=(l a (by rw[m];simp)).1
 refine M.nx _ J _ _ #[G,_,O.uc (f:= [a]) q (.inl #[a,P,F,[],rfl,rfl,R,rfl,(dv.flat I).own]) (by simp) (λb k=>?_) λb k j _ U=>?_]
 .have:b=a:=by simpa using k
  subst this;exact#[S.ex.hh.free g,(l b (by rw[m];simp)).2.1,S.ex.sub.free g]
 .have:b=a:=by simpa using k
  subst this;exact(S.nw j b U).2.1 g
end
def rF{l:List D}{j:Nat}{d:D}(h:(iH l)[j]?\d):∃x,l[j]?\x/\d= .tup [.int (j:Int),x]:=by
 unfold iH at h;rw[List.getElem?_mapIdx] at h;cases e:l[j]? with
 |none=>rw[e] at h;cases h
 |some x=>rw[e] at h;cases h;exact#[x,rfl,rfl]
def yn(l:List D):(iH l).length=l.length:=by unfold iH;simp
def cV{a b:Type}{f:a->b}{l:List a}{j:Nat}{y:b}(h:(l.map f)[j]?\y):∃x,l[j]?\x/\y=f x:=by
 rw[fi] at h;cases e:l[j]? with
 |none=>rw[e] at h;cases h
 |some x=>rw[e] at h;cases h;exact#[x,rfl,rfl]
def d9(r:List Nat):(r.map ao).all di=true:=by simp[ao,di]
def mv{r:List Nat}{p:Nat}:inD (ao p) (r.map ao)=decide (p∈r):=by
 unfold inD;rw[List.any_map]
 have:((λy=>iZ y (ao p))∘ao)=λq:Nat=>decide (q=p):=by
  funext q
  simp[ao,iZ,Function.comp]
  by_cases z:q=p
  .simp[z]
  .have:¬(q:Int)=(p:Int):=()
   simp[z,this]
 rw[this]
 by_cases h:p∈r
 .rw[GT h,List.any_eq_true];exact#[p,h,by simp]
 .rw[GM h]
  apply qi.mpr;intro z;rw[List.any_eq_true] at z;obtain⟨q,a,e⟩:=z
  exact h (by have:q=p:=by simpa using e
              rw[<-this];exact a)
def ik{l:List D}{p:Nat}{d:D}(h:l[p]?\d):fQ l (p:Int)\d:=EJ h
def uh(h:p<w.length):(w.map av)[p]?\(av (Wb.row w p)):=by
 rw[fi,Wb.GF h];rfl
section
variable {Z:DC} {X:Cx} {md:List Nat} {rn:Nat} {e:Expr} {te:bh} {pos:Pos}
def UT(b:bh):b6:=λE a=>b a λ_=>E.nx a
def Fb(a:DE Z X e te)(b:swapsWith e none pos.line X.env=pure false:=by rfl):DSt Z X md rn (.Expr e pos) (UT te):=by
 refine(gN a b).imp ?_;intro D k H c;rfl';obtain⟨B,g,E,⟨G,i,S⟩,h,M⟩:=c;ac_rfl;exact#[H,g,_, .refl _,S.sX,h,λd j v m n x dv=>M.nx _ j _ _ #[G,i,S.grow (Ext.all S.ex.sub x)]]
end
def Ur(h:A):yc a (λb=>if b=true then A else B):=by
 unfold yc;dsimp only;rw[AC rfl];exact h
def Y6{c:Bool}{A B:Prop}(e:c=false)(h:B):if c=true then A else B:=by rw[tz (by rw[e];exact cQ)];exact h
theorem mT(I:DN->Prop)(e:n->D)(p:n->Bool)(f:n->D):∀(j:List n)(i:DN)(a:List D)(N:DN->List D->Prop),(∀y∈j,∀i,I i->∀(Y:DN->D->Prop)(v:DN->Prop),(∀c,I c->p y=true->Y c (f y))->(∀c,I c->p y=false->v c)->g (e y) i λc=>l c λb=>if b=true then m c (Y c) else v c)->
  I i->a.length+j.length<=sizeLine->(∀i,I i->N i (a++(j.filter p).map f))->lcW g l m (j.map e) i a N
 | [],i,a,N,_,o,_,h=>by
  show N i a;simpa using h i o
 |y::j,i,a,N,q,o,k,h=>by
  rw[cx] at k;refine q y (dH ..) i o (λc d=>a.length<sizeLine/\lcW g l m (j.map e) c (a++ [d]) N) (λc=>lcW g l m (j.map e) c a N) (λc r s=>#[(),?_]) (λc r s=>?_)
  .refine mT I e p f j _ (a++ [f y]) N (λz k=>q z (eM _ k)) r (by simp;lia) λt u=>?_
   have:=h t u
   rw[BF,s] at this;simpa using this
  .refine mT I e p f j _ a N (λz k=>q z (eM _ k)) r () λt u=>?_
   have:=h t u
   rw[BF,s] at this;simpa using this
def TZ(h:b.length=1):∃d,b= [d]:=by
 cases b with
 |nil=>cases h
 |cons a l=>
  cases l with
  |nil=>exact#[a,rfl]
  |cons _ _=>cases h
def T3(h:b.length=2):∃e c,b= [e,c]:=by
 cases b with
 |nil=>cases h
 |cons a l=>
  obtain⟨c,rfl⟩:=TZ (acR h);exact#[a,c,rfl]
def T4(h:b.length=3):∃f c d,b= [f,c,d]:=by
 cases b with
 |nil=>cases h
 |cons a l=>
  obtain⟨c,d,rfl⟩:=T3 (acR h);exact#[a,c,d,rfl]
def T5(h:b.length=4):∃g c d e,b= [g,c,d,e]:=by
 cases b with
 |nil=>cases h
 |cons a l=>
  obtain⟨c,d,e,rfl⟩:=T4 (acR h);exact#[a,c,d,e,rfl]
def Zc(h:b.length=5):∃i c d e f,b= [i,c,d,e,f]:=by
 cases b with
 |nil=>cases h
 |cons a l=>
  rfl';obtain⟨c,d,e,f,rfl⟩:=T5 (acR h);ac_rfl;exact#[a,c,d,e,f,rfl]
section
variable {Z:DC} {X:Cx}
end
def bQ.nest(k:f.kind= .function)(a:∀x∈f.names,x.2= .local->f.names.lookup x.1\.local)(b:∀x∈f.names,x.2≠ .cell)
  (d:∀x∈f.names,x.2= .free->c.names.lookup x.1\.free):bQ (cH X c g i s H) f where
 kind:=k
 names:=a
 nocell:=b
 free:=λx j e=>by
  have h:(cH X c g i s H).env.kindOf x.1=(c.names.lookup x.1).map λk=>if (k==NameKind.free&&X.env.scope.kind== .function&&X.env.kindOf x.1==some .cell) then NameKind.cell else k:=gU c.names x.1;rw[h,d x j e,Option.map_some]
  split
  .exact .inl rfl
  .exact .inr rfl
section
variable {Z:DC} {X:Cx} {e:Expr} {es:List Expr} {t:gJ} {pos:Pos}
def aE{a:cc}{k j:Nat}{x:Str}{st:Stmt}{c:List Str}{p:Pos}(d:eD X.K X.mg x st c)(F:FnOk X.prog X.w X.K X.mg X.base bZ k d.f d.fd c (aV Z a))(g:b7 j X.A)(h:DA Z X (e::es) t)(i:Gl X x:=by rfl)(l:k<=j:=by first|decide|lia)
  (n:(x==("__debug__":Str))=false:=by decide) (o:starEach (e::es) X.env=(false,eval e X.env)::starEach es X.env:=by rfl) (q:(backTo pos (starEach es X.env)).any (·.1)=false:=by rfl):
  DE Z X (.Call (.Name x p) (e::es) [] pos) (uD a t):=Ni F (g.mono l) i d.m d.F.kp d.b h n o q
def AF{n:Nat}{a:cc}{k j:Nat}{x:Str}{st:Stmt}{c:List Str}{p:Pos}(d:eD X.K X.mg x st c)(F:FnOk X.prog X.w X.K X.mg X.base bZ k d.f d.fd c (jz Z n a))(g:b7 j X.A)(h:DA Z X (e::es) t)(i:Gl X x:=by rfl)(l:k<=j:=by first|decide|lia)
  (o:(x==("__debug__":Str))=false:=by decide) (q:starEach (e::es) X.env=(false,eval e X.env)::starEach es X.env:=by rfl) (r:(backTo pos (starEach es X.env)).any (·.1)=false:=by rfl):
  DF Z X n (.Call (.Name x p) (e::es) [] pos) (NK a t):=Nl F (g.mono l) i d.m d.F.kp d.b h o q r
def lF(f:Scope)(e:X.env.scope=f:=by rfl)(k:d.kind= .function:=by rfl)(a:∀x∈d.names,x.2= .local->d.names.lookup x.1\.local:=by decide+kernel)(b:∀x∈d.names,x.2≠ .cell:=by decide+kernel)
  (c:∀x∈d.names,x.2= .free->f.names.lookup x.1\.cell\/f.names.lookup x.1\.free:=by decide+kernel):bQ X d:=bQ.of f e k a b c
def Xh{NC:List Str}(k:f.kind= .function:=by rfl)(a:∀x∈f.names,x.2= .local->f.names.lookup x.1\.local:=by decide+kernel)(b:∀x∈f.names,x.2≠ .cell:=by decide+kernel)
  (d:∀x∈f.names,x.2= .free->c.names.lookup x.1\.free:=by decide+kernel):bQ (cH X c NC g s H) f:=bQ.nest k a b d
end
section
variable {K:ac} {h:Heap} {mg:Str->Option Value}
abbrev QI(K:ac)(x:Str)(d:Addr):Prop:=aJ K mainGlobals x\(some (.ref d))
abbrev zV(K:ac)(x a:Str)(st:Stmt)(d:Addr)(b c:Option Addr)(e:Array (Option Value))(f kV g i j k:Value):Prop:=K.lookup d\#[f,b, .func (bv x a (iF st) (c5 st) (au st) .none kV g i c j k),e]
def eD.of{x:Str}{st:Stmt}{ps:List Str}{d:Addr}{n e:Option Addr}{o:Array (Option Value)}{p kV q f m g:Value}(X:K.In h)(G:h.Ns mainGlobals mg)(a:QI K x d)(l:zV K x x st d n e o p kV q f m g)(c:bb K m x=true)(k:aA K (.ref d)=true)
  (b:∀(kV i f:Value)(e:Option Addr)(r g:Value)(j:List Value),j.length=ps.length->bindArgs (bv x x (iF st) (c5 st) (au st) .none kV i f e r g) #[j,[]]=pure (ps.zip j)):eD K mg x st ps:=
 #[d,_,jX l c k,(jX l c k).binds b,Os X G a]
def BL.of{Z:DC}{m e:Str}{st:Stmt}{ps:List Str}{d:Addr}{q g:Option Addr}{r:Array (Option Value)}{s kV t i p j:Value}(a:ak Z.K (.ref Z.C) m\(some (.ref d)))(f:bj Z.K (.ref d)=true)(l:zV Z.K m e st d q g r s kV t i p j)(c:bb Z.K p e=true)(k:aA Z.K (.ref d)=true)
  (b:∀(kV n i:Value)(g:Option Addr)(u j:Value)(o:List Value),o.length=ps.length->bindArgs (bv m e (iF st) (c5 st) (au st) .none kV n i g u j) #[o,[]]=pure (ps.zip o)):BL Z m e st ps:=
 #[d,_,jX l c k,(jX l c k).binds b,#[a,f,k]]
end
end L2
namespace Wb
def yf(w:W):Nat:=(w.map List.length).sum
def Lg(w:W):yf w=((am w.length).map λp=>(row w p).length).sum:=by
 unfold yf
 congr 1
 refine List.ext_getElem (by simp) λi b c=>?_
 rw[List.getElem_map,List.getElem_map,List.getElem_range];have a:i<w.length:=by simpa using b
 have:=GF a
 rw[cZ a] at this;rw[FM this]
def hU(w:W):(bD w).length=yf w:=by
 rw[Lg];unfold bD;rw[List.length_flatMap]
 congr 1
 apply acb;intro p _;rw[aS]
def eE(g:Good w):(bD w).Nodup:=by
 unfold bD dz;refine pN (λp _=>?_) ?_
 .rw[mO]
  exact(g.nod p).imp λne e=>ne (KF Prod.snd e)
 .refine List.Pairwise.imp ?_ abz
  intro a b lt x c y d e;obtain⟨_,_,rfl⟩:=cM.mp c;obtain⟨_,_,rfl⟩:=cM.mp d
  have:=KF Prod.fst e
  simp at this;lia
def qc(w:W):j5 (row w) w.length=(bD w).filter λd=>decide (d.1<d.2):=by
 unfold j5 bD;rw[List.filter_flatMap]
 congr 1
 funext p
 rw[List.filter_map];rfl
def JF(g:Good w):2*(j5 (row w) w.length).length<=yf w:=by
 rw[qc,<-hU];have f:=List.length_eq_countP_add_countP (λd:Nat×Nat=>decide (d.1<d.2)) (l:=bD w)
 have p:((bD w).filter λd=>decide (d.1<d.2)).length<=((bD w).filter λd=>decide (d.2<d.1)).length:=by
  have:=aD (l:=((bD w).filter λd=>decide (d.1<d.2)).map λd=>(d.2,d.1)) (m:=(bD w).filter λd=>decide (d.2<d.1)) ?_ ?_
  .rwa [aS] at this
  .unfold dz
   rw[mO];refine List.Pairwise.imp ?_ ((eE g).filter _);intro a b ne e;have i:=KF Prod.fst e;have j:=KF Prod.snd e;exact ne (aaW j i)
  .intro x k
   obtain⟨d,n,rfl⟩:=cM.mp k;obtain⟨o,c⟩:=kO.mp n;refine kO.mpr #[bz.mpr (g.sym _ _ (bz.mp o)),?_];simpa using c
 have q:((bD w).filter λd=>decide (d.2<d.1)).length<=(bD w).countP λd=>!decide (d.1<d.2):=by
  rw[<-Bu];apply abP;intro d _ h;simp at h ⊢;lia
 rw[Bu] at f
 have r:(bD w).countP (λd=>!decide (d.1<d.2))=List.countP (λa=>decide ¬(decide (a.1<a.2)=true)) (bD w):=by
  congr 1
  funext d
  by_cases h:d.1<d.2<;>simp[h]
 lia
structure RI (w:W) (bs:List Bool) (ws ex:List Nat) (c:Nat):Prop where
 len:bs.length=w.length
 z:bs[0]?\true
 wt:∀x∈ws,bs[x]?\true
 cl:∀x,bs[x]?\true->x∈ws\/x∈ex\/∀q∈row w x,bs[q]?\true
 cnt:bs.count false+ws.length<=c
def RI.pop(h:RI w bs (b++ [p]) [] (c+1)):RI w bs b [p] c:=
 #[h.len,h.z,λx a=>h.wt x (fZ _ a),λx a=>by
  rcases h.cl x a with q|q|q
  .rcases cF.mp q with q|q
   .exact .inl q
   .exact .inr (.inl q)
  .cases q
  .exact .inr (.inr q),by have:=h.cnt;rw[cI] at this;simp at this;lia]
def RI.push(h:RI w bs d f c)(i:bs[q]?\false):RI w (bs.set q true) (d++ [q]) f c:=by
 obtain⟨b,g⟩:=dZ.mp i
 have up:∀x,bs[x]?\true->(bs.set q true)[x]?\true:=λx a=>by
  rw[og]
  by_cases e:q=x
  .rw[AC e,AC b]
  .rw[tz e];exact a
 refine#[by rw[gb];exact h.len,up _ h.z,λx a=>?_,λx a=>?_,?_]
 .rcases cF.mp a with z|z
  .exact up _ (h.wt x z)
  .have:x=q:=by simpa using z
   rw[this,og,AC rfl,AC b]
 .by_cases e:q=x
  .exact .inl (by rw[e];simp)
  .rw[og,tz e] at a
   rcases h.cl x a with z|z|z
   .exact .inl (fZ _ z)
   .exact .inr (.inl z)
   .exact .inr (.inr λy j=>up _ (z y j))
 .have k:=h.cnt
  have:0<bs.count false:=List.count_pos_iff.mpr (by rw[<-g];exact rh b)
  rw[ach b,g,cI];simp;lia
def RI.close(h:RI w bs a [p] c)(b:∀q∈row w p,bs[q]?\true):RI w bs a [] c:=
 #[h.len,h.z,h.wt,λx d=>by
  rcases h.cl x d with q|q|q
  .exact .inl q
  .have:x=p:=by simpa using q
   rw[this];exact .inr (.inr b)
  .exact .inr (.inr q),h.cnt]
def RI.all{w:W}(g:Good w)(h:RI w bs [] [] c):bs=ar w.length true:=by
 have:=vH g (S:=λx=>bs[x]?\true) h.z λp q b d=>by
  rcases h.cl p b with z|z|z
  .cases z
  .cases z
  .exact z q d
 refine wI λi=>?_
 by_cases a:i<w.length
 .rw[this i a,wC,AC a]
 .rw[gQ (by rw[h.len];lia),gQ (by simp;lia)]
structure Ay (w:W):Prop where
 rng:∀p q,q∈row w p->q<w.length
 irr:∀p,p∉row w p
 nod:∀p,(row w p).Nodup
 sym:∀p q,q∈row w p->p∈row w q
def Good.near(g:Good w):Ay w:=#[g.rng,g.irr,g.nod,g.sym]
def Ay.good(n:Ay w)(h:∀p,p<w.length->Reach w 0 p):Good w:=#[n.rng,n.irr,n.nod,n.sym,h]
end Wb
namespace L2
open PySem PySem.Spec PyProof.Rows
section
variable {X:Cx} {Z:DC} {pins:List (Addr×Obj)} {σ:St} {H:Hp} {s:Shared}
open Classical in
open Classical in
end
section
variable {X:Cx} {Z:DC}
def HE:CallR X (.type "range") (λa H Q=>∃i:Int,a= [.int i]/\∀q,H q=none->Q (.ref q) (upd H q (.rng 0 i))):=by
 intro c s f H a g Q I d h;obtain⟨i,rfl,q⟩:=h;obtain⟨j,rfl,⟨k,rfl⟩⟩:=d.one;refine call_range_1 ?_;exact#[.ref s.heap.objs.size,_,I.laid (λb o e=>Da _ e) (bM _) (o:= .rng 0 i) #[_,_,_,Gc _ rfl],rfl,q _ (I.hok.fresh (bM _))]
def UK:cc:=λa P=>∃i:Int,a= [.int i]/\P (.rng 0 i)
def EW:CallR X (.type "range") (iK Z UK):=by
 refine HE.imp ?_;intro f H Q b;rfl';obtain⟨G,h,P,s,dv,⟨i,rfl,d⟩,q⟩:=b;obtain⟨v,rfl,a⟩:=dv.ofOne;ac_rfl;refine#[i,by rw[a.ofInt],λp e=>q _ d _ _ _ (.new s e) (.rng aw)]
def QK:cc:=λa P=>∃i j:Int,a= [.rng i j]/\(-(2^62)<=i/\i<2^62/\-(2^62)<=j/\j<2^62/\(j-i).toNat<=1000)/\P (.lst (dR i (j-i).toNat))
def zk(i:Int)(n:Nat):DvAll Z G (nA i n) (dR i n):=by
 unfold nA dR
 induction am n with
 |nil=>exact .nil
 |cons k l a=>exact .cons (.int _) a
def K6(b:X.calm=true):CallR X (.type "list") (iK Z QK):=by
 refine(oM b).imp ?_;intro o H Q c;rfl';obtain⟨G,t,P,s,dv,⟨i,j,rfl,⟨e,f,g,k,l⟩,m⟩,q⟩:=c;obtain⟨v,rfl,a⟩:=dv.ofOne;ac_rfl;cases a with
 |rng h=>exact#[_,i,j,rfl,s _ _ h,e,f,g,k,l,λp n=>q _ m _ _ _ (.new s n) (.lst aw (zk i _))]
end
section
variable {Z:DC} {X:Cx} {md:List Nat} {rn:Nat} {a b e k:Expr} {pos:Pos} {ta tb te tk:bh} {t:iD}
def XY(g h:bh):iD:=λf P=>g f λi=>∃c,i= .lst c/\h f λj=>∃d,j= .lst d/\c.length+d.length<=sizeLine/\P (c++d)
def Q0(l:DE Z X a ta)(m:DE Z X b tb):DF Z X 1 (.BinOp a .Add b pos) (XY ta tb):=by
 refine(DQ DL l m).imp ?_;intro J H Q n;rfl';obtain⟨G,f,P,s,e,h,q⟩:=n;ac_rfl;exists G,f,_,s,e,h;rintro _ ⟨M,rfl,h⟩ N r O c u;exists r,f,_,c.sub,e.mono c.gg,h;rintro _ ⟨R,rfl,v,w⟩ S T U d y;obtain⟨Y,k,rfl,z,g⟩:=u.jK;obtain⟨t,A,rfl,B,i⟩:=y.jK;have C:=g.mono d.gg;have x:=c.trans d;refine#[_,_,_,_,rfl,rfl,d.hh _ _ (c.sub _ _ z),d.sub _ _ B,by rw[g.length,i.length];exact v,λp j=>?_]
 obtain⟨E,F,I⟩:=jB x j (C.append i);exact q _ w _ _ _ _ (x.side j) E F I
variable {tg iter elt:Expr} {ifs:List Expr} {scope:Scope} {NC:List Str} {src:List (Option Nat)} {wi:i6} {g:eN} {tt:dE}
def Vb(f:X.calm=true)(c:bQ X scope)(h:c9 scope X.N src NC)(i:DI Z X tg iter wi)
  (j:∀d s H,DG Z (cH X scope NC d s H) tg g) (l:∀d s H,zU Z (cH X scope NC d s H) ifs tt) (m:∀d s H,DE Z (cH X scope NC d s H) elt te)
  (n:∀x,foldedSetIterable iter X.env x=pure x:=by intro _;rfl):DF Z X 1 (.ListComp elt [#[tg,iter,ifs,0]] scope pos) (NL wi g tt te src):=(Ph f c h i j l m n).imp tO
variable {B:Bs} {ρ:DN} {σ:St} {H G:Hp} {fp:Nat->List Addr}
def SIx.evF(S:SIx Z B md ρ σ H G fp)(h:t ρ P)
  (m:∀c,P c->c.all di=true/\∀v i d,SIx Z B md ρ σ d i fp->Ext G H i d->Dv Z i v (.lst c)->Q v d):pB Z 1 t σ H Q:=by
 exists H,ρ,P, .refl _,S.sX,h;intro c n v f i d x o I p;obtain⟨q,k⟩:=m c n;obtain⟨a,r,J,L,rfl,u,w,y,A⟩:=o.lst;cases u;obtain⟨dv,rfl⟩:=A.flat;have j:H a=none:=(p a (by rw[y];simp)).1
 have C:G a=none:=S.ex.sub.free j
 have l:Ext G H (upd G a (.lst r)) d:=by
  refine#[aX C _,λb o e=>?_,x.hh,λb E F=>?_]
  .by_cases z:b=a
   .subst z
    rw[aw] at e;rw[<-e];exact w
   .rw[aB z] at e
    exact x.hh _ _ (S.ex.sub _ _ e)
  .rw[aB (λz=>E (by rw[z];exact j))];exact F
 exact k _ _ _ (S.grow l) l (.lst aw (dv.flat q))
def Nf(i:Nat)(h:bh)(t:iD):b6:=λE c=>t c λd=>d.all di=true/\∃f,c[i]?\(some (.lst f))/\h c λl=>∃k j,l= .int k/\iB f.length k\j/\E.nx (c.set i (some (.lst (f.set j (.lst d)))))
def HM(i:Nat)(C:DE Z X k tk)(F:DF Z X 1 e t)(r:md.getD i 0=1:=by rfl)(I:X.N[i]?\x:=by rfl)(J:l5 X.env.scope x:=by subst_eqs)(n:(x==("__debug__":Str))=false:=by decide)(L:(x==("__classdict__":Str))=false:=by decide)
  (O:∀v,assign (.Subscript (.Name x c) k f) X.env v=(do
   let o <-holding [v] (eval (.Name x c) X.env)
   let q <-holding [v,o] (eval k X.env)
   standAt f
   holding [v,o,q] (setItem o q v)
   release [v,o,q] []):=by intro _;rfl)
  (P:swapsWithSole [.Subscript (.Name x c) k f] e pos.line X.env=pure false:=by rfl) (hw:swappedStores [.Subscript (.Name x c) k f] e X.env=pure none:=by rfl)
  (p:(assignEach [.Subscript (.Name x c) k f] X.env).map (·.2)= [assign (.Subscript (.Name x c) k f) X.env]:=by rfl):DSt Z X md rn (.Assign [.Subscript (.Name x c) k f] e pos) (Nf i tk t):=by
 refine(xC F (xB (pv i I J n L) C set_list O) P hw p).imp ?_;intro D σ H Q;rfl';obtain⟨B,ρ,E,⟨G,R,S⟩,h,M⟩:=Q;ac_rfl;refine S.evF h λd n=>#[n.1,λv G' H' w x dv=>?_];rfl';obtain⟨_,ds,p,h⟩:=n;obtain⟨l,xs,_,_,y,e3,_⟩:=w.one r p;ac_rfl;refine#[_,y,w.ev true h ?_];rintro _ ⟨k,j,rfl,T,U⟩;refine#[rfl,λv1 Y H1 a b g=>?_];rfl';cases g.ofInt;obtain⟨l',s,gu,e1,z,Cf,A,put⟩:=a.one r p;cases e1;ac_rfl;rw[y] at z;cases z;exact#[l,s,k,j,rfl,rfl,Cf,by rw[A.length];exact T,M.nx _ U _ _ #[Y,R,put _ _ (A.set (dv.mono b.gg) j)]]
end
section
variable {Z:DC} {X:Cx} {md:List Nat} {rn:Nat} {b:Expr} {pos Tt:Pos} {tb:bh}
def UN(e:List Nat)(i:Nat)(f:bh):b6:=λE a=>∃c,a[i]?\(some (.lst c))/\f (cP e a) λg=>∃d,g= .lst d/\c.length+d.length<=sizeLine/\E.nx (a.set i (some (.lst (c++d))))
def Nr(i:Nat)(t:X.N.Nodup)(a:DE Z X b u)(k:m.getD i 0=1:=by rfl)(n:X.N[i]?\x:=by rfl)(w:Loc X.env.scope x:=by subst_eqs)(y:swapsWith (.BinOp (.Name x py) .Add b z) (some (.Name x g)) c.line X.env=pure false:=by rfl)
  (A:l5 X.env.scope x:=by subst_eqs) (e:(x==("__debug__":Str))=false:=by decide) (C:(x==("__classdict__":Str))=false:=by decide)
  (F:X.fn x=true\/X.env.scope.names.lookup x\.local:=by subst_eqs):DSt Z X m rn (.Assign [.Name x g] (.BinOp (.Name x py) .Add b z) c) (UN m i u):=by
 refine(gT t n w (DQ DL (pv i n A e C) a) y F).imp ?_;rintro D σ H ⟨B,ρ,E,⟨G,fp,S⟩,⟨l1,I,h⟩,M⟩;obtain⟨l,xs,_,J,L,O,o,_⟩:=S.one k I;cases J;refine#[_,L,S.ev false h λd e=>#[trivial,λv P H' S' x dv=>?_]];obtain⟨l2,rfl,Q,R⟩:=e;obtain⟨p2,ys,rfl,T,q⟩:=dv.jK;refine#[_,_,_,_,rfl,rfl,x.hh _ _ O,x.sub _ _ T,by rw[o.length,q.length];exact Q,λp r=>?_]
 obtain⟨U,Y,f⟩:=jB x r ((o.mono x.gg).append q);exact M.nx _ R _ _ #[P,_,(S.grow (x.side r)).uc k U Y (λb a=>#[S.ex.hh.free (f b a).1,(f b a).2]) λb a j _ s=>(S.nw j b s).2.1 (f b a).1]
end
open PySem.Calls PySem.W
section
variable {X:Cx} {C:Addr} {x:Str} {p pos:Pos} {e:Expr} {es:List Expr} {te:TE} {t:TA}
def SU(X:Cx)(f:TE):TS:=λ_ b H=>f b H λv c=>∃a C d,v= .ref a/\c a\(uB C a d)/\qN X.K C/\mroIn X.K C (.type "BaseException")\true/\JS X b (upd c a (mQ C a d)) a
def Mg(y:X.calm=true)(z:PE X e te):PS X (.Raise (some e) none pos) (SU X te):=by
 intro c s l H D I h;rw[arm_exec_Raise];refine wpAny_bind (wpAny_standAt ?_);simp only[evalOpt,Option.map];unfold raiseStmt;refine wpAny_bind (wpAny_bind (thn (z c s l H _ I h) λu f #[v,B,k,E,a,C,d,ev,m,F,i,q]=>wpAny_bind (wpAny_standAt (wpAny_pure ?_))));subst ev;obtain rfl:u=Value.ref a:=E;obtain⟨t,j⟩:=xE k.hok m;obtain⟨U,Y,N,bs,G,p,Z,sub,ab,J,dd,n,k1,k2,k3,k5,r,cB,cA,cN⟩:=F.obj;have w:=k.dW _ _ r
 have L:(Value.ref C::G).contains (.type "BaseException")=true:=by
  unfold mroIn clsIn at i;rw[r] at i;simpa using i
 have M:Inv X c l (upd B a (mQ C a d)) f:=by
  refine ah λG0 n=>?_;have O:=k.write (x:=a) (e:=a) (o:=mQ C a d) (h':=f.heap) (t':=f.toks) (by rw[m];exact True.intro) (.inl rfl) (λb u i q=>q) #[_,j] (NP (tb:= .none) j)
  obtain⟨P,g,Q,R,os⟩:=f;refine n ?_;exact O
 have S:X.xe (.ref a) f:=q f M.MQ #[C,t, .none,d,aw,j, .inl rfl];have T:X.A.handled=none:=I.ok.hd y;obtain⟨P,g,Q,R,os⟩:=f
 repeat (first|with_reducible refine wpAny_loadPart_at j ?_|with_reducible refine wpAny_loadPart_at w ?_| (with_reducible refine wpAny_isSubtype_exc w ?_;rw[L]) |wp_step)
 exact wpAny_raiseNew_none T S
end
section
variable {X:Cx} {k:Nat} {f C:Addr} {fd:FuncData} {ps:List Str} {sp:Sp} {x m:Str} {p pos apos:Pos} {e o:Expr} {es:List Expr} {ta:TE} {t:TA}
def UD(X:Cx)(b:St):XK:=λe _ c=>∃a,e= .ref a/\JS X b c a
theorem PQ{pins:List (Addr×Obj)}{σ:St}{H:Hp}{s:Shared}{Q:VK}{us:List Value}{vs:List V}(F:FnOk X.prog X.w X.K X.mg X.base (qH X.prog X.w) k f fd ps sp)(hr:b7 k X.A)(hb:Binds X.K fd ps [])
  (I:Inv X pins σ H s) (r:Vals vs us) (h:sp vs H Q (UD X σ)):wpAny (model X.prog X.w) X.A (call (.ref f) us) (EP X pins σ Q) X.xe s:=by
 have hl:(us++ []).length=ps.length:=by rw[gR,<-r.length];exact F.len _ _ _ _ h
 have Aa:=hb s us I.dW hl;rw[gR] at Aa;refine wpAny_call (codeAny_mono (F.run X.A X.stack s H #[us,[]] us vs Q (UD X σ) hr I.Ff Aa r h) λr s' hq=>?_);cases r with
 |error e=>
  rfl';obtain⟨a,H',rfl,fl,a',ea,q⟩:=hq;cases ea;obtain⟨I2,f2⟩:=Rg I fl;ac_rfl;exact q s' I2 f2
 |ok fl=>
  cases fl with
  |ret u=>exact I.after hq
  |next=>exact False.elim hq
  |brk=>exact False.elim hq
  |cont=>exact False.elim hq
def KJ(X:Cx)(b:Sp)(t:TA):TE:=λa H Q=>t a H λc d=>b c d Q (UD X a)
def L6(F:FnOk X.prog X.w X.K X.mg X.base (qH X.prog X.w) k f fd ps sp)(c:b7 k X.A)(d:Gl X x)(g:X.mg x\(.ref f))(i:aA X.K (.ref f)=true)(j:Binds X.K fd ps [])
  (l:PA X (e::es) t) (n:(x==("__debug__":Str))=false:=by decide) (u:starEach (e::es) X.env=(false,eval e X.env)::starEach es X.env:=by rfl) (v:(backTo pos (starEach es X.env)).any (·.1)=false:=by rfl):
  PE X (.Call (.Name x p) (e::es) [] pos) (KJ X sp t):=by
 intro a s y H Q I h;refine UV (jx I d g ?_ n);refine aaS (h₀:=X.base) I.ok.mod.kin i (thn (l pos a s y H _ I h) λz B #[E,G,b,r,q]=>#[b.dW,?_]) u v;exact PQ F c j b r q
end
section
variable {X:Cx} {pins:List (Addr×Obj)} {σ:St} {H:Hp} {s:Shared}
def tB(I:Inv X pins σ H s)(O:X.N.Nodup)(F:X.N[i]?\x)(P:X.env.scope.names.lookup x\.local)
  (h:∀G,Inv X pins (σ.set i none) H G->Q ⟨⟩ G):wpAny M A (do bindName X.env x .none;unbindBehindTheSuite X.env x u) Q E s:=by
 obtain⟨m,J,R⟩:=id I.loc;have S:(X.env.scope.kind== .class|| (X.env.scope.kind== .module&&X.env.locals !=X.env.globals))=false:=by rw[I.ok.kind];rfl
 have T:i<σ.length:=by rw[I.len];exact(dZ.mp F).1
 have xY:=I.xY;refine wpAny_nameGoes_keeps P J S λU v Y f=>?_;rfl';obtain⟨oL,_,_,rO,_⟩:=id J;ac_rfl
 have a:gZ X.prog X.w H U:=λb ob e=>by
  refine(I.hok b ob e).mM (λc L r q=>(f.2 c ?_).trans q) (λ_ q=>q) λ_ _ q=>q;rintro rfl
  rcases r with rfl|r
  .rw[I.free] at e;cases e
  .rw[I.free] at r;cases r
 refine h _ #[I.ok,I.os,I.bare,#[λb o e n B l=>?_,λb o e n B l=>?_,I.base.free,λb o e l=>?_,I.base.tups,I.base.frzs,I.base.tbls],#[_,Y,λj y v' g t e3=>?_],λy c e=>?_,I.free,I.freeC,λp hp=>?_,a,by simpa using I.len]
 .exact(f.2 b (bJ (fG (Do e) I.ok.above))).trans (I.base.keep b o e n B l)
 .obtain⟨sl,g⟩:=I.base.slot b o e n B l
  exact#[sl,(f.2 b (bJ (fG (Do e) I.ok.above))).trans g]
 .obtain⟨o',g⟩:=I.base.there b o e l
  exact#[o',(f.2 b (bJ (fG (Do e) I.ok.above))).trans g]
 .by_cases C:j=i
  .subst C
   rw[iS T] at t;cases FM t
  .rw[f7 (Ne.symm C)] at t
   obtain⟨u',r',q⟩:=R j y v' g t e3;exists u',r'
   rcases q with ⟨k,e⟩ | ⟨k,c,e,z⟩
   .refine .inl #[k,?_]
    have:y≠x:=λe=>C (u0 O g (e▸F))
    simp[this,e]
   .exact .inr #[k,c,e,z.sameBut f (xY y c e)]
 .obtain⟨L,z⟩:=I.cell y c e
  exact#[L,z.sameBut f (xY y c e)]
 .obtain⟨e,n,ne,nf,d⟩:=I.pin p hp
  exact#[(f.2 p.1 ne).trans e,n,ne,nf,d]
def Fx{K:ac}{C:Addr}{b:Value}{r:Bool}{f q:Str}{N:Addr}{bs e:List Value}{g:Bool}{h:List Str}{sub:List Value}{i:Bool}{c:Option Bool}{j:Option Addr}{k l m n o:Option Value}{a:String}
  (p:K.lookup C\(excClassObj f q C N bs e g h sub i c j k l m n o a)) (d:mroIn K C b\r):(Value.ref C::e).contains b=r:=by
 unfold mroIn clsIn at d;rw[p] at d;simpa using d
def NI{M:Model}{A:Around}{E:Value->Shared->Prop}{Q:Bool->Shared->Prop}{K:ac}{a C e t:Addr}{j:Value}{d:Option Addr}{b:Bool}(X:K.In s.heap)(k:s.heap.get? a\(jv C t j d))(l:qN K C)(m:qN K e)(n:mroIn K e (.type "BaseException")\true)(o:mroIn K C (.ref e)\b)
  (h:Q b s):wpAny M A (excMatches (.ref a) (.ref e)) Q E s:=by
 obtain⟨S,T,N,bs,U,Y,H,sub,Z,p,dd,k0,k1,k2,k3,k5,i,_⟩:=l.obj;obtain⟨q,r,N',u,v,w,x,y,z,B,F,G,I,J,L,O,c,_⟩:=m.obj;have P:=Fx i o;have R:=Fx c n
 replace i:=X _ _ i
 replace c:=X _ _ c
 have f:=tc_notTuple;obtain⟨hp,g,dr,tk,os⟩:=s;unfold excMatches
 repeat (first|with_reducible refine wpAny_loadPart_at k ?_|with_reducible refine wpAny_loadPart_at c ?_| (with_reducible refine wpAny_isSubtype_exc c ?_;rw[R]) | (with_reducible refine wpAny_isSubtype_exc i ?_;rw[P]) |wp_step)
 cases b<;>(wp_walk;exact h)
end
abbrev Cx.yE(X:Cx)(a:Addr):Cx:={X with A:=X.A.mark (some (.ref a)),calm:=false,xe:=λ_ _=>False}
abbrev Cx.tr(X:Cx)(pn:List (Addr×Obj))(E:Value->Shared->Prop):Cx:={X with pn:=pn,xe:=E}
section
variable {X:Cx} {pins pn:List (Addr×Obj)} {σ:St} {H:Hp} {s:Shared} {E:Value->Shared->Prop} {a:Addr}
theorem Inv.yE(I:Inv X pins σ H s)(a:Addr):Inv (X.yE a) pins σ H s:=
 #[#[I.ok.mod,I.ok.kind,I.ok.glob,I.ok.blt,I.ok.above,I.ok.inj,I.ok.has,I.ok.cab,(λz=>nomatch z),I.ok.frames,I.ok.stk,I.ok.exf,I.ok.bs,I.ok.bsz,I.ok.noex,I.ok.exfs,I.ok.funs,I.ok.frf],I.os,I.bare,I.base,I.loc,I.cell,I.free,I.freeC,I.pin,I.hok,I.len]
def Inv.El(ok:X.Ok)(I:Inv (X.yE a) pins σ H s):Inv X pins σ H s:=#[ok,I.os,I.bare,I.base,I.loc,I.cell,I.free,I.freeC,I.pin,I.hok,I.len]
theorem Inv.tr(I:Inv X pins σ H s)(E:Value->Shared->Prop):Inv (X.tr (X.pn++pins) E) [] σ H s:=
 #[#[I.ok.mod,I.ok.kind,I.ok.glob,I.ok.blt,I.ok.above,I.ok.inj,I.ok.has,I.ok.cab,I.ok.hd,I.ok.frames,I.ok.stk,I.ok.exf,I.ok.bs,I.ok.bsz,I.ok.noex,I.ok.exfs,I.ok.funs,I.ok.frf],I.os,I.bare,I.base,I.loc,I.cell,I.free,I.freeC,λp b=>I.pin p (by rw[gR] at b;exact b),I.hok,I.len]
def Inv.Hc(ok:X.Ok)(I:Inv (X.tr (X.pn++pins) E) [] σ H s):Inv X pins σ H s:=#[ok,I.os,I.bare,I.base,I.loc,I.cell,I.free,I.freeC,λp b=>I.pin p (by rw[gR];exact b),I.hok,I.len]
def Cj{X:Cx}(f:xH X H s a)(h:Q ⟨⟩ s):wpAny M A (setFlight (.ref a) none) Q E s:=by
 rfl';obtain⟨C,t,l,d,_,c,b⟩:=f;ac_rfl
 rcases b with rfl| ⟨T,rfl,_,_,_,_,_,o,j,e,g,b⟩
 .unfold setFlight
  refine ir (abb (x:= .none) c rfl rfl ?_);rw[tz ∅]
  exact mo h
 .refine wpAny_setFlight_none c rfl rfl e g (wB.mp b).1 ?_
  rw[Heap.update_setField_same _ _ o j 3 .none e g b];exact h
end
def XT:Option Nat->Ends->Ends
 |none,D=>D
 |some i,D=>{nx:=λa H=>D.nx (a.set i none) H,rt:=D.rt,bk:=λa H=>D.bk (a.set i none) H,ct:=λa H=>D.ct (a.set i none) H}
def ZN:Option Nat->Addr->St->St
 |none,_,b=>b
 |some i,a,b=>b.set i (some (.ref a))
abbrev MD:=List (Addr×Option Nat×(Addr->TS))
def Ei(K:ac):MD->Ends->St->Hp->Addr->Addr->Prop
 | [],_,_,_,_,_=>False
 | (d,n,e)::r,D,c,H,a,C=>∃b,mroIn K C (.ref d)\b/\if b=true then e a (XT n D) (ZN n a c) H else Ei K r D c H a C
def PH(X:Cx)(e:List ExceptHandler)(l:MD):Prop:=
 ∀(b:List (Addr×Obj))(c:St)(H:Hp)(s:Shared)(a C:Addr)(d:Option Addr)(D:Ends),Inv X b c H s->xH X H s a->H a\(mQ C a d)->qN X.K C->Ei X.K l D c H a C->wpAny (model X.prog X.w) X.A (handleBy (.ref a) X.env e) (SP X b D) X.xe s
section
variable {X:Cx} {pos p:Pos} {c n:Str} {Cm:Addr} {ET:Stmt} {zD:List Stmt} {rest:List ExceptHandler} {l:MD} {th:Addr->TS}
def Sl:PH X [] []:=λ_ _ _ _ _ _ _ _ _ _ _ _ h=>h.elim
def NO{h:Heap}(e:mQ C a d=mQ f a i)(g:h.get? a\(jv C t b d)):C=f:=by
 have:=KF (λo=>match o with|HO.ext k=>k h|_=>True) e
 have m:∃t b,h.get? a\(jv f t b i):=by
  have:(∃t b,h.get? a\(jv C t b d))=(∃t b,h.get? a\(jv f t b i)):=this
  rw[<-this];exact#[t,b,g]
 obtain⟨r,q,j⟩:=m;rw[g] at j;cases j;rfl
def Wl(i:Nat)(hN:X.N.Nodup)(hi:X.N[i]?\n)(hk:X.env.scope.names.lookup n\.local)(hg:Gl X c)(hm:X.mg c\(.ref Cm))(xm:qN X.K Cm)(rL:mroIn X.K Cm (.type "BaseException")\true)(hs:∀a,jU (X.yE a) (ET::zD) (th a))(hr:PH X rest l)(eZ:(c==("__debug__":Str))=false:=by decide):
  PH X (.ExceptHandler (some (.Name c p)) (some n) (ET::zD) pos::rest) ((Cm,some i,th)::l):=by
 intro pins σ H s a C d D I fl ha xc h;rfl';obtain⟨C',t,tb,d',h1,h2,h3⟩:=id fl;have eC:C'=C:=NO (Option.some.inj (h1.symm.trans ha)) h2;subst eC;obtain⟨b,hb,h⟩:=h;ac_rfl;refine wpAny_handleBy_cons (codeAny_handlers_test (wpAny_mono (jx (I.yE a) hg hm ?_ eZ) (λ_ _ x=>x) λ_ _ z=>z)) (by intro q;cases q)
 refine NI I.dW h2 xc xm rL hb ?_;cases b with
 |false=>exact hr pins σ H s a C' d D I fl ha xc h
 |true=>
  refine codeAny_handlers_suite_as (Cj fl ?_);refine ke (X:=X.yE a) (v:= .ref a) (I.yE a) hN hi (.inl hk) rfl (λs1 I1=>?_) (.inr hk);refine wpAny_mono (hs a pins s1 _ H _ I1 h) (λf s2 q=>?_) λ_ _ z=>z.elim;cases f with
  |next=>obtain⟨aC,H',I',q⟩:=q;exact tB (I'.El I.ok) hN hi hk λs3 I3=>#[_,H',I3,q]
  |brk=>obtain⟨aC,H',I',q⟩:=q;exact tB (I'.El I.ok) hN hi hk λs3 I3=>#[_,H',I3,q]
  |cont=>obtain⟨aC,H',I',q⟩:=q;exact tB (I'.El I.ok) hN hi hk λs3 I3=>#[_,H',I3,q]
  |ret u=>obtain⟨v,aC,H',I',r,q⟩:=q;exact tB (I'.El I.ok) hN hi hk λs3 I3=>#[v,_,H',I3,r,q]
def Z6(X:Cx)(g:List (Addr×Obj)->(Value->Shared->Prop)->TS)(h:TS)(l:MD):TS:=λD i H=>∀e E,(∀f b a C d,b a\(mQ C a d)->qN X.K C->Ei X.K l D f b a C->JS (X.tr e E) f b a)->g e E {D with nx:=h D} i H
theorem Sr{body orelse:List Stmt}{h₀:ExceptHandler}{hs:List ExceptHandler}{tb:List (Addr×Obj)->(Value->Shared->Prop)->TS}{to:TS}(oq:X.stack=X.env::X.outer)(Oh:X.env.frame\X.env.locals)
  (hb:∀pn E,jU (X.tr pn E) body (tb pn E)) (ho:jU X orelse to) (hh:PH X (h₀::hs) l):PS X (.Try body (h₀::hs) orelse [] pos) (Z6 X tb to l):=by
 intro pins s σ H D I h;refine wpAny_Try_except ?_
 let E':Value->Shared->Prop:=λe s₁=>wpAny (model X.prog X.w) X.A (noteFrame e X.env) (λ_ Bq=>wpAny (model X.prog X.w) X.A (setFlight e none) (λ_ GX=>wpAny (model X.prog X.w) X.A (handleBy e X.env (h₀::hs)) (SP X pins D) X.xe GX) X.xe Bq) X.xe s₁
 have hw:=h (X.pn++pins) E' λaC H' a C d h1 h2 h3=>by
  intro s1 I1 f1;refine Ba (X:=X.tr (X.pn++pins) E') oq Oh I1 f1 λs2 I2 f2=>?_;rfl';have I2':=I2.Hc I.ok;obtain⟨C',t,tb,d',g1,g2,g3⟩:=f2;ac_rfl;refine hh pins aC H' s2 a C d D I2' #[C',t,tb,d',g1,g2,g3.imp id λ#[T,e1,e2,e3,e4,e5,e6]=>#[T,e1,e2,e3,e4,λp hp=>e5 p (fZ _ hp),e6]] h1 h2 h3
 refine wpAny_mono (hb _ E' [] s σ H _ (I.tr E') hw) (λf s1 q=>?_) λ_ _ z=>z;cases f with
 |next=>obtain⟨aC,H',I',q⟩:=q;exact ho pins s1 aC H' D (I'.Hc I.ok) q
 |brk=>obtain⟨aC,H',I',q⟩:=q;exact#[aC,H',I'.Hc I.ok,q]
 |cont=>obtain⟨aC,H',I',q⟩:=q;exact#[aC,H',I'.Hc I.ok,q]
 |ret u=>obtain⟨v,aC,H',I',r,q⟩:=q;exact#[v,aC,H',I'.Hc I.ok,r,q]
end
abbrev BI:=List D->(D->Prop)->(D->Prop)->Prop
def gL(Z:DC)(f:BI):Sp:=λg H Q E=>∃(G:Hp)(e:List D)(P R:D->Prop),ba G H/\DvAll Z G g e/\f e P R/\(∀d,P d->∀v b c,Ext G H b c->Dv Z b v d->Q v c)/\∀d,R d->∀a b c,Ext G H b c->Dv Z b (.ref a) d->E (.ref a) none c
section
variable {P:Program} {w:World} {K:ac} {mg:Str->Option Value} {base:Heap} {Z:DC}
def oG.okX{x a:Str}{st:Stmt}{f:Addr}{g:FuncData}{N d:List Str}{k:Nat}{e:Sp}{h:oz}(F:oG K x a st f g)(S:aG N d (au st))(len:∀b H Q E,e b H Q E->b.length=d.length)
  (i:∀(c:Value)(A:Around)(outer:List Env)(s:Shared)(H:Hp)(b:List V)(Q:VK)(E:XK),b7 k (A.deeper (envOfC a (au st) s.heap.objs.size f c))->e b H Q E->
   ∃t,jU (kj h P w K mg base N a (au st) f c A outer s H E) (c5 st) t/\t {nx:=λ_ j=>Q .bo j,rt:=Q} (start N b) H):FnOk P w K mg base h (k+1) f g d e:=by
 rfl';obtain⟨u,v,kV,m,y,z,c,B,C,rfl,n,o⟩:=F.ex;ac_rfl;exact NR n o S len λA outer s H b Q E p q=>i c A outer s H b Q E p q
theorem uM{x b:Str}{st:Stmt}{f:Addr}{B:FuncData}{N m:List Str}{k:Nat}{p:BI}(F:oG K x b st f B)(S:aG N m (au st))(C:List Nat)(I:∀i,i<m.length->C.getD i 0=0)(len:∀c P R,p c P R->c.length=m.length)
  (J:∀(n:Value)(A:Around)(outer:List Env)(s:Shared)(H:Hp)(E:XK)(c:List D)(R g:D->Prop),b7 k (A.deeper (envOfC b (au st) s.heap.objs.size f n))->p c R g->
   ∃t,DSs Z (kj (qH P w) P w K mg base N b (au st) f n A outer s H E) C 0 (c5 st) t/\t {nx:=λ_=>R .bo,rt:=R,xc:=λ_ d=>g d} (jq N c)):FnOk P w K mg base (qH P w) (k+1) f B m (gL Z p):=by
 refine F.okX S (λL H Q E h=>?_) (λn A outer s H L Q E M h=>?_)
 .obtain⟨G,c,R,g,s,dv,h,q⟩:=h
  rw[dv.length];exact len _ _ _ h
 rfl';obtain⟨G,c,R,g,T,dv,h,q,U⟩:=h;obtain⟨t,Y,X⟩:=J n A outer s H E c R g M h;have hl:=len _ _ _ h;ac_rfl;refine#[_,Y,#[G,H,G],_,_,#[G,λ_=> [],?_],X,#[λρ LG aC j #[l,fp,r]=>q _ LG _ l j r.ex .bo,λd u v f l j x o nd nw=>q d u v l j x o.1,λ_ z=>z.elim,λ_ z=>z.elim,λρ d u aC j l fp a r y s2 I2 f2=>NQ I2 f2 (U d u a l j r.ex y)]];refine#[.refl T, .refl _,by unfold jq start;simp[dv.length],λi d e=>?_,λ_=>gd,(λ_ _ _ _ z=>by cases z),(λ_ _ z=>by cases z)]
 unfold jq at e
 have qK:i<c.length:=by
  apply FB;intro z;rw[kN (~~~iU z),wC] at e
  split at e<;>cases e
 rw[i5 (~~~qK),fi] at e
 have fq:c[i]?\d:=by
  cases z:c[i]? with
  |none=>rw[z] at e;cases e
  |some d'=>rw[z] at e;cases e;rfl
 obtain⟨v,hv,y⟩:=dv.get fq;refine#[v,?_,by rw[I i ()];exact#[y,rfl]]
 unfold start;rw[i5 (by simpa [dv.length] using qK),fi,hv];rfl
end
section
variable {Z:DC} {X:Cx} {md:List Nat} {rn:Nat} {st:Stmt} {GV:List Stmt} {t:gJ} {e x1 y1:Expr} {es:List Expr} {tx ty:bh} {sd:BI} {k j:Nat} {x:Str} {ps:List Str} {p pos aU:Pos}
def QT(b:List Nat)(c:BI)(t:gJ)(K:cG->DN->D->Prop):b6:=λE a=>t (cP b a) λd=>c d (K E a) (E.xc a)
def EV{B:Bs}{b:DN}{g:St}{H G:Hp}{i:Nat->List Addr}{E:cG}{r:Ends}{K:D->Prop}{Q:VK}(S:SIx Z B md b g H G i)(h:t (cP md b) λl=>sd l K (E.xc b))(M:Meets Z X B md rn E r)
  (q:∀d,K d->∀v c f,SIx Z B md b g f c i->Dv Z c v d->Q v f):KJ X (gL Z sd) (yQ Z t) g H Q:=by
 refine#[G,_,_,S.ex.sub,S.yo,h,λl u z w A n y=>?_];have o:=S.grow n;exact#[w,l,K,E.xc b,n.sub,y,u,λd m v c f x dv=>q d m v c f (o.grow x) dv,λd m a c f x dv=>#[a,rfl,M.xc b d m g f c i a (o.grow x) dv]]
def qt(d:eD X.K X.mg x st ps)(F:FnOk X.prog X.w X.K X.mg X.base (qH X.prog X.w) k d.f d.fd ps (gL Z sd))(c:b7 j X.A)(g:DA Z X (e::es) t)(i:Gl X x:=by rfl)(l:k<=j:=by first|decide|lia)
  (n:(x==("__debug__":Str))=false:=by decide) (o:starEach (e::es) X.env=(false,eval e X.env)::starEach es X.env:=by rfl) (q:(backTo aU (starEach es X.env)).any (·.1)=false:=by rfl) (r:swapsWith (.Call (.Name x p) (e::es) [] aU) none pos.line X.env=pure false:=by rfl):
  DSt Z X md rn (.Expr (.Call (.Name x p) (e::es) [] aU) pos) (QT md sd t λE a _=>E.nx a):=by
 refine(gN (L6 F (c.mono l) i d.m d.F.kp d.b g n o q) r).imp ?_;intro D L H u;rfl';obtain⟨B,a,E,⟨G,z,S⟩,h,M⟩:=u;ac_rfl;exact EV S h M λd C v I O J dv=>M.nx _ C _ _ #[I,z,J]
structure XE (K:ac) (C:Addr):Prop where
 cls:jN K C
 obj:qN K C
def NF:Option Nat->cG->cG
 |none,E=>{E with xc:=λ_ _=>False}
 |some i,E=>{nx:=λa=>E.nx (a.set i none),rt:=E.rt,bk:=λa=>E.bk (a.set i none),ct:=λa=>E.ct (a.set i none)}
def PU:Option Nat->D->DN->DN
 |none,_,a=>a
 |some i,d,a=>a.set i (some d)
abbrev BK:=List (Addr×Option Nat×b6)
def UY(K:ac)(C:Addr):BK->cG->DN->D->Prop
 | [],_,_,_=>False
 | (c,n,f)::r,E,a,d=>∃b,bT K C (.ref c)\b/\if b=true then f (NF n E) (PU n d a) else UY K C r E a d
def UX(K:ac)(l:BK)(E:cG)(a:DN):D->Prop
 | .err C b c=>qN K C/\UY K C l E a (.err C b c)
 |_=>False
def XF(K:ac)(tb a:b6)(l:BK):b6:=λE b=>tb {E with nx:=a E,xc:=UX K l E} b
def SIx.drop{H G:Hp}{i:Nat}(S:SIx Z B md a d H G f):SIx Z B md (a.set i none) (d.set i none) H G f where
 ex:=S.ex
 fl:=S.fl
 len:=by rw[gb,gb];exact S.len
 at_:=λj c h=>by
  by_cases z:i=j
  .subst z
   by_cases b:i<a.length
   .rw[iS b] at h;cases h
   .rw[Bx (iU b),gQ (iU b)] at h;cases h
  .rw[f7 z] at h ⊢
   exact S.at_ j c h
 nd:=S.nd
 ap:=S.ap
 nw:=S.nw
def T7(Z:DC)(X:Cx)(b:List Nat)(d:Nat)(l:BK):MD:=l.map λc=>(c.1,c.2.1,λa=>mW Z (X.yE a) b d c.2.2)
def RX(a:List Nat)(l:BK):Prop:=∀c∈l,∀i,c.2.1\i->a.getD i 0=0
def DHs(Z:DC)(X:Cx)(a:List Nat)(b:Nat)(c:List ExceptHandler)(l:BK):Prop:=PH X c (T7 Z X a b l)/\RX a l
theorem AW{B:Bs}{E:cG}{u:Ends}(M:Meets Z X B md rn E u){q:DN}{v:St}{H G:Hp}{w:Nat->List Addr}(S:SIx Z B md q v H G w){a C:Addr}{d:D}(dv:Dv Z G (.ref a) d){K:ac}:∀(l:BK),RX md l->UY K C l E q d->Ei K (T7 Z X md rn l) u v H a C
 | [],_,h=>h
 | (N,n,I)::r,ok,#[b,J,h]=>by
  exists b,J;cases b with
  |false=>exact bX (AW M S dv r (λc L=>ok c (eM _ L)) (h))
  |true=>
   have h:I (NF n E) (PU n d q):=h;refine b8 ?_;cases n with
   |none=>exact#[B,q,_,#[G,w,S],h,#[M.nx,M.rt,M.bk,M.ct,λ_ _ z=>z.elim]]
   |some i=>
    refine#[B,_,_,#[G,_,S.lA (ok _ (dH ..) i rfl) dv],h,#[λy f A F #[g,m,o]=>M.nx _ f _ _ #[g,m,o.drop],M.rt,λy f A F #[g,m,o]=>M.bk _ f _ _ #[g,m,o.drop],λy f A F #[g,m,o]=>M.ct _ f _ _ #[g,m,o.drop],λ_ _ z=>z.elim]]
def J6(w:∀g E,DSs Z (X.tr g E) md rn c tb)(y:DSs Z X md rn b o)(q:DHs Z X md rn (f::n) l)(z:X.stack=X.env::X.outer:=by rfl)(A:X.env.frame\X.env.locals:=by rfl):
  DSt Z X md rn (.Try c (f::n) b [] pos) (XF X.K tb o l):=by
 refine(Sr (tb:=λg E=>mW Z (X.tr g E) md rn tb) z A w y q.1).imp ?_;intro Q R H F g T I;rfl';obtain⟨B,L,E,S,h,M⟩:=F;ac_rfl;refine#[B,L,_,S,h,#[λr N u v i=>#[B,r,E,i,N,M],M.rt,M.bk,M.ct,λr d m u v G Y a i dv=>?_]];cases d<;>first|exact False.elim m|skip
 rename_i C e j
 have O:=dv;cases dv with
 |err P k p=>exact I u v a C _ (i.ex.sub _ _ P) m.1 (AW M i O l q.2 m.2)
def J2:DHs Z X md rn [] []:=#[Sl,λc a=>by cases a]
variable {c n:Str} {Cm:Addr} {ET:Stmt} {zD:List Stmt} {rest:List ExceptHandler} {l:BK} {th:b6}
def Nq(i:Nat)(g:X.N.Nodup)(h:X.mg c\(.ref Cm))(d:XE X.K Cm)(m:∀a,DSs Z (X.yE a) md rn (o::zD) th)(f:DHs Z X md rn rest l)(q:Gl X c:=by rfl)(r:(c==("__debug__":Str))=false:=by decide)(u:X.N[i]?\n:=by rfl)(v:X.env.scope.names.lookup n\.local:=by rfl)(w:md.getD i 0=0:=by rfl):
  DHs Z X md rn (.ExceptHandler (some (.Name c p)) (some n) (o::zD) pos::rest) ((Cm,some i,th)::l):=
 #[Wl i g u v q h d.obj d.cls.be m f.1 r,λc b=>by
  rcases bY.mp b with rfl|b
  .intro i z;cases z;exact w
  .exact f.2 c b]
end
section
variable {X:Cx}
def Fi{H:Hp}(hok:gZ P w H h)(e:H a\(mQ C a b))(k:Hq H b c d):∃f b,PySem.W.InstAt h a f C b:=by
 obtain⟨t,j,e⟩:=J9 hok e
 rcases k with ⟨rfl,_,_⟩ | ⟨l,rfl,g,_⟩
 .exact#[_,none,e,rfl,rfl,trivial]
 .obtain⟨_,m,⟨o,_,_,i,_⟩,_⟩:=Eo hok g
  exact#[_,some o,e,rfl,rfl,i]
structure KY (K:ac):Prop where
 hn:bd K (.builtin "object.__class__") "__get__"\(some (.builtin "getset_descriptor.__get__"))
 htk:cr K (.builtin "object.__class__")\true
theorem zZ(i:KY X.K):
  CallR X (.builtin "isinstance") (λg H Q=>∃(a C:Addr)(f:Option Addr)(j:List Str)(k:List V)(c:V)(d:Value)(b:Bool),g= [.ref a,c]/\H a\(mQ C a f)/\Hq H f j k/\jN X.K C/\Ez c d/\aj X.K (.ref C) d\b/\Q (.bl b) H):=by
 intro l s B H g E Q I o h;rfl';obtain⟨a,C,f,j,k,c,d,b,rfl,r,t,u,v,e,q⟩:=h;obtain⟨G,w,rfl,x,m⟩:=o.two;subst x;obtain⟨L,y,J⟩:=Fi I.hok r t;ac_rfl
 have A:w=d:=by
  cases v with
  |own D=>exact m
  |blt n=>exact m
 subst A;exact UF (A4 u i.hn i.htk) I.dW J e (λz=>nomatch z) λM=>#[.bl b,H,I.tok _,rfl,q]
inductive rz:List V->List Value->Prop where
 |nil:rz [] []
 |cons {c:V} {cu:Value} {cs:List V} {rD:List Value}:Ez c cu->rz cs rD->rz (c::cs) (cu::rD)
theorem rz.vals:∀{c:List V}{d e:List Value},rz c d->Vals c e->e=d
 |_,_,_, .nil, .nil=>rfl
 |_,_,_, .cons a b, .cons r t=>by
  rw[b.vals t];cases a with
  |own D=>rw[show _=Value.ref D from r]
  |blt n=>rw[show _=Value.type n from r]
def xV(i:KY X.K):
  CallR X (.builtin "isinstance") (λk H Q=>∃(a C c:Addr)(d:Option Addr)(l:List Str)(m f:List V)(g:List Value)(b:Bool),k= [.ref a, .ref c]/\H a\(mQ C a d)/\Hq H d l m/\jN X.K C/\H c\(.tup f)/\rz f g/\b4 X.K (.ref C) g\b/\Q (.bl b) H):=by
 intro p s O H k P Q I j h;rfl';obtain⟨a,C,c,d,l,m,f,g,b,rfl,v,x,y,A,B,e,q⟩:=h;obtain⟨S,T,rfl,E,F⟩:=j.two;subst E;subst F;obtain⟨U,G,J⟩:=Fi I.hok v x;obtain⟨_,L,j,o,M,r,n,t⟩:=(show cp X.prog X.w H s.heap c (.tup f) from I.hok c _ A);have N:=B.vals j;subst N;obtain⟨Y,d,Z,sl⟩:=o;ac_rfl;dsimp only at r t;subst r t;exact PySem.W.kia_tup (A4 y i.hn i.htk) I.dW J M e (λz=>nomatch z) λtk=>#[.bl b,H,I.tok _,rfl,q]
end
section
variable {Z:DC} {X:Cx} {a c:Expr} {cs:List Expr} {ta:bh} {p pos:Pos}
def QW(K:ac)(e:Value)(t:bh):bh:=λf P=>t f λd=>match d with
 | .err C _ _=>jN K C/\∃b,aj K (.ref C) e\b/\P (.bl b)
 |_=>False
def gq{K:ac}{f:V}{g:Value}(i:KY K)(n:Ez f g)(o:PE X c (tC f))(r:DE Z X a ta)(t:Gl X "isinstance")(u:X.mg "isinstance"=none)(l:starEach [a,c] X.env=(false,eval a X.env)::starEach [c] X.env:=by rfl)
  (w:(backTo pos (starEach [c] X.env)).any (·.1)=false:=by rfl) (x:starEach [c] X.env=(false,eval c X.env)::starEach [] X.env:=by rfl) (y:X.K=K:=by rfl):
  DE Z X (.Call (.Name "isinstance" p) [a,c] [] pos) (QW K g ta):=by
 subst y;refine(mD (zZ i) t u (by decide+kernel) (bU r (bU o eH x) l) ∅ ∅ l w).imp ?_
 intro T H Q z;rfl';obtain⟨G,B,P,s,e,h,q⟩:=z;ac_rfl;refine#[G,B,_,s,e,h,λd m v E F k dv=>?_];cases dv<;>first|exact m.elim|skip
 rename_i a C I J L U M N Y
 rfl';obtain⟨O,b,R,S⟩:=m;ac_rfl;exact#[a,C,I,J,L,f,g,b,rfl,k.sub _ _ M,N.mono k.sub,O,n,R,q _ S _ E F k (.bl _)]
def dB(b:X.mg x\(.ref C))(d:Gl X x:=by rfl)(e:(x==("__debug__":Str))=false:=by decide):PE X (.Name x pos) (tC (.ref C)):=Gu d b (v:= .ref C) rfl e
def Pd(b:X.mg "ValueError"=none)(d:Gl X "ValueError":=by rfl):PE X (.Name "ValueError" pos) (tC (.ty "ValueError")):=Gr d b (by decide+kernel) rfl ∅ ∅
def UA(X:Cx):List Expr->List V->Prop
 | [],[]=>True
 |e::b,v::d=>PE X e (tC v)/\starEach (e::b) X.env=(false,eval e X.env)::starEach b X.env/\UA X b d
 |_,_=>False
theorem Pb:∀{b:List Expr}{d:List V},UA X b d->PA X b (λj H Q=>Q d H)
 | [],[],_=>eH
 |e::b,v::d,#[f,g,i]=>bU f (Pb i) g
 | [],_::_,h=>h.elim
 |_::_,[],h=>h.elim
def M7(K:ac)(e:List Value)(t:bh):bh:=λf P=>t f λd=>match d with
 | .err C _ _=>jN K C/\∃b,b4 K (.ref C) e\b/\P (.bl b)
 |_=>False
def ye{K:ac}{f:Nat}{g:Pos}{j:List V}{k:List Value}(i:KY K)(r:rz j k)(t:UA X cs j)(U:j.length<=1000)(u:DE Z X a ta)(w:Gl X "isinstance")(x:X.mg "isinstance"=none)(n:starEach [a, .Tuple cs f g] X.env=(false,eval a X.env)::starEach [.Tuple cs f g] X.env:=by rfl)
  (y:(backTo pos (starEach [.Tuple cs f g] X.env)).any (·.1)=false:=by rfl) (z:starEach [.Tuple cs f g] X.env=(false,eval (.Tuple cs f g) X.env)::starEach [] X.env:=by rfl) (A:X.K=K:=by rfl):
  DE Z X (.Call (.Name "isinstance" p) [a, .Tuple cs f g] [] pos) (M7 K k ta):=by
 subst A;refine(mD (xV i) w x (by decide+kernel) (bU u (bU (Kv (Pb t)) eH z) n) ∅ ∅ n y).imp ?_
 intro Y H Q B;rfl';obtain⟨G,F,P,s,e,h,q⟩:=B;ac_rfl;refine#[G,F,_,s,e,h,λd o v c H1 f dv=>?_];cases dv<;>first|exact o.elim|skip
 rename_i a C I J L ds M N h3
 rfl';obtain⟨O,b,R,S⟩:=o;ac_rfl;refine#[by rw[aa1];lia,λT m=>?_]
 exact#[a,C,T,I,J,L,j,k,b,rfl,(aX m _) _ _ (f.sub _ _ M),(N.mono f.sub).mono (aX m _),O,aw,r,R,q _ S _ _ _ (f.trans (.new f.sub m)) (.bl _)]
def UU(K:ac)(f:Str)(t:bh):bh:=λb P=>t b λd=>match d with
 | .err C e g=>jN K C/\gi K C f/\∃y,(e.zip g).lookup f\y/\P y
 |_=>False
theorem KO:∀{b:List Str}{d:List V}{e:List D},DvAll Z G d e->(b.zip e).lookup f\y->∃v,(b.zip d).lookup f\v/\Dv Z G v y
 | [],_,_,_,h=>by cases h
 |k::b,_,_, .nil,h=>by cases h
 |k::b,_,_, .cons a as,h=>by
  rw[Ex] at h ⊢
  by_cases z:(f==k)=true
  .rw[bc,z] at h
   cases FM h;exact#[_,by rw[bc,z],a]
  .have z:(f==k)=false:=by simpa using z
   rw[bc,z] at h;obtain⟨v,g,i⟩:=KO as h;exact#[v,by rw[bc,z];exact g,i]
def WJ(K:ac)(e:TE)(f:Str):TE:=λg H Q=>e g H λx b=>∃a C d fs v,x= .ref a/\b a\(mQ C a (some d))/\b d\(zY d fs)/\jN K C/\gi K C f/\fs.lookup f\v/\Q v b
def Pg(k:PE X e i)(m:attributeBase e f X.env (eval e X.env)=eval e X.env):PE X (.Attribute e f pos) (WJ X.K i f):=by
 intro b s w H Q I h;refine EK m (thn (k b s w H _ I h) λu P y=>?_);rfl';obtain⟨x,A,d,B,a,C,R,fs,v,E,F,G,c,n,l,q⟩:=y;ac_rfl;subst E;obtain rfl:u=Value.ref a:=B;rfl';obtain⟨t,S,e⟩:=J9 d.hok F;obtain⟨_,J,L,r,_⟩:=Eo d.hok G;obtain⟨u,M,j⟩:=kW.some_of (v:=v) (o:=J f) (by rw[<-l];exact r f)
 obtain⟨od,N,O⟩:=rU L;ac_rfl;exact Hf d.dW (od:=some od) #[e,rfl,rfl,N] c (PySem.W.findObj_own c.hd n rfl (by rw[O,M])) (yy j) #[v,A,d.tok _,j,q]
def yd{K:ac}{f:Str}(i:KY K)(l:DE Z X a ta)(m:attributeBase a f X.env (eval a X.env)=eval a X.env:=by rfl)(n:X.K=K:=by rfl):DE Z X (.Attribute a f pos) (UU K f ta):=by
 subst n;refine(Pg l m).imp ?_;intro O H Q o;rfl';obtain⟨G,t,P,s,e,h,q⟩:=o;ac_rfl;refine#[G,t,_,s,e,h,λd j v w x g dv=>?_];cases dv<;>first|exact j.elim|skip
 rename_i a C R S T U z A B
 rfl';obtain⟨E,F,y,k,I⟩:=j;obtain⟨u,J,L⟩:=KO B k;ac_rfl
 rcases A with ⟨_,rfl,_⟩ | ⟨M,rfl,N,_⟩
 .cases k
 .exact#[a,C,M,_,u,rfl,g.sub _ _ z,g.sub _ _ N,E,F,J,q _ I _ w x g L]
end
structure Hw (k:Nat) (A:Around):Prop where
 dp:A.depth+3*k+5<recursionLimit
 un:A.units+16*k+200<cLine
def b7.toH(r:b7 k A)(a:1<=k:=by decide):Hw 1 (A.mark h):=#[by have:=r.dp;show A.depth+3*1+5<_;lia,by have:=r.un;show A.units+16*1+200<_;lia]
structure QD (P:Program) (w:World) (K:ac) (mg:Str->Option Value) (base:Heap) (k:Nat) (f:Addr) (fd:FuncData) (ps:List Str) (sp:Sp):Prop where
 len:∀vs H Q E,sp vs H Q E->vs.length=ps.length
 run:∀(A:Around)(outer:List Env)(s:Shared)(H:Hp)(args:Args)(us:List Value)(vs:List V)(Q:VK)(E:XK),Hw k A->Env0 P w K mg base A outer s H->BindsTo s fd args (ps.zip us)->Vals vs us->sp vs H Q E->
  codeAny (model P w) A (.call (.ref f) args) (CR bZ outer P w H s Q E) s
abbrev QS(P:Program)(w:World)(K:ac)(c:Str->Option Value)(base:Heap)(N:List Str)(b:Str)(a:Scope)(f:Addr)(d:Value)(A:Around)(outer:List Env)(s:Shared)(H:Hp):Cx:=
 {kj bZ P w K c base N b a f d A outer s H E0 with calm:=false,xe:=λ_ _=>False}
section
variable {P:Program} {w:World} {K:ac} {mg:Str->Option Value} {base:Heap} {Z:DC}
theorem oG.RX{x qual:Str}{st:Stmt}{f:Addr}{fd:FuncData}{N ps:List Str}{sp:Sp}(F:oG K x qual st f fd)(S:aG N ps (au st))(len:∀vs H Q E,sp vs H Q E->vs.length=ps.length)
  (h7:∀(bg:Value)(A:Around)(outer:List Env)(s:Shared)(H:Hp)(vs:List V)(Q:VK)(E:XK),A.units+64<cLine->sp vs H Q E->
   ∃t,jU (QS P w K mg base N qual (au st) f bg A outer s H) (c5 st) t/\t {nx:=λ_ H'=>Q .bo H',rt:=Q} (start N vs) H):QD P w K mg base 1 f fd ps sp:=by
 rfl';obtain⟨oc,od,kV,doc,pm,an,bg,ct,Ao,rfl,lk,eO⟩:=F.ex;ac_rfl;refine#[len,λA outer s H args us vs Q E hr e0 hb r uS=>?_];have hl:=len _ _ _ _ uS;have KX:K.In s.heap:=e0.mod.kin.keeps λb o e=>(e0.bs b o e).1;have lim:s.heap.NoLimit:=e0.mod.nolimit.keeps λb o e=>(e0.bs b o e).1
 have Ik:∀y∈ps.zip us,(au st).names.lookup y.1\.local\/((au st).names.lookup y.1\.cell/\((cellsFrom (s.heap.objs.size+1) (au st).names []).lookup y.1).isSome=true):=λ#[n,v] hy=>by
  rcases S.par n (List.of_mem_zip hy).1 with q|q
  .exact .inl q
  .exact .inr #[q,PySem.W.cellsFrom_some _ _ _ (.inl q)]
 refine codeAny_call_function (by have:=hr.dp;lia) (KX _ _ lk) rfl S.co S.gen rfl (PySem.W.codeRec_of KX eO) (hb _ _ _ _ ?_)
 refine wpAny_newFunctionEnv_cells S.kind Ik λenv he s1 x=>?_;subst he;obtain⟨t,ht,hq⟩:=h7 bg A outer s H vs Q E (by have:=hr.un;lia) uS
 refine#[lim.keeps x.toInCall.keep,codeAny_func ?_];have e1:Env0 P w K mg base {A with handled:=none} outer s H:=#[e0.frames,e0.mod,e0.bs,e0.bsz,e0.funs,e0.frf,e0.hok,e0.bare]
 have I0:=yM (CX:=bZ) (N:=N) (qual:=qual) (f:=f) (cd:=bg) (E:=E0) S (A:={A with handled:=none}) rfl e1 hl r x
 have I:Inv (QS P w K mg base N qual (au st) f bg A outer s H) [] (start N vs) H s1:=
  #[#[I0.ok.mod,I0.ok.kind,I0.ok.glob,I0.ok.blt,I0.ok.above,I0.ok.inj,I0.ok.has,I0.ok.cab,(λz=>nomatch z),I0.ok.frames,I0.ok.stk,I0.ok.exf,I0.ok.bs,I0.ok.bsz,I0.ok.noex,I0.ok.exfs,I0.ok.funs,I0.ok.frf],I0.os,I0.bare,I0.base,I0.loc,I0.cell,I0.free,I0.freeC,I0.pin,I0.hok,I0.len]
 refine wpAny_mono (ht [] s1 (start N vs) H _ I hq) (λfl s' hs=>?_) λe s' hs=>hs.elim
 have fin:∀{aC:St}{H':Hp}{v:V}{u:Value},Inv (QS P w K mg base N qual (au st) f bg A outer s H) [] aC H' s'->RelV v u->Q v H'->CE outer P w H s Q u s':=
  λ {aC H' v u} J rv q=>#[v,H',J.os,J.bare,J.base,J.hok,rv,q]
 cases fl with
 |ret u=>
  obtain⟨v,aC,H',J,rv,q⟩:=hs;exact fin J rv q
 |next=>
  obtain⟨aC,H',J,q⟩:=hs;exact fin (v:=V.bo) (u:=Value.none) J rfl q
 |brk=>
  obtain⟨_,_,_,q⟩:=hs;exact False.elim q
 |cont=>
  obtain⟨_,_,_,q⟩:=hs;exact False.elim q
theorem Lo{x c:Str}{st:Stmt}{f:Addr}{m:FuncData}{N e:List Str}{g:cc}(F:oG K x c st f m)(S:aG N e (au st))(n:List Nat)(p:∀i,i<e.length->n.getD i 0=0)(len:∀a P,g a P->a.length=e.length)
  (r:∀(j:Value)(A:Around)(outer:List Env)(s:Shared)(H:Hp)(a:List D)(R:D->Prop),A.units+64<cLine->g a R->
   ∃t,DSs Z (QS P w K mg base N c (au st) f j A outer s H) n 0 (c5 st) t/\t {nx:=λ_=>R .bo,rt:=R} (jq N a)):QD P w K mg base 1 f m e (aV Z g):=by
 refine F.RX S (λu H Q E h=>?_) (λj A outer s H u Q E y h=>?_)
 .obtain⟨G,a,R,s,dv,h,q⟩:=h
  rw[dv.length];exact len _ _ h
 rfl';obtain⟨G,a,R,C,dv,h,q⟩:=h;obtain⟨t,I,J⟩:=r j A outer s H a R y h;have hl:=len _ _ h;ac_rfl;refine#[_,I,#[G,H,G],_,_,#[G,λ_=> [],?_],J,#[λρ L aC k #[l,fp,M]=>q _ L _ l k M.ex .bo,λd O v f l k x o nd nw=>q d O v l k x o.1,λ_ z=>z.elim,λ_ z=>z.elim,λ_ _ z=>z.elim]];refine#[.refl C, .refl _,by unfold jq start;simp[dv.length],λi d b=>?_,λ_=>gd,(λ_ _ _ _ z=>by cases z),(λ_ _ z=>by cases z)]
 unfold jq at b
 have qK:i<a.length:=by
  apply FB;intro z;rw[kN (~~~iU z),wC] at b
  split at b<;>cases b
 rw[i5 (~~~qK),fi] at b
 have T:a[i]?\d:=by
  cases z:a[i]? with
  |none=>rw[z] at b;cases b
  |some d'=>rw[z] at b;cases b;rfl
 obtain⟨v,U,Y⟩:=dv.get T;refine#[v,?_,by rw[p i ()];exact#[Y,rfl]]
 unfold start;rw[i5 (by simpa [dv.length] using qK),fi,U];rfl
end
section
variable {Z:DC} {X:Cx} {e:Expr} {es:List Expr} {t:gJ} {pos:Pos}
def AE{sd:cc}{k:Nat}{x:Str}{st:Stmt}{ps:List Str}{p:Pos}(d:eD X.K X.mg x st ps)(F:QD X.prog X.w X.K X.mg X.base k d.f d.fd ps (aV Z sd))(hr:Hw k X.A)(ha:DA Z X (e::es) t)(hg:Gl X x:=by rfl)
  (eZ:(x==("__debug__":Str))=false:=by decide) (he:starEach (e::es) X.env=(false,eval e X.env)::starEach es X.env:=by rfl) (cL:(backTo pos (starEach es X.env)).any (·.1)=false:=by rfl):
  DE Z X (.Call (.Name x p) (e::es) [] pos) (uD sd t):=by
 refine PE.imp (t:=λσ H Q=>yQ Z t σ H λvs H1=>aV Z sd vs H1 Q E0) ?_ qA;intro pins s σ H Q I h;refine wpAny_Call_Name_kw (jx I hg d.m ?_ eZ);refine PySem.W.callWith_K (h₀:=X.base) I.ok.mod.kin d.F.kp (thn (PA.imp ha (λ_ _ _ q=>q) pos pins s σ H _ I h) λus s1 #[vs,H1,I1,r,q]=>#[I1.dW,?_]) he cL;have hl:(us++ []).length=ps.length:=by rw[gR,<-r.length];exact F.len _ _ _ _ q
 have Aa:=d.b s1 us I1.dW hl;rw[gR] at Aa;refine wpAny_call (codeAny_mono (F.run X.A X.stack s1 H1 #[us,[]] us vs Q E0 hr I1.Ff Aa r q) λr s' hq=>?_);cases r with
 |error e=>exact hq.elim
 |ok fl=>
  cases fl with
  |ret u=>exact I1.after hq
  |next=>exact False.elim hq
  |brk=>exact False.elim hq
  |cont=>exact False.elim hq
end
def Qt:List Value->Bool
 | []=>false
 |v::r=>if isRef v then Kh r else Kh (v::r)
def My(h:Qt a=true):a= [.type "ValueError", .type "Exception", .type "BaseException", .type "object"]\/∃M,a= [.ref M, .type "ValueError", .type "Exception", .type "BaseException", .type "object"]:=by
 cases a with
 |nil=>cases h
 |cons v r=>
  rw[Qt] at h;cases b:isRef v with
  |true=>
   rw[AC b] at h;cases v with
   |ref M=>rw[yN h];exact .inr #[M,rfl]
   |_=>cases b
  |false=>
   rw[tz (by rw[b];exact cQ)] at h
   exact .inl (yN h)
def zI{K:ac}{C N:Addr}{d:ClassData}{e:List Value}{f q:Str}{bs t:List Value}{g:Bool}{h:List Str}{sub:List Value}{i:Bool}{c:Option Bool}{j:Option Addr}{k l m n o:Option Value}
  (u:bu K C=true) (v:ak K (.ref C) "__getattribute__"\(some (.builtin "BaseException.__getattribute__"))) (w:ak K (.ref C) "__getattr__"\none)
  (x:ak K (.ref C) "__setattr__"\(some (.builtin "object.__setattr__"))) (y:ak K (.ref C) "__class__"\(some (.builtin "object.__class__")))
  (p:ci K C\d) (r:d.mro= .ref C::e) (lo:K.lookup C\(excClassObj f q C N bs t g h sub i c j k l m n o "ValueError.__new__")) (z:t=e) (A:Qt e=true):XE K C:=by
 have a:∀b,bT K C b\((Value.ref C::e).contains b):=λb=>by
  unfold bT;rw[p,abH,r];rfl
 subst z
 rcases My A with rfl| ⟨M,rfl⟩
 .refine#[#[u,v,w,x,?_,y,?_,?_],#[f,q,N,bs,_,g,h,sub,i,c,j,k,l,m,n,o,lo,rfl,rfl,rfl]]
  .unfold DM
   rw[p];show qE d.mro=true;rw[r];rfl
  .rw[a];rfl
  .rw[a];rfl
 .refine#[#[u,v,w,x,?_,y,?_,?_],#[f,q,N,bs,_,g,h,sub,i,c,j,k,l,m,n,o,lo,rfl,rfl,rfl]]
  .unfold DM
   rw[p];show qE d.mro=true;rw[r];rfl
  .rw[a];rfl
  .rw[a];rfl
structure UB (K:ac) (C:Addr) (qual:Str) (st:Stmt) (ps:List Str) where
 f:Addr
 fd:FuncData
 F:oG K "__init__" qual st f fd
 b:Binds K fd ps []
 made:UC K C (.ref f)
 fn:bj K (.ref f)=true
structure XBs (K:ac) (mg:Str->Option Value) (M:Addr):Prop where
 m:mg "MapError"\(.ref M)
 sg:bd K (.ref M) "__getattribute__"\(some (.builtin "type.__getattribute__"))
 rd:c3 K M (.type "type")=true
 fc:db K (.ref M) (.type "type") "__init__"\(.val (.builtin "ValueError.__init__"))
def Ju(Z:DC)(C:Addr)(g:List Str)(ok:List D->Prop):Sp:=λj H Q _=>∃(a:Addr)(h:List V)(G:Hp)(f:List D),j= .ref a::h/\H a\(uB C a none)/\G a=none/\ba G H/\DvAll Z G h f/\ok f/\f.length=g.length/\
 ∀c i d e,ba G d->ba d e->(∀b o,b≠a->H b\o->e b\o)->(∀b,H b≠none->G b=none->d b=none)->e a\(uB C a (some c))->H c=none->e c\(zY c (g.zip i))->d c=none->DvAll Z d i f->Q .bo e
section
variable {Z:DC} {X:Cx} {md:List Nat} {rn:Nat} {st:Stmt} {t:gJ} {e:Expr} {es:List Expr} {k j:Nat} {x qual:Str} {ps:List Str} {p pos aU:Pos}
def Nd(d:List Nat)(C:Addr)(b:List Str)(ok:List D->Prop)(t:gJ):b6:=λE c=>t (cP d c) λa=>ok a/\a.length=b.length/\E.xc c (.err C b a)
def yi(hc:X.calm=true)(I:UB X.K C qual st T)(F:FnOk X.prog X.w X.K X.mg X.base bZ k I.f I.fd T (Ju Z C l ok))(hr:b7 j X.A)(U:XE X.K C)(hm:X.mg x\(.ref C))(g:DA Z X (e::es) t)(r:Gl X x:=by rfl)(hk:k+1<=j:=by first|decide|lia)(Oy:T.length<=1000:=by decide)
  (eZ:(x==("__debug__":Str))=false:=by decide) (he:starEach (e::es) X.env=(false,eval e X.env)::starEach es X.env:=by rfl) (cL:(backTo aU (starEach es X.env)).any (·.1)=false:=by rfl):
  DSt Z X md rn (.Raise (some (.Call (.Name x p) (e::es) [] aU)) none pos) (Nd md C l ok t):=by
 refine(Mg hc (Mb I.made I.fn F (hr.mono hk) r hm I.b Oy vd g eZ he cL)).imp ?_;intro D σ H aO;rfl';obtain⟨B,ρ,E,⟨G,fp,S⟩,h,M⟩:=aO;ac_rfl;refine#[G,_,_,S.ex.sub,S.yo,h,λds v vs m Y y bw a g=>?_];rfl';obtain⟨ok,s,hx⟩:=v;ac_rfl;have S1:=S.grow y;have J:m a=none:=y.sub.free g;refine#[a,vs,m,ds,rfl,aw,J,y.sub.trans (aX g _),bw,ok,s,λd zs n H' g1 g2 g3 g4 g5 q g7 g8 g9=>#[rfl,a,C,some d,rfl,g5,U.obj,U.cls.be,?_]];have Zh:d≠a:=λz=>by rw[z,aw] at q;cases q
 have L:Y d=none:=by rw[aB Zh] at q;exact q
 have N:m d=none:=g1.free g8;have O:n a=none:=g4 a (by rw[aw];exact λz=>nomatch z) J
 have x2:Ext m Y (upd (upd n d (zY d (l.zip zs))) a (mQ C a (some d))) (upd H' a (mQ C a (some d))):=by
  refine#[λb o c=>?_,λb o c=>?_,λb o c=>?_,λb P r=>?_]
  .rw[aB (aF c J),aB (aF c N)];exact g1 _ _ c
  .by_cases z:b=a
   .rw[z,aw] at c ⊢;exact c
   .rw[aB z] at c ⊢
    by_cases Q:b=d
    .rw[Q,aw] at c;cases c;rw[Q];exact g7
    .rw[aB Q] at c;exact g2 _ _ c
  .have i:b≠a:=aF c g
   rw[aB i];exact g3 b o i (by rw[aB i];exact c)
  .have i:b≠a:=λz=>P (by rw[z];exact g)
   have R:b≠d:=λz=>P (by rw[z];exact L)
   rw[aB i,aB R];exact g4 b (by rw[aB i];exact P) r
 have s2:ba n (upd (upd n d (zY d (l.zip zs))) a (mQ C a (some d))):=λb o c=>by rw[aB (aF c O),aB (aF c g8)];exact c
 exact M.xc ρ _ hx σ _ _ fp a (S1.grow x2) (.err aw (.inr #[d,rfl,by rw[aB Zh,aw],by rw[g9.length];exact s.symm]) (g9.mono s2))
end
section
variable {Z:DC} {X:Cx} {a:Expr} {ta:bh} {p p1 p2 p3 p4 pos:Pos}
end
section
variable {P:Program} {w:World} {K:ac} {mg:Str->Option Value} {base:Heap} {CX:oz} {k:Nat} {f:Addr} {fd:FuncData} {ps:List Str} {sp PZ:Sp}
def FnOk.up(F:FnOk P w K mg base bZ k f fd ps sp):FnOk P w K mg base CX k f fd ps sp:=
 #[F.len,λA outer s H a b c Q E d g i j h=>aaL (F.run A outer s H a b c Q E d g i j h) λr m q=>by
  cases r with
  |error e=>exact False.elim q
  |ok l=>cases l<;>exact q]
def FnOk.or(F:FnOk P w K mg base CX k f fd ps sp)(c:FnOk P w K mg base CX k f fd ps PZ):FnOk P w K mg base CX k f fd ps (λa H Q E=>sp a H Q E\/PZ a H Q E):=
 #[λa H Q E h=>h.elim (F.len a H Q E) (c.len a H Q E),λA outer s H b d a Q E e g i j h=>h.elim (F.run A outer s H b d a Q E e g i j) (c.run A outer s H b d a Q E e g i j)]
end
section
variable {X:Cx} {k:Nat} {f C:Addr} {fd:FuncData} {ps:List Str} {sp:Sp} {x:Str} {p pos:Pos} {e:Expr} {es:List Expr} {t:TA}
end
section
variable {Z:DC} {X:Cx} {md:List Nat} {rn k j:Nat} {f:Addr} {fd:FuncData} {ps:List Str} {t:gJ} {e:Expr} {es:List Expr} {x:Str} {p pos aU:Pos}
end
end L2
namespace uz
open PySem L2 Wb
def top(i:Nat):Stmt:=PySem.Challenge.pw_mapdye_k55_chains_refused.main.body.getD i (.Pass #[0,0,0,0])
abbrev lY:Stmt:=top 21
abbrev pU:Stmt:=top 22
abbrev zt:Stmt:=top 23
abbrev pT:Stmt:=top 24
abbrev lX:Stmt:=top 25
abbrev zr:Stmt:=top 27
abbrev nE:Stmt:=top 28
abbrev lV:Stmt:=top 29
abbrev gI:Stmt:=top 30
abbrev fA:Stmt:=top 31
abbrev gx:Stmt:=top 33
abbrev iO:Stmt:=top 34
abbrev pR:Stmt:=top 37
abbrev kI:Stmt:=top 38
abbrev lZ:Stmt:=top 39
abbrev kL:Stmt:=top 40
abbrev lW:Stmt:=top 41
abbrev dS:Stmt:=top 42
abbrev kJ:Stmt:=top 43
abbrev kK:Stmt:=top 44
abbrev jL:Stmt:=top 47
abbrev jM:Stmt:=top 48
abbrev lR:Stmt:=top 49
abbrev lT:Stmt:=top 50
abbrev iN:Stmt:=top 51
abbrev jj:Stmt:=top 52
abbrev pQ:Stmt:=top 53
abbrev jm:Stmt:=top 54
abbrev fY:Stmt:=top 55
abbrev gX:Stmt:=top 57
abbrev gW:Stmt:=top 58
abbrev lU:Stmt:=top 59
abbrev nB:Stmt:=top 60
abbrev lS:Stmt:=top 61
abbrev lh:Stmt:=top 62
abbrev Jq:Stmt:=top 63
abbrev fF:Stmt:=L2.iu (top 45) 0
abbrev pP:Stmt:=L2.iu (top 45) 1
abbrev j4:Stmt:=L2.iu (top 45) 2
abbrev lg:Stmt:=L2.iu (top 45) 3
abbrev wu:Stmt:=L2.iu (top 45) 4
abbrev lQ:Stmt:=L2.iu (top 45) 5
abbrev fX:Stmt:=L2.iu (top 9) 0
def i4:aG ["self","counted"] ["self","counted"] (au fX):=by bv_omega
abbrev gH:Stmt:=L2.iu (top 15) 0
def jD:aG ["self","point"] ["self","point"] (au gH):=by bv_omega
def qa:aG ["web","side","sides","p","q"] ["web","side"] (au lY):=by bv_omega
def Bn:aG ["web","walked","told","side","sides","step"] ["web"] (au pU):=by bv_omega
def Bm:aG ["web"] ["web"] (au zt):=by bv_omega
def ua:aG ["web","points","ties","rounds"] ["web"] (au pT):=by bv_omega
def iP:aG ["web"] ["web"] (au lX):=by bv_omega
def Bl:aG ["web","dyeing","p","dye","turns","pair","met","waiting","q"] ["web","dyeing","p","dye"] (au zr):=by bv_omega
def qY:aG ["dyeing","points","one","other","told","p"] ["dyeing","points","one","other"] (au nE):=by bv_omega
def p8:aG ["taken","many","dye"] ["taken","many"] (au lV):=by bv_omega
def jE:aG ["web","dyeing","around","q","r"] ["web","dyeing","around"] (au gI):=by bv_omega
def jn:aG ["web","dyeing","p","many","around","told","deeds","dye","exchange","q","x"] ["web","dyeing","p","many"] (au fA):=by bv_omega
def lu:aG ["web","turns","left","order","counts","least"] ["web"] (au gx):=by bv_omega
def jo:aG ["web","order","dyeing","deeds","p","done"] ["web"] (au iO):=by bv_omega
def t9:aG ["thing","many"] ["thing","many"] (au pR):=by bv_omega
def nX:aG ["rows","p","row","q"] ["rows"] (au kI):=by bv_omega
def qb:aG ["rows","p","row"] ["rows"] (au lZ):=by bv_omega
def n0:aG ["rows","p","row","place","q"] ["rows"] (au kL):=by bv_omega
def p9:aG ["rows","p","row","q"] ["rows"] (au lW):=by bv_omega
def iQ:aG ["rows","reached","waiting","p","q"] ["rows"] (au dS):=by bv_omega
def nY:aG ["rows","q","reached"] ["rows"] (au kJ):=by bv_omega
def nZ:aG ["rows","fault"] ["rows"] (au kK):=by bv_omega
def mH:aG ["_law_script","_law_k"] ["_law_script","_law_k"] (au jL):=by bv_omega
def mJ:aG ["_law_cell","_law_k","_law_number"] ["_law_cell","_law_k"] (au jM):=by bv_omega
def pW:aG ["_law_script","_law_at","_law_many","_law_cell","_law_found","_law_first","_law_k","_law_number"] ["_law_script","_law_at","_law_many"] (au lR):=by bv_omega
def pZ:aG ["_law_turns","_law_sides","_law_found","_law_p","_law_q","_law_row","_law_side","_law_turn"] ["_law_turns"] (au lT):=by bv_omega
def nV:aG ["_law_land","_law_number","_law_first","_law_found","_law_k"] ["_law_land","_law_number"] (au iN):=by bv_omega
def pY:aG ["_law_turns","_law_land","_law_places_here","_law_made","_law_around","_law_at","_law_turn","_law_place"] ["_law_turns","_law_land","_law_places_here"] (au jj):=by bv_omega
def t8:aG ["_law_draws_here","_law_turns","_law_number","_law_rows","_law_land"] ["_law_draws_here"] (au pQ):=by bv_omega
def p6:aG ["_law_turns","_law_draws_here","_law_names","_law_k","_law_at","_law_found","_law_p","_law_turn"] ["_law_turns","_law_draws_here"] (au jm):=by bv_omega
def nU:aG ["_law_turns","_law_draws_here","_law_dyes","_law_none","_law_found","_law_p","_law_taken","_law_free"] ["_law_turns","_law_draws_here","_law_dyes","_law_none"] (au fY):=by bv_omega
def mK:aG ["_law_turns","_law_number","_law_found","_law_turn","_law_at"] ["_law_turns","_law_number"] (au gX):=by bv_omega
def mI:aG ["_law_turns","_law_ties"] ["_law_turns"] (au gW):=by bv_omega
def p7:aG ["_law_e"] ["_law_e"] (au lU):=by bv_omega
def qX:aG ["_law_web_here","_law_dyeing_here","_law_p","_law_many","_law_told","_law_e"] ["_law_web_here","_law_dyeing_here","_law_p","_law_many"] (au nB):=by bv_omega
def pX:aG ["_law_web_here","_law_told","_law_e"] ["_law_web_here"] (au lS):=by bv_omega
def t7:aG ["_law_turns","_law_counted_here","_law_dyeing_here","_law_p","_law_many","_law_around"] ["_law_turns","_law_counted_here","_law_dyeing_here","_law_p","_law_many"] (au lh):=by bv_omega
def KC:aG ["_law_script","_law_turns","_law_number","_law_many","_law_counted_here","_law_web_here","_law_dyeing_here","_law_due_here","_law_p","_law_bare","_law_handed","_law_told"] ["_law_script"] (au Jq):=by bv_omega
def mG:aG ["self","turns","rows","fault"] ["self","turns"] (au fF):=by bv_omega
def t5:aG ["self"] ["self"] (au pP):=by bv_omega
def qW:aG ["self"] ["self"] (au j4):=by bv_omega
def t6:aG ["self"] ["self"] (au lg):=by bv_omega
def pV:aG ["self","p","q","row"] ["self","p","q"] (au lQ):=by bv_omega
set_option genInjectivity false in
structure Txt (Z:DC) (mg:Str->Option Value) where
 B:W2 mg
 x_set:mg "set"=none
 d_round_from:eD Z.K mg "round_from" lY ["web","side"]
 d_lands:eD Z.K mg "lands" pU ["web"]
 d_count:eD Z.K mg "count" zt ["web"]
 d_is_plane:eD Z.K mg "is_plane" pT ["web"]
 d_need_plane:eD Z.K mg "need_plane" lX ["web"]
 d_chain:eD Z.K mg "chain" zr ["web","dyeing","p","dye"]
 d_exchanged:eD Z.K mg "exchanged" nE ["dyeing","points","one","other"]
 d_least_free:eD Z.K mg "least_free" lV ["taken","many"]
 d_freeing_exchange:eD Z.K mg "freeing_exchange" gI ["web","dyeing","around"]
 d_dye_given:eD Z.K mg "dye_given" fA ["web","dyeing","p","many"]
 d_order_of_five:eD Z.K mg "order_of_five" gx ["web"]
 d_five_dyes:eD Z.K mg "five_dyes" iO ["web"]
 d_is_among:eD Z.K mg "is_among" pR ["thing","many"]
 d_alien_fault:eD Z.K mg "alien_fault" kI ["rows"]
 d_self_fault:eD Z.K mg "self_fault" lZ ["rows"]
 d_twice_fault:eD Z.K mg "twice_fault" kL ["rows"]
 d_lone_fault:eD Z.K mg "lone_fault" lW ["rows"]
 d_reached_from_first:eD Z.K mg "reached_from_first" dS ["rows"]
 d_apart_fault:eD Z.K mg "apart_fault" kJ ["rows"]
 d_first_fault:eD Z.K mg "first_fault" kK ["rows"]
 d__law_cell_at:eD Z.K mg "_law_cell_at" jL ["_law_script","_law_k"]
 d__law_reserve:eD Z.K mg "_law_reserve" jM ["_law_cell","_law_k"]
 d__law_draws:eD Z.K mg "_law_draws" lR ["_law_script","_law_at","_law_many"]
 d__law_lands:eD Z.K mg "_law_lands" lT ["_law_turns"]
 d__law_places:eD Z.K mg "_law_places" iN ["_law_land","_law_number"]
 d__law_grown:eD Z.K mg "_law_grown" jj ["_law_turns","_law_land","_law_places_here"]
 d__law_web:eD Z.K mg "_law_web" pQ ["_law_draws_here"]
 d__law_named:eD Z.K mg "_law_named" jm ["_law_turns","_law_draws_here"]
 d__law_dyeing:eD Z.K mg "_law_dyeing" fY ["_law_turns","_law_draws_here","_law_dyes","_law_none"]
 d__law_twisted:eD Z.K mg "_law_twisted" gX ["_law_turns","_law_number"]
 d__law_counted:eD Z.K mg "_law_counted" gW ["_law_turns"]
 d__law_other:eD Z.K mg "_law_other" lU ["_law_e"]
 d__law_said:eD Z.K mg "_law_said" nB ["_law_web_here","_law_dyeing_here","_law_p","_law_many"]
 d__law_fives:eD Z.K mg "_law_fives" lS ["_law_web_here"]
 d__law_due:eD Z.K mg "_law_due" lh ["_law_turns","_law_counted_here","_law_dyeing_here","_law_p","_law_many"]
 d_law:eD Z.K mg "law" Jq ["_law_script"]
 W:JR Z
 mC:mg "Web"\(.ref Z.C)
 i_f:Addr
 i_fd:FuncData
 i_F:oG Z.K "__init__" "Web.__init__" fF i_f i_fd
 mkW:Mk Z.K Z.C i_f
 m___init__b:Binds Z.K i_fd ["self","turns"] []
 m_many:BL Z "many" "Web.many" pP ["self"]
 m_turns:BL Z "turns" "Web.turns" j4 ["self"]
 m_ties:BL Z "ties" "Web.ties" lg ["self"]
 m_tied:BL Z "tied" "Web.tied" wu ["self","a","b"]
 m_behind:BL Z "behind" "Web.behind" lQ ["self","p","q"]
 iX:KY Z.K
 x_ValueError:mg "ValueError"=none
 e_MapError:Addr
 g_MapError:mg "MapError"\(.ref e_MapError)
 e_TooMany:Addr
 g_TooMany:mg "TooMany"\(.ref e_TooMany)
 e_TooSmall:Addr
 g_TooSmall:mg "TooSmall"\(.ref e_TooSmall)
 e_NoWeb:Addr
 g_NoWeb:mg "NoWeb"\(.ref e_NoWeb)
 e_NotPlane:Addr
 g_NotPlane:mg "NotPlane"\(.ref e_NotPlane)
 e_NoText:Addr
 g_NoText:mg "NoText"\(.ref e_NoText)
 e_NoCorner:Addr
 g_NoCorner:mg "NoCorner"\(.ref e_NoCorner)
 e_NoRing:Addr
 g_NoRing:mg "NoRing"\(.ref e_NoRing)
 e_Alike:Addr
 g_Alike:mg "Alike"\(.ref e_Alike)
 e_TooFew:Addr
 g_TooFew:mg "TooFew"\(.ref e_TooFew)
 e_NotFree:Addr
 g_NotFree:mg "NotFree"\(.ref e_NotFree)
 e_NotFilled:Addr
 g_NotFilled:mg "NotFilled"\(.ref e_NotFilled)
 e_Odd:Addr
 g_Odd:mg "Odd"\(.ref e_Odd)
 e_Bridge:Addr
 g_Bridge:mg "Bridge"\(.ref e_Bridge)
 e_Shared:Addr
 g_Shared:mg "Shared"\(.ref e_Shared)
 q_MapError:XE Z.K e_MapError
 q_NotPlane:XE Z.K e_NotPlane
 q_NotFree:XE Z.K e_NotFree
 xb:XBs Z.K mg e_MapError
 j_NotPlane:UB Z.K e_NotPlane "NotPlane.__init__" fX ["self","counted"]
 n_NotPlane_counted:gi Z.K e_NotPlane "counted"
 z_NotPlane_TooMany:aj Z.K (.ref e_NotPlane) (.ref e_TooMany)\false
 z_NotPlane_TooSmall:aj Z.K (.ref e_NotPlane) (.ref e_TooSmall)\false
 z_NotPlane_NoWeb:aj Z.K (.ref e_NotPlane) (.ref e_NoWeb)\false
 z_NotPlane_NotPlane:aj Z.K (.ref e_NotPlane) (.ref e_NotPlane)\true
 z_NotPlane_NoText:aj Z.K (.ref e_NotPlane) (.ref e_NoText)\false
 z_NotPlane_NoCorner:aj Z.K (.ref e_NotPlane) (.ref e_NoCorner)\false
 z_NotPlane_NoRing:aj Z.K (.ref e_NotPlane) (.ref e_NoRing)\false
 z_NotPlane_Alike:aj Z.K (.ref e_NotPlane) (.ref e_Alike)\false
 z_NotPlane_TooFew:aj Z.K (.ref e_NotPlane) (.ref e_TooFew)\false
 z_NotPlane_NotFree:aj Z.K (.ref e_NotPlane) (.ref e_NotFree)\false
 z_NotPlane_NotFilled:aj Z.K (.ref e_NotPlane) (.ref e_NotFilled)\false
 z_NotPlane_Odd:aj Z.K (.ref e_NotPlane) (.ref e_Odd)\false
 z_NotPlane_Bridge:aj Z.K (.ref e_NotPlane) (.ref e_Bridge)\false
 z_NotPlane_Shared:aj Z.K (.ref e_NotPlane) (.ref e_Shared)\false
 z_NotPlane_ValueError:aj Z.K (.ref e_NotPlane) (.type "ValueError")\true
 m_NotPlane_MapError:bT Z.K e_NotPlane (.ref e_MapError)\true
 j_NotFree:UB Z.K e_NotFree "NotFree.__init__" gH ["self","point"]
 n_NotFree_point:gi Z.K e_NotFree "point"
 z_NotFree_TooMany:aj Z.K (.ref e_NotFree) (.ref e_TooMany)\false
 z_NotFree_TooSmall:aj Z.K (.ref e_NotFree) (.ref e_TooSmall)\false
 z_NotFree_NoWeb:aj Z.K (.ref e_NotFree) (.ref e_NoWeb)\false
 z_NotFree_NotPlane:aj Z.K (.ref e_NotFree) (.ref e_NotPlane)\false
 z_NotFree_NoText:aj Z.K (.ref e_NotFree) (.ref e_NoText)\false
 z_NotFree_NoCorner:aj Z.K (.ref e_NotFree) (.ref e_NoCorner)\false
 z_NotFree_NoRing:aj Z.K (.ref e_NotFree) (.ref e_NoRing)\false
 z_NotFree_Alike:aj Z.K (.ref e_NotFree) (.ref e_Alike)\false
 z_NotFree_TooFew:aj Z.K (.ref e_NotFree) (.ref e_TooFew)\false
 z_NotFree_NotFree:aj Z.K (.ref e_NotFree) (.ref e_NotFree)\true
 z_NotFree_NotFilled:aj Z.K (.ref e_NotFree) (.ref e_NotFilled)\false
 z_NotFree_Odd:aj Z.K (.ref e_NotFree) (.ref e_Odd)\false
 z_NotFree_Bridge:aj Z.K (.ref e_NotFree) (.ref e_Bridge)\false
 z_NotFree_Shared:aj Z.K (.ref e_NotFree) (.ref e_Shared)\false
 z_NotFree_ValueError:aj Z.K (.ref e_NotFree) (.type "ValueError")\true
 m_NotFree_MapError:bT Z.K e_NotFree (.ref e_MapError)\true
 t___name__:∃tk,mg "__name__"\(.str "law_mapdye_k55_chains_refused" tk)
 c_MOST_POINTS:∃tk,mg "MOST_POINTS"\(.int 14 tk)
variable {P:Program} {w:World} {mg:Str->Option Value} {base:Heap} {Z:DC} (T:Txt Z mg)
def P0:cc:=λa P=>∃(i n:Int),a= [.int i, .int n]/\P (.bl (decide (0<=i/\i<n)))
def DK:FnOk P w Z.K mg base bZ 1 T.d_is_among.f T.d_is_among.fd ["thing","many"] (aV Z P0):=by
 have d:=t9.nd;refine bf T.d_is_among.F t9 [0,0] ∅ (λb R h=>by obtain⟨_,_,rfl,_⟩:=h;rfl) (λe A outer s H E b R c h=>?_)
 have g:=c.units;exists _,(aq (aM (B8 (B9 "int" (aa 0) rfl T.B.isinstance rfl T.B.int QL) (B8 (QZ (B9 "bool" (aa 0) rfl T.B.isinstance rfl T.B.bool EM)) (JZ (Le IV Dz az (aa 0) (aa 1)))))));obtain⟨i,n,rfl,q⟩:=h;refine#[_,rfl,rfl,true,rfl,b8 #[_,rfl,rfl,false,rfl,true,rfl,b8 #[_,rfl,?_]]];refine#[_,rfl,bF (λa=>#[_,rfl,?_]) (λa=>?_)]
 .have a:0<=i:=KB a
  show R (.bl (decide (i<n)));rw[show decide (i<n)=decide (0<=i/\i<n) by simp[a]]
  exact q
 .have a:¬0<=i:=PP a
  rw[show decide (0<=i/\i<n)=false by simp[a]] at q
  exact q
def xD:cc:=λa P=>∃(w:W),a= [aW w]/\Ay w/\1<=w.length/\w.length<=14/\P .bo
def Hd{w:W}(h:(iH (w.map av))[j]?\d):j<w.length/\d= .tup [.int (j:Int),av (row w j)]:=by
 obtain⟨x,b,rfl⟩:=rF h;obtain⟨r,a,rfl⟩:=cV b;have c:j<w.length:=(dZ.mp a).1;exists c;rw[SD a]
def w4:FnOk P w Z.K mg base bZ 2 T.d_alien_fault.f T.d_alien_fault.fd ["rows"] (aV Z xD):=by
 have c:=nX.nd;refine bf T.d_alien_fault.F nX [0,0,0,0] ∅ (λn R h=>by obtain⟨_,rfl,_⟩:=h;rfl) (λy A outer s H E n R m h=>?_)
 have z:=m.units
 refine#[_,(af (dh rfl GE (kn rfl T.B.enumerate (ae (aa 0) ag)) (gS 2 rfl (bA (aN 1 c) (bA (aN 2 c) d6))) (aq (dh rfl GE (bq (aa 2)) (aN 3 c) (aq (br (qv (fM (aE T.d_is_among (DK T) m (ae (aa 3) (ae (aH bC rfl T.B.len bB (ae (aa 0) ag)) ag))))) (aq (aM (bS (ae gr (ae (aa 1) (ae (aa 3) ag)))))) aI)))))
   (aq (aM bR))),?_]
 obtain⟨a,rfl,g,C,G,q⟩:=h;refine#[_,rfl,cC (λ_ e=>∃i l b,e= [some (aW a),i,l,b]) #[_,_,_,rfl] ?_ ?_]
 .rintro j d _ o ⟨i,l,b,rfl⟩ A p
  obtain⟨I,rfl⟩:=Hd o;exists rfl,rfl;refine#[_,rfl,cC (λ_ e=>∃b,e= [some (aW a),some (.int (j:Int)),some (av (row a j)),b]) #[_,rfl] ?_ ?_]
  .rintro k J _ r ⟨t,rfl⟩ L u
   obtain⟨x,v,rfl⟩:=cV r;refine#[_,rfl,_,rfl,_,_,rfl,#[rfl,?_]];have M:x<a.length:=g.rng _ _ (fb v);rw[show decide ((0:Int)<=(x:Int)/\(x:Int)<((a.map av).length:Int))=true by simp;lia]
   exact bX (u _ #[_,rfl])
  .rintro _ ⟨t,rfl⟩
   exact p _ #[_,_,_,rfl]
 .rintro _ ⟨i,l,b,rfl⟩
  exact q
def zb:FnOk P w Z.K mg base bZ 1 T.d_self_fault.f T.d_self_fault.fd ["rows"] (aV Z xD):=by
 have i:=qb.nd;refine bf T.d_self_fault.F qb [0,0,0] ∅ (λk R h=>by obtain⟨_,rfl,_⟩:=h;rfl) (λt A outer s H E k R l h=>?_)
 have u:=l.units
 refine#[_,(af (dh rfl GE (kn rfl T.B.enumerate (ae (aa 0) ag)) (gS 2 rfl (bA (aN 1 i) (bA (aN 2 i) d6))) (aq (br (aQ Dy (aa 1) (aa 2) (by with_unfolding_all rfl)) (aq (aM (bS (ae gr (ae (aa 1) (ae (aa 1) ag)))))) aI)))
   (aq (aM bR))),?_]
 obtain⟨a,rfl,g,v,x,q⟩:=h;refine#[_,rfl,cC (λ_ m=>∃b c,m= [some (aW a),b,c]) #[_,_,rfl] ?_ ?_]
 .rintro j d _ n ⟨b,c,rfl⟩ A o
  obtain⟨y,rfl⟩:=Hd n;exists rfl,rfl;exists _,rfl,_,rfl,rfl,d9 _,_,rfl
  have e:inD (.int (j:Int)) ((row a j).map ao)=false:=by
   have:=mv (r:=row a j) (p:=j)
   rw[GM (g.irr j)] at this;exact this
  rw[tz cQ,e];exact bX (o _ #[_,_,rfl])
 .rintro _ ⟨b,c,rfl⟩
  exact q
def mS(l:List a)(k:Nat)(h:k<=l.length):cutD l none (some (k:Int))=l.take k:=by
 unfold cutD;have b:HT.cg l.length 0 none=0:=rfl
 have c:HT.cg l.length l.length (some (k:Int))=k:=by
  simp only[HT.cg]
  split<;>lia
 rw[b,c];simp
def w9:FnOk P w Z.K mg base bZ 1 T.d_twice_fault.f T.d_twice_fault.fd ["rows"] (aV Z xD):=by
 have i:=n0.nd;refine bf T.d_twice_fault.F n0 [0,0,0,0,0] ∅ (λt R h=>by obtain⟨_,rfl,_⟩:=h;rfl) (λQ A outer s H E t R u h=>?_)
 have S:=u.units
 refine#[_,(af (dh rfl GE (kn rfl T.B.enumerate (ae (aa 0) ag)) (gS 2 rfl (bA (aN 1 i) (bA (aN 2 i) d6))) (aq (dh rfl GE (kn rfl T.B.enumerate (ae (aa 2) ag)) (gS 2 rfl (bA (aN 3 i) (bA (aN 4 i) d6))) (aq (br (aQ Dy (aa 4) (ja (aa 2) ko (kq (aa 3))) (by with_unfolding_all rfl)) (aq (aM (bS (ae gr (ae (aa 1) (ae (aa 4) ag)))))) aI)))))
   (aq (aM bR))),?_]
 obtain⟨a,rfl,g,U,X,q⟩:=h;refine#[_,rfl,cC (λ_ l=>∃n o b c,l= [some (aW a),n,o,b,c]) #[_,_,_,_,rfl] ?_ ?_]
 .rintro j d _ v ⟨n,o,b,c,rfl⟩ A C
  obtain⟨Y,rfl⟩:=Hd v;exists rfl,rfl;refine#[_,rfl,cC (λ_ l=>∃b c,l= [some (aW a),some (.int (j:Int)),some (av (row a j)),b,c]) #[_,_,rfl] ?_ ?_]
  .rintro k d' _ G ⟨I,J,rfl⟩ A' L
   obtain⟨y,M,rfl⟩:=rF G;obtain⟨x,r,rfl⟩:=cV M;have gG:k<(row a j).length:=(dZ.mp r).1;exists rfl,rfl;exists _,rfl,_,rfl,_,rfl;have N:cutD ((row a j).map ao) none (some (k:Int))=((row a j).take k).map ao:=by rw[mS _ _ (by simp;lia),vw]
   refine(?_:QU false (ao x) (.lst (cutD ((row a j).map ao) none (some (k:Int)))) _);rw[N];exists rfl,d9 _,_,rfl
   have e:inD (ao x) (((row a j).take k).map ao)=false:=by
    rw[mv,GM];intro z;obtain⟨m,p⟩:=zQ z
    have O:m<k:=by
     have:=(dZ.mp p).1
     rw[jS] at this;lia
    rw[KQ O] at p;exact absurd ((List.getElem?_inj () (g.nod j)).mp (p.trans r.symm)) ()
   rw[tz cQ,e];exact bX (L _ #[_,_,rfl])
  .rintro _ ⟨I,J,rfl⟩
   exact C _ #[_,_,_,_,rfl]
 .rintro _ ⟨n,o,b,c,rfl⟩
  exact q
def y9:FnOk P w Z.K mg base bZ 1 T.d_lone_fault.f T.d_lone_fault.fd ["rows"] (aV Z xD):=by
 have c:=p9.nd;refine bf T.d_lone_fault.F p9 [0,0,0,0] ∅ (λo R h=>by obtain⟨_,rfl,_⟩:=h;rfl) (λJ A outer s H E o R t h=>?_)
 have L:=t.units
 refine#[_,(af (dh rfl GE (kn rfl T.B.enumerate (ae (aa 0) ag)) (gS 2 rfl (bA (aN 1 c) (bA (aN 2 c) d6))) (aq (dh rfl GE (bq (aa 2)) (aN 3 c) (aq (br (aQ mB (aa 1) (aY (aa 0) (aa 3)) (by with_unfolding_all rfl)) (aq (aM (bS (ae gr (ae (aa 1) (ae (aa 3) ag)))))) aI)))))
   (aq (aM bR))),?_]
 obtain⟨a,rfl,g,M,N,q⟩:=h;refine#[_,rfl,cC (λ_ i=>∃l m b,i= [some (aW a),l,m,b]) #[_,_,_,rfl] ?_ ?_]
 .rintro j d _ u ⟨l,m,b,rfl⟩ A v
  obtain⟨O,rfl⟩:=Hd u;exists rfl,rfl;refine#[_,rfl,cC (λ_ i=>∃b,i= [some (aW a),some (.int (j:Int)),some (av (row a j)),b]) #[_,rfl] ?_ ?_]
  .rintro k Q _ y ⟨z,rfl⟩ S C
   obtain⟨x,G,rfl⟩:=cV y;have n:=fb G;have I:x<a.length:=g.rng _ _ n;exists _,rfl,_,rfl,_,rfl,_,ik (uh I),rfl,d9 _,_,rfl
   have e:inD (.int (j:Int)) ((row a x).map ao)=true:=by
    have:=mv (r:=row a x) (p:=j)
    rw[GT (g.sym _ _ n)] at this;exact this
   rw[AC rfl,e];exact bX (C _ #[_,rfl])
  .rintro _ ⟨z,rfl⟩
   exact v _ #[_,_,_,rfl]
 .rintro _ ⟨l,m,b,rfl⟩
  exact q
def wO(bs:List Bool):List D:=bs.map D.bl
def MV{bs:List Bool}{i:Nat}{b:Bool}(h:bs[i]?\b):(wO bs)[i]?\(.bl b):=by unfold wO;rw[fi,h];rfl
def ER(bs:List Bool)(i:Nat)(b:Bool):(wO bs).set i (.bl b)=wO (bs.set i b):=by unfold wO;rw[wL]
def EO(bs:List Bool):(wO bs).length=bs.length:=aS _
def A3{n k:Nat}(h:k<n):iB n (k:Int)\k:=by unfold iB;rw[AC (),AC ()];simp
def Jv:cc:=λa P=>∃(w:W),a= [aW w]/\Ay w/\1<=w.length/\w.length<=14/\∀bs m,RI w bs [] [] m->(∀x,bs[x]?\true->Reach w 0 x)->P (.lst (wO bs))
def Met(w:W)(bs:List Bool):Prop:=∀x,bs[x]?\true->Reach w 0 x
def nh:FnOk P w Z.K mg base bZ 1 T.d_reached_from_first.f T.d_reached_from_first.fd ["rows"] (aV Z Jv):=by
 have v:=iQ.nd;refine bf T.d_reached_from_first.F iQ [0,1,1,0,0] ∅ (λds R h=>by obtain⟨_,rfl,_⟩:=h;rfl) (λbg A outer s H E ds R hr h=>?_)
 have hu:=hr.units
 refine#[_,(af (AG 1 (NC:= ["row"]) (src:= [none]) rfl v (lF (au dS)) trivial (bq (aa 0)) (λ_ _ _=>(bI 0 (show(["row"]:List Str).Nodup from by decide+kernel))) (λ_ _ _=>c7) (λ_ _ _=>eX))
   (af (iq false 1 az eX)
   (af (bW 2 v (df (ae az ag)))
   (af (mf GE (fM (aa 2)) (af (J5 3 2 v)
   (aq (dh rfl GE (bq (aY (aa 0) (aa 3))) (aN 4 v) (aq (br (qv (fM (aY (aa 1) (aa 4)))) (af (iq false 1 (aa 4) eX)
   (aq (eF false 2 (aa 4)))) aI))))))
   (aq (aM (aa 1))))))),?_]
 obtain⟨c,rfl,g,h1,dU,q⟩:=h;refine#[_,rfl,ji (ρ:= [none]) av (λ_=> .bl false) c _ (λy b Y h=>h) rfl (small ()) λaL=>?_]
 have e0:c.map (λ_=>D.bl false)=wO (ar c.length false):=by unfold wO;rw[List.map_replicate,List.map_const']
 rw[e0];refine#[trivial,_,rfl,0,0,rfl,by rw[EO,zP];exact A3 (k:=0) (),?_]
 rw[ER];refine#[by show 1<=sizeLine;decide,?_]
 refine kM (λm ρ=>∃(bs:List Bool)(l:List Nat)(X B:Option D),ρ= [some (aW c),some (.lst (wO bs)),some (.lst (l.map ao)),X,B]/\RI c bs l [] m/\Met c bs/\m<=14/\bs.count false+l.length=m) c.length ?_ ?_
 .refine#[_,[0],none,none,rfl,#[by simp,?_,?_,λx d=>?_,?_],λx d=>?_,dU,?_]
  .rw[og,AC rfl,AC (by rw[zP];lia)]
  .intro x d
   have:x=0:=by simpa using d
   rw[this,og,AC rfl,AC (by rw[zP];lia)]
  .by_cases e:0=x
   .exact .inl (by rw[<-e];simp)
   .rw[og,tz e,wC] at d
    split at d<;>cases d
  .rw[ach (by rw[zP];lia),acC,ac6]
   simp;lia
  .by_cases e:0=x
   .rw[<-e];exact .refl _
   .rw[og,tz e,wC] at d
    split at d<;>cases d
  .rw[ach (by rw[zP];lia),acC,ac6]
   simp;lia
 .rintro m _ ⟨bs,l,X,B,rfl,C,mt,hc,Yp⟩
  exists _,rfl,rfl
  rcases abQ l with rfl| ⟨M,p,e⟩
  .exact bX #[_,rfl,q bs m C mt]
  .rw[abR] at e
   subst e;rw[show uf (.lst ((M++ [p]).map ao))=true by simp[uf]]
   refine b8 ?_;rw[cI] at Yp;simp only[n5] at Yp;obtain⟨o,rfl⟩:∃o,m=o+1:=#[m-1,()]
   have N:=C.pop;have hp:bs[p]?\true:=C.wt p (by simp)
   have O:p<c.length:=by rw[<-C.len];exact(dZ.mp hp).1
   refine#[M.map ao,ao p,by rw[cX];rfl,?_]
   refine#[_,rfl,_,rfl,_,ik (uh O),cC (λj ρ=>∃(a:List Bool)(i:List Nat)(B:Option D),ρ= [some (aW c),some (.lst (wO a)),some (.lst (i.map ao)),some (ao p),B]/\RI c a i [p] o/\Met c a/\(∀k y,k<j->(row c p)[k]?\y->a[y]?\true)/\a.count false+i.length=o) ?_ ?_ ?_]
   .exact#[bs,M,_,rfl,N,mt,(λk n r=>by lia),()]
   .rintro j x _ d ⟨a,i,o5,rfl,t,G,I,Q⟩ A hA
    obtain⟨n,J,rfl⟩:=cV d;have S:=g.rng _ _ (fb J);have U:n<a.length:=by rw[t.len];exact S
    have u:a[n]?\(a[n]):=cZ U;exists _,rfl,_,rfl,_,ik (MV u),rfl;generalize a[n]=bn at u;cases bn with
    |true=>
     refine bX (hA _ #[a,i,_,rfl,t,G,λk y r b=>?_,Q])
     by_cases e:k=j
     .rw[e,J] at b;cases b;exact u
     .exact I k y () b
    |false=>
     refine b8 ?_;refine#[trivial,_,rfl,_,rfl,_,n,rfl,by rw[EO];exact A3 U,?_]
     rw[ER];have L:=t.push u;have aas:=L.cnt;refine#[_,rfl,_,rfl,trivial,cf (by rw[aS];lia),?_]
     have er:i.map ao++ [ao n]=(i++ [n]).map ao:=by rw[cX];rfl
     rw[er];refine hA _ #[a.set n true,i++ [n],_,rfl,L,λy b=>?_,λk y r b=>?_,?_]
     .by_cases e:n=y
      .rw[<-e];exact .step (mt p hp) (fb J)
      .rw[og,tz e] at b;exact G y b
     .rw[og]
      by_cases e:n=y
      .rw[AC e,AC U]
      .rw[tz e]
       refine I k y ?_ b;apply FB;intro z
       have:k=j:=()
       rw[this,J] at b;cases b;exact e rfl
     .obtain⟨hl,he⟩:=dZ.mp u
      have:0<a.count false:=List.count_pos_iff.mpr (by rw[<-he];exact rh hl)
      rw[ach hl,he,cI];simp;lia
   .rintro _ ⟨a,i,o5,rfl,t,G,I,Q⟩
    have L:=t.close λy b=>by
     obtain⟨k,r⟩:=zQ b;exact I k y (by rw[aS];exact(dZ.mp r).1) r
    exact#[o,(),a,i,_,_,rfl,L,G,(),Q]
def GO:cc:=λa P=>∃(w:W),a= [aW w]/\Ay w/\1<=w.length/\w.length<=14/\(Good w->P .bo)/\(¬Good w->∀q,P (.tup [.str "apart", .int 0,ao q]))
def w6:FnOk P w Z.K mg base bZ 2 T.d_apart_fault.f T.d_apart_fault.fd ["rows"] (aV Z GO):=by
 have l:=nY.nd;refine bf T.d_apart_fault.F nY [0,0,0] ∅ (λt R h=>by obtain⟨_,rfl,_⟩:=h;rfl) (λN A outer s H E t R n h=>?_)
 have O:=n.units
 refine#[_,(af (dh rfl GE (kn rfl T.B.enumerate (ae (aE T.d_reached_from_first (nh T) n (ae (aa 0) ag)) ag)) (gS 2 rfl (bA (aN 1 l) (bA (aN 2 l) d6))) (aq (br (qv (fM (aa 2))) (aq (aM (bS (ae gr (ae az (ae (aa 1) ag)))))) aI)))
   (aq (aM bR))),?_]
 obtain⟨o,rfl,g,u,v,z,C⟩:=h;refine#[_,rfl,o,rfl,g,u,v,λbs m q mt=>cC (λk G=>(∀x,x<k->bs[x]?\true)/\∃c i,G= [some (aW o),c,i]) #[λx r=>absurd r (Nat.not_lt_zero x),_,_,rfl] ?_ ?_]
 .rintro j d _ I ⟨up,c,i,rfl⟩ A J
  obtain⟨y,L,rfl⟩:=rF I;obtain⟨b,a,rfl⟩:=cV L;exists rfl,rfl;cases b with
  |true=>
   refine#[_,rfl,rfl,bX (J _ #[λx r=>?_,_,_,rfl])]
   by_cases e:x=j
   .rw[e];exact a
   .exact up x ()
  |false=>
   refine#[_,rfl,rfl,b8 #[_,rfl,by show 3<=sizeLine;decide,C (λM=>?_) j]]
   have:=q.all M
   rw[this,wC] at a
   split at a<;>cases a
 .rintro _ ⟨up,c,i,rfl⟩
  refine z (g.good λp Q=>mt p (up p ?_))
  have:=q.len
  unfold wO iH;simp;lia
def nQ:FnOk P w Z.K mg base bZ 3 T.d_first_fault.f T.d_first_fault.fd ["rows"] (aV Z GO):=by
 have b:=nZ.nd;refine bf T.d_first_fault.F nZ [0,0] ∅ (λj R h=>by obtain⟨_,rfl,_⟩:=h;rfl) (λm A outer s H E j R a h=>?_)
 have n:=a.units
 refine#[_,(af (aP false 1 b (aE T.d_alien_fault (w4 T) a (ae (aa 0) ag)))
   (af (br (aQ pD (aa 1) bR (aZ _)) (aq (aP false 1 b (aE T.d_self_fault (zb T) a (ae (aa 0) ag)))) aI)
   (af (br (aQ pD (aa 1) bR (aZ _)) (aq (aP false 1 b (aE T.d_twice_fault (w9 T) a (ae (aa 0) ag)))) aI)
   (af (br (aQ pD (aa 1) bR (aZ _)) (aq (aP false 1 b (aE T.d_lone_fault (y9 T) a (ae (aa 0) ag)))) aI)
   (af (br (aQ pD (aa 1) bR (aZ _)) (aq (aP false 1 b (aE T.d_apart_fault (w6 T) a (ae (aa 0) ag)))) aI)
   (aq (aM (aa 1)))))))),?_]
 obtain⟨c,rfl,g,d,e,k,l⟩:=h;exists _,rfl,c,rfl,g,d,e,trivial;refine#[_,rfl,_,rfl,b8 #[_,rfl,c,rfl,g,d,e,trivial,?_]];refine#[_,rfl,_,rfl,b8 #[_,rfl,c,rfl,g,d,e,trivial,?_]];refine#[_,rfl,_,rfl,b8 #[_,rfl,c,rfl,g,d,e,trivial,?_]];refine#[_,rfl,_,rfl,b8 #[_,rfl,c,rfl,g,d,e,λi=>#[trivial,_,rfl,k i],λi q=>#[trivial,_,rfl,l i q]]]
def u5{P:Program}{w:World}{base:Heap}{Z:DC}(T:Txt Z m):FnOk P w Z.K m base bZ 4 T.i_f T.i_fd ["self","turns"] (GR Z):=by
 have NX:=nQ (P:=P) (w:=w) (base:=base) T;have n:=mG.nd;refine T.i_F.ok mG (λL H Q E h=>?_) (λbg A outer s H L Q E r h=>?_)
 .obtain⟨p,u,v,G,a,rfl,_⟩:=h;rfl
 obtain⟨p,u,v,G,a,rfl,x,M,N,dv,g,O,S,q⟩:=h;have hu:=r.units
 refine#[_,eB (t:=mW Z _ [0,0,0,0] 0 _)
   (br (qv (Lk IV IV az (aH bC rfl T.B.len bB (ae (aa 1) ag)) (Lf rfl T.c_MOST_POINTS))) (aq qu) aI)
  (eB (t:=mW Z _ [0,0,0,0] 0 _)
   (jb 2 (NC:= ["row"]) (src:= [none]) rfl n (lF (au fF)) trivial (bq (aa 1)) (λ_ _ _=>(bI 0 (show(["row"]:List Str).Nodup from by decide+kernel))) (λ_ _ _=>c7) (λ_ _ _=>(hV sO rfl T.B.list fR (ae (aa 0) ag))))
  (eB (t:=mW Z _ [0,0,0,0] 0 _)
   (aP false 3 n (aE T.d_first_fault (nQ T) r (ae (aa 2) ag)))
  (eB (t:=mW Z _ [0,0,0,0] 0 _)
   (br (aQ jd (aa 3) bR (aZ _)) (aq qu) aI)
  (pO (So (pv 0) (pv 2) rfl))))),?_]
 have F:(a.map av).length=a.length:=aS _;refine#[#[G,H,G],[some (.obj p),some (aW a),none,none],{nx:=λρ=>ρ= [some (.obj p),some (aW a),none,none],rt:=λ_=>False},#[G,λ_=> [],?_],?_,#[?_,λ_ z=>z.elim,λ_ z=>z.elim,λ_ z=>z.elim,λ_ _ z=>z.elim]]
 .refine#[.refl M, .refl _,rfl,λi d c=>?_,λ_=>gd,(λ_ _ _ _ z=>by cases z),(λ_ _ z=>by cases z)]
  match i,c with
  |0,c=>cases c;exact#[_,rfl, .obj p,rfl]
  |1,c=>cases c;exact#[_,rfl,dv,rfl]
  |2,c=>cases c
  |3,c=>cases c
  |i+4,c=>cases c
 .have U:D.bl (decide ((1:Int)<=((a.map av).length:Int)))= .bl true:=KF D.bl (GT (by rw[F];lia))
  have X:D.bl (decide (((a.map av).length:Int)<=14))= .bl true:=KF D.bl (GT (by rw[F];lia))
  exact#[_,rfl,true,U,b8 #[true,X,bX rfl]]
 rintro _ rfl JO H1 S1;refine#[#[G,H,G],_,{nx:=λρ=>ρ= [some (.obj p),some (aW a),some (aW a),none],rt:=λ_=>False},S1,?_,#[?_,λ_ z=>z.elim,λ_ z=>z.elim,λ_ z=>z.elim,λ_ _ z=>z.elim]]
 .exact#[_,rfl,ji (ρ:= [none]) av av a _ (λy hy Y h=>#[_,rfl,h]) rfl (small ()) λaL=>#[trivial,rfl]]
 rintro _ rfl fK H2 S2;refine#[#[G,H,G],_,{nx:=λρ=>ρ= [some (.obj p),some (aW a),some (aW a),some .bo],rt:=λ_=>False},S2,?_,#[?_,λ_ z=>z.elim,λ_ z=>z.elim,λ_ z=>z.elim,λ_ _ z=>z.elim]]
 .exact#[_,rfl,a,rfl,g.near,O,S,λ_=>#[trivial,rfl],λz=>absurd g z]
 rintro _ rfl xi H3 S3;refine#[#[G,H,G],_,{nx:=λρ=>ρ= [some (.obj p),some (aW a),some (aW a),some .bo],rt:=λ_=>False},S3,?_,#[?_,λ_ z=>z.elim,λ_ z=>z.elim,λ_ z=>z.elim,λ_ _ z=>z.elim]]
 .exact#[_,rfl,_,rfl,bX rfl]
 rintro _ rfl gf H4 ⟨I,fp,f⟩;obtain⟨v0,pz,o0⟩:=f.at_ 0 _ rfl;obtain⟨v2,FI,o2⟩:=f.at_ 2 _ rfl;obtain⟨d0,_⟩:=o0;obtain⟨J,_⟩:=o2;cases d0;have k:=J;cases J with
 | @lst R xs ds hR e=>
  have l:=f.ex.hh _ _ x;refine#[_,FI,_,pz,p,Z.C,u,[],rfl,l,T.W.cl,T.W.nR,∅,?_]
  have g4:I p=none:=f.ex.off p (by show H p≠none;rw[x];exact λz=>nomatch z) N
  refine q R I _ f.ex.gg (λb o j=>?_) (λb o j nb=>?_) f.ex.off aw k
  .rw[aB (aF j g4)];exact f.ex.sub _ _ j
  .rw[aB nb];exact f.ex.hh _ _ j
def SM:cc:=λa P=>∃(w:W),a= [.dG w]/\P (.int (w.length:Int))
def m9:FnOk P w Z.K mg base bZ 1 T.m_many.f T.m_many.fd ["self"] (aV Z SM):=by
 have d:=t5.nd;refine bf T.m_many.F t5 [0] ∅ (λb R h=>by obtain⟨_,rfl,_⟩:=h;rfl) (λe A outer s H E b R c h=>?_)
 have g:=c.units;exists _,(aq (aM (aH bC rfl T.B.len bB (ae (sU T.W (aa 0)) ag))));obtain⟨a,rfl,q⟩:=h;exists _,rfl,a,rfl;refine(?_:R (.int ((a.map av).length:Int)));rw[aS];exact q
def Qg:cc:=λa P=>∃(w:W),a= [.dG w]/\w.length<=14/\P (aW w)
def gM:FnOk P w Z.K mg base bZ 1 T.m_turns.f T.m_turns.fd ["self"] (aV Z Qg):=by
 have d:=qW.nd;refine bf T.m_turns.F qW [0] ∅ (λb R h=>by obtain⟨_,rfl,_⟩:=h;rfl) (λe A outer s H E b R c h=>?_)
 have g:=c.units;refine#[_,(aq (aM (oO (NC:= ["row"]) (src:= [none]) rfl (lF (au j4)) trivial (bq (sU T.W (aa 0))) (λ_ _ _=>(bI 0 (show(["row"]:List Str).Nodup from by decide+kernel))) (λ_ _ _=>c7) (λ_ _ _=>(hV sO rfl T.B.list fR (ae (aa 0) ag)))))),?_]
 obtain⟨a,rfl,i,q⟩:=h;exact#[_,rfl,a,rfl,ji (ρ:= [none]) av av a _ (λy j Y h=>#[_,rfl,h]) rfl (small ()) λk=>q]
end uz
namespace L2
open PySem PySem.Spec PyProof.Rows
section
variable {Z:DC} {X:Cx} {md:List Nat} {rn:Nat} {e:Expr} {pos p2:Pos} {te:bh} {t:iD} {lo hi:Option Expr} {tl th:Ho}
def U6(t:iD):b6:=λE a=>t a λb=>E.rt (.lst b)
def Nz(g:DF Z X rn e t):DSt Z X md rn (.Return (some e) pos) (U6 t):=by
 refine(DY g).imp λD C H j=>?_;rfl';obtain⟨B,l,E,⟨G,m,S⟩,h,M⟩:=j;ac_rfl
 let F:Addr->Prop:=λb=>∃i,b∈m i
 have s:=S.ex.sub
 have n:Ext B.G₀ B.H₀ (plus G H F) H:=#[S.ex.gg.trans (fH s),kc s,S.ex.hh,λb a p=>by
  rw[je (λ#[i,q]=>a (S.nw i b q).1)];exact S.ex.off b a p]
 refine#[plus G H F,l,_,kc s,#[S.len,λi d h=>?_],h,λJ r v f w y x o z c=>M.rt _ r v f w y (n.trans x) o z λb a=>#[S.ex.hh.free (c b a).1,(c b a).2]];obtain⟨v,A,o⟩:=S.at_ i d h;exact#[v,A,o.dv (fH s) λb a u e=>by rw[mE #[i,a]];exact e]
end
open PySem.MeetsSeq
section
variable {X:Cx}
def PJ:V->List V->Hp->VK->Prop:=λx b H Q=>∃(l:Addr)(a:List Int)(k:Int)(j:Nat),x= .ref l/\b= [.int k]/\H l\(.lst (a.map V.int))/\a[j]?\k/\(∀m,m<j->a[m]? ≠some k)/\Q .bo (upd H l (.lst ((a.eraseIdx j).map V.int)))
def V2(k:Int):Value->Bool
 | .int a _=>a==k
 |_=>false
def IM:MI X "list.remove" PJ:=by
 intro G s σ H x vs v us Q I N O h;rfl';obtain⟨l,b,k,j,rfl,rfl,J,L,R,q⟩:=h;subst N;obtain⟨u,rfl,S⟩:=O.one;obtain⟨T,rfl⟩:=S;obtain⟨z,a,n,r,hl,e⟩:=I.qU J;have len:=r.length;rw[aS] at len;have C:j<b.length:=(dZ.mp L).1;ac_rfl
 have B:∀(m:Nat)(d:m<b.length),∃t,a[m]?\(.int b[m] t):=λm d=>by
  obtain⟨w,hw,U⟩:=r.get (i:=m) (x:= .int b[m]) (by rw[fi,cZ d];rfl)
  obtain⟨t,rfl⟩:=U;exact#[t,hw]
 have Y:∀y,y∈a.toArray->EqGives y (.int k T) (V2 k y):=λy E=>by
  have E:y∈a:=by simpa using E
  obtain⟨m,d,rfl⟩:=List.mem_iff_getElem.mp E;obtain⟨t,g⟩:=B m ()
  have:a[m]= .int b[m] t:=by
   rw[cZ d] at g;exact FM g
  rw[this];exact EqGives.int _ _ _ _
 have A:∀(m:Nat)(d:m<a.toArray.size),V2 k a.toArray[m]=decide (b[m]?\k):=λm d=>by
  have Z:m<a.length:=by simpa using d
  obtain⟨t,g⟩:=B m ()
  have e1:a.toArray[m]= .int (b[m]'()) t:=by
   rw[cZ Z] at g;simpa using FM g
  rw[e1,cZ ()]
  show((b[m]'())==k)=_
  by_cases c:b[m]'()=k
  .simp[c]
  .simp[c]
 have M:a.toArray.size=b.length:=by simp[len]
 refine aa5 F.slot_list_remove #[_,e,rfl] F.entry_list_remove (F.args_list_remove_2 _ _) (list_remove l a.toArray n _ (V2 k) Y j () (by rw[A _ (),L];simp) (λm d FF=>by rw[A m d];exact GM (R m FF)) (by rw[M];simpa using z)) #[e,?_]
 refine#[.bo,_,I.Km (its':=a.eraseIdx j) (f:=λxs=>xs.eraseIdxIfInBounds j) J e ?_ ?_ ?_,rfl,q]
 .unfold Array.eraseIdxIfInBounds
  rw[dif_pos (by rw[M];exact C)]
  simp
 .refine Vals.of_get (by rw[aS,Ew,Ew,len]) λm x u o p=>?_
  rw[fi,ac7] at o;rw[ac7] at p
  by_cases c:m<j
  .rw[AC c] at o p
   have d:m<b.length:=()
   obtain⟨t,g⟩:=B m d;rw[g] at p;rw[cZ d] at o;cases o;cases p;exact#[t,rfl]
  .rw[tz c] at o p
   have d:m+1<b.length:=by
    by_cases c2:m+1<b.length
    .exact c2
    .rw[gQ ()] at o;cases o
   obtain⟨t,g⟩:=B (m+1) d;rw[g] at p;rw[cZ d] at o;cases o;cases p;exact#[t,rfl]
 .have h1:(b.eraseIdx j).length<=b.length:=by rw[Ew];split<;>lia
  rw[aS] at z ⊢;lia
end
section
variable {Z:DC} {X:Cx} {md:List Nat} {rn:Nat} {e k:Expr} {pos apos aU:Pos} {te tp:bh}
end
def gB.ok{P:Program}{w:World}{H:Hp}{a:Addr}(x:gB b a d h):cp P w H h a (.ext (gB b a d)):=by
 refine#[x,let #[o,_,_,_,c,_]:=x;#[o,c],λg i p k=>?_];obtain⟨o,e,f,t,c,r⟩:=p;exact#[o,e,f,t,k o c,r]
def vz.elems(i:vz a b):ElemsOf (intKind P w) a.toList:=λe c=>by
 obtain⟨k,t,rfl⟩:=i.1 e c;exact#[#[k,by simp[intKind,Value.isInt],rfl],rfl]
theorem A0:∀{b:List (Int×Value)}{c:List Int},(∀e∈b,∃k t,e=(hashInt k,Value.int k t))->IntsAre (b.map (·.2)) c->∀k,k∈c↔∃e∈b,Value.isInt k e.2=true
 | [],_,_,h,k=>by cases h;simp
 |e::b,c,d,h,k=>by
  obtain⟨j,t,rfl⟩:=d e (dH ..);cases h with
  |cons n g h=>
   have f:=A0 (λe a=>d e (eM _ a)) h k;rw[bY,f]
   constructor
   .rintro(rfl| ⟨e,a,q⟩)
    .exact#[_,dH ..,by simp[Value.isInt]]
    .exact#[e,eM _ a,q]
   .rintro⟨e,a,q⟩
    rcases bY.mp a with rfl|a
    .left;simp[Value.isInt] at q;exact q.symm
    .exact .inr #[e,a,q]
def vz.mem(i:vz d f)(k:Int):k∈f↔∃e∈d.toList,(intKind P w).is k e.2=true:=by
 obtain⟨a,_,g,b,c⟩:=i;rw[<-c.mem_iff];exact A0 a b k
theorem AZ:∀{a:List Value}{b:List Int},IntsAre a b->a.length=b.length
 |_,_, .nil=>rfl
 |_,_, .cons _ _ h=>KF (·+1) (AZ h)
theorem vz.size{a:Array (Int×Value)}(i:vz a d):a.size=d.length:=by
 obtain⟨_,_,e,b,c⟩:=i;rw[<-c.length_eq,<-AZ b,aS,dY]
def _root_.PySem.fL.PX(S:fL b o a c t):a.size<=306:=by
 have:=S.few
 rcases S.tok.few with h|h|h|h<;>lia
def gB.setOf(x:gB b a c h):h.SetOf (intKind P w) a (λk=>decide (k∈c)) c.length:=by
 obtain⟨o,d,e,t,f,S,i⟩:=x;refine#[o,d,e,t,f,S.ex,S.dat,i.elems,λk=>?_,?_,S.fits,i.size]
 .rw[aa3];exact i.mem k
 .have:=S.PX
  show d.size<4096;lia
def AY(a:List Int)(k:Int):List Int:=if k∈a then a else a++ [k]
section
variable {X:Cx}
def Inv.KD(I:Inv X c e H s)(h:H a\(.ext (gB b a d))):gB b a d s.heap:=(I.hok a _ h).1
def Pl(d:Gl X "set")(f:X.mg "set"=none):PE X (.Call (.Name "set" p) [] [] a) (λg H Q=>∀q,H q=none->Q (.ref q) (upd H q (.ext (gB (cE X.w) q [])))):=by
 intro c s g H Q I h;refine UV (k7 I d f (u:= .type "set") (by decide+kernel) ?_ ∅ ∅)
 refine acv rfl (acw (sI ?_));have i:=I.hok.fresh (bM _);refine#[.ref s.heap.objs.size,_,I.laid (t':=s.toks) (λb o e=>Da _ e) (bM _) (o:= .ext (gB (cE X.w) s.heap.objs.size [])) (gB.ok #[_,_,_,_,Gc _ rfl,fL.new X.w,?_]),rfl,h _ i];exact#[λe j=>by simp at j,gd,[],by simpa using IntsAre.nil, .refl _]
def Je:OpR X (compareOp .NotIn) (λx y H Q=>∃k p b a,x= .int k/\y= .ref p/\H p\(.ext (gB b p a))/\Q (.bl (!decide (k∈a))) H):=by
 intro c s g H x y v u Q I d e h;obtain⟨k,p,b,a,rfl,rfl,f,q⟩:=h;obtain⟨t,rfl⟩:=d;cases e;exact wpAny_notInSet_of (knd:=intKind X.prog X.w) (k:=k) (by simp[intKind,Value.isInt]) rfl (I.KD f).setOf #[.bl _,H,I.tok _,rfl,q]
def Wr(w:World):V->List V->Hp->VK->Prop:=λx c H Q=>∃l b a k,x= .ref l/\c= [.int k]/\H l\(.ext (gB b l a))/\b=cE w/\a.length<=300/\Q .bo (upd H l (.ext (gB b l (AY a k))))
def OV:K0 X "set.add" (Wr X.w):=by
 intro m s σ H x M v us Q I N O h;obtain⟨l,b,a,k,rfl,rfl,g,rfl,hz,q⟩:=h;cases N;obtain⟨u,rfl,P⟩:=O.one;obtain⟨d,rfl⟩:=P;obtain⟨o,p,ep,t,r,S,i⟩:=I.KD g;have R:s.TypeIs (.ref l) "set":=#[o,r,S.ex.1];refine P3 F.slot_set_add R F.entry_set_add ?_ (F.args_set_add_2 _ _);unfold Builtin.«set.add» Builtin.Frozenset.oneOther;simp only[abJ,bind_assoc];unfold Builtin.Frozenset.addrOf setAdd;refine ir (mo ?_)
 try dsimp only
 refine ir (mo ?_)
 try dsimp only
 refine ir ?_;refine KM ?_;have A:(intKind X.prog X.w).is k (.int k d)=true:=by simp[intKind,Value.isInt]
 refine ir ((intKind X.prog X.w).pyHash A ?_);refine Em (s:={s with toks:=s.toks+1}) r S i.elems A (by rw[i.size];lia) (λT=>?_) λU h' B C Y t' Z E S' j=>?_
 .show wpAny _ _ (ret Value.none) _ _ _
  have f:k∈a:=(i.mem k).mpr T;rw[AY,AC f] at q
  have e:upd H l (.ext (gB (cE X.w) l a))=H:=by
   funext c
   by_cases z:c=l
   .subst z;rw[aw];exact g.symm
   .rw[aB z]
  rw[e] at q;exact mo #[_,rfl, .bo,H,I.tok _,rfl,q]
 .show wpAny _ _ (ret Value.none) _ _ _
  have f:k∉a:=λz=>U ((i.mem k).mp z);rw[AY,tz f] at q
  have i':vz C (a++ [k]):=by
   obtain⟨a1,a2,ms,G,J⟩:=i;refine#[λe he=>?_,?_,?_]
   .rcases cF.mp (j.mem_iff.mp he) with h|h
    .exact a1 e h
    .rw[fB] at h;exact#[k,d,h]
   .rw[iT]
    refine#[a2,by simp,λx hx y L z=>f ?_]
    rw[fB] at L;rw[<-L,<-z];exact hx
   .have a5:IntsAre ((p.toList++ [((intKind X.prog X.w).hash k,Value.int k d)]).map (·.2)) (ms++ [k]):=by
     rw[cX];clear J j;generalize p.toList.map (·.2)=M at G
     induction G with
     |nil=>exact .cons k d .nil
     |cons n t _ ih=>exact .cons n t ih
    obtain⟨Ge,b1,b2⟩:=yL (j.map (·.2)) a5;exact#[Ge,b1,b2.trans (J.append_right _)]
  have I':=I.write (h':=h') (t':=s.toks+1) (x:=l) (e:=l) (o:= .ext (gB (cE X.w) l (a++ [k]))) (by rw[g];trivial) (.inl rfl) (λb u hb e=>Z.extBut b u hb e) #[B,E] (gB.ok #[B,C,Y,t',E,S',i'])
  exact mo #[_,rfl, .bo,_,I',rfl,q]
def ZW(r:V->List V->Hp->VK->Prop)(d:TE)(t:TA):TE:=λa H Q=>d a H λx c=>(∃p b e,x= .ref p/\c p\(.ext (gB b p e)))/\t a c λf g=>r x f g Q
variable {o e:Expr} {es:List Expr} {to:TE} {t:TA} {name:Str} {apos aU:Pos} {id:String} {r:V->List V->Hp->VK->Prop}
def Se(m:PlainAttrs "set")(slot:Slot "set" name id)(n:typeOf (.builtin id)=pure (.type "method_descriptor"))(q:K0 X id r)(u:PE X o to)(w:PA X (e::d) t)
  (y:attributeBase o name X.env (eval o X.env)=eval o X.env:=by rfl)
  (z:((backTo f (starEach (e::d) X.env)).all (λx=>!x.1)&&(backToKw f (keywordEach [] X.env)).all (λx=>x.1.isSome)
   &&decide ((e::d).length+([]:List Keyword).length+(if ([]:List Keyword).isEmpty then 0 else 1)<30))=true:=by rfl)
  (A:(apos.endLine==f.line)=true:=by rfl) (B:starEach (e::d) X.env=(false,eval e X.env)::starEach d X.env:=by rfl) (C:(backTo f (starEach d X.env)).any (·.1)=false:=by rfl):
  PE X (.Call (.Attribute o name apos) (e::d) [] f) (ZW r to t):=by
 intro c s g H Q I h;refine aby y z A rfl (thn (u c s g H _ I h) λv E #[x,F,i,G,J,L]=>?_);obtain⟨p,b,ns,rfl,M⟩:=J;cases G;obtain⟨j,_,_,_,k,S,_⟩:=i.KD M;refine#["set",id,m,slot,n,#[j,k,S.ex.1],λa N=>?_,?_]
 .cases N;exact#[j,k,S.ex.2.1]
 have l:=w f c E g F _ i L;rw[B] at l ⊢;refine aa2 (by show(false|| (backTo f (starEach d X.env)).any (·.1))=false;rw[C]<;>rfl) (abY ?_)
 exact thn l λO P #[R,T,U,Y,Z]=>q c P g T (.ref p) R (.ref p) O Q U rfl Y Z
def z3(l:X.calm=true):CallR X (.builtin "sorted") (λf H Q=>∃(p:Addr)(b:List Int),f= [.ref p]/\H p\(.ext (gB (cE X.w) p b))/\b.length<64/\∀(q:Addr)(a:List Int),H q=none->a.Perm b->a.Pairwise (·<=·)->Q (.ref q) (upd H q (.lst (a.map V.int)))):=by
 intro g s L H f M Q I m h;obtain⟨p,b,rfl,n,v,q⟩:=h;obtain⟨u,rfl,x⟩:=m.one;cases x;obtain⟨o,N,O,t,y,S,i⟩:=I.KD n;obtain⟨_,_,z,A,j⟩:=_root_.id i;refine GL (I.ok.hd l) y S A (by rw[i.size];exact v) λP B c out e a d le C E k F=>?_
 have G:H c=none:=I.hok.fresh le;have R:64<=sizeLine:=∅
 have J:=(k.trans j).length_eq;exact#[.ref c,_,I.laid (t':=B) d le (o:= .lst (a.map V.int)) #[by rw[aS];lia,out.toList,e,sh E,by simpa using C],rfl,q c a G (k.trans j) F]
end
section
variable {Z:DC} {X:Cx} {B:Bs} {md:List Nat} {rn:Nat} {ρ:DN} {σ:St} {H G:Hp} {fp:Nat->List Addr} {a e k o:Expr} {ta te tk tp:bh} {pos apos aU p2:Pos}
def Xq(c:Bool):gY:=λa b P=>∃k f d,a= .int k/\b= .set f d/\P (.bl (if c=true then !decide (k∈d) else decide (k∈d)))
def IZ:OpR X (compareOp .NotIn) (b9 Z (Xq true)):=by
 refine Je.imp ?_;rintro x y H Q ⟨G,a,b,P,s,c,d,⟨k,i,f,rfl,rfl,h⟩,q⟩;cases c;cases d with
 |set g=>exact#[k,_,_,f,rfl,rfl,s _ _ g,q _ h _ G H (.refl s) (.bl _)]
def U9(w:World)(i:Nat):b6:=λE b=>E.nx (b.set i (some (.set (cE w) [])))
def NA(i:Nat)(n:X.N.Nodup)(q:Gl X "set")(r:X.mg "set"=none)(s:t.getD i 0=99:=by rfl)(u:X.N[i]?\x:=by rfl)(v:Loc X.env.scope x:=by subst_eqs)(y:swapsWith (.Call (.Name "set" p) [] [] A) (some (.Name x d)) m.line X.env=pure false:=by rfl)
  (C:X.fn x=true\/X.env.scope.names.lookup x\.local:=by subst_eqs):DSt Z X t J (.Assign [.Name x d] (.Call (.Name "set" p) [] [] A) m) (U9 X.w i):=by
 refine(gT n u v (Pl q r) y C).imp ?_;rintro D L H ⟨B,O,E,⟨G,P,S⟩,h,M⟩;intro c g;have F:G c=none:=S.ex.sub.free g;have x:Ext G H G (upd H c (.ext (gB (cE X.w) c []))):=#[.refl _,S.ex.sub.trans (aX g _),aX g _,λ_ _ z=>z];refine M.nx _ h _ _ #[G,_,(S.grow x).uc s (f:= [c]) (.inr (.inr #[c,_,rfl,aw,rfl, .inl #[rfl,_,[],rfl,rfl]])) (by simp) (λb l=>?_) λb l j _ I=>?_]
 .rw[fB] at l;subst l
  exact#[S.ex.hh.free g,(by rw[aw];exact λz=>nomatch z),F]
 .rw[fB] at l;subst l
  exact(S.nw j _ I).2.1 g
def UP(w:World)(f:List Nat)(m:Bool)(i:Nat)(g:bh):b6:=λE b=>∃c,b[i]?\(some (.set (cE w) c))/\g (vo f m b) λd=>∃k,d= .int k/\c.length<=300/\E.nx (b.set i (some (.set (cE w) (AY c k))))
def Nu(m:Bool)(i:Nat)(y:DE Z X e te)(f:md.getD i 0=99:=by rfl)(z:X.N[i]?\x:=by rfl)(A:l5 X.env.scope x:=by subst_eqs)(g:(x==("__debug__":Str))=false:=by decide)(C:(x==("__classdict__":Str))=false:=by decide)
  (I:attributeBase (.Name x c) "add" X.env (eval (.Name x c) X.env)=eval (.Name x c) X.env:=by rfl)
  (J:((backTo aU (starEach [e] X.env)).all (λx=>!x.1)&&(backToKw aU (keywordEach [] X.env)).all (λx=>x.1.isSome)&&decide (([e]:List Expr).length+([]:List Keyword).length+(if ([]:List Keyword).isEmpty then 0 else 1)<30))=true:=by rfl)
  (L:(apos.endLine==aU.line)=true:=by rfl) (n:starEach [e] X.env=(false,eval e X.env)::starEach [] X.env:=by rfl) (O:(backTo aU (starEach [] X.env)).any (·.1)=false:=by rfl)
  (P:swapsWith (.Call (.Attribute (.Name x c) "add" apos) [e] [] aU) none pos.line X.env=pure false:=by rfl):
  DSt Z X md rn (.Expr (.Call (.Attribute (.Name x c) "add" apos) [e] [] aU) pos) (UP X.w md m i te):=by
 refine(gN (Se ac8 PySem.F.slot_set_add PySem.F.type_set_add OV (pv i z A g C) (bU y eH n) I J L n O) P).imp ?_;rintro D σ H ⟨B,ρ,E,⟨G,Q,S⟩,⟨R,p,h⟩,M⟩;obtain⟨v0,j,q⟩:=S.at_ i _ p;rw[f] at q;obtain⟨l,rfl,T,_⟩:=q.Uk;refine#[_,j,#[l,_,_,rfl,T],S.ev m h λd g=>?_];obtain⟨k,rfl,U,Y⟩:=g;refine#[by cases m<;>trivial,λv a H' r x dv=>?_]
 cases dv;obtain⟨v1,s,t⟩:=r.at_ i _ p;rw[j] at s;cases s;rw[f] at t;obtain⟨l',o,Oq,u⟩:=t.Uk;cases o;refine#[l,_,R,k,rfl,rfl,Oq,rfl,U,M.nx _ Y _ _ #[a,Q,r.mut j (b:=l) (by rw[u];simp) ?_]]
 rw[f,u];exact .inr (.inr #[l,_,rfl,aw,rfl, .inl #[rfl,_,_,rfl,rfl]])
def Xn(g:List Nat)(i:Nat)(h:bh):b6:=λE b=>∃c,b[i]?\(some (.lst c))/\h (cP g b) λd=>∃f,d= .lst f/\c.length+f.length<=sizeLine/\E.nx (b.set i (some (.lst (c++f))))
def Cd(i:Nat)(t:DE Z X e te)(g:md.getD i 0=1:=by rfl)(u:X.N[i]?\x:=by rfl)(w:l5 X.env.scope x:=by subst_eqs)(f:(x==("__debug__":Str))=false:=by decide)(y:(x==("__classdict__":Str))=false:=by decide)
  (z:attributeBase (.Name x c) "extend" X.env (eval (.Name x c) X.env)=eval (.Name x c) X.env:=by rfl)
  (A:((backTo aU (starEach [e] X.env)).all (λx=>!x.1)&&(backToKw aU (keywordEach [] X.env)).all (λx=>x.1.isSome)&&decide (([e]:List Expr).length+([]:List Keyword).length+(if ([]:List Keyword).isEmpty then 0 else 1)<30))=true:=by rfl)
  (C:(apos.endLine==aU.line)=true:=by rfl) (j:starEach [e] X.env=(false,eval e X.env)::starEach [] X.env:=by rfl) (I:(backTo aU (starEach [] X.env)).any (·.1)=false:=by rfl)
  (J:swapsWith (.Call (.Attribute (.Name x c) "extend" apos) [e] [] aU) none pos.line X.env=pure false:=by rfl):
  DSt Z X md rn (.Expr (.Call (.Attribute (.Name x c) "extend" apos) [e] [] aU) pos) (Xn md i te):=by
 refine(gN (ze aaE PySem.F.slot_list_extend PySem.F.type_list_extend IL (pv i u w f y) (bU t eH j) z A C j I) J).imp ?_;rintro D o H ⟨B,ρ,E,⟨G,L,S⟩,⟨ds,m,h⟩,M⟩;obtain⟨l,xs,_,_,n,O,_⟩:=S.one g m;refine#[_,n,ty_list O,S.ev false h λd f=>#[trivial,λv P H' p x dv=>?_]];obtain⟨zs,rfl,Q,R⟩:=f;obtain⟨l',T,gu,U,q,Y,r,put⟩:=p.one g m;cases U;rw[n] at q;cases q;cases dv with
 | @lst b a _ k s=>
  exact#[l,b,T,a,rfl,rfl,Y,p.ex.sub _ _ k,by rw[r.length,s.length];exact Q,M.nx _ R _ _ #[P,L,put _ _ (r.append s)]]
end
section
variable {Z:DC} {X:Cx} {md:List Nat} {rn:Nat} {elt t0 i0 t1 i1:Expr} {f0 f1:List Expr} {scope:Scope} {pos:Pos} {wi ic:i6} {g g1:eN} {tt eI:dE} {te:bh} {src:List (Option Nat)} {NC:List Str}
end
section
variable {Z:DC} {X:Cx}
theorem tW(a:List Int):∀n,n<=a.length->preSum (λi=>a.getD i 0) n=(a.take n).sum
 |0,_=>by simp[preSum]
 |n+1,h=>by
  have:=tW a n ()
  rw[preSum,this,abK (),List.sum_append,cW,cZ ()]
  simp
def HF(n:X.calm=true):CallR X (.builtin "sum") (λg H Q=>∃(p:Addr)(c:List Int),g= [.ref p]/\H p\(.lst (c.map V.int))/\Q (.int c.sum) H):=by
 intro j s M H g N Q I t h;rfl';obtain⟨p,c,rfl,z,q⟩:=h;obtain⟨u,rfl,B⟩:=t.one;subst B;obtain⟨a,r,d,P⟩:=I.list (cK.of z);have k:=r.length;rw[aS] at k;ac_rfl;refine call_sum_walkG (acy d.isList ?_)
 have l:p<s.heap.objs.size:=by
  obtain⟨o,C,_⟩:=d.isList;exact Do C
 have E:p≠s.heap.objs.size:=bJ l;refine#[_,_,_,a.toArray.size,_,_,λi=>c.getD i 0,rfl,Walks.list (show X.A.in1.handled=none from I.ok.hd n) s.heap.objs.size p E a.toArray,#[#[_,Gc _ rfl,rfl,rfl],d.isList.push _],?_,?_,λF R S G=>?_]
 .intro b m
  show b<(s.heap.push _).objs.size;rw[aa6];simp only[bY,acS,or_false] at m
  rcases m with rfl|rfl
  .exact zK _
  .exact ur l
 .intro i v J
  have f:a[i]?\v:=by simpa using J
  have T:i<a.length:=(dZ.mp f).1;obtain⟨w,hw,L⟩:=r.get (i:=i) (x:= .int (c.getD i 0)) (by rw[fi,cW,cZ ()];rfl)
  rw[hw] at f;cases FM f;exact L
 .have kept:∀b o,s.heap.get? b\o->F.get? b\o:=λb o e=>G b o (by simp;exact bJ (Do e)) (Da _ e)
  have e:preSum (λi=>c.getD i 0) a.toArray.size=c.sum:=by
   rw[cR,<-k,tW c _ (bM _),Hk (bM _)]
  rw[e];exact#[.int _,H,I.kept kept,#[_,rfl],q]
def Xg:cc:=λb P=>∃a:List Int,b= [.lst (a.map D.int)]/\P (.int a.sum)
def QP(b:X.calm=true):CallR X (.builtin "sum") (iK Z Xg):=by
 refine(HF b).imp ?_;rintro f H Q ⟨G,g,P,s,dv,⟨c,rfl,d⟩,q⟩;cases dv with
 |cons a as=>
  cases as;cases a with
  |lst h e=>exact#[_,c,rfl,oU e▸s _ _ h,q _ d _ G H (.refl s) (.int _)]
def QN:bootBuiltins "sum"\(.builtin "sum"):=by decide+kernel
end
def fP.ok{P:Program}{w:World}{H:Hp}{a:Addr}(x:fP b a d h):cp P w H h a (.ext (fP b a d)):=by
 refine#[x,let #[o,_,_,_,c,_]:=x;#[o,c],λg i p k=>?_];obtain⟨o,e,f,t,c,r⟩:=p;exact#[o,e,f,t,k o c,r]
theorem i8.mem:∀{b:List (Int×Addr)}{c:List (Int×Int)},i8 H b c->∀e∈b,∃p∈c,e.1=cO p/\H e.2\(.tup [.int p.1, .int p.2])
 |_,_, .nil,e,a=>nomatch a
 |_,_, .cons (p:=p) h t,e,a=>by
  rcases bY.mp a with rfl|a
  .exact#[p,dH ..,rfl,h]
  .obtain⟨q,d,f⟩:=t.mem e a
   exact#[q,eM _ d,f]
theorem i8.Ua:∀{c:List (Int×Addr)}{d:List (Int×Int)},i8 H c d->∀p∈d,∃a,(cO p,a)∈c/\H a\(.tup [.int p.1, .int p.2])
 |_,_, .nil,p,b=>nomatch b
 |_,_, .cons (a:=a) h t,p,b=>by
  rcases bY.mp b with rfl|b
  .exact#[a,dH ..,h]
  .obtain⟨e,f,g⟩:=t.Ua p b
   exact#[e,eM _ f,g]
theorem i8.len:∀{a:List (Int×Addr)}{b:List (Int×Int)},i8 H a b->a.length=b.length
 |_,_, .nil=>rfl
 |_,_, .cons _ t=>KF (·+1) t.len
theorem i8.snoc(h:H a\(.tup [.int p.1, .int p.2])):∀{b:List (Int×Addr)}{c:List (Int×Int)},i8 H b c->i8 H (b++ [(cO p,a)]) (c++ [p])
 |_,_, .nil=> .cons h .nil
 |_,_, .cons h' t=> .cons h' (i8.snoc h t)
section
variable {X:Cx} {pins:List (Addr×Obj)} {σ:St} {H:Hp} {s:Shared}
def Inv.wj{p:Int×Int}(I:Inv X pins σ H s)(h:H a\(.tup [.int p.1, .int p.2])):IsTupleKey (intKind X.prog X.w) s.heap [p.1,p.2] a:=by
 rfl';obtain⟨c,r,⟨o,d,e,n,f⟩,_⟩:=I.tuple (gj.of h);obtain⟨i,j,rfl,⟨t,rfl⟩,⟨u,rfl⟩⟩:=Vals.two r;ac_rfl;exact#[o,_,n,d,e,f, .cons (by simp[intKind,Value.isInt]) (.cons (by simp[intKind,Value.isInt]) .nil)]
def Inv.lA(I:Inv X pins σ H s)(h:H a\(.ext (fP b a c))):fP b a c s.heap:=(I.hok a _ h).1
def nj(P:Program)(w:World)(p:Int×Int):tupleKeyHash (intKind P w) [p.1,p.2]=cO p:=rfl
def Inv.Zw(I:Inv X pins σ H s)(g:i8 H b f)(h:a.toList.Perm (b.map λe=>(e.1,Value.ref e.2))):ML X.prog X.w s.heap a:=λi e c=>by
 rfl';have k:e∈a.toList:=by rw[<-gE] at c;exact fb c
 obtain⟨d,l,rfl⟩:=cM.mp (h.mem_iff.mp k);obtain⟨p,_,m,n⟩:=g.mem d l;ac_rfl;exact#[[p.1,p.2],d.2,by rw[nj,m],I.wj n]
def Inv.oZ{h:List (Int×Addr)}{j:List (Int×Int)}{b:Array (Int×Value)}(I:Inv X pins σ H s)(k:i8 H h j)(l:b.toList.Perm (h.map λe=>(e.1,Value.ref e.2)))(p:Int×Int):
  (∃(i:Nat)(c:Addr),b[i]?\(tupleKeyHash (intKind X.prog X.w) [p.1,p.2], .ref c)/\IsTupleKey (intKind X.prog X.w) s.heap [p.1,p.2] c)↔p∈j:=by
 constructor
 .rintro⟨i,c,d,f⟩
  have g:(tupleKeyHash (intKind X.prog X.w) [p.1,p.2],Value.ref c)∈b.toList:=by rw[<-gE] at d;exact fb d
  obtain⟨m,r,t⟩:=cM.mp (l.mem_iff.mp g);obtain⟨q,u,x,n⟩:=k.mem m r
  have:m.2=c:=by have:=(abd t).2;injection this
  rw[this] at n
  have:=(I.wj n).inj f
  simp at this
  have:q=p:=aaW this.1 this.2
  rw[<-this];exact u
 .intro v
  obtain⟨a,d,f⟩:=k.Ua p v;have g:(cO p,Value.ref a)∈b.toList:=l.mem_iff.mpr (cM.mpr #[_,d,rfl]);obtain⟨i,o⟩:=List.mem_iff_getElem?.mp g;rw[gE] at o;exact#[i,a,by rw[nj];exact o,I.wj f]
def L9(d:Gl X "set")(f:X.mg "set"=none):PE X (.Call (.Name "set" p) [] [] a) (λg H Q=>∀q,H q=none->Q (.ref q) (upd H q (.ext (fP (cE X.w) q [])))):=by
 intro c s g H Q I h;refine UV (k7 I d f (u:= .type "set") (by decide+kernel) ?_ ∅ ∅)
 refine acv rfl (acw (sI ?_));have i:=I.hok.fresh (bM _);exact#[.ref s.heap.objs.size,_,I.laid (t':=s.toks) (λb o e=>Da _ e) (bM _) (o:= .ext (fP (cE X.w) s.heap.objs.size [])) (fP.ok #[_,_,_,_,Gc _ rfl,fL.new X.w, .refl _]),rfl,h _ i]
def Y3(i:X.A.units+64<cLine)(I:Inv X pins σ H s)(j:H c\(.tup [.int p.1, .int p.2]))(k:H a\(.ext (fP (cE X.w) a e)))(f:i8 H e b)
  (h:∀d,Q (decide (p∈b)) {s with toks:=d}):wpAny (model X.prog X.w) X.A (contains (.ref a) (.ref c)) Q E s:=by
 rfl';obtain⟨o,m,r,t,n,S,g⟩:=I.lA k;ac_rfl;refine ui i n S (I.Zw f g) (I.wj j) λd=>?_
 have:PySem.oZ X.prog X.w s.heap m [p.1,p.2]=decide (p∈b):=by
  classical
  unfold PySem.oZ;exact aa8.mpr (I.oZ f g p)
 rw[this];exact h d
def Jd(f:X.A.units+64<cLine):OpR X (compareOp .NotIn) (λx y H Q=>∃c a b d p,x= .ref c/\y= .ref a/\H c\(.tup [.int p.1, .int p.2])/\H a\(.ext (fP (cE X.w) a b))/\i8 H b d/\Q (.bl (!decide (p∈d))) H):=by
 intro e s n H x y v u Q I g i h;rfl';obtain⟨c,a,b,d,p,rfl,rfl,k,l,m,q⟩:=h;ac_rfl;cases g;cases i;exact ir (Y3 f I k l m λr=>mo #[.bl _,H,I.tok _,rfl,q])
def OU(hu:X.A.units+64<cLine):K0 X "set.add" (λx k H Q=>∃l c d a p,x= .ref l/\k= [.ref c]/\H c\(.tup [.int p.1, .int p.2])/\H l\(.ext (fP (cE X.w) l d))/\i8 H d a/\a.length<=300/\
  (p∈a->Q .bo H)/\(p∉a->Q .bo (upd H l (.ext (fP (cE X.w) l (d++ [(cO p,c)])))))):=by
 intro m s σ H x k v us Q I C E h;rfl';obtain⟨l,c,d,a,p,rfl,rfl,J,n,g,hz,L,M⟩:=h;subst C;obtain⟨u,rfl,N⟩:=E.one;subst N;obtain⟨o,O,ep,t,q,S,f⟩:=I.lA n;have P:s.TypeIs (.ref l) "set":=#[o,q,S.ex.1];ac_rfl;refine P3 F.slot_set_add P F.entry_set_add ?_ (F.args_set_add_2 _ _);unfold Builtin.«set.add» Builtin.Frozenset.oneOther;simp only[abJ,bind_assoc];unfold Builtin.Frozenset.addrOf setAdd;refine ir (mo ?_)
 try dsimp only
 refine ir (mo ?_)
 try dsimp only
 refine ir ?_;refine KM ?_;have r:=I.wj J;refine ir (wpAny_pyHash_tuple ?_ r ?_)
 .show X.A.units+1<cLine;lia
 have sz:O.size=a.length:=by
  have:=f.length_eq
  rw[dY,aS,g.len] at this;exact this
 refine En (s:={s with toks:=s.toks+([p.1,p.2].length+1)}) (by show X.A.units+1<cLine;lia) q S (I.Zw g f) r () (λR=>?_) λT h' y U Y t' Z B S' j=>?_
 .show wpAny _ _ (ret Value.none) _ _ _
  exact mo #[_,rfl, .bo,H,I.tok _,rfl,L ((I.oZ g f p).mp R)]
 .show wpAny _ _ (ret Value.none) _ _ _
  have AX:p∉a:=λz=>by
   obtain⟨i,c',h1,h2⟩:=(I.oZ g f p).mpr z;exact T i _ h1 c' rfl h2
  have I':=I.write (h':=h') (t':=s.toks+([p.1,p.2].length+1)) (x:=l) (e:=l) (o:= .ext (fP (cE X.w) l (d++ [(cO p,c)]))) (by rw[n];trivial) (.inl rfl) (λb u hb e=>Z.extBut b u hb e) #[y,B] (fP.ok #[y,U,Y,t',B,S',by
   rw[cX];exact j.trans (f.append_right _)])
  exact mo #[_,rfl, .bo,_,I',rfl,M AX]
def ZV(b:Bool)(r:V->List V->Hp->VK->Prop)(d:TE)(t:TA):TE:=λa H Q=>d a H λx c=>(∃p e,x= .ref p/\c p\(.ext (fP b p e)))/\t a c λf g=>r x f g Q
variable {o e:Expr} {es:List Expr} {to:TE} {t:TA} {name:Str} {apos aU:Pos} {id:String} {r:V->List V->Hp->VK->Prop}
def Sd{b:Bool}(n:PlainAttrs "set")(slot:Slot "set" name id)(q:typeOf (.builtin id)=pure (.type "method_descriptor"))(u:K0 X id r)(w:PE X o to)(y:PA X (e::d) t)
  (z:attributeBase o name X.env (eval o X.env)=eval o X.env:=by rfl)
  (A:((backTo f (starEach (e::d) X.env)).all (λx=>!x.1)&&(backToKw f (keywordEach [] X.env)).all (λx=>x.1.isSome)
   &&decide ((e::d).length+([]:List Keyword).length+(if ([]:List Keyword).isEmpty then 0 else 1)<30))=true:=by rfl)
  (B:(apos.endLine==f.line)=true:=by rfl) (C:starEach (e::d) X.env=(false,eval e X.env)::starEach d X.env:=by rfl) (E:(backTo f (starEach d X.env)).any (·.1)=false:=by rfl):
  PE X (.Call (.Attribute o name apos) (e::d) [] f) (ZV b r to t):=by
 intro c s g H Q I h;refine aby z A B rfl (thn (w c s g H _ I h) λv F G=>?_);rfl';obtain⟨x,L,j,M,N,O⟩:=G;ac_rfl;rfl';obtain⟨p,hZ,rfl,P⟩:=N;subst M;obtain⟨k,_,_,_,l,S,_⟩:=j.lA P;ac_rfl;refine#["set",id,n,slot,q,#[k,l,S.ex.1],λa R=>?_,?_]
 .cases R;exact#[k,l,S.ex.2.1]
 have m:=y f c F g L _ j O;rw[C] at m ⊢;refine aa2 (by show(false|| (backTo f (starEach d X.env)).any (·.1))=false;rw[E]<;>rfl) (abY ?_)
 exact thn m λT U #[Y,Z,I2,r2,q2]=>u c U g Z (.ref p) Y (.ref p) T Q I2 rfl r2 q2
end
def FK(a:List (Int×Int))(p:Int×Int):List (Int×Int):=if p∈a then a else a++ [p]
section
variable {Z:DC} {X:Cx} {B:Bs} {md:List Nat} {rn:Nat} {ρ:DN} {σ:St} {H G:Hp} {fp:Nat->List Addr} {a e k o:Expr} {ta te tk tp:bh} {pos apos aU p2:Pos}
def Pr(p:Int×Int):D:= .tup [.int p.1, .int p.2]
def Dv.Ks(h:Dv Z G v (Pr p)):∃c,v= .ref c/\G c\(.tup [.int p.1, .int p.2]):=by
 rfl';obtain⟨c,l,rfl,b,f⟩:=Dv.pE h;obtain⟨m,n,rfl,g,i⟩:=f.Ja;rw[g.ofInt,i.ofInt] at b;ac_rfl;exact#[c,rfl,b]
def Xp(w:World)(c:Bool):gY:=λa b P=>∃p d,a=Pr p/\b= .x (.tX (cE w) d)/\P (.bl (if c=true then !decide (p∈d) else decide (p∈d)))
def IY(d:X.A.units+64<cLine):OpR X (compareOp .NotIn) (b9 Z (Xp X.w true)):=by
 refine(Jd d).imp ?_;rintro x y H Q ⟨G,a,b,P,s,f,g,⟨p,i,rfl,rfl,h⟩,q⟩;obtain⟨c,rfl,j⟩:=f.Ks;cases g with
 |x l ok=>
  rfl';obtain⟨_,n,rfl,r⟩:=ok;ac_rfl;exact#[c,_,n,i,p,rfl,rfl,s _ _ j,s _ _ l,r.mono s,q _ h _ G H (.refl s) (.bl _)]
def QX(w:World)(i:Nat):b6:=λE b=>E.nx (b.set i (some (.x (.tX (cE w) []))))
def Lj(i:Nat)(n:X.N.Nodup)(q:Gl X "set")(r:X.mg "set"=none)(s:t.getD i 0=98:=by rfl)(u:X.N[i]?\x:=by rfl)(v:Loc X.env.scope x:=by subst_eqs)(y:swapsWith (.Call (.Name "set" p) [] [] A) (some (.Name x d)) m.line X.env=pure false:=by rfl)
  (C:X.fn x=true\/X.env.scope.names.lookup x\.local:=by subst_eqs):DSt Z X t O (.Assign [.Name x d] (.Call (.Name "set" p) [] [] A) m) (QX X.w i):=by
 refine(gT n u v (L9 q r) y C).imp ?_;intro D P H F;rfl';obtain⟨B,R,E,⟨G,T,S⟩,h,M⟩:=F;ac_rfl;intro c g;have J:G c=none:=S.ex.sub.free g;have x:Ext G H G (upd H c (.ext (fP (cE X.w) c []))):=#[.refl _,S.ex.sub.trans (aX g _),aX g _,λ_ _ z=>z];refine M.nx _ h _ _ #[G,_,(S.grow x).uc s (f:= [c]) (.inr (.inr #[c,_,rfl,aw,rfl, .inr #[rfl,_,rfl,gd,[],rfl, .nil]])) (by simp) (λb l=>?_) λb l j _ L=>?_]
 .rw[fB] at l;subst l
  exact#[S.ex.hh.free g,(by rw[aw];exact λz=>nomatch z),J]
 .rw[fB] at l;subst l
  exact(S.nw j _ L).2.1 g
def UO(w:World)(f:List Nat)(m:Bool)(i:Nat)(g:bh):b6:=λE b=>∃c,b[i]?\(some (.x (.tX (cE w) c)))/\g (vo f m b) λd=>∃p,d=Pr p/\c.length<=300/\E.nx (b.set i (some (.x (.tX (cE w) (FK c p)))))
def Nt(m:Bool)(i:Nat)(hu:X.A.units+64<cLine)(he:DE Z X e te)(s:md.getD i 0=98:=by rfl)(hi:X.N[i]?\x:=by rfl)(hv:l5 X.env.scope x:=by subst_eqs)(t:(x==("__debug__":Str))=false:=by decide)(eO:(x==("__classdict__":Str))=false:=by decide)
  (dN:attributeBase (.Name x g) "add" X.env (eval (.Name x g) X.env)=eval (.Name x g) X.env:=by rfl)
  (iJ:((backTo aU (starEach [e] X.env)).all (λx=>!x.1)&&(backToKw aU (keywordEach [] X.env)).all (λx=>x.1.isSome)&&decide (([e]:List Expr).length+([]:List Keyword).length+(if ([]:List Keyword).isEmpty then 0 else 1)<30))=true:=by rfl)
  (cw:(apos.endLine==aU.line)=true:=by rfl) (I:starEach [e] X.env=(false,eval e X.env)::starEach [] X.env:=by rfl) (dq:(backTo aU (starEach [] X.env)).any (·.1)=false:=by rfl)
  (kB:swapsWith (.Call (.Attribute (.Name x g) "add" apos) [e] [] aU) none pos.line X.env=pure false:=by rfl):
  DSt Z X md rn (.Expr (.Call (.Attribute (.Name x g) "add" apos) [e] [] aU) pos) (UO X.w md m i te):=by
 refine(gN (Sd (b:=cE X.w) ac8 PySem.F.slot_set_add PySem.F.type_set_add (OU hu) (pv i hi hv t eO) (bU he eH I) dN iJ cw I dq) kB).imp ?_;intro D σ H aO;rfl';obtain⟨B,J,E,⟨G,L,S⟩,⟨O,n,h⟩,M⟩:=aO;ac_rfl;rfl';obtain⟨v0,y,P⟩:=S.at_ i _ n;rw[s] at P;obtain⟨l,φ,rfl,hl,_,nd,es,rfl,pe⟩:=P.xA;ac_rfl;refine#[_,y,#[l,_,rfl,hl],S.ev m h λd t=>?_];obtain⟨p,rfl,hz,q⟩:=t;refine#[by cases m<;>trivial,λv Q H' C x dv=>?_]
 rfl';obtain⟨c,rfl,R⟩:=dv.Ks;obtain⟨v1,T,U⟩:=C.at_ i _ n;rw[y] at T;ac_rfl;cases FM T;rfl';rw[s] at U;obtain⟨l',φ',e',Oq,Y,Ak,hZ,rfl,k⟩:=U.xA;cases e';ac_rfl;refine#[l,c,hZ,O,p,rfl,rfl,x.sub _ _ R,Oq,k.mono x.sub,hz,λr=>?_,λr=>?_]
 .rw[FK,AC r] at q
  refine M.nx _ q _ _ #[Q,L,?_]
  have e:J.set i (some (.x (.tX (cE X.w) O)))=J:=by
   refine wI λj=>?_
   by_cases z:i=j
   .subst z
    have c8:=(dZ.mp n).1;rw[iS c8,n]
   .rw[f7 z]
  rw[e];exact C
 .rw[FK,tz r] at q
  refine M.nx _ q _ _ #[Q,L,C.mut y (b:=l) (by rw[Y];simp) ?_]
  rw[s,Y];refine .inr (.inr #[l,_,rfl,aw,rfl, .inr #[rfl,_,rfl,?_,_,rfl,k.snoc R]]);rw[iT];refine#[Ak,by simp,λa ha b o z=>r ?_]
  rw[fB] at o;rw[<-o,<-z];exact ha
end
section
variable {Z:DC} {X:Cx}
def Q4(h:Dv Z G v (av r)):∃a,v= .ref a/\G a\(.lst ((Ej r).map V.int)):=by
 obtain⟨a,d,rfl,b,c⟩:=Dv.jK h
 have:d=(Ej r).map V.int:=by
  have e:r.map ao=(Ej r).map D.int:=by unfold Ej;rw[dQ];rfl
  rw[e] at c;exact oU c
 rw[this] at b;exact#[a,rfl,b]
def SA(h:G a\(.lst ((Ej r).map V.int))):Dv Z G (.ref a) (av r):=by
 have e:av r= .lst ((Ej r).map D.int):=by unfold av Ej;rw[dQ];rfl
 rw[e];exact .lst h (.ints _)
theorem AH:∀{b:List V}{L:List (List Nat)},DvAll Z G b (L.map av)->∃A:List (Addr×List Nat),b=A.map (λe=>V.ref e.1)/\A.map (·.2)=L/\KZ G A
 |b,[],h=>by cases h;exact#[[],rfl,rfl,λp c=>by cases c]
 |b,r::L,h=>by
  cases h with
  |cons a as=>
   obtain⟨A,f,g,i⟩:=AH as;obtain⟨p,rfl,c⟩:=Q4 a;refine#[(p,r)::A,by rw[f];rfl,by rw[<-g];rfl,λq d=>?_]
   rcases bY.mp d with rfl|d
   .exact c
   .exact i q d
theorem KZ.dv:∀{L:List (Addr×List Nat)},KZ G L->DvAll Z G (L.map λe=>V.ref e.1) ((L.map (·.2)).map av)
 | [],_=> .nil
 |x::L,h=> .cons (SA (h x (dH ..))) (KZ.dv λp a=>h p (eM _ a))
end
section
variable {Z:DC} {X:Cx} {md:List Nat} {rn:Nat} {a b:Expr} {pos:Pos} {ta:gJ}
def Xw(d:List Nat)(i j:Nat)(e:gJ):b6:=λE c=>e (cP d c) λf=>∃a b,f= [a,b]/\E.nx ((c.set i (some a)).set j (some b))
def J4(i j:Nat){kt k2 Jk}(e:X.calm=true)(f:X.N.Nodup)(g:DA Z X [a,b] ta)(k:X.N[i]?\x:=by rfl)(l:X.N[j]?\y:=by rfl)(m:i≠j:=by decide)(n:md.getD i 0=0:=by rfl)(d:md.getD j 0=0:=by rfl)
  (o:X.env.scope.names.lookup x\.local:=by rfl) (p:X.env.scope.names.lookup y\.local:=by rfl)
  (hw:swappedStores [.Tuple [.Name x c, .Name y py] kt pt] (.Tuple [a,b] k2 Jk) X.env=pure (some [x,y]):=by rfl)
  (q:swapsWithSole [.Tuple [.Name x c, .Name y py] kt pt] (.Tuple [a,b] k2 Jk) pos.line X.env=pure false:=by rfl):
  DSt Z X md rn (.Assign [.Tuple [.Name x c, .Name y py] kt pt] (.Tuple [a,b] k2 Jk) pos) (Xw md i j ta):=by
 refine(Sq e f k l m o p g hw q).imp ?_;intro D I H r;rfl';obtain⟨B,t,E,⟨G,L,S⟩,h,M⟩:=r;ac_rfl;exists G,cP md t,_,S.ex.sub,S.yo,h;rintro _ ⟨a,b,rfl,w⟩ O z P x A;obtain⟨v,u,rfl,C,F⟩:=A.Ja;exact#[v,u,rfl,M.nx _ w _ _ #[z,_,((S.grow x).lA n C).lA d F]]
end
section
variable {Z:DC} {X:Cx} {e:Expr} {te:bh} {pos p:Pos}
def Rb(w:World)(c:bh):iD:=λf P=>c f λd=>∃a:List Int,d= .set (cE w) a/\a.length<64/\∀b:List Int,b.Perm a->b.Pairwise (·<=·)->P (b.map D.int)
def Li(f:X.calm=true)(g:Gl X "sorted")(i:X.mg "sorted"=none)(j:DE Z X e te)(c:starEach [e] X.env=(false,eval e X.env)::starEach [] X.env:=by rfl)(k:(backTo pos (starEach [] X.env)).any (·.1)=false:=by rfl):DF Z X 1 (.Call (.Name "sorted" p) [e] [] pos) (Rb X.w te):=by
 refine(mD (z3 f) g i mR (bU j eH c) ∅ ∅ c k).imp ?_
 rintro E H Q ⟨G,l,P,s,m,h,q⟩;exists G,l,_,s,m,h;rintro _ ⟨n,rfl,o,r⟩ v t F b dv;cases dv with
 |set u=>
  refine#[_,n,rfl,b.sub _ _ u,o,λa x d y z=>?_];obtain⟨A,B,C⟩:=jB b d (DvAll.ints (Z:=Z) (H:=t) x);exact q _ (r _ y z) _ _ _ _ (b.side d) A B C
variable {o:Expr} {ta:bh} {m:Str} {f:Addr} {fd:FuncData} {ps:List Str} {sd:cc} {k n:Nat} {apos:Pos}
end
section
variable {Z:DC} {X:Cx} {pins:List (Addr×Obj)} {σ:St} {H:Hp} {s:Shared} {o e:Expr} {ta tb:bh} {apos:Pos}
end
def iE.ok{P:Program}{w:World}{H:Hp}{a:Addr}{vs:List FV}(x:iE a c vs h):cp P w H h a (.ext (iE a c vs)):=by
 refine#[x,let #[_,o,_,_,b,_]:=x;#[o,b],λf g p k=>?_];obtain⟨z,o,d,e,b,r⟩:=p;exact#[z,o,d,e,k o b,r]
inductive oF (H:Hp):List (Int×Addr)->List (Int×Int)->List FV->List (List Int×Addr×Value)->Prop
 |nil:oF H [] [] [] []
 |cons {a:Addr} {p:Int×Int} {v:FV} {u:Value} {es:List (Int×Addr)} {ks:List (Int×Int)} {vs:List FV} {xs:List (List Int×Addr×Value)}:H a\(.tup [.int p.1, .int p.2])->QE v u->oF H es ks vs xs->oF H ((cO p,a)::es) (p::ks) (v::vs) (([p.1,p.2],a,u)::xs)
theorem oF.keys:∀{c:List (Int×Addr)}{a:List (Int×Int)}{d:List FV}{b:List (List Int×Addr×Value)},oF H c a d b->b.map (·.1)=a.map λp=> [p.1,p.2]
 |_,_,_,_, .nil=>rfl
 |_,_,_,_, .cons _ _ t=>by rw[gF,gF,t.keys]
theorem oF.len:∀{c:List (Int×Addr)}{a:List (Int×Int)}{d:List FV}{b:List (List Int×Addr×Value)},oF H c a d b->b.length=a.length
 |_,_,_,_, .nil=>rfl
 |_,_,_,_, .cons _ _ t=>KF (·+1) t.len
theorem oF.snoc(b:H a\(.tup [.int p.1, .int p.2]))(h:QE v u):∀{c:List (Int×Addr)}{d:List (Int×Int)}{e:List FV}{f:List (List Int×Addr×Value)},oF H c d e f->oF H (c++ [(cO p,a)]) (d++ [p]) (e++ [v]) (f++ [([p.1,p.2],a,u)])
 |_,_,_,_, .nil=> .cons b h .nil
 |_,_,_,_, .cons k' g t=> .cons k' g (oF.snoc b h t)
def vQ(P:Program)(w:World)(p:Int×Int)(a:Addr)(u:Value):entryOfKey (tupleKind (intKind P w)) ([p.1,p.2],a,u)=#[cO p, .ref a,u]:=by
 unfold entryOfKey;rw[show(tupleKind (intKind P w)).hash [p.1,p.2]=cO p from nj P w p]
def Vh(d:KU l b g):∀{c:List (Int×Int)},i8 H b c->∃f,oF H b c g f/\∀(P:Program)(w:World),l=f.map (entryOfKey (tupleKind (intKind P w))):=by
 induction d with
 |nil=>intro c i;cases i;exact#[[], .nil,λ_ _=>rfl]
 | @cons e l h a v b g j k m d n=>
  intro c i;cases i with
  | @cons _ p _ r h t=>
   obtain⟨f,o,q⟩:=n t;refine#[([p.1,p.2],a,e.val)::f, .cons h m o,λP w=>?_];rw[gF,<-q P w,vQ];obtain⟨s,u,ev⟩:=e;simp only at j k ⊢;rw[j,k]
def Vm{e:List (Int×Int)}(d:oF H a e b c):KU (c.map (entryOfKey (tupleKind (intKind P w)))) a b:=by
 induction d with
 |nil=>exact .nil
 |cons _ h t f=>
  rw[gF,vQ];exact .cons rfl rfl h f
def oF.isKey(I:Inv X a e H s)(d:oF H f g i c):∀x∈c,IsTupleKey (intKind X.prog X.w) s.heap x.1 x.2.1:=by
 induction d with
 |nil=>intro x b;cases b
 |cons h _ _ j=>
  intro x b
  rcases bY.mp b with rfl|b
  .exact I.wj h
  .exact j x b
def oK{K:Type} [DecidableEq K] {b:List (K×Addr×Value)} {k:K}:(atKey b k).isSome=true↔k∈b.map (·.1):=by
 unfold atKey;rw[Option.isSome_map,List.find?_isSome,cM]
 constructor
 .rintro⟨x,a,e⟩;exact#[x,a,KB e]
 .rintro⟨x,a,e⟩;exact#[x,a,GT e]
def vc{p:Int×Int}{a:List (Int×Int)}: [p.1,p.2]∈a.map (λp=> [p.1,p.2])↔p∈a:=by
 rw[cM]
 constructor
 .rintro⟨q,b,e⟩
  simp at e;rw[<-show q=p from aaW e.1 e.2];exact b
 .intro h;exact#[p,h,rfl]
def Gq{c:List (Int×Int)}(h:c.Nodup):(c.map λp=> [p.1,p.2]).Nodup:=by
 rw[Bv,mO];rw[Bv] at h;exact h.imp λ {a b} n e=>n (by simp at e;exact aaW e.1 e.2)
section
variable {X:Cx} {pins:List (Addr×Obj)} {σ:St} {H:Hp} {s:Shared}
def Inv.XI(I:Inv X pins σ H s)(h:H a\(.ext (iE a b e)))(f:i8 H b c)(g:c.Nodup):
  (a==sysModules)=false/\∃xs,oF H b c e xs/\s.heap.DictOfH (tupleKind (intKind X.prog X.w)) a xs:=by
 rfl';obtain⟨z,o,j,k,l,m,n,p⟩:=(I.hok a _ h).1;obtain⟨xs,d,q⟩:=Vh p f;ac_rfl;exact#[z,xs,d,o,j,k,l,m,n,q _ _,d.isKey I,by rw[d.keys];exact Gq g]
def Pf:PE X (.Dict [] [] b) (λd H Q=>∀q,H q=none->Q (.ref q) (upd H q (.ext (iE q [] [])))):=by
 intro c s d H Q I h;have e:=I.hok.fresh (bM s.heap.objs.size);refine wpAny_Dict_empty #[.ref s.heap.objs.size,_,I.laid (a:=s.heap.objs.size) (t':=s.toks) (λ_ _ q=>Da _ q) (bM _) (o:= .ext (iE s.heap.objs.size [] [])) (iE.ok #[?_,_, #[],0,Gc _ rfl,#[rfl,rfl,rfl],rfl, .nil]),rfl,h _ e];have f:mainGlobals<s.heap.objs.size:=(I.mod.glob.keeps I.bk).lt;have g:sysModules<s.heap.objs.size:=Nat.lt_trans ∅ f
 exact aaH.mpr (Ne.symm (bJ g))
def Gp(F:X.A.units+64<cLine):OpR X (compareOp .NotIn) (λx y H Q=>∃c a d b g p,x= .ref c/\y= .ref a/\H c\(.tup [.int p.1, .int p.2])/\H a\(.ext (iE a d g))/\i8 H d b/\b.Nodup/\Q (.bl (!decide (p∈b))) H):=by
 intro i s G H x y v u Q I l m h;rfl';obtain⟨c,a,d,b,g,p,rfl,rfl,o,r,t,B,q⟩:=h;ac_rfl;cases l;cases m;rfl';obtain⟨z,C,j,E⟩:=I.XI r t B;ac_rfl
 have:(atKey C [p.1,p.2]).isSome=decide (p∈b):=by
  by_cases e:p∈b
  .rw[GT e];exact oK.mpr (by rw[j.keys];exact vc.mpr e)
  .rw[GM e]
   apply qi.mpr;exact λz=>e (vc.mp (by rw[<-j.keys];exact oK.mp z))
 exact PyProof.Rows.wpAny_notIn_heap (knd:=tupleKind (intKind X.prog X.w)) (k:= [p.1,p.2]) (by show X.A.units+1<cLine;lia) (I.wj o) z E (by rw[this];exact#[.bl _,H,I.tok _,rfl,q])
def vF:FV->V
 | .int i=> .int i
 | .bl b=> .bl b
def Rh(h:RelV (vF f) u):QE f u:=by
 cases f with
 |int i=>exact h
 |bl b=>exact h
variable {o i value:Expr} {td ti tv:TE} {pos pos':Pos}
def WO(j k l:TE):TS:=λD b H=>l b H λv m=>j b m λx n=>k b n λy d=>∃a c f e g p h,x= .ref a/\y= .ref c/\v=vF h/\d a\(.ext (iE a f g))/\d c\(.tup [.int p.1, .int p.2])/\i8 d f e/\e.Nodup/\p∉e/\e.length<=300/\D.nx b (upd d a (.ext (iE a (f++ [(cO p,c)]) (g++ [h]))))
def Pu(hu:X.A.units+64<cLine)(L:PE X o td)(M:PE X i ti)(N:PE X value tv)(O:swapsWith value (some (.Subscript o i pos')) pos.line X.env=pure false:=by rfl):PS X (.Assign [.Subscript o i pos'] value pos) (WO td ti tv):=by
 intro d s f H D I h;refine wpAny_Assign_Subscript (thn (N d s f H _ I h) λr P #[v,Q,R,S,T]=>thn (L d P f Q _ R T) λu U #[x,Y,Z,rx,q2]=>thn (M d U f Y _ Z q2) λiv s3 #[y,H3,g,ry,a,c,n,ks,t,p,B,e1,e2,e3,C,E,pe,nd,np,hz,q3]=>?_) O;subst e1 e2 e3;cases rx;cases ry;obtain⟨z,j,l,hm⟩:=g.XI C pe nd;refine wpAny_setItem_heap (knd:=tupleKind (intKind X.prog X.w)) (k:= [p.1,p.2]) (by show X.A.units+1<cLine;lia) (g.wj E) hm (λh' F sb=>?_) (small (by rw[l.len];lia))
 have na:atKey j [p.1,p.2]=none:=by
  cases e:atKey j [p.1,p.2] with
  |none=>rfl
  |some q=>exact absurd (vc.mp (by rw[<-l.keys];exact oK.mp (by rw[e];rfl))) np
 rw[storedH_new na] at F;rfl';have x2:oF H3 (n++ [(cO p,c)]) (ks++ [p]) (t++ [B]) (j++ [([p.1,p.2],c,r)]):=l.snoc E (Rh S);obtain⟨G,m,uK,J,Iw,fq,yB,_,_⟩:=F;have I':=g.write (h':=h') (t':=s3.toks+(tupleKind (intKind X.prog X.w)).draws [p.1,p.2]) (x:=a) (e:=a) (o:= .ext (iE a (n++ [(cO p,c)]) (t++ [B]))) (by rw[C];trivial) (.inl rfl) (λb u hb e=>sb.extBut b u hb e) #[G,J] (iE.ok #[z,G,m,uK,J,Iw,fq,by rw[yB];exact Vm x2])
 ac_rfl;exact#[f,_,I',q3]
end
section
variable {Z:DC} {X:Cx} {B:Bs} {md:List Nat} {rn:Nat} {ρ:DN} {σ:St} {H G:Hp} {fp:Nat->List Addr} {a e k o:Expr} {ta te tk tp:bh} {pos apos aU p2:Pos}
def Xo(c:Bool):gY:=λa b P=>∃p d f,a=Pr p/\b= .x (.tU d f)/\P (.bl (if c=true then !decide (p∈d) else decide (p∈d)))
def IW(d:X.A.units+64<cLine):OpR X (compareOp .NotIn) (b9 Z (Xo true)):=by
 refine(Gp d).imp ?_;rintro x y H Q ⟨G,a,b,P,s,f,g,⟨p,i,j,rfl,rfl,h⟩,q⟩;obtain⟨c,rfl,l⟩:=f.Ks;cases g with
 |x m ok=>
  rfl';obtain⟨r,t,rfl,u⟩:=ok;ac_rfl;exact#[c,_,t,i,j,p,rfl,rfl,s _ _ l,s _ _ m,u.mono s,r,q _ h _ G H (.refl s) (.bl _)]
def US(i:Nat):b6:=λE b=>E.nx (b.set i (some (.x (.tU [] []))))
def Nw(i:Nat)(n:X.N.Nodup)(p:q.getD i 0=98:=by rfl)(r:X.N[i]?\x:=by rfl)(s:Loc X.env.scope x:=by subst_eqs)(t:swapsWith (.Dict [] [] u) (some (.Name x d)) m.line X.env=pure false:=by rfl)
  (v:X.fn x=true\/X.env.scope.names.lookup x\.local:=by subst_eqs):DSt Z X q F (.Assign [.Name x d] (.Dict [] [] u) m) (US i):=by
 refine(gT n r s Pf t v).imp ?_;intro D I H w;rfl';obtain⟨B,L,E,⟨G,O,S⟩,h,M⟩:=w;ac_rfl;intro c g;have A:G c=none:=S.ex.sub.free g;have x:Ext G H G (upd H c (.ext (iE c [] []))):=#[.refl _,S.ex.sub.trans (aX g _),aX g _,λ_ _ z=>z];refine M.nx _ h _ _ #[G,_,(S.grow x).uc p (f:= [c]) (.inr (.inr #[c,_,rfl,aw,rfl, .inr #[rfl,_,rfl,gd,[],rfl, .nil]])) (by simp) (λb l=>?_) λb l j _ C=>?_]
 .rw[fB] at l;subst l
  exact#[S.ex.hh.free g,(by rw[aw];exact λz=>nomatch z),A]
 .rw[fB] at l;subst l
  exact(S.nw j _ C).2.1 g
def X6:FV->D
 | .int i=> .int i
 | .bl b=> .bl b
def Dv.Zu(h:Dv Z G v (X6 f)):v=vF f:=by
 cases f with
 |int i=>exact h.ofInt
 |bl b=>exact h.Gj
def Va(f:List Nat)(i:Nat)(j l:bh):b6:=λE b=>l (cP f b) λd=>∃g c h,d=X6 g/\b[i]?\(some (.x (.tU c h)))/\j (cP f b) λm=>∃p,m=Pr p/\p∉c/\c.length<=300/\E.nx (b.set i (some (.x (.tU (c++ [p]) (h++ [g])))))
def NB(i:Nat)(T:X.A.units+64<cLine)(U:DE Z X k tk)(Y:DE Z X e te)(m:md.getD i 0=98:=by rfl)(o:X.N[i]?\x:=by rfl)(hv:l5 X.env.scope x:=by subst_eqs)(n:(x==("__debug__":Str))=false:=by decide)(eO:(x==("__classdict__":Str))=false:=by decide)
  (hs:swapsWith e (some (.Subscript (.Name x r) k g)) pos.line X.env=pure false:=by rfl):DSt Z X md rn (.Assign [.Subscript (.Name x r) k g] e pos) (Va md i tk te):=by
 refine(Pu T (pv i o hv n eO) U Y hs).imp ?_;intro D σ H aO;rfl';obtain⟨B,ρ,E,⟨G,fp,S⟩,h,M⟩:=aO;ac_rfl;refine S.ev false h λd n=>#[trivial,λv G1 H1 s x1 dv=>?_];rfl';obtain⟨fv,ks,vs,rfl,t,h2⟩:=n;ac_rfl;obtain rfl:=dv.Zu;rfl';obtain⟨v0,q,w⟩:=s.at_ i _ t;rw[m] at w;obtain⟨l,φ,rfl,hl,_,nd,es,rfl,pe⟩:=w.xA;ac_rfl;refine#[_,q,s.ev false h2 λkd Om=>#[trivial,λu G2 H2 y C du=>?_]];rfl';obtain⟨p,rfl,F,hz,hn⟩:=Om;obtain⟨c,rfl,I⟩:=du.Ks;obtain⟨v1,J,L⟩:=y.at_ i _ t;rw[q] at J;ac_rfl;cases FM J;rfl';rw[m] at L;obtain⟨l',φ',e',Oq,O,P,hZ,rfl,Q⟩:=L.xA;cases e';ac_rfl;refine#[l,c,hZ,ks,vs,p,fv,rfl,rfl,rfl,Oq,C.sub _ _ I,Q.mono C.sub,P,F,hz,M.nx _ hn _ _ #[G2,fp,y.mut q (b:=l) (by rw[O];simp) ?_]]
 rw[m,O];refine .inr (.inr #[l,_,rfl,aw,rfl, .inr #[rfl,_,rfl,?_,_,rfl,Q.snoc I]]);rw[iT];refine#[P,by simp,λa ha b R z=>F ?_]
 rw[fB] at R;rw[<-R,<-z];exact ha
end
section
variable {pr:Program} {wd:World} {A:Around} {R:Result->Shared->Prop} {EA:Addr} {fS vt:List Addr} {n:Nat} {Pv:Nat->Value->Prop} {Sv:Nat->Heap->Prop}
def Hn(b:Program)(c:World)(A:Around)(T:Heap->Prop)(a:Nat->Value->Prop)(d:Nat->Nat->Bool):Prop:=
 ∀i j u v (s:Shared) (Q:Value->Shared->Prop) (E:Value->Shared->Prop),T s.heap->a i u->a j v->Q (.bool (d i j)) s->wpAny (model b c) A (richCompare .Lt u v) Q E s
theorem IK(p:Walks pr wd A.in1 EA fS vt n Pv Sv)(k:Nat->Nat->Bool)(T:Heap->Prop)(r:Hn pr wd A.in1 T Pv k)(L:Addr)(G:L∉fS)
  (H:∀h l:Heap,T h->(∀b o,b∉vt->b≠L->h.get? b\o->l.get? b\o)->T l):
  ∀(d j:Nat)(s:Shared)(a:Value)(c:Nat),n-(j+1)=d->j+1<=n->Sv (j+1) s.heap->T s.heap->Pv (argBest k j) a->
  s.heap.get? L\{cls:= .type "list",dict:=none,data:= .seq [a,a].toArray c,slots:= #[]}->
  (∀v l t,Pv (argBest k (n-1)) v->(∀b o,b∉vt->b≠L->s.heap.get? b\o->l.get? b\o)->R (.ok (.ret v)) {s with heap:=l,toks:=t})->
  codeAny (model pr wd) A (.builtin "min.loop" #[[.ref EA, .none, .ref L],[]]) R s:=by
 have I:L∉vt:=λh=>G (p.sub _ h);have J:(toString "min"++toString ".loop":String)="min.loop":=∅
 intro d
 induction d with
 |zero=>
  intro j s a c X Y u M q m fin;have N:j+1=n:=()
  refine aaG abC ?_;rw[Wp W1 _];refine ir (abn m rfl ?_);refine ir (abo (p.done s _ _ (N▸u) λO P i=>?_));refine ir ?_;refine abg (i L _ I m) rfl (ir (ac9 (mo ?_)));exact fin a _ P (by rw[<-N];exact q) λb o f g e=>(IR _ _ (Ne.symm g)).trans (i b o f e)
 |succ d Q=>
  intro j s a c X Y u M q m fin;have lt:j+1<n:=()
  refine aaG abC ?_;rw[Wp W1 _];refine ir (abn m rfl ?_);refine ir (abo (p.item (j+1) s _ _ lt u λv O P pv S i=>?_));have w:=i L _ I m;have x:T O:=H _ _ M λb o f _ e=>i b o f e;show wpAny _ A.in1 ((tryCatch (holding [v,v] (richCompare .Lt v a>>=_)) _)>>=_) _ _ _;refine ir (abo (KM (ir (r (j+1) (argBest k j) v a _ _ _ x pv q ?_))));refine ir (KM (SC ?_));refine ir (ac9 (mo ?_));cases U:k (j+1) (argBest k j) with
  |true=>
   simp only[aaU];refine ir ?_;refine abg w rfl (ir (ac9 ?_));rw[J];refine mo #[aaO W1 _,Q (j+1) _ v _ () lt (p.frame _ _ _ S λb Z o e=>?_) (H _ _ x λb o _ g e=>?_) ?_ (On _ w rfl) λy B C E F=>?_]
   .exact(IR _ _ (λz:L=b=>G (z▸Z))).trans e
   .exact(IR _ _ (Ne.symm g)).trans e
   .simp only[argBest,U,aaU];exact pv
   .exact fin y B C E λb o f g e=>F b o f g ((IR _ _ (Ne.symm g)).trans (i b o f e))
  |false=>
   simp only[f9,SZ];refine ir (ac9 ?_);rw[J];refine mo #[aaO W1 _,Q (j+1) _ a c () lt S x ?_ w λy B C E F=>?_]
   .simp only[argBest,U,f9,SZ];exact q
   .exact fin y B C E λb o f g e=>F b o f g (i b o f e)
def IJ(d:Walks pr wd A.in1 EA fS vt n Pv Sv)(i:Nat->Nat->Bool)(T:Heap->Prop)(j:Hn pr wd A.in1 T Pv i)(L:Addr)(k:L∉fS)
  (l:∀h a:Heap,T h->(∀b o,b∉vt->b≠L->h.get? b\o->a.get? b\o)->T a) (p:0<n) (u:Sv 0 s.heap) (w:T s.heap)
  (q:s.heap.get? L\{cls:= .type "list",dict:=none,data:= .seq #[] c,slots:= #[]})
  (fin:∀v a t,Pv (argBest i (n-1)) v->(∀b o,b∉vt->b≠L->s.heap.get? b\o->a.get? b\o)->R (.ok (.ret v)) {s with heap:=a,toks:=t}):
  codeAny (model pr wd) A (.builtin "min.loop" #[[.ref EA, .none, .ref L],[]]) R s:=by
 have x:L∉vt:=λh=>k (d.sub _ h);have y:(toString "min"++toString ".loop":String)="min.loop":=∅
 refine aaG abC ?_;rw[Wp W1 _];refine ir (abn q rfl ?_);refine ir (abo (d.item 0 s _ _ p u λv B N pv C m=>?_));have r:=m L _ x q;have E:T B:=l _ _ w λb o f _ e=>m b o f e;show wpAny _ A.in1 (updateSeq L (λ_=> [v,v].toArray)>>=_) _ _ _;refine ir ?_;refine abg r rfl ?_;rw[y];refine mo #[aaO W1 _,IK d i T j L k l _ 0 _ v _ rfl p (d.frame _ _ _ C λb F o e=>?_) (l _ _ E λb o _ g e=>?_) pv (On _ r rfl) λG H I J M=>?_]
 .exact(IR _ _ (λz:L=b=>k (z▸F))).trans e
 .exact(IR _ _ (Ne.symm g)).trans e
 .exact fin G H I J λb o f g e=>M b o f g ((IR _ _ (Ne.symm g)).trans (m b o f e))
end
section
variable {pr:Program} {wd:World} {A:Around} {E:Value->Shared->Prop} {s:Shared}
def LV(T:Heap->Prop)
  (h:wpAny (model pr wd) A.in1 (pyIter x) (λq a=>∃j d f n g k i,q= .ref j/\Walks pr wd A.in1 j d f n g k/\k 0 a.heap/\(∀b∈d,b<a.heap.objs.size)/\0<n/\Hn pr wd A.in1 T g i/\T a.heap/\
   (∀h c:Heap,T h->(∀b o,b∉f->b≠a.heap.objs.size->h.get? b\o->c.get? b\o)->T c)/\
   ∀v c l,g (argBest i (n-1)) v->(∀b o,b∉f->a.heap.get? b\o->c.get? b\o)->Q v {a with heap:=c,toks:=l}) E s):
  wpAny (model pr wd) A (call (.builtin "min") [x]) Q E s:=by
 have u:(toString "min"++toString ".loop":String)="min.loop":=∅
 refine call_function_tree PySem.F.kind_min PySem.F.plain_min PySem.F.entry_min (PySem.F.args_min1 _) ?_;show wpAny _ A.in1 (Builtin.Builtins.bindParams "min" ["key","default"] 0 #[[],[]]>>=_) _ _ s;refine ir (abc (rfl:Builtin.Builtins.bindParams "min" ["key","default"] 0 #[[],[]]=pure [none,none]) ?_);refine ir (mo ?_);refine ir (wpAny_mono h (λq a w=>?_) λ_ _ e=>e);rfl';obtain⟨j,d,f,n,g,k,i,rfl,r,z,B,C,m,G,t,H⟩:=w;ac_rfl;refine ir (Pi ?_);have I:a.heap.objs.size∉d:=λJ=>kP _ (B _ J);rw[u];refine mo #[aaO W1 _,IJ r i T m a.heap.objs.size I t C (r.frame _ _ _ z λb _ o e=>Da _ e) (t _ _ G λb o _ _ e=>Da _ e) (Gc _ rfl) λv c l L M=>?_];exact H v c l L λb o p e=>M b o p (bJ (Do e)) (Da _ e)
end
theorem vA(a:Nat->Nat->Bool):∀k,argBest a k<=k
 |0=>bM _
 |k+1=>by
  unfold argBest
  split
  .exact bM _
  .exact Nat.le_succ_of_le (vA a k)
theorem sE{f:Nat->List Int}:∀k i,i<=k->HT.lexLt (f i) (f (argBest (λi j=>HT.lexLt (f i) (f j)) k))=false
 |0,i,h=>by
  obtain rfl:i=0:=()
  exact yP _
 |k+1,i,h=>by
  have a:=sE (f:=f) k;unfold argBest
  by_cases c:HT.lexLt (f (k+1)) (f (argBest (λi j=>HT.lexLt (f i) (f j)) k))=true
  .rw[AC c]
   by_cases z:i=k+1
   .subst z;exact yP _
   .have:=a i ()
    cases e:HT.lexLt (f i) (f (k+1)) with
    |false=>rfl
    |true=>rw[Ki _ _ _ e c] at this;cases this
  .rw[tz c]
   by_cases z:i=k+1
   .subst z;exact qi.mpr c
   .exact a i ()
section
variable {X:Cx} {Z:DC}
def HC(P:X.calm=true)(hu:X.A.units+64<cLine):CallR X (.builtin "min") (λG H Q=>∃(p:Addr)(L:List (Addr×List Int)),G= [.ref p]/\H p\(.lst (L.map λe=>V.ref e.1))/\(∀e∈L,H e.1\(.tup (e.2.map V.int)))/\L≠ []/\
  ∀e∈L,(∀f∈L,HT.lexLt f.2 e.2=false)->Q (.ref e.1) H):=by
 intro J s σ H G us Q I R h;rfl';obtain⟨p,L,rfl,T,M,U,q⟩:=h;obtain⟨u,rfl,Y⟩:=R.one;subst Y;obtain⟨a,r,m,hz⟩:=I.list (cK.of T);have Z:=r.length;rw[aS] at Z;have TX:0<L.length:=Bz.mpr U;ac_rfl
 have y:∀i:Nat,(d:i<L.length)->a[i]?\(.ref L[i].1):=λi d=>by
  obtain⟨w,hw,vi⟩:=r.get (i:=i) (x:= .ref L[i].1) (by rw[fi,cZ d];rfl)
  subst vi;exact hw
 refine LV (λh=>∀b o,s.heap.get? b\o->h.get? b\o) (acy m.isList ?_)
 have qL:p≠s.heap.objs.size:=by
  obtain⟨o,z,_⟩:=m.isList;exact bJ (Do z)
 let f:Nat->List Int:=λi=>(L.getD i (0,[])).2
 refine#[_,_,_,a.toArray.size,_,_,λi j=>HT.lexLt (f i) (f j),rfl,Walks.list (show X.A.in1.handled=none from I.ok.hd P) s.heap.objs.size p qL a.toArray,#[#[_,Gc _ rfl,rfl,rfl],m.isList.push _],?_,?_,?_,λb o e=>Da _ e,?_,?_]
 .intro b B
  have:b=s.heap.objs.size\/b=p:=by simpa using B
  obtain⟨o,z,_⟩:=m.isList;have lt:=Do z;have e:(s.heap.push {cls:= .type "list_iterator",data:= .fields [.ref p, .int 0 0].toArray}).objs.size=s.heap.objs.size+1:=by simp[Heap.push]
  rcases this with rfl|rfl
  .exact Nat.lt_of_lt_of_eq (zK _) e.symm
  .exact Nat.lt_of_lt_of_eq (ur lt) e.symm
 .rw[cR];lia
 .intro i j u v s' Q' E' n OB kD hq
  have C:a[i]?\u:=by simpa using OB
  have g:a[j]?\v:=by simpa using kD
  have d:i<L.length:=by have:=(dZ.mp C).1;lia
  have E:j<L.length:=by have:=(dZ.mp g).1;lia
  rw[y i d] at C;rw[y j E] at g;obtain rfl:=FM C;obtain rfl:=FM g;rfl';obtain⟨t1,r1,p1,_⟩:=I.tuple (gj.of (M L[i] (rh d)));obtain⟨t2,r2,p2,_⟩:=I.tuple (gj.of (M L[j] (rh E)));obtain⟨o1,g1,c1⟩:=p1;obtain⟨o2,g2,c2⟩:=p2;have i1:IntsAre t1.toArray.toList L[i].2:=intsAre_of r1;have i2:IntsAre t2.toArray.toList L[j].2:=intsAre_of r2;ac_rfl
  have l:∀k,(c:k<L.length)->f k=L[k].2:=λk c=>by
   show(L.getD k (0,[])).2=_;rw[cW,cZ c];rfl
  have uR:Q' (.bool (HT.lexLt L[i].2 L[j].2)) s':=by rw[<-l i d,<-l j E];exact hq
  exact HT.F7 (A:=X.A.in1) #[o1,n _ _ g1,c1] #[o2,n _ _ g2,c2] i1 i2 (by simp only[acT];lia) uR
 .intro h N n c b o e
  have lt:=Do e;refine c b o ?_ ?_ (n b o e)
  .intro hm
   have:b=s.heap.objs.size:=by simpa using hm
   exact bJ lt this
  .simp only[Heap.push,Array.size_push]
   exact bJ (ur lt)
 .intro v N tk O kk
  have kept:∀b o,s.heap.get? b\o->N.get? b\o:=λb o e=>kk b o (by simp;exact bJ (Do e)) (Da _ e)
  have c:=vA (λi j=>HT.lexLt (f i) (f j)) (a.toArray.size-1);generalize B:argBest (λi j=>HT.lexLt (f i) (f j)) (a.toArray.size-1)=k at O c;rw[cR] at c;have F:k<L.length:=()
  have g:a[k]?\v:=by simpa using O
  rw[y k F] at g;obtain rfl:=FM g;refine#[.ref L[k].1,H,I.kept kept,rfl,q L[k] (rh F) λe he=>?_];obtain⟨i,d,rfl⟩:=List.mem_iff_getElem.mp he
  have:=sE (f:=f) (a.toArray.size-1) i (by rw[cR];lia)
  rw[B] at this
  have l:∀k,(c:k<L.length)->f k=L[k].2:=λk c=>by
   show(L.getD k (0,[])).2=_;rw[cW,cZ c];rfl
  rw[l i d,l k F] at this;exact this
def tupI(l:List Int):D:= .tup (l.map D.int)
def UI:cc:=λb P=>∃a:List (List Int),b= [.lst (a.map tupI)]/\a≠ []/\∀m∈a,(∀n∈a,HT.lexLt n m=false)->P (tupI m)
theorem AJ:∀{b:List V}{d:List (List Int)},DvAll Z G b (d.map tupI)->∃L:List (Addr×List Int),b=L.map (λe=>V.ref e.1)/\L.map (·.2)=d/\∀e∈L,G e.1\(.tup (e.2.map V.int))
 |b,[],h=>by rw[h.O0];exact#[[],rfl,rfl,λp c=>by cases c]
 |b,n::d,h=>by
  rfl';obtain⟨v,l,rfl,a,as⟩:=h.DB;obtain⟨L,rfl,i,j⟩:=AJ as;obtain⟨p,m,rfl,c,e⟩:=a.pE;rw[oU e] at c;ac_rfl;refine#[(p,n)::L,rfl,by rw[<-i];rfl,λq f=>?_]
  rcases bY.mp f with rfl|f
  .exact c
  .exact j q f
def MY(f:X.calm=true)(g:X.A.units+64<cLine):CallR X (.builtin "min") (iK Z UI):=by
 refine(HC f g).imp ?_;intro t H Q i;rfl';obtain⟨G,u,P,s,dv,⟨w,rfl,k,l⟩,q⟩:=i;ac_rfl;rfl';obtain⟨v,rfl,a⟩:=dv.ofOne;obtain⟨p,B,rfl,h,e⟩:=a.jK;obtain⟨L,rfl,rfl,d⟩:=AJ e;ac_rfl;refine#[p,L,rfl,s _ _ h,λx b=>s _ _ (d x b),λz=>k (by rw[z];rfl),λx b m=>?_]
 exact q _ (l x.2 (List.mem_map_of_mem b) λn o=>by
  obtain⟨y,r,rfl⟩:=cM.mp o;exact m y r) _ G H (.refl s) (.tup (d x b) (.ints _))
end
end L2
namespace Wy
section
variable {α β:Type}
end
def getD_mem{l:List Nat}{i:Nat}(h:i<l.length):l.getD i 0∈l:=by
 rw[cW,cZ h];exact rh h
end Wy
namespace L2
open PySem PySem.Spec PyProof.Rows
section
variable {Z:DC} {X:Cx} {B:Bs} {md:List Nat} {rn:Nat} {ρ:DN} {σ:St} {H G:Hp} {fp:Nat->List Addr} {k:Expr} {tk:bh} {pos:Pos}
def UW(c:List Nat)(i j:Nat)(e:bh):b6:=λE a=>∃b,a[j]?\(some (.lst b))/\e (vo c false a) λf=>∃(n:Int)(d:D),f= .int n/\fQ b n\d/\E.nx (a.set i (some d))
def Nx(i j:Nat)(s:X.N.Nodup)(t:DE Z X k w)(z:b.getD i 0=0:=by rfl)(m:b.getD j 0=1:=by rfl)(A:X.N[i]?\x:=by rfl)(C:Loc X.env.scope x:=by subst_eqs)
  (F:X.N[j]?\y:=by rfl) (I:l5 X.env.scope y:=by subst_eqs) (J:(y==("__debug__":Str))=false:=by decide) (L:(y==("__classdict__":Str))=false:=by decide)
  (O:sD k:=by exact λ_ _=>rfl) (P:swapsWith (.Subscript (.Name y py) k g) (some (.Name x f)) c.line X.env=pure false:=by rfl)
  (Q:X.fn x=true\/X.env.scope.names.lookup x\.local:=by subst_eqs):DSt Z X b rn (.Assign [.Name x f] (.Subscript (.Name y py) k g) c) (UW b i j w):=by
 refine(gT s A C (Jg yO (pv j F I J L) t O) P Q).imp ?_;intro D σ H R;rfl';obtain⟨B,ρ,E,⟨G,fp,S⟩,⟨ds,o,h⟩,M⟩:=R;ac_rfl;rfl';obtain⟨l,xs,gu,T,p,e3,bw,put⟩:=S.one m o;cases T;ac_rfl;refine#[_,p,S.ev false h λkd U=>#[trivial,λv Y H' q x dv=>?_]];rfl';obtain⟨n,d,rfl,ha,hn⟩:=U;cases dv.ofInt;obtain⟨l',iY,ds2,Vi,r,Cf,XQ,_⟩:=q.one m o;cases Vi;ac_rfl;rw[p] at r;rfl';cases r;obtain⟨u,hu,yj⟩:=BP XQ ha;ac_rfl;exact#[l,iY,n,u,rfl,rfl,cK.of Cf,hu,M.nx _ hn _ _ #[Y,_,q.lA z yj]]
end
section
variable {Z:DC} {X:Cx} {B:Bs} {md:List Nat} {rn:Nat} {ρ:DN} {σ:St} {H G:Hp} {fp:Nat->List Addr} {k c e k1 k2 et:Expr} {tk te tt tk1 Mx:bh} {tc:dE} {pos:Pos}
def JX(o:List Nat)(p f h:Nat)(w:bh)(tc:dE)(x y tk1 z:bh):b6:=λE a=>∃i,a[p]?\(some (.lst i))/\(f<a.length/\h<a.length)/\w (vo o false a) λA=>∃(n:Int)(j:Nat)(g:List D),A= .int n/\iB i.length n\j/\i[j]?\(.lst g)/\
 ∀l:Addr,tc (a.set f (some (.lst g))) λb=>if b=true then x (a.set f (some (.lst g))) λd=>∃m,d= .int m/\y ((a.set f (some (.lst g))).set h (some (.int m))) λd=>∃q s,d= .tup [.int q, .int s]/\
  tk1 (vo o false ((a.set f (some (.obj l))).set h (some (.int m)))) λC=>∃t r,C= .int t/\iB g.length t\r/\z (vo o false (((a.set f (some (.obj l))).set h (some (.int m))).set p (some (.lst (i.set j (.lst (g.set r (.int q)))))))) λF=>∃u v,F= .int u/\iB g.length u\v/\
   E.nx (((a.set f (some (.obj l))).set h (some (.int m))).set p (some (.lst (i.set j (.lst ((g.set r (.int q)).set v (.int s)))))))
 else E.nx (a.set f (some (.obj l)))
def dJ.as{b:DN}{i:Nat}{v:V}{d:D}(e:dJ Z G a (b.set i o))(h:a[i]?\(some v))(dv:Dv Z G v d):dJ Z G a (b.set i (some d)):=by
 have:=e.set (i:=i) dv
 rw[ab4] at this
 have f:a.set i (some v)=a:=by
  apply wI;intro j
  by_cases z:i=j
  .subst z
   rw[iS (by
    apply FB;intro q;rw[gQ (iU q)] at h;cases h),h]
  .rw[f7 z]
 rw[f] at this;exact this
def SIx.WQ{i p:Nat}{b:List D}{dp:D}{T l:Addr}{d:List V}(S:SIx Z B md ρ σ H G fp)(n:md.getD i 0=2)(h:ρ[i]?\(some (.lst b)))(q:b[p]?\dp)(r:σ[i]?\(some (.ref T)))(s:H T\(.lst d))(t:d[p]?\(.ref l)):T≠l:=by
 rfl';obtain⟨v,f,o⟩:=S.at_ i _ h;rw[n] at o;obtain⟨I,w,J,L,rfl,x,g,y,A⟩:=o.lst;cases x;rw[r] at f;ac_rfl;cases FM f;rw[s] at g;rfl';cases g;have j:=S.nd i;rw[y] at j;obtain⟨C,E⟩:=iV.mp j;obtain⟨M,N,O,P,m,Q,R,F,U⟩:=dX.UG p A E q;rw[t] at m;cases m;ac_rfl;exact λz=>C (by rw[z];exact F)
theorem HN(A f g:Nat)(hN:X.N.Nodup)(VC:X.calm=true)(hk:DE Z X k tk)(hc:DT Z X c tc)(he:DE Z X e te)(ht:DE Z X et tt)(yD:DE Z X k1 tk1)(hk2:DE Z X k2 Mx)(hu:DSs Z X md rn F u)
  (Zq:A≠f:=by decide) (Zp:A≠g:=by decide) (Zr:f≠g:=by decide) (U:md.getD A 0=2:=by rfl) (hmy:md.getD f 0=0:=by rfl) (hma:md.getD g 0=0:=by rfl)
  (hix:X.N[A]?\x:=by rfl) (VM:X.N[f]?\y:=by rfl) (hia:X.N[g]?\a:=by rfl) (hly:Loc X.env.scope y:=by subst_eqs) (hla:Loc X.env.scope a:=by subst_eqs)
  (hvx:l5 X.env.scope x:=by subst_eqs) (YT:l5 X.env.scope y:=by subst_eqs)
  (pj:(x==("__debug__":Str))=false:=by decide) (hcx:(x==("__classdict__":Str))=false:=by decide) (LB:(y==("__debug__":Str))=false:=by decide) (Yr:(y==("__classdict__":Str))=false:=by decide)
  (hp:sD k:=by exact λ_ _=>rfl) (hs:swapsWith (.Subscript (.Name x px) k ps) (some (.Name y py)) pos.line X.env=pure false:=by rfl) (pk:swapsWith e (some (.Name a pa)) Zv.line X.env=pure false:=by rfl)
  (hf:X.fn y=true\/X.env.scope.names.lookup y\.local:=by subst_eqs) (hf2:X.fn a=true\/X.env.scope.names.lookup a\.local:=by subst_eqs)
  (ha1:∀v,assign (.Subscript (.Name y t) k1 w) X.env v=(do
   let C <-holding [v] (eval (.Name y t) X.env)
   let I <-holding [v,C] (eval k1 X.env)
   standAt w
   holding [v,C,I] (setItem C I v)
   release [v,C,I] []):=by intro _;rfl)
  (N5:∀v,assign (.Subscript (.Name y p) k2 r) X.env v=(do
   let C <-holding [v] (eval (.Name y p) X.env)
   let I <-holding [v,C] (eval k2 X.env)
   standAt r
   holding [v,C,I] (setItem C I v)
   release [v,C,I] []):=by intro _;rfl)
  (q1:swapsWithSole [.Tuple [.Subscript (.Name y t) k1 w, .Subscript (.Name y p) k2 r] L pt] et pq.line X.env=pure false:=by rfl) (q2:swappedStores [.Tuple [.Subscript (.Name y t) k1 w, .Subscript (.Name y p) k2 r] L pt] et X.env=pure none:=by rfl)
  (q3:(assignEach [.Tuple [.Subscript (.Name y t) k1 w, .Subscript (.Name y p) k2 r] L pt] X.env).map (·.2)= [assign (.Tuple [.Subscript (.Name y t) k1 w, .Subscript (.Name y p) k2 r] L pt) X.env]:=by rfl)
  (q4:(assignEach [.Subscript (.Name y t) k1 w, .Subscript (.Name y p) k2 r] X.env).map (·.2)=assign (.Subscript (.Name y t) k1 w) X.env::(assignEach [.Subscript (.Name y p) k2 r] X.env).map (·.2):=by rfl)
  (q5:(assignEach [.Subscript (.Name y p) k2 r] X.env).map (·.2)=assign (.Subscript (.Name y p) k2 r) X.env::(assignEach [] X.env).map (·.2):=by rfl)
  (q6:(assignEach [.Subscript (.Name y t) k1 w, .Subscript (.Name y p) k2 r] X.env).length=2:=by rfl) (q7:(assignEach [.Subscript (.Name y t) k1 w, .Subscript (.Name y p) k2 r] X.env).findIdx? (·.1)=none:=by rfl):
  DSs Z X md rn (.Assign [.Name y py] (.Subscript (.Name x px) k ps) pos:: .If c [.Assign [.Name a pa] e Zv, .Assign [.Tuple [.Subscript (.Name y t) k1 w, .Subscript (.Name y p) k2 r] L pt] et pq] [] pi::F) (dSeq (JX md A f g tk tc te tt tk1 Mx) u):=by
 refine(eB (gT hN VM hly (Jg yO (pv A hix hvx pj hcx) hk hp) hs hf) (eB (Pt hc (eB (gT hN hia hla he pk hf2) (pO (xC ht (DU VC (qF (xB (pv f VM YT LB Yr) yD set_list ha1) (qF (xB (pv f VM YT LB Yr) hk2 set_list N5) zf q5) q4) q6 q7) q1 q2 q3))) GA) hu)).imp ?_;intro Dn O H aO;rfl';obtain⟨B,Y,E,⟨G,fp,S⟩,⟨mh,hx,⟨ly,la⟩,h⟩,M⟩:=aO;ac_rfl;obtain⟨v0,pz,o⟩:=S.at_ A _ hx;refine#[_,pz,S.ev false h λkd Om=>#[trivial,λv G1 H1 P x1 dv=>?_]];rfl';obtain⟨n,j,ds,rfl,hj,Q,h⟩:=Om;cases dv.ofInt;obtain⟨R,ys,l,xs,gu,e1,e2,e3,e4,e5,e6,bw,_⟩:=P.two U hx Q;cases e1;rw[e2] at pz;cases pz;ac_rfl;exists R,ys,n, .ref l,rfl,rfl,cK.of e3,JT e4 hj e5;have h:=h l;have S2:=P.lA (i:=f) (v:= .ref l) (d:= .obj l) hmy (.obj l);have ly':f<O.length:=by rw[<-P.len];exact ly
 have la':g<O.length:=by rw[<-P.len];exact la
 have gy:(O.set f (some (V.ref l)))[f]?\(some (.ref l)):=iS ly';have XO:Dv Z H1 (.ref l) (.lst ds):= .lst e6 (bw.mono P.ex.sub);refine#[H1,_,_, .refl _,S2.sX.as gy XO,h,λb z G3 H3 x3=>?_];have S3:=S2.grow (Ext.all S2.ex.sub x3);cases b with
 |false=>exact bX #[B,_,E,#[_,_,S3],(~~~z),M]
 |true=>
  refine b8 ?_;rw[AC rfl] at z;have TM:Dv Z H3 (.ref l) (.lst ds):=XO.mono x3.hh;exists H3,_,_, .refl _,S3.sX.as gy TM,z;rintro _ ⟨m,rfl,z⟩ v G4 H4 x4 dv4;cases dv4.ofInt;have S4:=(S3.grow (Ext.all S3.ex.sub x4)).lA (i:=g) (v:= .int m) (d:= .int m) hma (.int m);have Vq:((O.set f (some (V.ref l))).set g (some (.int m)))[f]?\(some (.ref l)):=by rw[f7 (Ne.symm Zr)];exact gy
  have cm:∀o:Option D,(Y.set f o).set g (some (.int m))=(Y.set g (some (.int m))).set f o:=λo=>List.set_comm _ _ Zr;have T:=S4.sX;rw[cm] at T;have T:=T.as Vq (TM.mono x4.hh);rw[<-cm] at T;exists H4,_,_, .refl _,T,z;rintro _ ⟨i1,i2,rfl,z⟩ v G5 H5 x5 dv5;rfl';obtain⟨a5,xs5,rfl,h5,d5⟩:=dv5.pE;obtain⟨w1,w2,rfl,d51,d52⟩:=d5.Ja;cases d51.ofInt;cases d52.ofInt;have S5:=S4.grow (Ext.all S4.ex.sub x5);ac_rfl;exists a5,_,rfl,gj.of (x5.sub _ _ h5),rfl;refine#[_,_,rfl,_,Vq,S5.ev false z λd1 Ig=>#[trivial,λv G6 H6 S6 x6 Vf=>?_]];rfl';obtain⟨n1,j1,rfl,hj1,z⟩:=Ig;cases Vf.ofInt;have Rv:((Y.set f (some (.obj l))).set g (some (.int m)))[A]?\(some (.lst mh)):=by rw[f7 (Ne.symm Zp),f7 (Ne.symm Zq)];exact hx
  have sx:((O.set f (some (V.ref l))).set g (some (.int m)))[A]?\(some (.ref R)):=by rw[f7 (Ne.symm Zp),f7 (Ne.symm Zq)];exact e2
  have Vj:H6 R\(.lst ys):=x6.hh _ _ (x5.hh _ _ (x4.hh _ _ (x3.hh _ _ e3)));have ne:R≠l:=S6.WQ U Rv Q sx Vj e5;obtain⟨T6,ys6,l6,xs6,ds6,f1,f2,f3,f4,f5,f6,TN,put⟩:=S6.two U Rv Q;cases f1;rw[sx] at f2;cases f2;rw[Vj] at f3;cases f3;rw[e5] at f5;cases f5;ac_rfl;refine#[l,xs6,n1,j1,rfl,rfl,f6,by rw[TN.length];exact hj1,?_]
  have S7:=put _ _ (TN.set (.int i1) j1);refine#[_,_,rfl,_,Vq,S7.ev false z λd2 hd2=>#[trivial,λv G8 H8 S8 x8 Vg=>?_]];rfl';rfl';obtain⟨n2,j2,rfl,hj2,z⟩:=hd2;ac_rfl;cases Vg.ofInt;ac_rfl
  have lx:A<((Y.set f (some (.obj l))).set g (some (.int m))).length:=by
   apply FB;intro q;rw[gQ (iU q)] at Rv;cases Rv
  have lj:j<mh.length:=by
   apply FB;intro q;rw[gQ (iU q)] at Q;cases Q
  rfl';obtain⟨T8,ys8,l8,xs8,ds8,g1,g2,g3,g4,g5,g6,TQ,Zy⟩:=S8.two U (iS lx) (iS lj);cases g1;rw[sx] at g2;cases g2;rw[x8.hh _ _ (show upd H6 l _ R\(.lst ys) by rw[aB ne];exact Vj)] at g3
  cases g3;rw[e5] at g5;cases g5;ac_rfl;refine#[l,xs8,n2,j2,rfl,rfl,g6,by rw[TQ.length,gb];exact hj2,rfl,?_]
  have S9:=Zy _ _ (TQ.set (.int i2) j2);rw[ab4,ab4] at S9;exact#[B,_,E,#[_,_,S9],z,M]
variable {elt tg iter:Expr} {ifs:List Expr} {scope:Scope} {NC:List Str} {src:List (Option Nat)} {Qu:dE} {wi:i6} {g:eN}
def IS(s:md.getD i 0=1)(S:SIx Z B md ρ σ H G fp)(h:t ρ λd=>d.all di=true/\E.nx (ρ.set i (some (.lst d))))(M:Meets Z X B md rn E n):pB Z 1 t σ H λv p=>n.nx (σ.set i (some v)) p:=by
 exists H,ρ,_, .refl _,S.sX,h;rintro d ⟨u,w⟩ v f J p x o L q;have y:=S.grow (Ext.all S.ex.sub x);obtain⟨a,z,N,O,rfl,A,C,r,F⟩:=o.lst;cases A;obtain⟨dv,rfl⟩:=F.flat;have l:H a=none:=(q a (by rw[r];simp)).1
 refine M.nx _ w _ _ #[G,_,y.uc (f:= [a]) s (.inl #[a,z,d,[],rfl,rfl,C,rfl,(dv.flat u).own]) (by simp) (λb m=>?_) λb m j _ I=>?_]
 .have:b=a:=by simpa using m
  subst this;exact#[S.ex.hh.free l,(q b (by rw[r];simp)).2.1,S.ex.sub.free l]
 .have:b=a:=by simpa using m
  subst this;exact(S.nw j b I).2.1 l
def HK(i:Nat)(f:X.calm=true)(j:X.N.Nodup)(c:bQ X scope)(l:c9 scope X.N src NC)(m:DI Z X tg iter wi)
  (n:∀a s H,DG Z (cH X scope NC a s H) tg g) (o:∀a s H,zU Z (cH X scope NC a s H) ifs Qu) (p:∀a s H,DE Z (cH X scope NC a s H) elt te)
  (q:swapsWith (.ListComp elt [#[tg,iter,ifs,0]] scope pos) (some (.Name x b)) d.line X.env=pure true:=by rfl) (r:md.getD i 0=1:=by rfl) (t:X.N[i]?\x:=by rfl) (u:Loc X.env.scope x:=by subst_eqs)
  (v:X.fn x=true\/X.env.scope.names.lookup x\.local:=by subst_eqs)
  (w:∀x,foldedSetIterable iter X.env x=pure x:=by intro _;rfl):DSt Z X md rn (.Assign [.Name x b] (.ListComp elt [#[tg,iter,ifs,0]] scope pos) d) (Na i (NL wi g Qu te src)):=by
 refine(mF f j t u c l m n o p q v w).imp ?_;intro C y H z;rfl';obtain⟨B,I,E,⟨G,J,S⟩,h,M⟩:=z;ac_rfl;exact tO y H _ (IS r S h M)
end
end L2
namespace Wb
def js(w:W)(d:Nat×Nat)(r:List (Nat×Nat)):Prop:=∃k,0<k/\bx w k d=d/\(∀j,0<j->j<k->bx w j d≠d)/\r=walk w d k
def cD:e∈walk w d k↔∃i,i<k/\e=bx w i d:=by
 unfold walk;rw[cM]
 constructor
 .rintro⟨i,a,rfl⟩;exact#[i,eJ.mp a,rfl]
 .rintro⟨i,a,rfl⟩;exact#[i,eJ.mpr a,rfl]
def js.first(h:js w d r):d∈r:=by
 obtain⟨k,a,_,_,rfl⟩:=h;exact cD.mpr #[0,a,rfl]
def js.next(h:js w d r)(a:e∈r):yY w e∈r:=by
 obtain⟨k,b,f,_,rfl⟩:=h;obtain⟨i,g,rfl⟩:=cD.mp a
 by_cases c:i+1<k
 .exact cD.mpr #[i+1,c,rfl]
 .have:i+1=k:=()
  refine cD.mpr #[0,b,?_];show bx w (i+1) d=d;rw[this];exact f
theorem js.iter(h:js w d r)(a:e∈r):∀n,bx w n e∈r
 |0=>a
 |n+1=>h.next (h.iter a n)
def js.back(h:js w d r)(a:e∈r):∃n,bx w n e=d:=by
 obtain⟨k,c,b,_,rfl⟩:=h;obtain⟨i,f,rfl⟩:=cD.mp a;exists k-i;rw[<-fU i (k-i),show k-i+i=k by lia]
 exact b
def js.nodup{w:W}(g:Good w)(h:js w d r)(a:bp w d):r.Nodup:=by
 obtain⟨k,c,e,b,rfl⟩:=h;exact qe g a b
def js.bD(g:Good w)(h:js w d r)(a:bp w d):∀e∈r,bp w e:=by
 obtain⟨k,b,c,f,rfl⟩:=h;exact nI g a
structure jV (w:W) (rs:List (List (Nat×Nat))):Prop where
 rnd:∀r∈rs,∃d,js w d r/\bp w d/\∀e∈r,lexLe d e
 perm:rs.flatten.Perm (bD w)
def Nh(g:Good w)(h:bp w d):d.1≠d.2:=λe=>g.irr d.1 (by have:d.2∈row w d.1:=h;rw[<-e] at this;exact this)
def xU{w:W}(g:Good w){f:List (Nat×Nat)}(l:f.Perm (j5 (row w) w.length)):(f++f.map λt=>(t.2,t.1)).Perm (bD w):=by
 have e:=qc w;have n:=eE g
 have m:∀t,t∈f↔bp w t/\t.1<t.2:=λt=>by
  rw[l.mem_iff,e,kO,bz,aa3]
 have i:f.Nodup:=l.nodup_iff.mpr (by rw[e];exact n.filter _)
 refine(Bw ?_ n).mpr λd=>?_
 .rw[iT]
  refine#[i,?_,λa o b p z=>?_]
  .rw[Bv,mO]
   rw[Bv] at i;exact i.imp λ {a b} h z=>h (aaW (abd z).2 (abd z).1)
  .obtain⟨c,j,rfl⟩:=cM.mp p
   have k:=((m a).mp o).2;have q:=((m c).mp j).2;rw[z] at k;have k:c.2<c.1:=k;lia
 .rw[cF,cM,bz]
  constructor
  .rintro(h| ⟨c,j,rfl⟩)
   .exact((m d).mp h).1
   .exact g.sym _ _ ((m c).mp j).1
  .intro h
   rcases Nat.lt_or_gt_of_ne (Nh g h) with c|c
   .exact .inl ((m d).mpr #[h,c])
   .exact .inr #[(d.2,d.1),(m _).mpr #[g.sym _ _ h,c],rfl]
def js.uniq(h:js w d r)(b:js w d a):r=a:=by
 obtain⟨k,e,f,g,rfl⟩:=h;obtain⟨m,i,j,l,rfl⟩:=b
 rcases acA k m with c|c|c
 .exact absurd f (l k e c)
 .rw[c]
 .exact absurd j (g m i c)
def jV.sub(R:jV w c)(f:jV w a):∀r∈c,r∈a:=λr j=>by
 obtain⟨d,b,k,l⟩:=R.rnd r j;have m:d∈a.flatten:=f.perm.mem_iff.mpr (bz.mpr k);obtain⟨o,g,h⟩:=zR.mp m;obtain⟨p,i,u,q⟩:=f.rnd o g;obtain⟨n,s⟩:=i.back h;have t:lexLe d p:=by rw[<-s];exact l _ (b.iter b.first n)
 have e:=LN t (q d h);subst e;rw[b.uniq i];exact g
def jV.ne{w:W}{a:List (List (Nat×Nat))}(R:jV w a):∀r∈a,r≠ []:=λr b z=>by
 obtain⟨d,c,_⟩:=R.rnd r b
 have:=c.first
 rw[z] at this;cases this
theorem vR:∀{l:List (List c)},l.flatten.Nodup->(∀r∈l,r≠ [])->l.Nodup
 | [],_,_=>gd
 |a::l,h,b=>by
  rw[n9,iT] at h;refine iV.mpr #[λd=>?_,vR h.2.1 λr e=>b r (eM _ e)];cases a with
  |nil=>exact b [] (dH ..) rfl
  |cons x a=>exact h.2.2 x (dH ..) x (zR.mpr #[_,d,dH ..]) rfl
def jV.nodup{w:W}(g:Good w)(R:jV w a):a.Nodup:=vR (R.perm.nodup_iff.mpr (eE g)) R.ne
abbrev NV(a:List (List (Nat×Nat))):List (List Nat):=a.map λr=>r.map (·.1)
open Classical in
theorem Mu{l:List Nat}{i:Nat}(nd:l.Nodup)(h:i+1<l.length):e9 l (l.getD i 0)=l.getD (i+1) 0:=by
 have e:l.getD i 0=l[i]:=by rw[cW,cZ ()];rfl
 unfold e9;rw[e,nd.idxOf_getElem i (),lE h]
def Jy(a:l.Nodup)(h:i+1=l.length):e9 l (l.getD i 0)=l.getD 0 0:=by
 have e:l.getD i 0=l[i]:=by rw[cW,cZ ()];rfl
 unfold e9;rw[e,a.idxOf_getElem i (),h,acJ]
section
variable {w:W} {R:List Nat} {A:Nat×Nat->Prop} {v m:Nat} {y:Nat->Nat}
end
def qd(h:i<k):(walk w d k)[i]?\(bx w i d):=by
 unfold walk;rw[fi,wH h];rfl
def JJ(h:¬i<k):(walk w d k)[i]? =none:=gQ (by rw[fI];lia)
def js.rot(g:Good w)(h:js w d r)(b:bp w d)(c:m<r.length):js w (r.getD m (0,0)) (r.drop m++r.take m):=by
 obtain⟨k,l,f,n,rfl⟩:=h;rw[fI] at c;have e:(walk w d k).getD m (0,0)=bx w m d:=by rw[cW,qd c];rfl
 rw[e];have per:bx w k (bx w m d)=bx w m d:=by rw[<-fU,acH,fU,f]
 refine#[k,l,per,λj o p z=>?_,?_]
 .have:bx w m (bx w j d)=bx w m d:=by rw[<-fU,acH,fU,z]
  exact n j o p (tI g (cY g b j) b m this)
 .refine wI λi=>?_
  have a:((walk w d k).drop m).length=k-m:=by rw[BE,fI]
  by_cases q:i<k-m
  .rw[i5 (by rw[a];exact q),Ey,qd (),qd (),<-fU,acH]
  .rw[kN (by rw[a];lia),a]
   by_cases s:i<k
   .rw[acm,AC (),qd (),qd s,<-fU,show i+m=(i-(k-m))+k by lia,fU,f]
   .rw[acm,tz (),JJ ()]
def mV(a b:Nat×Nat):lexLe a b\/lexLe b a:=by unfold lexLe;lia
def Dg(h:lexLe a b)(d:lexLe b c):lexLe a c:=by unfold lexLe at*;lia
theorem A9:∀c:List (Nat×Nat),c≠ []->∃e∈c,∀x∈c,lexLe e x
 | [],h=>absurd rfl h
 | [a],_=>#[a,by simp,λx d=>by rw[fB] at d;subst d;exact(mV x x).elim id id]
 |a::b::c,_=>by
  obtain⟨e,g,f⟩:=A9 (b::c) (by simp)
  rcases mV a e with h|h
  .refine#[a,by simp,λx d=>?_]
   rcases bY.mp d with rfl|d
   .exact(mV x x).elim id id
   .exact Dg h (f x d)
  .refine#[e,eM _ g,λx d=>?_]
   rcases bY.mp d with rfl|d
   .exact h
   .exact f x d
open Classical in
noncomputable def wY(c:List (Nat×Nat)):Nat:=if h:∃e,e∈c/\∀x∈c,lexLe e x then c.idxOf h.choose else 0
def LL(h:c≠ []):wY c<c.length/\c.getD (wY c) (0,0)∈c/\(∀x∈c,lexLe (c.getD (wY c) (0,0)) x)/\wY c=c.idxOf (c.getD (wY c) (0,0)):=by
 have d:∃e,e∈c/\∀x∈c,lexLe e x:=let #[e,a,b]:=A9 c h;#[e,a,b];have f:wY c=c.idxOf d.choose:=by unfold wY;rw[dif_pos d]
 have s:=d.choose_spec;have l:=zO.mpr s.1
 have g:c.getD (wY c) (0,0)=d.choose:=by
  rw[f,cW,cZ l];exact BB l
 rw[g,f];exact#[l,s.1,s.2,rfl]
noncomputable def xO(c:List (Nat×Nat)):List (Nat×Nat):=c.drop (wY c)++c.take (wY c)
def xP(c:List (Nat×Nat)):(xO c).Perm c:=by
 unfold xO
 have:=Hl (l₁:=c.drop (wY c)) (l₂:=c.take (wY c))
 rwa [n6] at this
def K3(g:Good w)(h:js w d r)(a:bp w d):∃e,js w e (xO r)/\bp w e/\∀x∈xO r,lexLe e x:=by
 have ne:r≠ []:=λz=>by have:=h.first;rw[z] at this;cases this
 obtain⟨b,c,f,_⟩:=LL ne;exact#[_,h.rot g a b,h.bD g a _ c,λx i=>f x ((xP r).mem_iff.mp i)]
theorem qQ{b:Type}{f:List b->List b}(h:∀r,(f r).Perm r):∀a:List (List b),(a.map f).flatten.Perm a.flatten
 | []=> .nil
 |r::a=>by
  rw[gF,n9,n9];exact(h r).append (qQ h a)
abbrev Dt:=Nat×Nat
def su(w:W)(a:List (List Dt)):Prop:=∀r∈a,∃d,js w d r/\bp w d
def Fc(w:W)(n:Nat):Prop:=∃a,su w a/\a.flatten.Perm (bD w)/\a.length=n
def su.dart(g:Good w)(h:su w b):∀e∈b.flatten,bp w e:=λe c=>by
 obtain⟨r,f,a⟩:=zR.mp c;obtain⟨d,R,i⟩:=h r f;exact R.bD g i e a
def W9(w:W):Prop:=∃c,Fc w c/\2*(w.length+c)=yf w+4
def zq(k:l.Nodup){u:Nat}(n:u∈l)(P:Nat->Prop)(s:P (e9 l u))(h:∀x∈l,x≠u->P x->P (e9 l x)):∀x∈l,P x:=by
 have t:0<l.length:=wF n
 have at_:∀i,i<l.length->l.getD i 0∈l/\l[i]?\(l.getD i 0):=λi f=>by
  have e:l[i]?\(l.getD i 0):=by rw[cW,cZ f];rfl
  exact#[fb e,e]
 have o:∀i,i<l.length->e9 l (l.getD i 0)=l.getD ((i+1)%l.length) 0:=λi f=>by
  by_cases c:i+1<l.length
  .rw[Mu k c,lE c]
  .rw[Jy k (),show i+1=l.length by lia,acJ]
 obtain⟨d,m,v⟩:=List.getElem_of_mem n;have p:l.getD d 0=u:=by rw[cW,cZ m];exact v
 have all:∀j,j<l.length->P (l.getD ((d+1+j)%l.length) 0):=by
  intro j
  induction j with
  |zero=>intro _;rw[<-o d m,p];exact s
  |succ j w=>
   intro B;have g:=rm (d+1+j) t
   have q:=h _ (at_ _ g).1 (λz=>by
    have a:=(at_ _ g).2;have b:=(at_ _ m).2;rw[p] at b;rw[z] at a
    have:=(List.getElem?_inj g k).mp (a.trans b.symm)
    by_cases c:d+1+j<l.length
    .rw[lE c] at this;lia
    .rw[Nat.mod_eq_sub_mod (),lE ()] at this;lia) (w ())
   rw[o _ g] at q;rw[show(d+1+(j+1))%l.length=((d+1+j)%l.length+1)%l.length by rw[Nat.mod_add_mod];rfl]
   exact q
 intro x y;obtain⟨i,f,A⟩:=List.getElem_of_mem y;have r:l.getD i 0=x:=by rw[cW,cZ f];exact A
 by_cases c:d<i
 .have:=all (i-d-1) ()
  rw[show d+1+(i-d-1)=i by lia,lE f,r] at this;exact this
 .have:=all (i+l.length-d-1) ()
  rw[show d+1+(i+l.length-d-1)=i+l.length by lia,acB,lE f,r] at this;exact this
def eW(d:Dt):Dt:=(d.2,d.1)
def sg(w:W)(d:Dt):Dt:=(d.1,e9 (row w d.1) d.2)
def Rl(L:List Dt)(d:Dt):Prop:=d∈L\/eW d∈L
instance aan (L:List Dt) (d:Dt):Decidable (Rl L d):=inferInstanceAs (Decidable (_\/_))
def ph(w:W)(L:List Dt)(d:Dt):Dt:=if Rl L d then sg w (eW d) else sg w d
def Ux(w:W)(L:List Dt)(f:Dt->Nat):Prop:=∀d,bp w d->f (ph w L d)=f d
def QG(w:W)(f:Dt->Nat)(n:Nat):Prop:=∃a:List Nat,a.Nodup/\a.length=n/\∀v∈a,∃d,bp w d/\f d=v
def BH(w:W)(L:List Dt)(n:Nat):Prop:=∃f,Ux w L f/\QG w f n
def j7{w:W}(g:Good w)(h:bp w d):bp w (eW d):=g.sym _ _ h
def Rf(g:Good w)(h:bp w d):eW d≠d:=λz=>by
 have:d.2=d.1:=KF Prod.fst z
 exact g.irr _ (by have h:d.2∈row w d.1:=h;rw[this] at h;exact h)
def GD(a:d≠t)(b:d≠eW t):Rl (t::L) d↔Rl L d:=by
 unfold Rl;rw[bY,bY]
 constructor
 .rintro((z|z) | (z|z))
  .exact absurd z a
  .exact .inl z
  .exact absurd (by rw[<-z];rfl) b
  .exact .inr z
 .rintro(z|z)
  .exact .inl (.inr z)
  .exact .inr (.inr z)
def Sz:Rl L (eW d)↔Rl L d:=#[λh=>h.symm,λh=>h.symm]
def zg{w:W}(a:d≠t)(b:d≠eW t):ph w (t::L) d=ph w L d:=by
 unfold ph
 by_cases c:Rl L d
 .rw[AC c,AC ((GD a b).mpr c)]
 .rw[tz c,tz (λz=>c ((GD a b).mp z))]
def Ui{w:W}{t:Dt}{L:List Dt}:ph w (t::L) t=sg w (eW t)/\ph w (t::L) (eW t)=sg w t:=by
 unfold ph;exact#[AC (.inl (dH ..)),AC (.inr (dH ..))]
def Kw{w:W}{t:Dt}{L:List Dt}(h:¬Rl L t):ph w L t=sg w t/\ph w L (eW t)=sg w (eW t):=by
 unfold ph;exact#[tz h,tz λz=>h (Sz.mp z)]
def K7{w:W}(g:Good w){t:Dt}{L:List Dt}(l:bp w t)(h:¬Rl L t)(c:BH w (t::L) (n+1)):BH w L n:=by
 obtain⟨f,j,s,o,C,u⟩:=c;obtain⟨x,y⟩:=Ui (w:=w) (t:=t) (L:=L);obtain⟨A,B⟩:=Kw (w:=w) h;have p:=j t l;have r:=j _ (j7 g l);rw[x] at p;rw[y] at r;refine#[λd=>if f d=f (eW t) then f t else f d,λd k=>?_,(s.erase (f (eW t))).take n,(acz _ _).nodup (o.erase _),?_,λv i=>?_]
 .by_cases a:d=t
  .subst a
   show(if f (ph w L d)=f (eW d) then f d else f (ph w L d))=if f d=f (eW d) then f d else f d;rw[A,r,AC rfl];split<;>rfl
  .by_cases b:d=eW t
   .subst b
    show(if f (ph w L (eW t))=f (eW t) then f t else f (ph w L (eW t)))=if f (eW t)=f (eW t) then f t else f (eW t);rw[B,p,AC rfl];split<;>rfl
   .have q:=j d k
    rw[zg a b] at q;show(if f (ph w L d)=f (eW t) then f t else f (ph w L d))=_;rw[q]
 .rw[jS,List.length_erase]
  split<;>lia
 .have i:=ab5 i
  have m:=List.mem_of_mem_erase i;obtain⟨d,k,e⟩:=u v m;have ne:v≠f (eW t):=λz=>by rw[z] at i;exact(List.Nodup.not_mem_erase o) i
  exact#[d,k,by show(if f d=f (eW t) then f t else f d)=v;rw[e,tz ne]]
def above(l:List Nat):∃n,∀x∈l,x<n:=by
 induction l with
 |nil=>exact#[0,λx h=>by cases h]
 |cons a l b=>
  obtain⟨n,c⟩:=b
  exact#[n+a+1,λx d=>by
   rcases bY.mp d with rfl|z
   .lia
   .have:=c x z;lia]
def K9(g:Good w)(i:bp w t)(h:∀d∈L,d.1≠t.1/\d.2≠t.1)(c:BH w (t::L) n):BH w L (n+1):=by
 obtain⟨f,k,o,y,A,B⟩:=c
 have l:∀d,d.1=t.1\/d.2=t.1->¬Rl L d:=λd j z=>by
  rcases z with z|z
  .have:=h _ z;rcases j with e|e
   .exact this.1 e
   .exact this.2 e
  .have:=h _ z;rcases j with e|e
   .exact this.2 e
   .exact this.1 e
 obtain⟨C,E⟩:=Ui (w:=w) (t:=t) (L:=L);obtain⟨O,F⟩:=Kw (w:=w) (l t (.inl rfl));have p:=k t i;have r:=k _ (j7 g i);rw[C] at p;rw[E] at r;have s:t.2≠t.1:=λz=>by have i:t.2∈row w t.1:=i;rw[z] at i;exact g.irr _ i
 have all:∀x∈row w t.1,f (t.1,x)=f (eW t):=zq (g.nod _) (u:=t.2) i (λx=>f (t.1,x)=f (eW t)) r λx G ne e=>by
  have q:=k (t.1,x) G;have a:(t.1,x)≠t:=λz=>ne (KF Prod.snd z);have b:(t.1,x)≠eW t:=λz=>s (KF Prod.fst z).symm;rw[zg a b,(Kw (w:=w) (l (t.1,x) (.inl rfl))).1] at q;exact q.trans e
 obtain⟨m,H⟩:=above (o++ [f (eW t)]);have I:f t=f (eW t):=all t.2 i;refine#[λd=>if d.1=t.1 then m else f d,λd j=>?_,m::o,iV.mpr #[λz=>by have:=H m (fZ _ z);lia,y],by rw[cx,A],λv J=>?_]
 .by_cases a:d.1=t.1
  .show(if (ph w L d).1=t.1 then m else f (ph w L d))=if d.1=t.1 then m else f d
   rw[(Kw (w:=w) (l d (.inl a))).1,AC a,AC (show(sg w d).1=t.1 from a)]
  .by_cases b:d=eW t
   .subst b
    show(if (ph w L (eW t)).1=t.1 then m else f (ph w L (eW t)))=if (eW t).1=t.1 then m else f (eW t);rw[F,tz a,tz (show ¬(sg w (eW t)).1=t.1 from a),p,I]
   .have M:d≠t:=λz=>a (by rw[z])
    have q:=k d j;rw[zg M b] at q
    have ne:(ph w L d).1≠t.1:=by
     unfold ph
     split
     .rename_i N
      intro z;have z:d.2=t.1:=z;exact l d (.inr z) N
     .exact a
    show(if (ph w L d).1=t.1 then m else f (ph w L d))=if d.1=t.1 then m else f d;rw[tz ne,tz a,q]
 .rcases bY.mp J with rfl|z
  .exact#[t,i,AC rfl]
  .obtain⟨d,j,e⟩:=B v z
   by_cases a:d.1=t.1
   .refine#[eW t,j7 g i,?_]
    have:f d=f (eW t):=by
     have:=all d.2 (by rw[<-a];exact j)
     rw[<-a] at this;exact this
    show(if t.2=t.1 then m else f (eW t))=v;rw[tz s,<-this,e]
   .exact#[d,j,by show(if d.1=t.1 then m else f d)=v;rw[tz a,e]]
structure nK (w:W) (L:List Dt):Prop where
 dart:∀d∈L,bp w d
 nd:L.Nodup
 nf:∀d∈L,eW d∉L
def nK.cons{w:W}(g:Good w){L:List Dt}(h:nK w L){t:Dt}(b:bp w t)(n:¬Rl L t):nK w (t::L):=by
 refine#[λd a=>?_,iV.mpr #[λz=>n (.inl z),h.nd],λd a z=>?_]
 .rcases bY.mp a with rfl|z
  .exact b
  .exact h.dart _ z
 .rcases bY.mp a with rfl|y
  .rcases bY.mp z with z|z
   .exact Rf g b z
   .exact n (.inr z)
  .rcases bY.mp z with z|z
   .exact n (.inr (by rw[<-z];exact y))
   .exact h.nf _ y z
def both(L:List Dt):List Dt:=L++L.map eW
def l9(L:List Dt):(both L).length=2*L.length:=by unfold both;rw[cI,aS];lia
def iw{d:Dt}:d∈both L↔Rl L d:=by
 unfold both Rl;rw[cF,cM]
 constructor
 .rintro(z| ⟨e,z,rfl⟩)
  .exact .inl z
  .exact .inr z
 .rintro(z|z)
  .exact .inl z
  .exact .inr #[_,z,rfl]
theorem nK.both(h:nK w L):(both L).Nodup:=by
 unfold Wb.both;refine iT.mpr #[h.nd,?_,λa c b d z=>?_]
 .refine(mO).mpr (h.nd.imp λ {a b} ne z=>ne ?_)
  exact KF eW z
 .subst z
  obtain⟨e,f,rfl⟩:=cM.mp d;exact h.nf _ f c
def nK.sub(g:Good w)(h:nK w L):∀d∈Wb.both L,d∈bD w:=λd a=>by
 rcases iw.mp a with z|z
 .exact bz.mpr (h.dart _ z)
 .exact bz.mpr (j7 g (h.dart _ z))
def K8(g:Good w)(b:∀d,bp w d->f (yY w d)=f d)(c:QG w f n)(all:∀d,bp w d->Rl L d):BH w L n:=
 #[f,λd a=>by unfold ph;rw[AC (all d a)];exact b d a,c]
theorem fill(g:Good w)(c:∀d,bp w d->f (yY w d)=f d):∀(m:Nat)(L:List Dt)(n:Nat),nK w L->2*(L.length+m)=yf w->QG w f (n+m)->BH w L n
 |0,L,n,h,e,a=>by
  refine K8 g c a λd k=>?_;apply FB;intro z;have l:(d::both L).Nodup:=iV.mpr #[λy=>z (iw.mp y),h.both]
  have:=aD l (m:=bD w) λx b=>by
   rcases bY.mp b with rfl|y
   .exact bz.mpr k
   .exact h.sub g _ y
  rw[cx,l9,hU] at this;lia
 |m+1,L,n,h,e,a=>by
  have:∃t,bp w t/\¬Rl L t:=by
   apply FB;intro z
   have:=aD (eE g) (m:=both L) λx b=>iw.mpr (FB λy=>z #[x,bz.mp b,y])
   rw[l9,hU] at this;lia
  obtain⟨t,i,j⟩:=this;refine K7 g i j (fill g c m (t::L) (n+1) (h.cons g i j) (by rw[cx];lia) ?_)
  rw[show n+1+m=n+(m+1) by lia];exact a
def R9{w:W}(g:Good w){T:List Nat}(ne:∃p∈T,p<w.length)(h:∃q,q<w.length/\q∉T):∃v u,bp w (v,u)/\v∉T/\u∈T:=by
 obtain⟨p,f,i⟩:=ne;obtain⟨q,d,e⟩:=h;have r:Reach w p q:=(Reach.symm g.sym (g.con p i)).trans (g.con q d);clear d
 induction r with
 |refl=>exact absurd f e
 | @step a b r j k=>
  by_cases c:a∈T
  .exact#[b,a,g.sym _ _ j,e,c]
  .exact k c
theorem grow(g:Good w):∀(k:Nat)(T:List Nat)(L:List Dt),T.Nodup->(∀p∈T,p<w.length)->T≠ []->T.length+k=w.length->nK w L->(∀d∈L,d.1∈T/\d.2∈T)->∃f,f.length=L.length+k/\nK w f/\∀n,BH w f n->BH w L (n+k)
 |0,T,L,_,_,_,_,h,_=>#[L,rfl,h,λn c=>c]
 |k+1,T,L,o,lt,ne,F,h,b=>by
  have:∃q,q<w.length/\q∉T:=by
   apply FB;intro z
   have:=aD wK (m:=T) λx r=>FB λy=>z #[x,eJ.mp r,y]
   rw[jR] at this;lia
  rfl';obtain⟨a,t,rfl⟩:=List.exists_cons_of_ne_nil ne;obtain⟨v,u,l,i,A⟩:=R9 g #[a,dH ..,lt _ (dH ..)] this;ac_rfl
  have B:¬Rl L (v,u):=λz=>by
   rcases z with z|z
   .exact i (b _ z).1
   .exact i (b _ z).2
  obtain⟨f,e,C,c⟩:=grow g k (v::a::t) ((v,u)::L) (iV.mpr #[i,o]) (λp E=>by
   rcases bY.mp E with rfl|z
   .exact cT l
   .exact lt _ z) (by simp) (by rw[cx];lia) (h.cons g l B) (λd j=>by
   rcases bY.mp j with rfl|z
   .exact#[dH ..,eM _ A]
   .exact#[eM _ (b _ z).1,eM _ (b _ z).2])
  refine#[f,by rw[e,cx];lia,C,λn cn=>?_]
  rw[show n+(k+1)=n+k+1 by lia]
  exact K9 g l (λd j=>#[λz=>i (by have:=(b _ j).1;rw[z] at this;exact this),λz=>i (by have:=(b _ j).2;rw[z] at this;exact this)]) (c n cn)
theorem nu(p:b->Bool):∀R:List b,R.length=(R.filter p).length+(R.filter λd=>!p d).length
 | []=>rfl
 |a::R=>by
  have c:=nu p R;rw[BF,BF];cases e:p a<;>simp<;>lia
theorem each [DecidableEq g] (f:g->Nat) (k:Nat):∀(e:List Nat)(R:List g),e.Nodup->R.Nodup->(∀v∈e,∃l:List g,l.Nodup/\k<=l.length/\∀d∈l,d∈R/\f d=v)->k*e.length<=R.length
 | [],R,_,_,_=>by simp
 |v::e,R,j,p,h=>by
  obtain⟨l,q,t,n⟩:=h v (dH ..)
  have w:=each f k e (R.filter λd=>!decide (f d=v)) (iV.mp j).2 (p.filter _) λu o=>by
   obtain⟨m,r,s,i⟩:=h u (eM _ o);refine#[m,r,s,λd c=>#[kO.mpr #[(i d c).1,?_],(i d c).2]];have z:¬f d=v:=λz=>(iV.mp j).1 (((i d c).2.symm.trans z)▸o);rw[GM z];rfl
  have a:=aD q (m:=R.filter λd=>decide (f d=v)) λd c=>kO.mpr #[(n d c).1,GT (n d c).2];have b:=nu (λd=>decide (f d=v)) R;rw[cx,Nat.mul_add,Nat.mul_one];lia
def yV(g:Good w)(a:Ux w L f)(b:bp w (p,q))(h:Rl L (p,q))(i:∃r,r≠p/\r∈row w q/\Rl L (q,r)):∃r,r≠p/\r∈row w q/\Rl L (q,r)/\f (q,r)=f (p,q):=by
 apply FB;intro z
 have all:∀x∈row w q,f (q,x)=f (p,q):=zq (g.nod _) (u:=p) (g.sym _ _ b) (λx=>f (q,x)=f (p,q)) (by
   have:=a _ b
   unfold ph at this;rw[AC h] at this;exact this) λx c ne e=>by
  have j:¬Rl L (q,x):=λy=>z #[x,ne,c,y,e]
  have:=a (q,x) c
  unfold ph at this;rw[tz j] at this;exact this.trans e
 obtain⟨r,k,d,l⟩:=i;exact z #[r,k,d,l,all r d]
def mM(g:Good w)(c:Ux w L f)(b:bp w (p,q))(h:∀d,bp w d->f d=f (p,q)->¬Rl L d):∀x∈row w p,f (p,x)=f (p,q):=by
 have st:∀x∈row w p,f (p,x)=f (p,q)->f (p,e9 (row w p) x)=f (p,q):=λx a e=>by
  have:=c (p,x) a
  unfold ph at this;rw[tz (h (p,x) a e)] at this;exact this.trans e
 exact zq (g.nod _) (u:=q) b (λx=>f (p,x)=f (p,q)) (st q b rfl) λx a _ e=>st x a e
def Fn{w:W}(g:Good w){L:List Dt}(o:nK w L){S:List Nat}(N:S.Nodup)(lt:∀p∈S,p<w.length)(two:∀p∈S,∀q,∃r,r≠q/\r∈row w p/\Rl L (p,r))(t:∀d∈L,d.1∈S/\d.2∈S){n:Nat}(c:BH w L n):3*n<=3*(w.length-S.length)+2*L.length:=by
 obtain⟨f,u,A,C,rfl,O⟩:=c
 have E:∀{d:Dt},Rl L d->bp w d/\d.1∈S/\d.2∈S:=λ {d} h=>by
  rcases h with z|z
  .exact#[o.dart _ z,t _ z]
  .exact#[j7 g (o.dart _ z),(t _ z).2,(t _ z).1]
 let P:Nat->Bool:=λv=>decide (∃d∈both L,f d=v)
 have e:=nu P A
 have a:3*(A.filter P).length<=(both L).length:=each f 3 _ _ (C.filter _) o.both λv B=>by
  rfl';obtain⟨⟨p,q⟩,i,rfl⟩:=KB (kO.mp B).2;have F:=iw.mp i;obtain⟨k,pS,R⟩:=E F;obtain⟨r,T,j,l,G⟩:=yV g u k F (two q R p);obtain⟨_,_,U⟩:=E l;obtain⟨s,s1,s2,X,Y⟩:=yV g u j l (two r U q);ac_rfl;refine#[[(p,q),(q,r),(r,s)],?_,bM _,λd H=>?_]
  .have Z:p≠q:=λz=>by have k:q∈row w p:=k;rw[z] at k;exact g.irr _ k
   have n2:q≠r:=λz=>by rw[z] at j;exact g.irr _ j
   simp only[iV,bY,acS,or_false,not_or,Prod.mk.injEq,not_and,gd,and_true,not_false_eq_true];exact#[#[λz=>absurd z Z,λz=>absurd z.symm T],λz=>absurd z n2]
  .simp only[bY,acS,or_false] at H
   rcases H with rfl|rfl|rfl
   .exact#[i,rfl]
   .exact#[iw.mpr l,G]
   .exact#[iw.mpr X,Y.trans G]
 have b:1*(A.filter λv=>!P v).length<=((am w.length).filter λp=>!decide (p∈S)).length:=each (λp=>f (p,(row w p).headD 0)) 1 _ _ (C.filter _) (wK.filter _) λv B=>by
  obtain⟨m1,I⟩:=kO.mp B;obtain⟨⟨p,q⟩,i,rfl⟩:=O v m1
  have J:∀d,bp w d->f d=f (p,q)->¬Rl L d:=λd _ e y=>by
   have:P (f (p,q))=true:=GT #[d,iw.mpr y,e]
   rw[this] at I;exact Bool.noConfusion I
  have all:=mM g u i J;refine#[[p],by simp,bM _,λx hx=>?_]
  rw[fB.mp hx];refine#[kO.mpr #[eJ.mpr (cT i),?_],?_]
  .rw[GM];·rfl
   intro z;obtain⟨r,_,j,l⟩:=two p z p;exact J (p,r) j (all r j) l
  .refine all _ ?_
   have i:q∈row w p:=i;cases e:row w p with
   |nil=>rw[e] at i;cases i
   |cons y ys=>exact dH ..
 have c:=nu (λp=>decide (p∈S)) (am w.length);have s:=aD N (m:=(am w.length).filter λp=>decide (p∈S)) λp M=>kO.mpr #[eJ.mpr (lt p M),GT M];rw[jR] at c;rw[l9] at a;lia
def Ro(g:Good w)(F:Fc w c):∃f:Dt->Nat,(∀d,bp w d->f (yY w d)=f d)/\QG w f c:=by
 obtain⟨h,t,u,rfl⟩:=F;have E:h.flatten.Nodup:=u.nodup_iff.mpr (eE g)
 have G:∀(i j:Nat)(d:Dt)(a b:List Dt),h[i]?\a->h[j]?\b->d∈a->d∈b->i=j:=by
  intro i j d a b e H k x;have y:=(List.pairwise_flatten.mp E).2;obtain⟨m,n⟩:=dZ.mp e;obtain⟨A,B⟩:=dZ.mp H
  rcases acA i j with z|z|z
  .have:=(JM.mp y) i j m A z
   rw[n,B] at this;exact absurd rfl (this d k d x)
  .exact z
  .have:=(JM.mp y) j i A m z
   rw[n,B] at this;exact absurd rfl (this d x d k)
 have I:∀d,bp w d->∃i a,h[i]?\a/\d∈a:=λd l=>by
  rfl';obtain⟨a,e,l⟩:=zR.mp (u.mem_iff.mpr (bz.mpr l));obtain⟨i,L⟩:=zQ e;ac_rfl;exact#[i,a,L,l]
 let f:Dt->Nat:=λd=>h.findIdx λr=>decide (d∈r)
 have o:∀i a d,h[i]?\a->d∈a->f d=i:=λi a d e k=>by
  obtain⟨m,n⟩:=dZ.mp e;have lt:f d<h.length:=List.findIdx_lt_length_of_exists #[a,fb e,GT k]
  have:=List.findIdx_getElem (w:=lt)
  exact G _ _ d _ a (cZ lt) e (KB this) k
 refine#[f,λd l=>?_,am h.length,wK,jR,λv M=>?_]
 .obtain⟨i,a,e,k⟩:=I d l
  obtain⟨p,q,_⟩:=t a (fb e);rw[o i a d e k,o i a _ e (q.next k)]
 .have C:=eJ.mp M
  obtain⟨p,q,s⟩:=t h[v] (rh C);exact#[p,s,o v _ p (cZ C) q.first]
def nH(w:W)(S:List Nat):List Dt:=(bD w).filter λd=>decide (d.1<d.2/\d.1∈S/\d.2∈S)
def fk:d∈nH w S↔bp w d/\d.1<d.2/\d.1∈S/\d.2∈S:=by
 unfold nH;rw[kO,bz,aa3]
def Qs(g:Good w)(S:List Nat):nK w (nH w S):=#[λd c=>(fk.mp c).1,(eE g).filter _,λd c z=>by
 have a:=(fk.mp c).2.1;have b:d.2<d.1:=(fk.mp z).2.1
 lia]
def PM(g:Good w){d:Dt}(c:bp w d):Rl (nH w S) d↔d.1∈S/\d.2∈S:=by
 constructor
 .rintro(z|z)
  .exact(fk.mp z).2.2
  .have:=(fk.mp z).2.2
   exact#[this.2,this.1]
 .rintro⟨a,b⟩
  have ne:d.1≠d.2:=λz=>by have c:d.2∈row w d.1:=c;rw[z] at c;exact g.irr _ c
  rcases Nat.lt_or_ge d.1 d.2 with z|z
  .exact .inl (fk.mpr #[c,z,a,b])
  .exact .inr (fk.mpr #[j7 g c,by show d.2<d.1;lia,b,a])
def X2(g:Good w)(F:Fc w c)(e:2*(w.length+c)=yf w+4)(j:S.Nodup)(ne:S≠ [])(lt:∀p∈S,p<w.length):∃p∈S,((row w p).filter λq=>decide (q∈S)).length<=5:=by
 apply FB;intro z;have i:∀p∈S,6<=((row w p).filter λq=>decide (q∈S)).length:=λp h=>FB λy=>z #[p,h,()]
 have l:=Qs g S;have u:∀d∈nH w S,d.1∈S/\d.2∈S:=λd o=>(fk.mp o).2.2
 have x:6*S.length<=(both (nH w S)).length:=each (λd:Dt=>d.1) 6 S _ j l.both λp h=>by
  refine#[((row w p).filter λq=>decide (q∈S)).map λq=>(p,q),?_,by rw[aS];exact i p h,λd o=>?_]
  .exact mO.mpr (((g.nod p).filter _).imp λ {a b} ne z=>ne (KF Prod.snd z))
  .obtain⟨q,A,rfl⟩:=cM.mp o
   obtain⟨B,C⟩:=kO.mp A;exact#[iw.mpr ((PM g (d:=(p,q)) B).mpr #[h,KB C]),rfl]
 rw[l9] at x
 have Q:S.length<=w.length:=by
  have:=aD j (m:=am w.length) λp h=>eJ.mpr (lt p h)
  rw[jR] at this;exact this
 have R:0<S.length:=Bz.mpr ne;obtain⟨k,E⟩:∃k,S.length+k=w.length:=#[w.length-S.length,()]
 obtain⟨s,T,t,G⟩:=grow g k S (nH w S) j lt ne E l u;obtain⟨f,H,I⟩:=Ro g F;have J:=aD t.both (t.sub g);rw[l9,hU] at J;obtain⟨m,L⟩:∃m,2*(s.length+m)=yf w:=#[yf w / 2-s.length,()]
 obtain⟨n,M⟩:∃n,n+m=c:=#[c-m,()]
 have cn:=G n (fill g H m s n t L (by rw[M];exact I))
 have:=Fn g l j lt (λp h q=>by
  have U:=i p h;apply FB;intro y
  have:((row w p).filter λq=>decide (q∈S)).length<= [q].length:=aD ((g.nod p).filter _) λr N=>by
   obtain⟨v,O⟩:=kO.mp N;rw[fB];apply FB;intro P;exact y #[r,P,v,(PM g (d:=(p,r)) v).mpr #[h,KB O]]
  rw[n5] at this;lia) u cn
 lia
end Wb
namespace uz
open PySem L2 Wb
variable {P:Program} {w:World} {mg:Str->Option Value} {base:Heap} {Z:DC} (T:Txt Z mg)
open Wy
def mY(a b:Int)(h:0<b):0<=a%b/\a%b<b:=#[acX _ (),acn _ h]
def NH{P:D->Prop}{ρ:DN}(h:P (.bl (decide (i=j)))):dC (.int j) ρ (λb=>sT (.int i) b P):=E2 h
def Br(w:W)(i:Nat)(r:List Nat):(w.map av).set i (av r)=(w.set i r).map av:=by rw[wL]
def rE(l:List a)(k:Nat)(h:k<=l.length):cutD l (some (k:Int)) none=l.drop k:=by
 unfold cutD
 have b:HT.cg l.length 0 (some (k:Int))=k:=by
  simp only[HT.cg]
  split<;>lia
 have c:HT.cg l.length l.length none=l.length:=rfl;rw[b,c];exact Hk (by simp)
def fW{w:W}(h:p<w.length):fQ (w.map av) (p:Int)\(av (row w p)):=ik (uh h)
def iL{a:List Nat}{p:Nat}(h:p<a.length):fQ (a.map ao) (p:Int)\(ao (a.getD p 0)):=ik (by rw[fi,cW,cZ h];rfl)
def gw(I:Nat->DN->Prop)(c:I 0 a)(d:∀(j:Nat)(a:DN),j<n->I j a->∀A:DN->Prop,(∀a,I (j+1) a->A a)->g (ao j) a λe=>b {nx:=A,ct:=A,bk:=E.nx,rt:=E.rt,xc:=E.xc} e)
  (f:∀a,I n a->E.nx a):mj g b E (dR 0 n) a:=NS I c (λj a i h A k=>by
 have:=d j a i h A k
 unfold ao at this;rw[Int.zero_add];exact this) f
def Hu(n:Nat)(a:List Nat):Prop:=a.length=n/\a.Nodup/\∀x∈a,x<n
def h8(N:Hu n a)(h:x<n):x∈a:=by
 apply FB;intro c
 have:(x::a).length<=(am n).length:=aD (iV.mpr #[c,N.2.1]) λy b=>by
  rcases bY.mp b with rfl|b
  .exact eJ.mpr h
  .exact eJ.mpr (N.2.2 y b)
 rw[jR,cx,N.1] at this;lia
theorem xy:∀(b:List Nat)(m:Nat),m<b.idxOf x->b[m]? ≠some x
 | [],m,h=>by simp at h
 |a::b,m,h=>by
  rw[List.idxOf_cons] at h
  by_cases e:(a==x)=true
  .rw[e] at h;simp at h
  .rw[qi.mpr e] at h
   cases m with
   |zero=>intro z;simp at z;exact e (by simp[z])
   |succ m=>rw[wD];exact xy b m (~~~h)
def IA{a:List Nat}{x:Nat}{P:D->Prop}(h:x∈a)(q:P (ao (a.idxOf x))):di (ao x)=true/\(a.map ao).all di=true/\∃(j:Nat)(z:D),(a.map ao)[j]?\z/\iZ z (ao x)=true/\(∀(m:Nat) z,m<j->(a.map ao)[m]?\z->iZ z (ao x)=false)/\P (.int (j:Nat)):=by
 have b:=zO.mpr h;have e:a[a.idxOf x]?\x:=by rw[cZ b];exact KF some (BB b)
 refine#[rfl,d9 _,a.idxOf x,ao x,by rw[fi,e];rfl,by simp[iZ,ao],λm z c d=>?_,q]
 obtain⟨y,f,rfl⟩:=cV d
 have:y≠x:=by
  rintro rfl;exact xy _ _ c f
 have:¬((y:Int)=(x:Int)):=()
 simpa [iZ,ao] using this
def fu{a:List Nat}{x:Nat}(h:x∈a):(a.map ao)[a.idxOf x]?\(ao x)/\iZ (ao x) (ao x)=true/\∀(m:Nat) z,m<a.idxOf x->(a.map ao)[m]?\z->iZ z (ao x)=false:=by
 have:=IA (P:=λd=>d=ao (a.idxOf x)) h rfl
 obtain⟨_,_,j,z,i,k,l,n⟩:=this;have b:=zO.mpr h;have e:a[a.idxOf x]?\x:=by rw[cZ b];exact KF some (BB b)
 refine#[by rw[fi,e];rfl,by simp[iZ,ao],λm z c f=>?_]
 obtain⟨y,g,rfl⟩:=cV f
 have:y≠x:=by
  rintro rfl;exact xy _ _ c g
 have:¬((y:Int)=(x:Int)):=()
 simpa [iZ,ao] using this
def zo(n:Nat):dR 0 n=(am n).map λ(x:Nat)=>ao x:=by unfold dR ao;simp
theorem nz{g:b->PyData}(h:∀a,(f a).py\(g a)):∀l:List b,iM (l.map f)\(l.map g)
 | []=>rfl
 |a::l=>by
  have:=nz h l
  rw[gF,iM,h a,this];rfl
def tZ(r:List Nat):(av r).py\(nS r):=by
 unfold av nS;rw[D.py,nz (g:=nD) (λn=>rfl)];rfl
def Kz(w:W):(aW w).py\(ug w):=by
 unfold aW ug;rw[D.py,nz (g:=nS) tZ];rfl
def E3{v w:W}{P:D->Prop}(h:P (.bl (decide (v=w)))):sT (aW v) (aW w) P:=by
 refine#[_,_,Kz v,Kz w,by have:=E9 v;lia,?_]
 have:PyData.eqv (ug v) (ug w)=decide (v=w):=by
  by_cases e:v=w
  .rw[GT e];exact(AO v w).mpr e
  .rw[GM e]
   apply qi.mpr;exact λz=>e ((AO v w).mp z)
 rw[tz cQ,this];exact h
def Fh(a b:List Nat):PyData.eqv (nS a) (nS b)=decide (a=b):=by
 by_cases e:a=b
 .rw[GT e];exact(uL a b).mpr e
 .rw[GM e]
  apply qi.mpr;exact λz=>e ((uL a b).mp z)
def M6{v w:List Nat}{P:D->Prop}(h:P (.bl (decide (v=w)))):sT (av v) (av w) P:=by
 refine#[_,_,tZ v,tZ w,by have:=oQ v;lia,?_]
 rw[tz cQ,Fh];exact h
def E4{v w:List Nat}{P:D->Prop}(h:P (.bl (!decide (v=w)))):wU (av v) (av w) P:=by
 refine#[_,_,tZ v,tZ w,by have:=oQ v;lia,?_]
 rw[AC rfl,Fh];exact h
variable {P:Program} {w:World} {mg:Str->Option Value} {base:Heap} {Z:DC} (T:Txt Z mg)
def rX(k:Nat×Nat):PyData:= .tuple [nD k.1,nD k.2]
def PC(k:Nat×Nat):(pairD k).py\(rX k):=by
 unfold pairD;rw[D.py,iM,iM,iM];rfl
def AN(a b:Nat×Nat):PyData.eqv (rX a) (rX b)=true↔a=b:=by
 unfold rX nD;simp[PyData.eqv,PyData.eqvAll]
 constructor
 .rintro⟨c,d⟩;exact aaW () ()
 .rintro rfl;exact#[rfl,rfl]
end uz
namespace TP
open PySem PyProof.Rows TS
def iW(S:Keyed->Prop)(a:SortKind)(M:Model)(A:Around)(E:Value->Shared->Prop)(s:Shared):Prop:=
 ∀(x y:Keyed)(st:SortSt)(Q:Option Bool->SortSt->Prop),S x->S y->kindOf st=a->(∀b,Q (some b) st)->wpS M A E s (lt' x y) Q st
section
variable {S:Keyed->Prop} {k0:SortKind} {M:Model} {A:Around} {E:Value->Shared->Prop} {s:Shared} {st bV:SortSt}
theorem MR(C:iW S k0 M A E s)(e:arr[base+i]?\x)(a:S k)(c:S x)(d:kindOf st=k0)
  (q:∀b,Q (some b) st):wpS M A E s (ju left k arr base i) Q st:=by
 unfold ju;refine Fk (bG e ?_);cases left with
 |true=>exact C _ _ _ _ c a d q
 |false=>exact Fk (C _ _ _ _ a c d λb=>FS (q _))
theorem mr(C:iW S k0 M A E s)(G:∀i,i<n->∃x,arr[base+i]?\x/\S x)(w:S k)(y:kindOf st=k0)(z:g<n)
  (q:∀p,p<=n->Q (some p) st):wpS M A E s (fD left k arr base n g) Q st:=by
 have t:∀{i:Nat}{u:Option Bool->SortSt->Prop},i<n->(∀b,u (some b) st)->wpS M A E s (ju left k arr base i) u st:=λ {i u} d B=>by
  obtain⟨x,e,F⟩:=G i d;exact MR C e w F y B
 rw[Fq];refine Fk (t z λr=>?_)
 have fin:∀lo d,d<=n->
   wpS M A E s (do
    let mut lo:=lo
    let mut d:=d
    for _ in [0:n] do
     if lo>=d then break
     let m:=lo+(d-lo) / 2
     let some more <-ju left k arr base m|return none
     if more then lo:=m+1 else d:=m
    return some d) Q st:=by
  intro lo d H;dsimp only;refine Fk (Re (SB (I:=λ_ c f=>f=st/\∃lo d,c=(none,lo,d)/\d<=n) (Q:=λc f=>f=st/\∃lo d,c=(none,lo,d)/\d<=n) ?_ (λ_ _ h=>h) #[rfl,lo,d,rfl,H]) ?_)
  .rintro x c f _ v ⟨rfl,lo,d,rfl,a⟩
   dsimp only
   by_cases l:lo>=d
   .rw[AC l];exact FS #[rfl,lo,d,rfl,a]
   .rw[tz l]
    refine Fk (t () λb=>?_)
    cases b<;>exact FS #[rfl,_,_,rfl,()]
  .rintro c f ⟨rfl,lo,d,rfl,a⟩
   exact FS (q _ a)
 dsimp only;cases r with
 |true=>
  rw[AC rfl];refine Fk (Re (SB (I:=λ_ c f=>f=st/\∃j o:Nat,c=(none,j,o)) (Q:=λc f=>f=st/\∃j o:Nat,c=(none,j,o)) ?_ (λ_ _ h=>h) #[rfl,0,1,rfl]) ?_)
  .rintro x c f _ v ⟨rfl,j,o,rfl⟩
   dsimp only
   by_cases l:o>=n-g
   .rw[AC l];exact FS #[rfl,j,o,rfl]
   .rw[tz l]
    refine Fk (t () λb=>?_)
    cases b<;>exact FS #[rfl,_,_,rfl]
  .rintro c f ⟨rfl,j,o,rfl⟩
   exact fin _ _ ()
 |false=>
  rw[tz ∅]
  refine Fk (Re (SB (I:=λ_ c f=>f=st/\∃j o:Nat,c=(none,j,o)) (Q:=λc f=>f=st/\∃j o:Nat,c=(none,j,o)) ?_ (λ_ _ h=>h) #[rfl,0,1,rfl]) ?_)
  .rintro x c f _ v ⟨rfl,j,o,rfl⟩
   dsimp only
   by_cases l:o>=g+1
   .rw[AC l];exact FS #[rfl,j,o,rfl]
   .rw[tz l]
    refine Fk (t () λb=>?_)
    cases b<;>exact FS #[rfl,_,_,rfl]
  .rintro c f ⟨rfl,j,o,rfl⟩
   exact fin _ _ ()
def F6(C:iW S k0 M A E s)(o:Ok S k0 st)(a:i<(arrOf st).size)(c:j<(arrOf st).size)(q:∀b,Q (some b) st):wpS M A E s (ltAt' i j) Q st:=by
 rw[ltAt'_eq];obtain⟨d,e⟩:=o.at a;obtain⟨f,g⟩:=o.at c;exact Fk (abe (Fk (bG d (Fk (bG f (C _ _ _ _ e g o.kind q))))))
def MT(C:iW S k0 M A E s){lo n ok:Nat}{Q:Bool->SortSt->Prop}(o:Ok S k0 st)(p:lo+n<=(arrOf st).size)
  (h:∀a,hJ st a lo (lo+n)->Q true a):wpS M A E s (binarySort' lo n ok) Q st:=by
 rw[binarySort'_eq];refine Fk (Re (SB (I:=λ_ c a=>c=(none,⟨⟩)/\hJ st a lo (lo+n)) (Q:=λc a=>c=(none,⟨⟩)/\hJ st a lo (lo+n)) ?_ (λ_ _ h=>h) #[rfl, .refl _ _ _]) ?_)
 .rintro k c a _ j ⟨rfl,d⟩
  have m:=o.step d;have q:=d.size;refine Fk (Re (SB (I:=λ_ c e=>e=a/\∃l r,c=(none,l,r)/\l<=k/\r<=k) (Q:=λc e=>e=a/\∃l r,c=(none,l,r)/\l<=k/\r<=k) ?_ (λ_ _ h=>h) #[rfl,0,k,rfl,(),()]) ?_)
  .rintro x c e _ _ ⟨rfl,l,r,rfl,f,g⟩
   dsimp only
   by_cases i:l>=r
   .rw[AC i];exact FS #[rfl,l,r,rfl,f,g]
   .rw[tz i]
    refine Fk (F6 C m () () λb=>?_)
    cases b
    .exact FS #[rfl,_,_,rfl,(),()]
    .exact FS #[rfl,_,_,rfl,(),()]
  .rintro c e ⟨rfl,l,r,rfl,f,g⟩
   show wpS _ _ _ _ (do moveDown' (lo+k) (lo+l);pure (ForInStep.yield (none,Unit.unit))) _ _
   rw[moveDown'_eq];exact Fk (abm (FS #[rfl,d.trans (hJ.bubble () () () ())]))
 .rintro c a ⟨rfl,d⟩
  exact FS (h a d)
end
section
variable {S:Keyed->Prop} {k0:SortKind} {prog:Program} {w:World} {A:Around} {E:Value->Shared->Prop} {s:Shared} {st bV:SortSt}
def Tr(C:iW S k0 (model prog w) A E s){lo a d:Nat}{Q:AscSt->SortSt->Prop}(o:Ok S k0 st)(k:lo+d<=(arrOf st).size)(l:1<=a)(f:a<=d)(h:∀n,a<=n->n<=d->Q (none,n) st):wpS (model prog w) A E s (EH lo a d) Q st:=by
 unfold EH;refine SB (I:=λx c e=>e=st/\c=(none,x)/\a<=x) ?_ ?_ #[rfl,rfl,bM _]
 .rintro x c e g i ⟨rfl,rfl,_⟩
  dsimp only;refine Fk (F6 C o () () λb=>?_)
  cases b
  .exact FS #[rfl,rfl,()]
  .exact FS (h x g ())
 .rintro c e ⟨rfl,rfl,j⟩
  exact h _ j ()
def Qr(C:iW S k0 (model prog w) A E s){lo n c:Nat}{Q:Option Nat->SortSt->Prop}(o:Ok S k0 st)(f:lo+c<=(arrOf st).size)(g:1<=n)(i:n<=c)
  (h:∀m e,hJ st e lo (lo+c)->1<=m->m<=c->Q (some m) e):wpS (model prog w) A E s (tailL lo n c) Q st:=by
 unfold tailL;have d:hJ st (setArr st (mirror (arrOf st) lo (lo+n) ((lo+n-lo) / 2))) lo (lo+c):=hJ.mirror (bM _) () ()
 exact Fk (um (Fk (Tr C (o.step d) (by rw[d.size];exact f) g i λm a b=>FS (h m _ d () b))))
def Nk(C:iW S k0 (model prog w) A E s){lo n f:Nat}{Q:Option Nat->SortSt->Prop}(o:Ok S k0 st)(B:lo+f<=(arrOf st).size)(F:n+1<=f)
  (h:∀m d,hJ st d lo (lo+f)->1<=m->m<=f->Q (some m) d):wpS (model prog w) A E s (descP lo n f) Q st:=by
 unfold descP;refine Fk (abL (aaX #[rfl,?_]));unfold HI
 have fin:∀m a d,hJ st d lo (lo+f)->1<=m->m<=f->a+1<=m->wpS (model prog w) A E s (if a>0 then do
   reverseSlice' (lo+m-(a+1)) (lo+m)
   tailL lo m f else tailL lo m f) Q d:=λm a d e p q g=>by
  have u:=e.size
  split
  .have i:hJ d (setArr d (mirror (arrOf d) (lo+m-(a+1)) (lo+m) ((lo+m-(lo+m-(a+1))) / 2))) lo (lo+f):=hJ.mirror () () ()
   exact Fk (um (Qr C (o.step (e.trans i)) (by rw[i.size];lia) p q λj k l=>h j k ((e.trans i).trans l)))
  .exact Qr C (o.step e) () p q λj k l=>h j k (e.trans l)
 refine Fk (Re (SB (I:=λx c d=>∃a,c=(none,x,a)/\hJ st d lo (lo+f)/\a+1<=x/\n+1<=x) (Q:=λc d=>∃m a,c=(none,m,a)/\hJ st d lo (lo+f)/\a+1<=m/\m<=f) ?_ ?_ #[0,rfl, .refl _ _ _,(),()]) ?_)
 .rintro x c d G v ⟨a,rfl,e,g,y⟩
  dsimp only;have r:=o.step e;have u:=e.size;refine Fk (F6 C r () () λb=>?_)
  cases b
  .refine Fk (F6 C r () () λb=>?_)
   cases b
   .exact FS #[a+1,rfl,e,(),()]
   .exact FS #[x,a,rfl,e,g,()]
  .by_cases t:a>0
   .simp only[aaU,AC t]
    exact Fk (um (FS #[0,rfl,e.trans (hJ.mirror () () ()),(),()]))
   .simp only[aaU,tz t]
    exact FS #[0,rfl,e,(),()]
 .rintro c d ⟨a,rfl,e,g,y⟩
  exact#[_,a,rfl,e,g,()]
 .rintro c d ⟨m,a,rfl,e,g,z⟩
  exact fin m a d e () z g
def QQ(C:iW S k0 (model prog w) A E s){lo a:Nat}{Q:Option Nat->SortSt->Prop}(o:Ok S k0 st)(d:lo+a<=(arrOf st).size)(k:1<=a)
  (h:∀m e,hJ st e lo (lo+a)->1<=m->m<=a->Q (some m) e):wpS (model prog w) A E s (countRun' lo a) Q st:=by
 rw[z7];refine Fk (Tr C o d (bM 1) k λn f g=>?_);dsimp only
 by_cases i:n=a
 .rw[AC (~~~i)]
  exact FS (h n st (.refl _ _ _) f g)
 .rw[tz (~~~i)]
  by_cases j:n>1
  .rw[AC j]
   refine Fk (F6 C o () () λb=>?_)
   cases b
   .have c:hJ st (setArr st (mirror (arrOf st) lo (lo+n) ((lo+n-lo) / 2))) lo (lo+a):=hJ.mirror (bM _) () ()
    exact Fk (um (Nk C (o.step c) (by rw[c.size];lia) () λl p q=>h l p (c.trans q)))
   .exact FS (h n st (.refl _ _ _) f g)
  .rw[tz j]
   exact Nk C o d () h
end
def PI(l o a b:List Keyed):Prop:=(o++(a++b)).Perm l
def PI.swap(v:PI l o a b):PI l o b a:=((Hl).append_left o).trans v
def PI.many{l o xs a b:List Keyed}(v:PI l o (xs++a) b):PI l (o++xs) a b:=by
 unfold PI at*;simpa [lD] using v
def PI.zi{out a:Array Keyed}(v:PI l out.toList (a.toList.drop b) c)(h:a[b]?\x):PI l (out.push x).toList (a.toList.drop (b+1)) c:=by
 rw[drop_cons h] at v;rw[BD];exact PI.many (xs:= [x]) v
def PI.OS{out a:Array Keyed}{b k:Nat}(v:PI l out.toList (a.toList.drop b) c):PI l (out++a.extract b (b+k)).toList (a.toList.drop (b+k)) c:=by
 rw[vP _ b k] at v;rw[BA,TS.ext_toList,show b+k-b=k by lia];exact v.many
def PI.done{out a b:Array Keyed}(v:PI l out.toList (a.toList.drop c) (b.toList.drop d)):(out++a.extract c a.size++b.extract d b.size).toList.Perm l:=by
 rw[BA,BA,Fm,Fm,lD];exact v
section
variable {S:Keyed->Prop} {k0:SortKind} {M:Model} {A:Around} {E:Value->Shared->Prop} {s:Shared} {st bV:SortSt} {a b:Array Keyed}
def Inv(a b:Array Keyed)(n:Nat)(out:Array Keyed)(c d:Nat):Prop:=PI (a.toList++b.toList) out.toList (a.toList.drop c) (b.toList.drop d)/\c+1<a.size/\d<b.size/\n<=c+d
def Fin{d:Type}(a b:Array Keyed)(n:Nat)(c:Option (Array Keyed)×Array Keyed×Nat×Nat×d):Prop:=
 (∃r,c.1\r/\r.toList.Perm (a.toList++b.toList))\/(c.1=none/\Inv a b n c.2.1 c.2.2.1 c.2.2.2.1)
def Out{d:Type}(a b:Array Keyed)(n:Nat)(r:ForInStep (Option (Array Keyed)×Array Keyed×Nat×Nat×d)):Prop:=match r with
 | .done c=>Fin a b n c
 | .yield c=>c.1=none/\Inv a b n c.2.1 c.2.2.1 c.2.2.2.1
def Bo{xs:Array Keyed}(m:∀x∈xs.toList,S x){i n:Nat}(h:i+n<=xs.size):∀j,j<n->∃x,xs[i+j]?\x/\S x:=λj d=>by
 obtain⟨x,e,c,_⟩:=eG (xs:=xs) (i:=i+j) ()
 exact#[x,e,m x c]
def Zf(g:GS bV st)(v:PI (a.toList++b.toList) out.toList (a.toList.drop c) (b.toList.drop d))(q:c+1<a.size)(o:d<b.size)(t:n<=c+d):
  wpS M A E s (Dj a b k l m c out d) (λr p=>GS bV p/\Out a b n r) st:=by
 unfold Dj;obtain⟨x,e,u,_⟩:=eG (xs:=a) (i:=c) ()
 refine Fk (bG e ?_);have f:=v.zi e;dsimp only
 by_cases h:c+1+1=a.size
 .rw[AC (~~~h)]
  exact FS #[g, .inl #[_,rfl,f.swap.done]]
 .rw[tz (~~~h)]
  have j:Inv a b n (out.push x) (c+1) d:=#[f,(),o,()]
  split
  .exact FS #[g, .inr #[rfl,j]]
  .exact FS #[g,rfl,j]
def Ze(C:iW S k0 M A E s)(q:∀x∈a.toList,S x)(t:∀x∈b.toList,S x)(u:kindOf st=k0)(g:GS bV st)(v:PI (a.toList++b.toList) out.toList (a.toList.drop d) (b.toList.drop c))(f:d+1<a.size)(F:c<b.size)(J:n<=d+c):
  wpS M A E s (uY a b w z B c out d) (λr G=>GS bV G/\Out a b n r) st:=by
 unfold uY;obtain⟨y,h,L,_⟩:=eG (xs:=b) (i:=c) F;refine Fk (bG h ?_);have e:=(v.swap.zi h).swap;dsimp only
 by_cases j:c+1=b.size
 .rw[AC (~~~j)]
  exact FS #[g, .inl #[_,rfl,e.done]]
 .rw[tz (~~~j)]
  obtain⟨x,H,I,N⟩:=eG (xs:=a) (i:=d) ()
  refine Fk (bG H (Fk (mr C (Bo t ()) (q x I) u () λp O=>?_)))
  dsimp only
  by_cases l:p>0
  .rw[AC l]
   have m:=(e.swap.OS (k:=p)).swap
   by_cases o:c+1+p=b.size
   .rw[AC (~~~o)]
    exact FS #[g, .inl #[_,rfl,m.done]]
   .rw[tz (~~~o)]
    exact Zf g m f () ()
  .rw[tz l]
   exact Zf g e f () ()
def lo1(C:iW S k0 M A E s)(e:∀x∈a.toList,S x)(f:∀x∈b.toList,S x)(w:kindOf st=k0)(g:GS bV st)(G:Inv a b n out c h):wpS M A E s (rT a b F B c h out z) (λr H=>GS bV H/\Out a b n r) st:=by
 obtain⟨v,I,j,J⟩:=G;unfold rT;refine Fk (qG λL o=>?_);have l:kindOf L=k0:=o.kind.trans w;have d:=g.trans o;obtain⟨y,N,O,P⟩:=eG (xs:=b) (i:=h) j;refine Fk (bG N (Fk (mr C (Bo e ()) (f y O) l () λp Q=>?_)))
 dsimp only
 by_cases q:p>0
 .rw[AC q]
  have m:=v.OS (k:=p)
  by_cases t:c+p+1=a.size
  .rw[AC (~~~t)]
   exact FS #[d, .inl #[_,rfl,m.swap.done]]
  .rw[tz (~~~t)]
   by_cases u:c+p=a.size
   .rw[AC (~~~u)]
    exact FS #[d, .inl #[_,rfl,m.done]]
   .rw[tz (~~~u)]
    exact Ze C e f l d m () j ()
 .rw[tz q]
  exact Ze C e f l d v I j J
def loT(C:iW S k0 M A E s)(d:∀x∈a.toList,S x)(e:∀x∈b.toList,S x)(f:kindOf st=k0)(g:GS bV st)(c:Option (Array Keyed)×Array Keyed×Nat×Nat×Nat×Nat×Nat)(h:Inv a b n c.2.1 c.2.2.1 c.2.2.2.1):
  wpS M A E s (Dl a b c) (λr i=>GS bV i/\Out a b n r) st:=by
 unfold Dl
 split<;>exact lo1 C d e f g h
theorem loO(C:iW S k0 M A E s)(p:∀x∈a.toList,S x)(q:∀x∈b.toList,S x)(t:kindOf st=k0)(g:GS bV st)(c:Option (Array Keyed)×Array Keyed×Nat×Nat×Nat×Nat)(d:Inv a b n c.2.1 c.2.2.1 c.2.2.2.1):
  wpS M A E s (Dk a b u c) (λr w=>GS bV w/\Out a b (n+1) r) st:=by
 obtain⟨H,out,j,k,I,J⟩:=c;obtain⟨v,z,o,B⟩:=d;dsimp only at v z o B;unfold Dk;dsimp only;obtain⟨y,l,F,L⟩:=eG (xs:=b) (i:=k) o;obtain⟨x,m,G,N⟩:=eG (xs:=a) (i:=j) ()
 refine Fk (bG l (Fk (bG m (Fk (C _ _ _ _ (q y F) (p x G) t λe=>?_)))));cases e with
 |true=>
  dsimp only;rw[AC rfl];refine Fk (bG l ?_);have f:=(v.swap.zi l).swap
  by_cases h:k+1=b.size
  .rw[AC (~~~h)]
   exact FS #[g, .inl #[_,rfl,f.done]]
  .rw[tz (~~~h)]
   have d:Inv a b (n+1) (out.push y) j (k+1):=#[f,(),(),()]
   split
   .exact FS #[g, .inr #[rfl,d]]
   .exact FS #[g,rfl,d]
 |false=>
  dsimp only;rw[tz ∅]
  refine Fk (bG m ?_);have f:=v.zi m
  by_cases h:j+1+1=a.size
  .rw[AC (~~~h)]
   exact FS #[g, .inl #[_,rfl,f.swap.done]]
  .rw[tz (~~~h)]
   have d:Inv a b (n+1) (out.push x) (j+1) k:=#[f,(),(),()]
   split
   .exact FS #[g, .inr #[rfl,d]]
   .exact FS #[g,rfl,d]
def Inv.le(h:Inv a b n out c d)(e:m<=n):Inv a b m out c d:=#[h.1,h.2.1,h.2.2.1,iA e h.2.2.2]
theorem loU(C:iW S k0 M A E s)(q:∀x∈a.toList,S x)(t:∀x∈b.toList,S x)(g:GS bV st)(u:kindOf bV=k0)(c:Option (Array Keyed)×Array Keyed×Nat×Nat×Nat)(v:Inv a b n c.2.1 c.2.2.1 c.2.2.2.1):
  wpS M A E s (tP a b c) (λr i=>GS bV i/\match r with
   | .done c=>∃r,c.1\r/\r.toList.Perm (a.toList++b.toList)
   | .yield c=>c.1=none/\Inv a b (n+1) c.2.1 c.2.2.1 c.2.2.2.1) st:=by
 have H:0<a.size+b.size:=by have:=v.2.1;lia
 unfold tP;refine Fk (Re (SB (I:=λ(x:Nat)(f:Option (Array Keyed)×Array Keyed×Nat×Nat×Nat×Nat)(i:SortSt)=>GS bV i/\f.1=none/\Inv a b (n+min x 1) f.2.1 f.2.2.1 f.2.2.2.1) (Q:=λf i=>GS bV i/\Fin a b (n+1) f) ?_ ?_ #[g,rfl,v.le ()]) ?_)
 .rintro x f i _ _ ⟨j,p,l⟩
  refine Re (loO C q t (j.kind.trans u) j f l) λr w #[m,o]=>?_;cases r with
  |done d=>
   exists m
   rcases o with o| ⟨y,z⟩
   .exact .inl o
   .exact .inr #[y,z.le ()]
  |yield d=>exact#[m,o.1,o.2.le ()]
 .rintro f i ⟨j,p,l⟩
  exact#[j, .inr #[p,l.le ()]]
 .rintro⟨J,L⟩ i ⟨j,o⟩
  rcases o with ⟨r,e,k⟩ | ⟨e,B⟩
  .dsimp only at e
   subst e;exact FS #[j,r,rfl,k]
  .dsimp only at e
   subst e;dsimp only;refine Fk (abL (aaX #[rfl,?_]));refine Fk (Re (SB (I:=λ(x:Nat)(f:Option (Array Keyed)×Array Keyed×Nat×Nat×Nat×Nat×Nat)(i:SortSt)=>GS bV i/\f.1=none/\Inv a b (n+1) f.2.1 f.2.2.1 f.2.2.2.1) (Q:=λf i=>GS bV i/\Fin a b (n+1) f) ?_ (λf i h=>#[h.1, .inr h.2]) #[j,rfl,B]) ?_)
   .rintro x f i _ _ ⟨j,p,l⟩
    refine Re (loT C q t (j.kind.trans u) j f l) λr w #[m,o]=>?_;cases r with
    |done d=>exact#[m,o]
    |yield d=>exact#[m,o]
   .rintro⟨N,O⟩ i ⟨j,o⟩
    rcases o with ⟨r,e,k⟩ | ⟨e,F⟩
    .dsimp only at e
     subst e;exact FS #[j,r,rfl,k]
    .dsimp only at e
     subst e;exact Fk (qG λP G=>FS #[j.trans G,rfl,F])
def LU(C:iW S k0 M A E s)(p:∀x∈a.toList,S x)(t:∀x∈b.toList,S x)(u:kindOf st=k0)(B:0<a.size)(v:0<b.size)(q:∀r c,GS st c->r.toList.Perm (a.toList++b.toList)->Q r c):wpS M A E s (qD a b) Q st:=by
 rw[Du];refine Fk (abL (aaX #[rfl,?_]));obtain⟨y,m,F,G⟩:=eG (xs:=b) (i:=0) v;refine Fk (bG m ?_);have w:PI (a.toList++b.toList) (#[]:Array Keyed).toList (a.toList.drop 0) (b.toList.drop 0):= .refl _;have h:=(w.swap.zi m).swap;have z:(#[]:Array Keyed).push y= [y].toArray:=rfl;rw[z] at h
 by_cases j:1=b.size
 .rw[AC (~~~j)]
  exact FS (q _ _ (GS.refl _) h.done)
 .rw[tz (~~~j)]
  by_cases g:0+1=a.size
  .rw[AC (~~~g)]
   exact FS (q _ _ (GS.refl _) h.swap.done)
  .rw[tz (~~~g)]
   refine Fk (abe ?_);refine Fk (Re (SB (I:=λ(x:Nat)(f:Option (Array Keyed)×Array Keyed×Nat×Nat×Nat)(c:SortSt)=>GS st c/\f.1=none/\Inv a b (x+1) f.2.1 f.2.2.1 f.2.2.2.1) (Q:=λf c=>GS st c/\∃r,f.1\r/\r.toList.Perm (a.toList++b.toList)) ?_ ?_ #[GS.refl _,rfl,h,by show 0+1<a.size;lia,by show 1<b.size;lia,by show 0+1<=0+1;lia]) ?_)
   .rintro x f c _ _ ⟨k,j,g⟩
    refine Re (loU C p t k u f g) λr H #[n,o]=>?_;cases r with
    |done d=>exact#[n,o]
    |yield d=>exact#[n,o]
   .rintro f c ⟨k,j,g⟩
    have:=g.2.2.2
    have:=g.2.1
    have:=g.2.2.1
    lia
   .rintro⟨J,L⟩ c ⟨k,r,e,l⟩
    dsimp only at e;subst e;exact FS (q r c k l)
end
def PI.tail(v:PI l o (a++xs) b)(p:c.Perm xs):PI l (o++c) a b:=
 PI.many ((((Hl.trans (p.append_left a)).append_right b).append_left o).trans v)
def PI.Gy{out a:Array Keyed}(v:PI l out.toList (a.toList.take b) c)(f:1<=b)(h:a[b-1]?\x):PI l (out.push x).toList (a.toList.take (b-1)) c:=by
 obtain⟨d,e⟩:=dZ.mp (OQ h)
 have:=abK d
 rw[show b-1+1=b by lia,e] at this
 rw[this] at v;rw[BD];exact v.tail (.refl _)
def PI.Tw{out a:Array Keyed}(v:PI l out.toList (a.toList.take b) c)(d:p<=b):PI l (out++(a.extract p b).reverse).toList (a.toList.take p) c:=by
 rw[wA a.toList d] at v;rw[BA,Array.toList_reverse,TS.ext_toList];exact v.tail (abv _)
def PI.told(v:PI l out.toList (a.toList.take c) (b.toList.take d)):(lH a b out c d).toList.Perm l:=by
 unfold lH;rw[BA,BA,TR,TR,Array.toList_reverse];exact((abv _).append_left _).trans (Hl.trans v)
section
variable {S:Keyed->Prop} {k0:SortKind} {M:Model} {A:Around} {E:Value->Shared->Prop} {s:Shared} {st bV:SortSt} {a b:Array Keyed}
def oj(a b:Array Keyed)(n:Nat)(c d:Nat)(out:Array Keyed):Prop:=PI (a.toList++b.toList) out.toList (a.toList.take c) (b.toList.take d)/\1<=c/\c<=a.size/\2<=d/\d<=b.size/\n+c+d<=a.size+b.size
def Uy{d:Type}(a b:Array Keyed)(n:Nat)(c:Option (Array Keyed)×Nat×Nat×Array Keyed×d):Prop:=
 (∃r,c.1\r/\r.toList.Perm (a.toList++b.toList))\/(c.1=none/\oj a b n c.2.1 c.2.2.1 c.2.2.2.1)
def MG{d:Type}(a b:Array Keyed)(n:Nat)(r:ForInStep (Option (Array Keyed)×Nat×Nat×Array Keyed×d)):Prop:=match r with
 | .done c=>Uy a b n c
 | .yield c=>c.1=none/\oj a b n c.2.1 c.2.2.1 c.2.2.2.1
def YC(g:GS bV st)(d:oj a b n c f out):wpS M A E s (CA a b k l m c out f) (λr o=>GS bV o/\MG a b n r) st:=by
 obtain⟨v,p,u,q,t,w⟩:=d;unfold CA;obtain⟨x,h,y,_⟩:=eG (xs:=a) (i:=c-1) ()
 refine Fk (bG h ?_);have j:=v.Gy p h
 by_cases e:c-1=0
 .rw[AC (~~~e)]
  exact FS #[g, .inl #[_,rfl,j.told]]
 .rw[tz (~~~e)]
  have d:oj a b n (c-1) f (out.push x):=#[j,(),(),q,t,()]
  split
  .exact FS #[g, .inr #[rfl,d]]
  .exact FS #[g,rfl,d]
def qK(C:iW S k0 M A E s)(t:∀x∈a.toList,S x)(u:∀x∈b.toList,S x)(w:kindOf st=k0)(g:GS bV st)(G:oj a b n d c out):wpS M A E s (uP a b z B F c out d) (λr H=>GS bV H/\MG a b n r) st:=by
 obtain⟨v,j,k,N,O,P⟩:=G;unfold uP;obtain⟨y,l,Q,_⟩:=eG (xs:=b) (i:=c-1) ()
 refine Fk (bG l ?_);have f:=(v.swap.Gy () l).swap
 by_cases e:c-1=1
 .rw[AC (~~~e)]
  exact FS #[g, .inl #[_,rfl,f.swap.told]]
 .rw[tz (~~~e)]
  obtain⟨x,I,J,R⟩:=eG (xs:=a) (i:=d-1) ()
  refine Fk (bG I (Fk (mr C (Bo u ()) (t x J) w () λp L=>?_)))
  dsimp only
  by_cases m:c-1-p>0
  .rw[AC m]
   have h:=(f.swap.Tw L).swap
   by_cases o:p=1
   .rw[AC (~~~o)]
    exact FS #[g, .inl #[_,rfl,h.swap.told]]
   .rw[tz (~~~o)]
    by_cases q:p=0
    .rw[AC (~~~q)]
     exact FS #[g, .inl #[_,rfl,h.told]]
    .rw[tz (~~~q)]
     exact YC g #[h,j,k,(),(),()]
  .rw[tz m]
   exact YC g #[f,j,k,(),(),()]
def wX(C:iW S k0 M A E s)(c:∀x∈a.toList,S x)(d:∀x∈b.toList,S x)(u:kindOf st=k0)(g:GS bV st)(F:oj a b n e f out):wpS M A E s (yC a b B z e f out w) (λr G=>GS bV G/\MG a b n r) st:=by
 obtain⟨v,H,I,k,l,J⟩:=F;unfold yC;refine Fk (qG λL m=>?_);have h:kindOf L=k0:=m.kind.trans u;have j:=g.trans m;obtain⟨y,N,O,Q⟩:=eG (xs:=b) (i:=f-1) ()
 refine Fk (bG N (Fk (mr C (Bo c ()) (d y O) h () λp P=>?_)))
 dsimp only
 by_cases o:e-p>0
 .rw[AC o]
  have q:=v.Tw P
  by_cases t:p=0
  .rw[AC (~~~t)]
   exact FS #[j, .inl #[_,rfl,q.told]]
  .rw[tz (~~~t)]
   exact qK C c d h j #[q,(),(),k,l,()]
 .rw[tz o]
  exact qK C c d h j #[v,H,I,k,l,J]
def hiT(C:iW S k0 M A E s)(d:∀x∈a.toList,S x)(e:∀x∈b.toList,S x)(f:kindOf st=k0)(g:GS bV st)(c:S7)(h:oj a b n c.2.1 c.2.2.1 c.2.2.2.1):
  wpS M A E s (CC a b c) (λr i=>GS bV i/\MG a b n r) st:=by
 unfold CC
 split<;>exact wX C d e f g h
theorem hiO(C:iW S k0 M A E s)(t:∀x∈a.toList,S x)(u:∀x∈b.toList,S x)(w:kindOf st=k0)(g:GS bV st)(c:S6)(d:oj a b n c.2.1 c.2.2.1 c.2.2.2.1):
  wpS M A E s (CB a b z c) (λr B=>GS bV B/\MG a b (n+1) r) st:=by
 obtain⟨J,j,k,out,L,N⟩:=c;obtain⟨v,o,F,p,q,G⟩:=d;dsimp only at v o F p q G;unfold CB;dsimp only;obtain⟨y,l,H,O⟩:=eG (xs:=b) (i:=k-1) ()
 obtain⟨x,m,I,P⟩:=eG (xs:=a) (i:=j-1) ()
 refine Fk (bG l (Fk (bG m (Fk (C _ _ _ _ (u y H) (t x I) w λe=>?_)))));cases e with
 |true=>
  dsimp only;rw[AC rfl];refine Fk (bG m ?_);have f:=v.Gy o m
  by_cases h:j-1=0
  .rw[AC (~~~h)]
   exact FS #[g, .inl #[_,rfl,f.told]]
  .rw[tz (~~~h)]
   have d:oj a b (n+1) (j-1) k (out.push x):=#[f,(),(),p,q,()]
   split
   .exact FS #[g, .inr #[rfl,d]]
   .exact FS #[g,rfl,d]
 |false=>
  dsimp only;rw[tz ∅]
  refine Fk (bG l ?_);have f:=(v.swap.Gy () l).swap
  by_cases h:k-1=1
  .rw[AC (~~~h)]
   exact FS #[g, .inl #[_,rfl,f.swap.told]]
  .rw[tz (~~~h)]
   have d:oj a b (n+1) j (k-1) (out.push y):=#[f,(),(),(),(),()]
   split
   .exact FS #[g, .inr #[rfl,d]]
   .exact FS #[g,rfl,d]
def oj.le(h:oj a b n c d out)(e:m<=n):oj a b m c d out:=#[h.1,h.2.1,h.2.2.1,h.2.2.2.1,h.2.2.2.2.1,by have:=h.2.2.2.2.2;lia]
theorem hiU(C:iW S k0 M A E s)(t:∀x∈a.toList,S x)(u:∀x∈b.toList,S x)(g:GS bV st)(v:kindOf bV=k0)(c:S5)(p:oj a b n c.2.1 c.2.2.1 c.2.2.2.1):
  wpS M A E s (tF a b c) (λr i=>GS bV i/\match r with
   | .done c=>∃r,c.1\r/\r.toList.Perm (a.toList++b.toList)
   | .yield c=>c.1=none/\oj a b (n+1) c.2.1 c.2.2.1 c.2.2.2.1) st:=by
 have H:0<a.size+b.size:=by have:=p.2.1;have:=p.2.2.1;lia
 unfold tF;refine Fk (Re (SB (I:=λ(x:Nat)(f:S6)(i:SortSt)=>GS bV i/\f.1=none/\oj a b (n+min x 1) f.2.1 f.2.2.1 f.2.2.2.1) (Q:=λf i=>GS bV i/\Uy a b (n+1) f) ?_ ?_ #[g,rfl,p.le ()]) ?_)
 .rintro x f i _ _ ⟨j,q,l⟩
  refine Re (hiO C t u (j.kind.trans v) j f l) λr w #[m,o]=>?_;cases r with
  |done d=>
   exists m
   rcases o with o| ⟨y,z⟩
   .exact .inl o
   .exact .inr #[y,z.le ()]
  |yield d=>exact#[m,o.1,o.2.le ()]
 .rintro f i ⟨j,q,l⟩
  exact#[j, .inr #[q,l.le ()]]
 .rintro⟨J,L⟩ i ⟨j,o⟩
  rcases o with ⟨r,e,k⟩ | ⟨e,B⟩
  .dsimp only at e
   subst e;exact FS #[j,r,rfl,k]
  .dsimp only at e
   subst e;dsimp only;refine Fk (abL (aaX #[rfl,?_]));refine Fk (Re (SB (I:=λ(x:Nat)(f:S7)(i:SortSt)=>GS bV i/\f.1=none/\oj a b (n+1) f.2.1 f.2.2.1 f.2.2.2.1) (Q:=λf i=>GS bV i/\Uy a b (n+1) f) ?_ (λf i h=>#[h.1, .inr h.2]) #[j,rfl,B]) ?_)
   .rintro x f i _ _ ⟨j,q,l⟩
    refine Re (hiT C t u (j.kind.trans v) j f l) λr w #[m,o]=>?_;cases r with
    |done d=>exact#[m,o]
    |yield d=>exact#[m,o]
   .rintro⟨N,O⟩ i ⟨j,o⟩
    rcases o with ⟨r,e,k⟩ | ⟨e,F⟩
    .dsimp only at e
     subst e;exact FS #[j,r,rfl,k]
    .dsimp only at e
     subst e;exact Fk (qG λP G=>FS #[j.trans G,rfl,F])
def LS(C:iW S k0 M A E s)(p:∀x∈a.toList,S x)(t:∀x∈b.toList,S x)(u:kindOf st=k0)(v:0<a.size)(z:0<b.size)(q:∀r c,GS st c->r.toList.Perm (a.toList++b.toList)->Q r c):wpS M A E s (qC a b) Q st:=by
 rw[Ds];refine Fk (abL (aaX #[rfl,?_]));obtain⟨x,m,B,F⟩:=eG (xs:=a) (i:=a.size-1) ()
 refine Fk (bG m ?_)
 have w:PI (a.toList++b.toList) (#[]:Array Keyed).toList (a.toList.take a.size) (b.toList.take b.size):=by
  rw[Hk (by simp),Hk (by simp)];exact .refl _
 have h:=w.Gy v m;have y:(#[]:Array Keyed).push x= [x].toArray:=rfl;rw[y] at h
 by_cases j:a.size-1=0
 .rw[AC (~~~j)]
  exact FS (q _ _ (GS.refl _) h.told)
 .rw[tz (~~~j)]
  by_cases g:b.size=1
  .rw[AC (~~~g)]
   exact FS (q _ _ (GS.refl _) h.swap.told)
  .rw[tz (~~~g)]
   refine Fk (abe ?_);refine Fk (Re (SB (I:=λ(x:Nat)(f:S5)(c:SortSt)=>GS st c/\f.1=none/\oj a b (x+1) f.2.1 f.2.2.1 f.2.2.2.1) (Q:=λf c=>GS st c/\∃r,f.1\r/\r.toList.Perm (a.toList++b.toList)) ?_ ?_ #[GS.refl _,rfl,h,by show 1<=a.size-1;lia,by show a.size-1<=a.size;lia,by show 2<=b.size;lia,bM _,by show 0+1+(a.size-1)+b.size<=a.size+b.size;lia]) ?_)
   .rintro x f c _ _ ⟨k,j,g⟩
    refine Re (hiU C p t k u f g) λr G #[n,o]=>?_;cases r with
    |done d=>exact#[n,o]
    |yield d=>exact#[n,o]
   .rintro f c ⟨k,j,g⟩
    have:=g.2.2.2.2.2
    have:=g.2.1
    lia
   .rintro⟨H,J⟩ c ⟨k,r,e,l⟩
    dsimp only at e;subst e;exact FS (q r c k l)
end
section
variable {S:Keyed->Prop} {k0:SortKind} {prog:Program} {w:World} {A:Around} {E:Value->Shared->Prop} {s:Shared} {st bV:SortSt}
def Kn{a:Array Keyed}(m:∀x∈a.toList,S x)(i j:Nat):∀x∈(a.extract i j).toList,S x:=λx b=>by
 rw[TS.ext_toList] at b;exact m x (List.mem_of_mem_drop (ab5 b))
def LR(C:iW S k0 (model prog w) A E s)(o:Ok S k0 st)(t:failedOf st=none)(M:(pendingOf st)[i]?\(d,b,n))(N:(pendingOf st)[i+1]?\(d+b,h,L))(O:1<=b)(X:1<=h)(Y:d+b+h<=(arrOf st).size)
  (q:∀e,(arrOf e).Perm (arrOf st)->kindOf e=kindOf st->failedOf e=none->pendingOf e=((pendingOf st).setIfInBounds i (d,b+h,n)).eraseIdxIfInBounds (i+1)->Q true e):
  wpS (model prog w) A E s (mergeAt' i) Q st:=by
 rw[Dr];refine Fk (abe ?_);rw[M,N];dsimp only;refine Fk (Qx ?_);generalize ((pendingOf st).setIfInBounds i (d,b+h,n)).eraseIdxIfInBounds (i+1)=F at q;have l:kindOf (setPending st F)=k0:=o.kind;obtain⟨P,u,v,_⟩:=eG (xs:=arrOf st) (i:=d+b) ()
 refine Fk (bG u (Fk (mr C (Bo o.mem ()) (o.mem P v) l () λk Z=>?_)))
 dsimp only
 by_cases G:b-k=0
 .rw[AC (~~~G)]
  exact FS (q _ (.refl _) rfl t rfl)
 rw[tz (~~~G)]
 obtain⟨R,x,y,_⟩:=eG (xs:=arrOf st) (i:=d+k+(b-k)-1) ()
 refine Fk (bG x (Fk (mr C (Bo o.mem ()) (o.mem R y) l () λm hm=>?_)))
 dsimp only
 by_cases H:m=0
 .rw[AC (~~~H)]
  exact FS (q _ (.refl _) rfl t rfl)
 rw[tz (~~~H)]
 have z:((arrOf st).extract (d+k) (d+b)).size=b-k:=by rw[Array.size_extract];lia
 have B:((arrOf st).extract (d+b) (d+b+m)).size=m:=by rw[Array.size_extract];lia
 have fin:∀(r:Array Keyed)(e:SortSt),GS (setPending st F) e->r.toList.Perm (((arrOf st).extract (d+k) (d+b)).toList++((arrOf st).extract (d+b) (d+b+m)).toList)->
   wpS (model prog w) A E s (do
    modify λs=>setArr s (r.toList.zipIdx.foldl (λa (p,j)=>a.setIfInBounds (d+k+j) p) (arrOf s))
    return (failedOf (<-get)).isNone) Q e:=by
  intro r e g f;refine Fk (abm (Fk (abe ?_)));have I:failedOf e=none:=g.failed.trans t
  have T:r.size=b-k+m:=by
   have:=f.length_eq
   rw[cI,dY,dY,dY,z,B] at this;exact this
  have J:d+k+r.size<=(arrOf e).size:=by rw[g.arr];show _<=(arrOf st).size;lia
  show wpS _ _ _ _ (pure (failedOf e).isNone) Q (setArr e (putAt (arrOf e) r (d+k)));rw[I];have U:arrOf e=arrOf st:=g.arr;rw[U] at J ⊢;refine FS (q _ (GC J ?_) g.kind I g.pend);rw[T];refine f.trans ?_;rw[TS.ext_toList,TS.ext_toList,show d+b-(d+k)=b-k by lia,show d+b+m-(d+b)=m by lia,wA _ (show b-k<=b-k+m by lia),List.drop_drop,show d+k+(b-k)=d+b by lia,show b-k+m-(b-k)=m by lia]
 by_cases c:b-k<=m
 .rw[AC c]
  exact Fk (LU C (Kn o.mem _ _) (Kn o.mem _ _) l (by rw[z];lia) (by rw[B];lia) λr e g f=>fin r e g f)
 .rw[tz c]
  exact Fk (LS C (Kn o.mem _ _) (Kn o.mem _ _) l (by rw[z];lia) (by rw[B];lia) λr e g f=>fin r e g f)
def oE:Nat->List (Nat×Nat)->Nat->Prop
 |a,[],b=>a=b
 |a,e::r,b=>e.1=a/\1<=e.2/\oE (a+e.2) r b
theorem oE.app:∀{i g:List (Nat×Nat)}{a b:Nat},oE a (i++g) b↔∃c,oE a i c/\oE c g b
 | [],g,a,b=>#[λh=>#[a,rfl,h],λ#[c,d,f]=>by cases d;exact f]
 |e::i,g,a,b=>#[λ#[d,f,l]=>let #[c,j,k]:=oE.app.mp l;#[c,#[d,f,j],k],λ#[c,#[d,f,j],k]=>#[d,f,oE.app.mpr #[c,j,k]]]
theorem oE.le:∀{l:List (Nat×Nat)}{a b:Nat},oE a l b->a+l.length<=b
 | [],a,b,h=>by cases h;simp
 |e::l,a,b,#[_,d,c]=>by
  have:=oE.le c
  rw[cx];lia
structure SI (S:Keyed->Prop) (k0:SortKind) (a0:Array Keyed) (st:SortSt) (lo:Nat):Prop where
 ok:Ok S k0 st
 failed:failedOf st=none
 perm:(arrOf st).Perm a0
 cov:oE 0 ((pendingOf st).toList.map λe=>(e.1,e.2.1)) lo
 le:lo<=a0.size
theorem SI.size{a:Array Keyed}{lo:Nat}(h:SI S k0 a st lo):(arrOf st).size=a.size:=h.perm.size_eq
def Ug(C:iW S k0 (model prog w) A E s){j:Array Keyed}{lo i:Nat}{Q:Bool->SortSt->Prop}(h:SI S k0 j st lo)(v:i+1<(pendingOf st).size)
  (q:∀a,SI S k0 j a lo->(pendingOf a).size=(pendingOf st).size-1->Q true a):wpS (model prog w) A E s (mergeAt' i) Q st:=by
 have z:(pendingOf st)[i]? =some (pendingOf st)[i]:=ab1 _ i ()
 have B:(pendingOf st)[i+1]? =some (pendingOf st)[i+1]:=ab1 _ (i+1) v
 have k:(pendingOf st).toList=(pendingOf st).toList.take i++((pendingOf st)[i]::(pendingOf st)[i+1]::(pendingOf st).toList.drop (i+2)):=by
  conv=>lhs;rw[<-n6 i (pendingOf st).toList]
  congr 1
  rw[rg (by rw[dY];lia),rg (by rw[dY];lia)]
  rfl
 generalize P:(pendingOf st)[i]=x at*;generalize R:(pendingOf st)[i+1]=y at*;obtain⟨d,e,F⟩:=x;obtain⟨T,f,U⟩:=y;have l:=h.cov;rw[k,cX,gF,gF] at l;obtain⟨c,G,H⟩:=oE.app.mp l;obtain⟨m,n,o,r,g⟩:=H;dsimp only at m n o r g;subst m;subst o;have I:=g.le;have X:=h.size;have J:=h.le;refine LR C h.ok h.failed z B n r () λa t L M N=>?_
 have u:(pendingOf a).toList=(pendingOf st).toList.take i++((d,e+f,F)::(pendingOf st).toList.drop (i+2)):=by
  rw[N,Array.toList_eraseIdxIfInBounds,Array.toList_setIfInBounds]
  conv=>lhs;rw[k]
  have b:((pendingOf st).toList.take i).length=i:=by rw[jS,dY];lia
  rw[abS _ _ (),List.eraseIdx_append_of_length_le (),b,rj,show i+1-i=1 by lia]
  rfl
 refine q a #[#[λp O=>h.ok.mem p ((KP.mp t).mem_iff.mp O),L.trans h.ok.kind],M,t.trans h.perm,?_,h.le] ?_
 .rw[u,cX,gF]
  refine oE.app.mpr #[d,G,rfl,?_,?_]
  .show 1<=e+f;lia
  .show oE (d+(e+f)) _ lo
   rw[<-Nat.add_assoc];exact g
 .rw[<-dY,u,cI,cx,jS,BE,dY];lia
def in0(C:iW S k0 (model prog w) A E s){a:Array Keyed}{lo f:Nat}(h:SI S k0 a st lo):wpS (model prog w) A E s (KI f) (λr b=>match r with| .done c=>c=(none,⟨⟩)/\SI S k0 a b lo| .yield c=>c=(none,⟨⟩)/\SI S k0 a b lo) st:=by
 unfold KI;refine Fk (abe ?_)
 by_cases d:(pendingOf st).size>1
 .rw[AC d]
  cases e:(pendingOf st)[(pendingOf st).size-2]? with
  |none=>exact FS #[rfl,h]
  |some x=>
   dsimp only
   split
   .exact FS #[rfl,h]
   .exact Fk (Ug C h () λb g _=>FS #[rfl,g])
 .rw[tz d]
  exact FS #[rfl,h]
def SI.Ky{a:Array Keyed}{lo n:Nat}(h:SI S k0 a st lo)(b:1<=n)(c:lo+n<=a.size):SI S k0 a (setPending st ((pendingOf st).push (lo,n,0))) (lo+n):=by
 refine#[#[h.ok.mem,h.ok.kind],h.failed,h.perm,?_,c];show oE 0 (((pendingOf st).push (lo,n,0)).toList.map _) _;rw[BD,cX];exact oE.app.mpr #[lo,h.cov,rfl,b,rfl]
theorem Py(C:iW S k0 (model prog w) A E s){b:Array Keyed}{lo n:Nat}(h:SI S k0 b st lo)(i:1<=n)(k:lo+n<=b.size):
  wpS (model prog w) A E s (nF b.size lo n) (λr a=>match r with| .done c=>False| .yield c=>c=(none,lo+n)/\SI S k0 b a (lo+n)) st:=by
 unfold nF;refine Fk (abe ?_);cases(pendingOf st).back? with
 |none=>exact Fk (abm (FS #[rfl,h.Ky i k]))
 |some e=>
  dsimp only;refine Fk (Re (SB (I:=λ(x:Nat)(c:U1)(a:SortSt)=>c=(none,⟨⟩)/\SI S k0 b a lo) (Q:=λc a=>c=(none,⟨⟩)/\SI S k0 b a lo) (λx c a _ _ g=>?_) (λc a g=>g) #[rfl,h]) ?_)
  .refine Re (in0 C g.2) λr m o=>?_
   cases r with
   |done d=>exact o
   |yield d=>exact o
  .rintro c a ⟨rfl,f⟩
   dsimp only;refine Fk (abm (Fk (abm (FS #[rfl,SI.Ky #[#[f.ok.mem,f.ok.kind],f.failed,f.perm,?_,f.le] i k]))));refine Eq.mp (KF (λl=>oE 0 l lo) ?_) f.cov;apply wI;intro j;show _=(((pendingOf a).modify _ _).toList.map _)[j]?;rw[fi,fi,gE,gE,Array.getElem?_modify]
   split
   .cases(pendingOf a)[j]? <;>rfl
   .rfl
def SI.ZS{a:Array Keyed}{lo c:Nat}{b:SortSt}(h:SI S k0 a st lo)(t:hJ st b lo c):SI S k0 a b lo:=
 #[h.ok.step t,t.failed.trans h.failed,t.perm.trans h.perm,by rw[t.pend];exact h.cov,h.le]
theorem Wx(C:iW S k0 (model prog w) A E s){a:Array Keyed}{lo:Nat}(h:SI S k0 a st lo):
  wpS (model prog w) A E s (Ec a.size lo) (λr b=>match r with| .done c=>c=(none,lo)/\a.size<=lo/\SI S k0 a b lo| .yield c=>∃n,1<=n/\c=(none,lo+n)/\SI S k0 a b (lo+n)) st:=by
 unfold Ec;have q:=h.size;have j:=h.le
 by_cases f:lo>=a.size
 .rw[AC f];exact FS #[rfl,f,h]
 .rw[tz f]
  refine Fk (QQ C h.ok () () λm t k g u=>?_)
  dsimp only;have e:=h.ZS k;have l:=e.size
  by_cases i:m<minRun' a.size a.size 0
  .rw[AC i]
   refine Fk (abL (aaX #[rfl,?_]));refine Fk (MT C e.ok () λv p=>?_)
   rw[tz ∅]
   refine Re (Py C (e.ZS p) () ()) λr b o=>?_
   cases r with
   |done d=>exact o.elim
   |yield d=>exact#[_,(),o.1,o.2]
  .rw[tz i]
   refine Re (Py C e g ()) λr b o=>?_
   cases r with
   |done d=>exact o.elim
   |yield d=>exact#[_,g,o.1,o.2]
def ite_le [Decidable c]:(if c then p-1 else p)<=p:=by split<;>lia
theorem Wv(C:iW S k0 (model prog w) A E s){Q:Unit->SortSt->Prop}(o:Ok S k0 st)(j:failedOf st=none)(k:pendingOf st= #[])
  (q:∀a,(arrOf a).Perm (arrOf st)->failedOf a=none->Q ⟨⟩ a):wpS (model prog w) A E s sortRuns' Q st:=by
 rw[zw];refine Fk (abe ?_);have l:SI S k0 (arrOf st) st 0:=#[o,j, .refl _,by rw[k];rfl,fg _]
 refine Fk (Re (SB (I:=λ(x:Nat)(c:Option Unit×Nat)(a:SortSt)=>∃lo,c=(none,lo)/\SI S k0 (arrOf st) a lo) (Q:=λc a=>∃lo,c=(none,lo)/\SI S k0 (arrOf st) a lo) (λx c a _ _ b=>?_) (λc a b=>b) #[0,rfl,l]) ?_)
 .obtain⟨lo,rfl,f⟩:=b
  refine Re (Wx C f) λr g o=>?_;cases r with
  |done d=>exact#[_,o.1,o.2.2]
  |yield d=>
   obtain⟨n,t,e,m⟩:=o;exact#[lo+n,e,m]
 .rintro c a ⟨lo,rfl,f⟩
  dsimp only;refine Fk (Re (SB (I:=λ(x:Nat)(c:U1)(a:SortSt)=>c=(none,⟨⟩)/\SI S k0 (arrOf st) a lo) (Q:=λc a=>c=(none,⟨⟩)/\SI S k0 (arrOf st) a lo) (λx c a _ _ b=>?_) (λc a b=>b) #[rfl,f]) ?_)
  .unfold Qh
   refine Fk (abe ?_)
   by_cases h:(pendingOf a).size<=1
   .rw[AC h];exact FS #[rfl,b.2]
   .rw[tz h]
    exact Fk (Ug C b.2 (Nat.lt_of_le_of_lt (Nat.succ_le_succ ite_le) ()) λa p _=>FS #[rfl,p])
  .rintro c g ⟨rfl,i⟩
   exact FS (q g i.perm i.failed)
end
section
variable {S:Keyed->Prop} {k0:SortKind} {prog:Program} {w:World} {A:Around} {E:Value->Shared->Prop} {s:Shared}
def Keeps(s a:Shared):Prop:=∀b o,s.heap.get? b\o->a.heap.get? b\o
def vv(a:List Value):(a.toArray.zip a.toArray).toList=a.map λv=>(v,v):=by
 rw[Array.toList_zip];show List.zip a a=_
 induction a with
 |nil=>rfl
 |cons v r b=>rw[Ex,gF,b]
def wb(i:s.heap.get? a\(seqObj "list" c.toArray n))(L:2<=c.length)(M:c.length<=1000)
  {s0:Shared} (k:∀b o,s0.heap.get? b\o->b≠a/\s.heap.get? b\o)
  (z:∀(E:Value->Shared->Prop)(d:Shared)(m:SortKind->Shared->Prop),Keeps s0 d->m k0 d->wpAny (model prog w) A (keyKind' c.toArray) m E d)
  (C:∀(E:Value->Shared->Prop)(d:Shared),Keeps s0 d->iW S k0 (model prog w) A E d) (mem:∀v∈c,S (v,v))
  (h:∀out:Array Keyed,out.toList.Perm (c.map λv=>(v,v))->P (.done (.ret .none)) {s with heap:=sortedHeap s.heap a c (out.map (·.2))}):
  wpAny (model prog w) A (Builtin.«list.sort» #[[.ref a],[]]) P E s:=by
 rw[list_sort_plain];have q:a<s.heap.objs.size:=Do i;have N:1000<sizeLine:=∅
 refine ir (listItems_at i rfl ?_);refine ir (acq i rfl ?_ (by rw[cR];lia) (fg _))
 obtain⟨l,r⟩:∃l,(s.heap.update a (Obj.mapSeq λ_=> #[])).get? a\(seqObj "list" #[] l):=#[_,ab0 i (λ_=> #[])];refine ir (ac3 r rfl ?_);refine ir (wpAny_newTuple ?_ (by show c.length<=_;lia))
 refine ir (aa9 ?_ (fg _));refine KM ?_
 have t:(((s.heap.update a (Obj.mapSeq λ_=> #[])).push (seqObj "tuple" c.toArray 0)).push (seqObj "list" #[] 0)).get? a\(seqObj "list" #[] l):=by
  rw[abw _ _ _ (by rw[aa6,aa0];exact bJ (ur q)),abw _ _ _ (by rw[aa0];exact bJ q)]
  exact r
 show wpAny (model prog w) A _ P E {s with heap:=((s.heap.update a (Obj.mapSeq λ_=> #[])).push (seqObj "tuple" c.toArray 0)).push (seqObj "list" #[] 0)}
 have u:Keeps s0 {s with heap:=((s.heap.update a (Obj.mapSeq λ_=> #[])).push (seqObj "tuple" c.toArray 0)).push (seqObj "list" #[] 0)}:=λb o e=>by
  obtain⟨B,F⟩:=k b o e;refine Da _ (Da _ ?_);rw[aaI _ _ _ _ B];exact F
 dsimp only;have O:c.toArray.size=c.length:=by simp
 have x:¬c.toArray.size<2:=()
 rw[tz x,tz x];refine ir (z _ _ _ u ?_);have g:(c.toArray.zip c.toArray).size=c.length:=by rw[<-dY,vv,aS]
 refine ir (wpAny_mono (Wv (C _ _ u) (st:=SortSt.mk' k0 (c.toArray.zip c.toArray) #[] 7 none)
   (Q:=λ_ f=>(arrOf f).Perm (c.toArray.zip c.toArray)/\failedOf f=none)
   #[λp j=>?_,rfl] rfl rfl λf G H=>#[G,H]) ?_ λ_ _ e=>e)
 .have y:p∈(c.toArray.zip c.toArray).toList:=j
  rw[vv] at y;obtain⟨v,I,rfl⟩:=cM.mp y;exact mem v I
 rintro⟨⟨⟩,f⟩ d ⟨rfl,j,J⟩;dsimp only;have R:(arrOf f).size=c.length:=by rw[j.size_eq,g]
 refine ir (ac3 t rfl ?_);refine ir (acq t rfl ?_ (fg _) (by rw[Array.size_map];lia))
 rw[J];simp only[abr,f9,SZ];refine mo (h (arrOf f) ?_);rw[<-vv];exact KP.mp j
end
end TP
namespace L2
open PySem PySem.Spec PyProof.Rows
theorem lO [DecidableEq a] (f:a->b):∀(l:List b)(L:List a),l.Perm (L.map f)->∃M:List a,M.Perm L/\l=M.map f
 | [],L,h=>by
  have:=h.length_eq
  rw[aS] at this
  have:L= []:=abq.mp this.symm
  subst this;exact#[[], .refl _,rfl]
 |x::r,L,h=>by
  obtain⟨e,d,rfl⟩:=cM.mp (h.mem_iff.mp dH);have c:=List.perm_cons_erase d;have g:(f e::r).Perm (f e::(L.erase e).map f):=h.trans (c.map f);obtain⟨M,i,rfl⟩:=lO f r (L.erase e) ((List.perm_cons _).mp g);exact#[e::M,(i.cons e).trans c.symm,rfl]
section
variable {X:Cx}
theorem D9(I:Inv X d G H s)(hL:Hv H L)(hz:L.length<=1000)
  (J:∀(E:List Value->Shared->Prop),(∀N tk,s.heap.objs.size<=N.objs.size->(∀b o,s.heap.get? b\o->N.get? b\o)->E (L.map λe=>Value.ref e.1) {s with heap:=N,toks:=tk})->wpAny (model X.prog X.w) X.A.in1 (collect v) E X.xe s)
  (q:∀(q:Addr)(M:List (Addr×(Nat×Nat))),H q=none->M.Perm L->Q (.ref q) (upd H q (.lst (M.map λe=>V.ref e.1)))):
  wpAny (model X.prog X.w) X.A (call (.builtin "sorted") [v]) (EP X d G Q) X.xe s:=by
 have cw:1000<sizeLine:=∅
 refine aaY ac4 acL acM (acN _) ?_;unfold Builtin.«sorted»;refine ir (m:=checkCount "sorted" 1 1 _) (mo (ir (J _ λg tk1 Z O=>ir (aa9 ?_ (by rw[aS];lia)))))
 have r:(g.push (seqObj "list" (L.map λe=>Value.ref e.1).toArray 0)).get? g.objs.size\(seqObj "list" (L.map λe=>Value.ref e.1).toArray 0):=Gc _ rfl;have P:∀b o,s.heap.get? b\o->b<g.objs.size:=λb o e=>Do (O b o e)
 have fin:∀(M:List (Addr×(Nat×Nat)))(out:Array Value),M.Perm L->out.toList=M.map (λe=>Value.ref e.1)->EP X d G Q (.ref g.objs.size) {s with heap:=sortedHeap (g.push (seqObj "list" (L.map λe=>Value.ref e.1).toArray 0)) g.objs.size (L.map λe=>Value.ref e.1) out,toks:=tk1}:=λM out F B=>by
  obtain⟨c,C⟩:=sortedHeap_at (out:=out) r;refine#[.ref g.objs.size,_,I.laid (t':=tk1) (λb o e=>?_) Z (o:= .lst (M.map λe=>V.ref e.1)) #[by rw[aS,F.length_eq];lia,out.toList,c,?_,by rw[Array.toArray_toList];exact C],rfl,q _ M (I.hok.fresh Z) F]
  .rw[sortedHeap_old (bJ (P b o e)) (by rw[aa6];exact ur (P b o e))]
   exact Da _ (O b o e)
  .rw[B,show(λe:Addr×(Nat×Nat)=>V.ref e.1)=V.ref∘(·.1) from rfl,show(λe:Addr×(Nat×Nat)=>Value.ref e.1)=Value.ref∘(·.1) from rfl,<-dQ,<-dQ]
   exact r6 _
 by_cases h2:L.length<2
 .refine ir (KM (P3 slot_list_sort #[_,r,rfl] entry_list_sort (KS.wz r (by rw[aS];exact h2) #[_,rfl,mo #[_,rfl,fin L _ (.refl _) rfl]]) (abl _)))
 .have j:∀e∈L,∀f:Shared,TP.Keeps s f->∃t u,IsTup f.heap e.1 [.int (e.2.1:Nat) t, .int (e.2.2:Nat) u].toArray:=λe R f l=>by
   refine ah λG0 k0=>?_;obtain⟨t,u,o,B,C,n,U⟩:=L5 I (hL e R);refine k0 ?_;exact#[t,u,o,l _ _ B,C,n,U]
  refine ir (KM (P3 slot_list_sort #[_,r,rfl] entry_list_sort (TP.wb (s0:=s) (S:=λp=>∃e∈L,p=(Value.ref e.1,Value.ref e.1)) (k0:=tuples' true) r (by rw[aS];lia) (by rw[aS];lia) (λb o e=>#[bJ (P b o e),Da _ (O b o e)]) (λE' f E l Y=>?_) (λE' f l x y st E sx sy hk Y=>?_) (λv k=>?_) λout yG=>#[_,rfl,mo #[_,rfl,?_]]) (abl _)))
  .have go:∀(M:List (Addr×(Nat×Nat))),(∀e∈M,e∈L)->∃fs:List Value,PySem.W.KatTups f.heap (M.map λe=>Value.ref e.1) fs/\fs.length=M.length/\∀v∈fs,∃i t,v= .int i t:=by
    intro M
    induction M with
    |nil=>exact λ_=>#[[],PySem.W.KatTups.nil,rfl,λv k=>by cases k]
    |cons e M ih=>
     intro hM;refine ah λG0 k0=>?_;obtain⟨fs,a,b,c⟩:=ih λx hx=>hM x (eM _ hx);obtain⟨t,u,o,B,C,n,U⟩:=j e (hM e dH) f l;refine k0 ?_;refine#[.int (e.2.1:Nat) t::fs,PySem.W.KatTups.cons B C U rfl a,by simp[b],λv k=>?_]
     rcases bY.mp k with z|z
     .exact#[_,_,z]
     .exact c v z
   obtain⟨fs,kt,kl,ki⟩:=go L λ_ h=>h;refine PySem.W.kat_kind (T:= .type "int") kt () (λv k=>by obtain⟨i,t,rfl⟩:=ki v k;exact .now) ∅ ?_
   have hb:(Value.type "int" !=Value.type "tuple")=true:=∅
   rw[hb];exact Y
  .obtain⟨e1,m1,rfl⟩:=sx
   obtain⟨e2,m2,rfl⟩:=sy;rw[lt'_eq];refine Fk (abe ?_);rw[hk];refine ah λG0 k0=>?_;obtain⟨t1,t2,k1⟩:=j e1 m1 f l;obtain⟨u1,u2,k2⟩:=j e2 m2 f l;refine k0 ?_;refine Fk (abL (aba (RD k1 k2 #[rfl,?_])));exact FS (Y _)
  .obtain⟨e,R,rfl⟩:=cM.mp k
   exact#[e,R,rfl]
  .rw[dQ] at yG
   obtain⟨M,F,em⟩:=lO (λe:Addr×(Nat×Nat)=>((Value.ref e.1,Value.ref e.1):Keyed)) out.toList L yG;exact fin M _ F (by rw[Array.toList_map,em,dQ];rfl)
def xW:CallR X (.builtin "sorted") (λc H Q=>∃(p:Addr)(L:List (Addr×(Nat×Nat))),c= [.ref p]/\cK X.K H p (L.map λe=>V.ref e.1)/\Hv H L/\L.length<=1000/\
  ∀(q:Addr)(M:List (Addr×(Nat×Nat))),H q=none->M.Perm L->Q (.ref q) (upd H q (.lst (M.map λe=>V.ref e.1)))):=by
 intro d s t H c us Q I f h;rfl';obtain⟨p,L,rfl,i,j,k,q⟩:=h;obtain⟨u,rfl,l⟩:=f.one;subst l;obtain⟨a,r,m,_⟩:=I.list i
 have n:a=L.map λe=>Value.ref e.1:=by
  have:=si (as:=L.map (·.1)) (us:=a) (by rw[dQ];exact r)
  rw[this,dQ];rfl
 have w:1000<sizeLine:=∅
 ac_rfl;subst n;refine D9 I j k (λx h=>adh m.isList (h _ _ ?_ λb o e=>?_) (by rw[aS];lia)) q
 .rw[aa0,aa6];exact ux _
 .rw[aaI _ _ _ _ (bJ (Do e))];exact Da _ e
end
end L2
namespace TP
open PySem PyProof.Rows TS
section
variable {S:Keyed->Prop} {k0:SortKind} {prog:Program} {w:World} {A:Around} {E:Value->Shared->Prop} {s:Shared}
def D8(j:s.heap.IsList l a.toArray)(k:2<=a.length)(n:a.length<=1000)
  (p:∀(E:Value->Shared->Prop)(c:Shared)(g:SortKind->Shared->Prop),Keeps s c->g k0 c->wpAny (model prog w) A.in1.in1 (keyKind' a.toArray) g E c)
  (C:∀(E:Value->Shared->Prop)(c:Shared),Keeps s c->iW S k0 (model prog w) A.in1.in1 E c) (mem:∀v∈a,S (v,v))
  (h:∀out:Array Keyed,out.toList.Perm (a.map λv=>(v,v))->Q (.ref (s.heap.objs.size+1)) {s with heap:=sortedAll s.heap a (out.map (·.2))}):
  wpAny (model prog w) A (call (.builtin "sorted") [.ref l]) Q E s:=by
 have t:1000<sizeLine:=∅
 refine aaY ac4 acL acM (acN _) ?_;unfold Builtin.«sorted»;refine ir (m:=checkCount "sorted" 1 1 _) (mo ?_);refine ir (adh j ?_ ())
 refine ir (aa9 ?_ (by show a.length<=_;lia))
 have d:((s.heap.push (seqObj "list" #[] 0)).update s.heap.objs.size (Obj.mapSeq (·++a.toArray))).objs.size=s.heap.objs.size+1:=by
  rw[aa0,aa6]
 have i:(((s.heap.push (seqObj "list" #[] 0)).update s.heap.objs.size (Obj.mapSeq (·++a.toArray))).push (seqObj "list" a.toArray 0)).get? (s.heap.objs.size+1)\(seqObj "list" a.toArray 0):=by
  rw[<-d];exact Gc _ rfl
 have keep:∀b o,s.heap.get? b\o->(((s.heap.push (seqObj "list" #[] 0)).update s.heap.objs.size (Obj.mapSeq (·++a.toArray))).push (seqObj "list" a.toArray 0)).get? b\o:=λb o q=>by
  have f:b<s.heap.objs.size:=Do q;rw[abw _ _ _ (by rw[d];exact bJ (ur f)),aaI _ _ _ _ (bJ f),abw _ _ _ (bJ f)]
  exact q
 show wpAny _ _ _ _ _ {s with heap:=((s.heap.push (seqObj "list" #[] 0)).update s.heap.objs.size (Obj.mapSeq (·++a.toArray))).push (seqObj "list" a.toArray 0)}
 rw[d];refine ir (KM (P3 slot_list_sort #[_,i,rfl] entry_list_sort (wb (s0:=s) i k n (λb o e=>#[bJ (ur (Do e)),keep b o e]) p C mem λout r=>#[_,rfl,?_]) (abl _)));exact mo #[_,rfl,h out r]
end
end TP
namespace L2
open PySem PySem.Spec PyProof.Rows
section
variable {X:Cx}
def wQ(hu:X.A.units+64<cLine):CallR X (.builtin "sorted") (λC H Q=>∃(p:Addr)(L:List (Addr×List Nat)),C= [.ref p]/\cK X.K H p (L.map λe=>V.ref e.1)/\KZ H L/\L.length<=1000/\
  ∀(q:Addr)(M:List (Addr×List Nat)),H q=none->M.Perm L->Q (.ref q) (upd H q (.lst (M.map λe=>V.ref e.1)))):=by
 intro E s σ H C us Q I O h;refine ah λF k0=>?_;obtain⟨p,L,rfl,P,R,hz,q⟩:=h;obtain⟨u,rfl,U⟩:=O.one;subst U;obtain⟨d,r,G,_⟩:=I.list P;have Y:=r.length;rw[aS] at Y;have cw:1000<sizeLine:=∅
 refine k0 ?_
 have l:d=L.map λe=>Value.ref e.1:=by
  have:=si (as:=L.map (·.1)) (us:=d) (by rw[dQ];exact r)
  rw[this,dQ];rfl
 by_cases h2:L.length<2
 .refine KS.Aq G.isList () ?_
  obtain⟨e,g⟩:=sortedAll_at s.heap d d.toArray;have m:H (s.heap.objs.size+1)=none:=I.hok.fresh (ux _);refine#[.ref (s.heap.objs.size+1),_,I.laid (t':=s.toks) (λb o t=>sortedAll_old t) (ux _) (o:= .lst (L.map λe=>V.ref e.1)) #[by rw[aS];lia,d,e,r,g],rfl,q _ L m (.refl _)]
 .have lst:∀e∈L,∀f:Shared,TP.Keeps s f->∃a:Array Value,f.heap.IsList e.1 a/\IntsAre a.toList (Ej e.2):=λe g f i=>by
   refine ah λF k0=>?_;obtain⟨w,Z,p2,_⟩:=I.list (cK.of (R e g));obtain⟨o,z,j,n,hd⟩:=p2.isList;refine k0 ?_;exact#[w.toArray,#[o,i _ _ z,j,n,hd],by simpa using intsAre_of Z]
  refine TP.D8 (S:=λp=>∃e∈L,p=(Value.ref e.1,Value.ref e.1)) (k0:=oneType') G.isList () () (λE' f Q' i B=>?_) (λE' f i x y st Q' sx sy hk B=>?_) (λv k=>?_) λout J=>?_
  .refine PySem.W.kas_kind (T:= .type "list") () (λv k=>?_) ∅ ∅ B
   rw[l] at k;obtain⟨e,g,rfl⟩:=cM.mp k;obtain⟨a,⟨o,z,j,_⟩,_⟩:=lst e g f i;rw[<-j];exact(PySem.W.Looks.ld z).andThen .now
  .obtain⟨e1,m1,rfl⟩:=sx
   obtain⟨e2,m2,rfl⟩:=sy;rw[lt'_eq];refine Fk (abe ?_);rw[hk,keyLt'_oneType];refine ah λF k0=>?_;obtain⟨i1,l1,n1⟩:=lst e1 m1 f i;obtain⟨i2,l2,n2⟩:=lst e2 m2 f i;refine k0 ?_;refine Fk (abL (aba (Gn l1 l2 n1 n2 ?_ #[rfl,?_])))
   .rw[acT,acT];lia
   .exact FS (B _)
  .rw[l] at k
   obtain⟨e,g,rfl⟩:=cM.mp k;exact#[e,g,rfl]
  .rw[l,dQ] at J
   obtain⟨M,N,em⟩:=lO (λe:Addr×List Nat=>((Value.ref e.1,Value.ref e.1):Keyed)) out.toList L J
   have YL:(out.map (·.2)).toList=M.map λe=>Value.ref e.1:=by
    rw[Array.toList_map,em,dQ];rfl
   obtain⟨c,j⟩:=sortedAll_at s.heap d (out.map (·.2));have m:H (s.heap.objs.size+1)=none:=I.hok.fresh (ux _);have hml:=N.length_eq;refine#[.ref (s.heap.objs.size+1),_,I.laid (t':=s.toks) (λb o t=>sortedAll_old t) (ux _) (o:= .lst (M.map λe=>V.ref e.1)) #[by rw[aS];lia,(out.map (·.2)).toList,c,?_,by rw[Array.toArray_toList];exact j],rfl,q _ M m N]
   rw[YL,show(λe:Addr×List Nat=>V.ref e.1)=V.ref∘(·.1) from rfl,show(λe:Addr×List Nat=>Value.ref e.1)=Value.ref∘(·.1) from rfl,<-dQ,<-dQ];exact r6 _
end
section
variable {Z:DC} {X:Cx}
def MP:cc:=λc P=>∃a:List (Nat×Nat),c= [.lst (a.map pairD)]/\a.length<=1000/\∀b:List (Nat×Nat),b.Perm a->P (.lst (b.map pairD))
def xX:CallR X (.builtin "sorted") (iK Z MP):=by
 refine xW.imp ?_;rintro n H Q ⟨G,j,P,s,dv,⟨c,rfl,o,b⟩,q⟩;cases dv with
 |cons a as=>
  cases as;cases a with
  | @lst p r j h e=>
   obtain⟨L,rfl,d,f⟩:=AI e;have t:L.length=c.length:=by rw[<-d];simp
   refine#[_,L,rfl,cK.of (s _ _ h),λp b=>s _ _ (f p b),(),λp M g i=>?_]
   have k:(M.map (·.2)).Perm c:=by rw[<-d];exact i.map _
   have l:Hv (upd G p (.lst (M.map λe=>V.ref e.1))) M:=λx m=>aX (s.free g) _ _ _ (f x (i.mem_iff.mp m));exact q _ (b _ k) _ _ _ (.new s g) (.lst aw l.dv)
def K2:cc:=λa P=>∃L:List (List Nat),a= [.lst (L.map av)]/\L.length<=1000/\∀M:List (List Nat),M.Perm L->P (.lst (M.map av))
def EX(j:X.A.units+64<cLine):CallR X (.builtin "sorted") (iK Z K2):=by
 refine(wQ j).imp ?_;rintro o H Q ⟨G,k,P,s,dv,⟨c,rfl,r,b⟩,q⟩;cases dv with
 |cons a as=>
  cases as;cases a with
  | @lst p t k h e=>
   obtain⟨L,rfl,d,f⟩:=AH e;have u:L.length=c.length:=by rw[<-d];simp
   refine#[_,L,rfl,cK.of (s _ _ h),λp b=>s _ _ (f p b),(),λp M g i=>?_]
   have l:(M.map (·.2)).Perm c:=by rw[<-d];exact i.map _
   have m:KZ (upd G p (.lst (M.map λe=>V.ref e.1))) M:=λx n=>aX (s.free g) _ _ _ (f x (i.mem_iff.mp n));exact q _ (b _ l) _ _ _ (.new s g) (.lst aw m.dv)
end
end L2
namespace uz
open PySem L2 Wb
variable {P:Program} {w:World} {mg:Str->Option Value} {base:Heap} {Z:DC} (T:Txt Z mg)
open Wy
def zz(d:Nat×Nat):Int×Int:=(d.1,d.2)
def Tg(h:zz a=zz b):a=b:=aaW (by have:=(abd h).1;lia) (by have:=(abd h).2;lia)
def xF{d:Nat×Nat}{l:List (Nat×Nat)}:zz d∈l.map zz↔d∈l:=by
 rw[cM];exact#[λ#[a,b,e]=>by rw[<-Tg e];exact b,λh=>#[d,h,rfl]]
def SN:cc:=λb P=>∃(w:W),b= [.dG w]/\Good w/\w.length<=14/\∀a:List (Nat×Nat),a.Perm (j5 (row w) w.length)->P (.lst (a.map pairD))
theorem TY(I:DN->Prop)(J:o->DN->Prop)(m:o->D)(f:o->List u)(v:u->D)(p:o->u->Bool)(k:o->u->B)(i:B->D)(G:∀y H,J y H->I H):∀(l:List o)(j:DN)(a:List B)(P:List D->Prop),
  (∀y∈l,∀j,I j->∀(Y:DN->List D->Prop),(∀d,J y d->Y d ((f y).map v))->g (m y) j λd=>A d (Y d))->
  (∀y∈l,∀b∈f y,∀j,J y j->∀(Y:DN->D->Prop)(x:DN->Prop),(∀d,J y d->p y b=true->Y d (i (k y b)))->(∀d,J y d->p y b=false->x d)->r (v b) j λd=>s d λc=>if c=true then t d (Y d) else x d)->
  I j->a.length+(l.flatMap λy=>((f y).filter (p y)).map (k y)).length<=sizeLine->(∀y∈l,a.length+(l.flatMap λy=>((f y).filter (p y)).map (k y)).length+(f y).length<=sizeLine)->P ((a++l.flatMap λy=>((f y).filter (p y)).map (k y)).map i)->qT g yc A r s t (l.map m) j (a.map i) P
 | [],j,a,P,_,_,L,_,_,h=>by
  show P (a.map i);simpa using h
 |y::l,j,a,P,M,N,L,n,O,h=>by
  have C:=O y (dH ..);rw[BC,cI] at n C;refine M y (dH ..) j L (λd Q=>lcW r s t Q d (a.map i) λq R=>qT g yc A r s t (l.map m) q R P) λd E=>?_;refine mT (J y) v (p y) (λb=>i (k y b)) (f y) d (a.map i) _ (λb S q F Y x U X=>?_) E (by rw[aS];lia) λq F=>?_
  .exact N y (dH ..) b S q F Y x U X
  .have e:a.map i++((f y).filter (p y)).map (λb=>i (k y b))=(a++((f y).filter (p y)).map (k y)).map i:=by rw[cX,dQ];rfl
   rw[e];refine TY I J m f v p k i G l q (a++((f y).filter (p y)).map (k y)) P (λz n=>M z (eM _ n)) (λz n=>N z (eM _ n)) (G y q F) (by rw[cI];lia) (λz n=>?_) ?_
   .have:=O z (eM _ n)
    rw[BC,cI] at this;rw[cI];lia
   .rw[BC] at h
    rw[lD];exact h
def ng:FnOk P w Z.K mg base bZ 1 T.m_ties.f T.m_ties.fd ["self"] (aV Z SN):=by
 have L:=t6.nd;refine bf T.m_ties.F t6 [0] ∅ (λu R h=>by obtain⟨_,rfl,_⟩:=h;rfl) (λM A outer s H E u R v h=>?_)
 have N:=v.units;refine#[_,(aq (aM (aH xX rfl T.B.sorted mR (ae (QY (NC:= ["p","row","q"]) (src:= [none,none,none]) rfl (lF (au lg)) trivial (kn rfl T.B.enumerate (ae (sU T.W (aa 0)) ag)) (λ_ _ _=>(Ca 2 rfl (j6 (bI 0 (show(["p","row","q"]:List Str).Nodup from by decide+kernel)) (j6 (bI 1 (show(["p","row","q"]:List Str).Nodup from by decide+kernel)) yg)))) (λ_ _ _=>c7) (λ_ _ _=>(bq (aa 1))) (λ_ _ _=>(bI 2 (show(["p","row","q"]:List Str).Nodup from by decide+kernel))) (λ_ _ _=>(mi (aQ Dz (aa 0) (aa 2) (aZ _)))) (λ_ _ _=>(bS (ae (aa 0) (ae (aa 2) ag))))) ag)))),?_]
 obtain⟨a,rfl,g,O,q⟩:=h
 have x:iH (a.map av)=(am a.length).map λ(j:Nat)=>D.tup [.int (j:Int),av (row a j)]:=by
  refine wI λj=>?_;rw[fi]
  by_cases lt:j<a.length
  .rw[wH lt]
   cases e:(iH (a.map av))[j]? with
   |none=>
    have:=List.getElem?_eq_none_iff.mp e
    rw[yn,aS] at this;lia
   |some d=>rw[(Hd e).2];rfl
  .rw[gQ (by rw[yn,aS];lia),gQ (by rw[jR];lia)];rfl
 have k:((am a.length).flatMap λp=>((row a p).filter λq=>decide (p<q)).map λq=>(p,q))=j5 (row a) a.length:=rfl
 have z:∀n,n<=a.length->(j5 (row a) n).length<=n*14:=λn=>by
  induction n with
  |zero=>intro _;exact bM _
  |succ n C=>
   intro h
   have:=C ()
   have Q:=dO g n;have S:=Eu (λq=>decide (n<q)) (row a n);unfold j5 at this ⊢;rw[List.range_succ,List.flatMap_append,cI];simp only[BC,List.flatMap_nil,gR,aS];lia
 have G:=z a.length (bM _);exists _,rfl,a,rfl;refine(?_:qT _ _ _ _ _ _ (iH (a.map av)) _ _ _);rw[x];refine TY (λi=>∃o r c,i= [o,r,c]) (λp i=>∃c,i= [some (ao p),some (av (row a p)),c]) _ (λp=>row a p) ao (λp q=>decide (p<q)) (λp q=>(p,q)) pairD (λy i #[c,e]=>#[_,_,_,e]) (am a.length) _ [] _ (λp t I l Y m=>?_) (λp t b U I l Y X m J=>?_) #[none,none,none,rfl] ?_ (λp t=>?_) ?_
 .obtain⟨o,r,c,rfl⟩:=l
  exact#[rfl,rfl,_,rfl,m _ #[_,rfl]]
 .obtain⟨c,rfl⟩:=l
  exists _,rfl,_,rfl,_,rfl;refine(?_:if decide ((p:Int)<(b:Int))=true then _ else _);rw[show decide ((p:Int)<(b:Int))=decide (p<b) from aa8.mpr ()]
  exact bF (λe=>#[_,rfl,_,rfl,by show 2<=sizeLine;decide,m _ #[_,rfl] e]) (λe=>J _ #[_,rfl] e)
 .rw[k,jH,uw];exact small ()
 .have:=dO g p
  rw[k,jH,uw];exact small ()
 .rw[k,oh]
  exact#[_,rfl,(),q]
def Mp:cc:=λa P=>∃(w:W)(p q:Nat),a= [.dG w,ao p,ao q]/\Good w/\q∈row w p/\P (ao (e9 (row w p) q))
def pG:FnOk P w Z.K mg base bZ 1 T.m_behind.f T.m_behind.fd ["self","p","q"] (aV Z Mp):=by
 have k:=pV.nd;refine bf T.m_behind.F pV [0,0,0,0] ∅ (λl R h=>by obtain⟨_,_,_,rfl,_⟩:=h;rfl) (λt A outer s H E l R m h=>?_)
 have u:=m.units
 refine#[_,(af (aP false 3 k (aY (sU T.W (aa 0)) (aa 1)))
   (aq (aM (aY (aa 3) (aK cJ (aK bL (qr (aa 3) (aa 2)) az) (aH bC rfl T.B.len bB (ae (aa 3) ag))))))),?_]
 obtain⟨a,p,b,rfl,g,c,q⟩:=h;have n:=cT c;have v:=dO g p;have e:((row a p).map ao).length=(row a p).length:=aS _;have d:0<(row a p).length:=wF c;have o:(0:Int)<(((row a p).map ao).length:Int):=by rw[e];lia
 exists _,rfl,a,rfl,_,rfl,_,fW n,trivial;exists _,rfl,_,rfl,_,rfl,_,rfl,rfl,d9 _,_,_,(fu c).1,(fu c).2.1,(fu c).2.2;exists _,rfl,o;have em:(((row a p).idxOf b:Nat):Int)+1=(((row a p).idxOf b+1:Nat):Int):=()
 have r:((((row a p).idxOf b:Nat):Int)+1)%(((row a p).map ao).length:Int)=((((row a p).idxOf b+1)%(row a p).length:Nat):Int):=by rw[e,em,Int.natCast_emod]
 refine#[ao (e9 (row a p) b),?_,q];show fQ ((row a p).map ao) ((λi j=>i%j) _ _)=_;dsimp only;rw[r];exact iL (rm _ d)
def Ld{P:D->Prop}(h:P (.bl (!decide (a=b)))):wU (pairD a) (pairD b) P:=by
 refine#[_,_,PC a,PC b,by unfold rX nD;simp[PyData.depth,PyData.depthAll],?_]
 have:PyData.eqv (rX a) (rX b)=decide (a=b):=by
  by_cases e:a=b
  .rw[GT e];exact(AN a b).mpr e
  .rw[GM e]
   apply qi.mpr;exact λz=>e ((AN a b).mp z)
 rw[AC rfl,this];exact h
def Qf:cc:=λa P=>∃(w:W)(d:Nat×Nat),a= [.dG w,pairD d]/\Good w/\w.length<=14/\bp w d/\∀r,js w d r->P (.lst (r.map pairD))
def za:FnOk P w Z.K mg base bZ 2 T.d_round_from.f T.d_round_from.fd ["web","side"] (aV Z Qf):=by
 have i:=qa.nd;refine bf T.d_round_from.F qa [0,0,1,0,0] ∅ (λv R h=>by obtain⟨_,_,rfl,_⟩:=h;rfl) (λB A outer s H E v R n h=>?_)
 have x:=n.units
 refine#[_,(af (bW 2 i (df (ae (aa 1) ag)))
   (af (qs (aa 1) (gS 2 rfl (bA (aN 3 i) (bA (aN 4 i) d6))))
   (af (J4 3 4 rfl i (ae (aa 4) (ae (E8 T.W (aa 0) T.m_behind.m (pG T) (n.mono ∅) T.m_behind.b (ae (aa 4) (ae (aa 3) ag))) ag)))
   (af (mf GE (aQ (m8 x) (bS (ae (aa 3) (ae (aa 4) ag))) (aa 1) (aZ _)) (af (eF false 2 (bS (ae (aa 3) (ae (aa 4) ag))))
   (aq (J4 3 4 rfl i (ae (aa 4) (ae (E8 T.W (aa 0) T.m_behind.m (pG T) (n.mono ∅) T.m_behind.b (ae (aa 4) (ae (aa 3) ag))) ag))))))
   (aq (aM (aa 2))))))),?_]
 obtain⟨a,d,rfl,g,t,o,q⟩:=h;have C:=km g;have G:a.length*a.length<=14*14:=zN t t;refine#[_,rfl,by show 1<=sizeLine;decide,?_]
 exists _,rfl,rfl,rfl;exists _,rfl,_,rfl,a,rfl,_,rfl,_,rfl,a,d.2,d.1,rfl,g,g.sym _ _ o,_,_,rfl;refine kM (λm y=>∃k,0<k/\m+k=(bD a).length+1/\(∀j,0<j->j<k->bx a j d≠d)/\y= [some (.dG a),some (pairD d),some (.lst ((walk a d k).map pairD)),some (ao (bx a k d).1),some (ao (bx a k d).2)]) (bD a).length #[1,(),rfl,λj l u=>by lia,rfl] ?_
 rintro m _ ⟨k,z,I,p,rfl⟩;have r:=cY g o k;refine#[_,rfl,_,rfl,by show 2<=sizeLine;decide,_,rfl,?_]
 refine(?_:wU (pairD (bx a k d)) (pairD d) _);refine Ld #[_,rfl,bF (λe=>?_) (λe=>?_)]
 .have ne:bx a k d≠d:=by simpa using e
  have lt:k<(bD a).length:=by
   have:=zH g o (k:=k+1) λj l u=>by
    by_cases c:j=k
    .subst c;exact ne
    .exact p j l ()
   lia
  refine#[_,rfl,_,rfl,_,rfl,by show 2<=sizeLine;decide,trivial,cf (by rw[aS,fI];lia),?_]
  exists _,rfl,_,rfl,a,rfl,_,rfl,_,rfl,a,(bx a k d).2,(bx a k d).1,rfl,g,g.sym _ _ r,_,_,rfl;refine#[m-1,(),k+1,(),(),λj l u=>?_,?_]
  .by_cases c:j=k
   .subst c;exact ne
   .exact p j l ()
  .rw[sj,cX];rfl
 .have e:bx a k d=d:=by simpa using e
  exact#[_,rfl,q _ #[k,z,e,p,rfl]]
structure zX (w:W) (ds:List (Nat×Nat)) (i:Nat) (rs:List (List (Nat×Nat))):Prop where
 rnd:su w rs
 nod:rs.flatten.Nodup
 met:∀j e,j<i->ds[j]?\e->e∈rs.flatten
def zX.skip{w:W}(h:zX w a i b)(g:a[i]?\d)(k:d∈b.flatten):zX w a (i+1) b:=
 #[h.rnd,h.nod,λj e l f=>by
  by_cases c:j=i
  .subst c;rw[g] at f;cases f;exact k
  .exact h.met j e () f]
def zX.take{w:W}(g:Good w)(h:zX w l i m)(s:l[i]?\d)(p:bp w d)(t:d∉m.flatten)(f:js w d r):zX w l (i+1) (m++ [r]):=by
 refine#[λk u=>?_,?_,λj e C o=>?_]
 .rcases cF.mp u with z|z
  .exact h.rnd k z
  .rw[fB.mp z];exact#[d,f,p]
 .rw[Hm,iT]
  refine#[h.nod,by simpa using f.nodup g p,λa v b x e=>?_]
  subst e;obtain⟨k,q,y⟩:=zR.mp v;obtain⟨E,A,_⟩:=h.rnd k q;obtain⟨n,B⟩:=f.back (~~~x)
  exact t (zR.mpr #[k,q,by rw[<-B];exact A.iter y n])
 .rw[Hm,cF]
  by_cases c:j=i
  .subst c;rw[s] at o;cases o
   exact .inr (~~~f.first)
  .exact .inl (h.met j e () o)
def zX.fin{w:W}(g:Good w)(all:∀e,bp w e->e∈a)(h:zX w a a.length c):c.flatten.Perm (bD w):=
 (Bw h.nod (eE g)).mpr λe=>#[λb=>bz.mpr (h.rnd.dart g e b),λb=>by
  obtain⟨j,d⟩:=zQ (all e (bz.mp b));exact h.met j e (dZ.mp d).1 d]
def MH(w:W)(n:Nat):Prop:=(w.length=1/\n=1)\/(2<=w.length/\Fc w n)
def xw(a:List (List (Nat×Nat))):D:= .lst ((a.map λr=>r.map (·.1)).map av)
def P9:cc:=λa P=>∃(w:W),a= [.dG w]/\Good w/\1<=w.length/\w.length<=14/\∀l:List D,MH w l.length->P (.lst l)
def LI(h:d∉l):FK (l.map zz) (zz d)=(l++ [d]).map zz:=by
 unfold FK;rw[tz (λz=>h (xF.mp z)),cX];rfl
def L4:FnOk P w Z.K mg base bZ 3 T.d_lands.f T.d_lands.fd ["web"] (aV Z P9):=by
 have L:=Bn.nd;refine bf T.d_lands.F Bn [0,98,1,0,0,0] ∅ (λC R h=>by obtain⟨_,rfl,_⟩:=h;rfl) (λbg A outer s H E C R p h=>?_)
 have U:=p.units
 refine#[_,(af (br (aQ (jc U) (eY T.W (aa 0) T.m_many.m (m9 T) (p.mono ∅) T.m_many.b) az (aZ _)) (aq (aM (cz (ae (cz (ae az ag)) ag)))) aI)
   (af (Lj 1 L rfl T.x_set)
   (af (bW 2 L (df ag))
   (af (dh rfl GE (bq (aH xX rfl T.B.sorted mR (ae (aK bL (eY T.W (aa 0) T.m_ties.m (ng T) (p.mono ∅) T.m_ties.b) (oO (NC:= ["a","b"]) (src:= [none,none]) rfl (lF (au pU)) trivial (bq (eY T.W (aa 0) T.m_ties.m (ng T) (p.mono ∅) T.m_ties.b)) (λ_ _ _=>(Ca 2 rfl (j6 (bI 0 (show(["a","b"]:List Str).Nodup from by decide+kernel)) (j6 (bI 1 (show(["a","b"]:List Str).Nodup from by decide+kernel)) yg)))) (λ_ _ _=>c7) (λ_ _ _=>(bS (ae (aa 1) (ae (aa 0) ag)))))) ag))) (aN 3 L) (aq (br (aQ (IY U) (aa 3) (aa 1) (by with_unfolding_all rfl)) (af (aP false 4 L (aE T.d_round_from (za T) p (ae (aa 0) (ae (aa 3) ag))))
   (af (dh rfl GE (bq (aa 4)) (aN 5 L) (aq (Nt false 1 U (aa 5))))
   (aq (eF false 2 (oO (NC:= ["p","q"]) (src:= [none,none]) rfl (lF (au pU)) trivial (bq (aa 4)) (λ_ _ _=>(Ca 2 rfl (j6 (bI 0 (show(["p","q"]:List Str).Nodup from by decide+kernel)) (j6 (bI 1 (show(["p","q"]:List Str).Nodup from by decide+kernel)) yg)))) (λ_ _ _=>c7) (λ_ _ _=>(aa 0))))))) aI)))
   (aq (aM (aH (EX U) rfl T.B.sorted mR (ae (aa 2) ag)))))))),?_]
 obtain⟨o,rfl,g,h1,N,q⟩:=h;have c1:=km g;have c2:o.length*o.length<=14*14:=zN N N;have lw:(o.map av).length=o.length:=aS _;exists _,rfl,o,rfl,o,rfl;refine NH #[_,rfl,bF (λe=>?_) (λe=>?_)]
 .have e:o.length=1:=by have:=KB e;lia
  exact#[by show 1<=sizeLine;decide,by show 1<=sizeLine;decide,q _ (.inl #[e,rfl])]
 have n2:2<=o.length:=by have:=PP e;lia
 refine#[by show 0<=sizeLine;decide,?_]
 refine#[_,rfl,o,rfl,o,rfl,g,N,λX I=>?_];have tl:=JF g;rw[<-hU] at tl;have tl2:=I.length_eq;refine#[_,rfl,o,rfl,o,rfl,g,N,λJ Md=>?_];have tl3:=Md.length_eq;refine mT (λG=>∃O Q,G= [O,Q]) pairD (λ_=>true) (λt=>pairD (t.2,t.1)) J _ [] _ (λt ht aL S Y Nn hY hN=>?_) #[none,none,rfl] (by rw[jH,uw];exact small ()) λaL S=>?_
 .obtain⟨O,Q,rfl⟩:=S
  exact#[rfl,rfl,Ur #[_,rfl,_,rfl,by show 2<=sizeLine;decide,hY _ #[_,_,rfl] rfl]]
 have pd:(X++J.map λt=>(t.2,t.1)).Perm (bD o):=(((Md.trans I.symm).map _).append_left X).trans (xU g I);have pl:=pd.length_eq;rw[cI,aS] at pl;have ef:J.filter (λ_=>true)=J:=by simp
 rw[oh,ef];refine#[by rw[aS,aS];exact small (),?_]
 have ej:(.lst (X.map pairD++J.map λt=>pairD (t.2,t.1)):D)= .lst ((X++J.map λt=>(t.2,t.1)).map pairD):=by rw[cX,dQ];rfl
 dsimp only[vM];rw[ej];refine#[_,rfl,by rw[cI,aS];lia,λC Sn=>?_]
 have Sn:=Sn.trans pd;have all:∀e,bp o e->e∈C:=λe h=>Sn.mem_iff.mpr (bz.mpr h);have dart:∀e∈C,bp o e:=λe h=>bz.mp (Sn.mem_iff.mp h);clear I Md ej pd ef;refine cC (λi G=>∃(n:List (List (Nat×Nat)))(o3 o4 v:Option D),G= [some (.dG o),some (.x (.tX (cE w) (n.flatten.map zz))),some (xw n),o3,o4,v]/\zX o C i n) #[[],none,none,none,rfl,(λr h=>nomatch h),gd,(λj e h=>by lia)] ?_ ?_
 .rintro i d _ hd ⟨n,o3,o4,v,rfl,hw⟩ A hA
  obtain⟨e,he,rfl⟩:=cV hd;have de:=dart e (fb he);exists _,rfl,_,rfl,zz e,n.flatten.map zz,rfl,rfl,_,rfl;refine(?_:if (if true=true then !decide (zz e∈n.flatten.map zz) else _)=true then _ else _);rw[AC rfl,show decide (zz e∈n.flatten.map zz)=decide (e∈n.flatten) from aa8.mpr xF]
  have sub:∀x∈n.flatten,x∈bD o:=λx y=>by
   obtain⟨r,p,hxr⟩:=zR.mp y;obtain⟨d,R,dd⟩:=hw.rnd r p;exact bz.mpr (R.bD g dd x hxr)
  have fl:=aD hw.nod sub;refine bF (λc=>?_) (λc=>?_)
  .have c:e∉n.flatten:=by simpa using c
   refine#[_,rfl,_,rfl,o,e,rfl,g,N,de,λr R=>#[trivial,?_]];have YU:=hw.take g he de c R;have rd:∀x∈r,x∈bD o:=λx y=>bz.mpr (R.bD g de x y);have rl:=aD (R.nodup g de) rd;have V7:(n.flatten++r).Nodup:=by have:=YU.nod;rw[Hm] at this;simpa using this
   have Rc:(n.flatten++r).length<=(bD o).length:=aD V7 λx y=>(cF.mp y).elim (sub x) (rd x);rw[cI] at Rc;exists _,rfl;refine cC (λk G=>∃v,G= [some (.dG o),some (.x (.tX (cE w) ((n.flatten++r.take k).map zz))),some (xw n),some (pairD e),some (.lst (r.map pairD)),v]) #[v,by rw[List.take_zero,gR];rfl] ?_ ?_
   .rintro k d _ hd ⟨v,rfl⟩ A hA
    obtain⟨x,y,rfl⟩:=cV hd;have hk:=(dZ.mp y).1;have tk:r.take (k+1)=r.take k++ [x]:=by rw[zS,y];rfl
    have nx:x∉n.flatten++r.take k:=λz=>by
     have sp:n.flatten++r=(n.flatten++r.take k)++(x::r.drop (k+1)):=by
      rw[lD,<-dZ.mp y|>.2,List.getElem_cons_drop,n6]
     rw[sp] at V7;exact(iT.mp V7).2.2 x z x (dH ..) rfl
    refine#[_,rfl,_,rfl,zz x,rfl,by rw[aS,cI,jS];lia,?_]
    rw[LI nx,lD,<-tk];exact hA _ #[_,rfl]
   .rintro _ ⟨v,rfl⟩
    rw[aS,BG]
    have dl:n.length<=300:=by
     have h:∀u:List (List (Nat×Nat)),(∀r∈u,r≠ [])->u.length<=u.flatten.length:=λu=>by
      induction u with
      |nil=>intro _;exact bM _
      |cons a l ih=>
       intro h;have h1:=Bz.mpr (h a (dH ..));have h2:=ih λr p=>h r (eM _ p);rw[n9,cI,cx];lia
     have:=h n λr p z=>by
      obtain⟨d,R,_⟩:=hw.rnd r p
      have:=R.first
      rw[z] at this;cases this
     lia
    exists _,rfl,_,rfl;refine mT (λG=>∃O Q,G= [O,Q]) pairD (λ_=>true) (λt=>ao t.1) r _ [] _ (λt ht aL S Y Nn hY hN=>?_) #[none,none,rfl] (by rw[jH,uw];exact small ()) λaL S=>?_
    .obtain⟨O,Q,rfl⟩:=S
     exact#[rfl,rfl,Ur #[_,rfl,hY _ #[_,_,rfl] rfl]]
    rw[oh,show r.filter (λ_=>true)=r by simp]
    refine#[trivial,cf (by rw[aS,aS];lia),?_]
    refine hA _ #[n++ [r],some (pairD e),some (.lst (r.map pairD)),v,?_,YU]
    have e1:xw (n++ [r])= .lst ((n.map λr=>r.map (·.1)).map av++ [.lst (r.map λt=>ao t.1)]):=by
     unfold xw av;rw[cX,cX];simp only[gF,adf,dQ];rfl
    rw[e1,Hm,show[r].flatten=r by simp];rfl
  .have c:e∈n.flatten:=by simpa using c
   exact hA _ #[n,_,_,_,rfl,hw.skip he c]
 .rintro _ ⟨n,o3,o4,v,rfl,hw⟩
  have hw:zX o C C.length n:=by rw[aS] at hw;exact hw
  have fin:=hw.fin g all
  have dl:n.length<=300:=by
   have h:∀u:List (List (Nat×Nat)),(∀r∈u,r≠ [])->u.length<=u.flatten.length:=λu=>by
    induction u with
    |nil=>intro _;exact bM _
    |cons a l ih=>
     intro h;have h1:=Bz.mpr (h a (dH ..));have h2:=ih λr p=>h r (eM _ p);rw[n9,cI,cx];lia
   have:=h n λr p z=>by
    obtain⟨d,R,_⟩:=hw.rnd r p
    have:=R.first
    rw[z] at this;cases this
   have:=fin.length_eq
   lia
  refine#[_,rfl,n.map (λr=>r.map (·.1)),rfl,by rw[aS];lia,λM I=>q _ (.inr #[n2,n,hw.rnd,fin,by rw[aS,I.length_eq,aS]])]
variable {P:Program} {w:World} {mg:Str->Option Value} {base:Heap} {Z:DC} (T:Txt Z mg)
def D4(I:DN->Prop)(h:∀b:cG,(∀a,I a->b.nx a)->AD c t uH b a)(k:∀a,I a->u E a):dSeq (AD c t uH) u E a:=h _ k
def xj(b:DN)(e:a=b)(h:dSeq t u E b):dSeq t u E a:=by rw[e];exact h
def xv(h:p<n):iB n (p:Int)\p:=by
 unfold iB;rw[AC (),AC ()]
 exact KF some ()
variable {P:Program} {w:World} {mg:Str->Option Value} {base:Heap} {Z:DC} (T:Txt Z mg)
def Rs(w:W)(a:List (List (Nat×Nat))):Prop:=(w.length=1/\a= [[(0,0)]])\/(2<=w.length/\jV w a)
def tc(w:W):Nat:=(j5 (row w) w.length).length
def KL{w:W}(g:Good w):2*tc w=(bD w).length:=by
 have:=(xU g (.refl _)).length_eq
 rw[cI,aS] at this;unfold tc;lia
def P2:cc:=λa P=>∃(w:W),a= [.dG w]/\Good w/\1<=w.length/\w.length<=14/\∀n,MH w n->P (.tup [.int (w.length:Int), .int (tc w:Int), .int (n:Int)])
def Bg:FnOk P w Z.K mg base bZ 4 T.d_count.f T.d_count.fd ["web"] (aV Z P2):=by
 have p:=Bm.nd;refine bf T.d_count.F Bm [0] ∅ (λe R h=>by obtain⟨_,rfl,_⟩:=h;rfl) (λr A outer s H E e R c h=>?_)
 have t:=c.units;refine#[_,(aq (aM (bS (ae (eY T.W (aa 0) T.m_many.m (m9 T) (c.mono ∅) T.m_many.b) (ae (aH bC rfl T.B.len bB (ae (eY T.W (aa 0) T.m_ties.m (ng T) (c.mono ∅) T.m_ties.b) ag)) (ae (aH bC rfl T.B.len bB (ae (aE T.d_lands (L4 T) c (ae (aa 0) ag)) ag)) ag)))))),?_]
 obtain⟨a,rfl,g,i,d,q⟩:=h;refine#[_,rfl,a,rfl,a,rfl,_,rfl,a,rfl,a,rfl,g,d,λj k=>?_];refine#[_,rfl,a,rfl,g,i,d,λl n=>#[by show 3<=sizeLine;decide,?_]]
 have:=q _ n
 have o:(j.map pairD).length=tc a:=by rw[aS,k.length_eq];rfl
 rw[o];exact this
def Qe:cc:=λa P=>∃(w:W),a= [.dG w]/\Good w/\1<=w.length/\w.length<=14/\∀n,MH w n->P (.bl (decide ((w.length:Int)+(n:Int)=(tc w:Int)+2)))
def tS:FnOk P w Z.K mg base bZ 5 T.d_is_plane.f T.d_is_plane.fd ["web"] (aV Z Qe):=by
 have a:=ua.nd;refine bf T.d_is_plane.F ua [0,0,0,0] ∅ (λc R h=>by obtain⟨_,rfl,_⟩:=h;rfl) (λl A outer s H E c R b h=>?_)
 have d:=b.units
 refine#[_,(af (qs (aE T.d_count (Bg T) b (ae (aa 0) ag)) (gS 3 rfl (bA (aN 1 a) (bA (aN 2 a) (bA (aN 3 a) d6)))))
   (aq (aM (xk (jc d) (aK bL (aa 1) (aa 3)) (aK bL (aa 2) az) (aZ _))))),?_]
 obtain⟨e,rfl,g,i,j,q⟩:=h;refine#[_,rfl,e,rfl,g,i,j,λn k=>?_];exists rfl,rfl;exists _,rfl,_,rfl,_,rfl;exact E2 (q n k)
variable {P:Program} {w:World} {mg:Str->Option Value} {base:Heap} {Z:DC} (T:Txt Z mg)
def Rs.len{w:W}(g:Good w)(h:Rs w b)(d:Rs w c):b.length=c.length:=by
 rcases h with ⟨e,rfl⟩ | ⟨e,R⟩
 .rcases d with ⟨_,rfl⟩ | ⟨f,_⟩
  .rfl
  .lia
 .rcases d with ⟨f,_⟩ | ⟨_,a⟩
  .lia
  .exact((Bw (R.nodup g) (a.nodup g)).mpr λr=>#[R.sub a r,a.sub R r]).length_eq
theorem GW:∀w:W,(w.map λr=>(r.length:Int)).sum=((yf w:Nat):Int)
 | []=>rfl
 |r::w=>by
  have:=GW w
  unfold yf at this ⊢;simp only[gF,List.sum_cons] at this ⊢;lia
def su.rounds{w:W}(g:Good w)(h:su w a)(b:a.flatten.Perm (bD w)):jV w (a.map xO):=by
 refine#[λm c=>?_,(qQ xP a).trans b];obtain⟨r,f,rfl⟩:=cM.mp c;obtain⟨d,R,i⟩:=h r f;obtain⟨e,j,k,l⟩:=K3 g R i;exact#[e,j,k,l]
variable {P:Program} {w:World} {mg:Str->Option Value} {base:Heap} {Z:DC} (T:Txt Z mg)
def Mq:cc:=λa P=>∃(b:List Int)(k:Nat),a= [.jF b,ao k]/\∀v:Int,P (.int v)
def dF:FnOk P w Z.K mg base bZ 1 T.d__law_cell_at.f T.d__law_cell_at.fd ["_law_script","_law_k"] (aV Z Mq):=by
 have g:=mH.nd;refine bf T.d__law_cell_at.F mH [0,0] ∅ (λa R h=>by obtain⟨_,_,rfl,_⟩:=h;rfl) (λi A outer s H E a R b h=>?_)
 have j:=b.units
 refine#[_,(af (br (aQ Dz (aa 1) (aH bC rfl T.B.len bB (ae (aa 0) ag)) (aZ _)) (aq (aM (aY (aa 0) (aa 1)))) aI)
   (aq (aM az))),?_]
 obtain⟨c,k,rfl,q⟩:=h;exists _,rfl,_,rfl;refine#[_,rfl,bF (λe=>?_) (λe=>?_)]
 .have d:k<c.length:=by
   have:=KB e
   lia
  exact#[_,rfl,_,rfl,_,EJ (cZ d),q _]
 .exact q 0
def Jw:cc:=λa P=>∃(c k:Int),a= [.int c, .int k]/\(0<=k/\k<1000)/\∀v:Int,P (.int v)
def mod_lt(x:Int):0<=x%2147483629/\x%2147483629<2147483629:=#[acX _ ∅,acn _ ∅]
def u7:FnOk P w Z.K mg base bZ 1 T.d__law_reserve.f T.d__law_reserve.fd ["_law_cell","_law_k"] (aV Z Jw):=by
 have a:=mJ.nd;refine bf T.d__law_reserve.F mJ [0,0,0] ∅ (λb R h=>by obtain⟨_,_,rfl,_⟩:=h;rfl) (λe A outer s H E b R d h=>?_)
 have g:=d.units
 refine#[_,(af (aP false 2 a (aK cJ (aK bL (aK cJ (aa 0) az) (aK k8 az (aK bL (aa 1) az))) az))
   (aq (aM (aK bL az (aK cJ (aK bL (aK bL (aK k8 (aa 2) (aa 2)) (aK k8 az (aa 2))) (aK k8 az (aa 1))) az))))),?_]
 obtain⟨c,k,rfl,i,q⟩:=h;refine#[_,rfl,(by show(0:Int)<2147483629;decide),_,rfl, .inl #[∅,∅],(by show(0:Int)<2147483629;decide),trivial,?_]
 have:=mod_lt (c%2147483629+48271*(k+1))
 refine#[_,rfl,_,rfl, .inl #[by dsimp only;lia,by dsimp only;lia],_,rfl, .inl #[∅,∅],_,rfl, .inl #[∅,∅],(by show(0:Int)<2147483629;decide),q _]
def E5(h:t {E with nx:=u E} a):dSeq t u E a:=h
def OE(Ok:Int->Prop)(j:a[i]?\(some (.int d)))(k:Ok d)(l:∀Q:Bool->Prop,(∀b,Q b)->c a Q)(n:∀Q:D->Prop,(∀x:Int,Ok x->Q (.int x))->g (vo f m a) Q)
  (h:∀x:Int,Ok x->E.nx (a.set i (some (.int x)))):AD c (E6 f m i g) uH E a:=by
 refine l _ λb=>bF (λ_=>n _ λx o=>#[?_,h x o]) (λ_=>?_)
 .cases m
  .trivial
  .rfl
 .have:=h d k
  obtain⟨p,e⟩:=dZ.mp j;rw[<-e,abO] at this;exact this
def bE(l:List Int):List D:=l.map D.int
def yK(l:List Int):(bE l).length=l.length:=aS _
def vW(l:List Int)(x:Int):bE (l++ [x])=bE l++ [.int x]:=cX ..
def yJ{l:List Int}{p:Nat}(h:p<l.length):fQ (bE l) (p:Int)\(.int (l.getD p 0)):=ik (by unfold bE;rw[fi,cW,cZ h];rfl)
def P4:cc:=λb P=>∃(c:List Int)(k n:Nat),b= [.jF c,ao k,ao n]/\k<=10/\n<=14/\∀a:List Int,a.length=n->P (.lst (bE a))
def kG:FnOk P w Z.K mg base bZ 2 T.d__law_draws.f T.d__law_draws.fd ["_law_script","_law_at","_law_many"] (aV Z P4):=by
 have b:=pW.nd;refine bf T.d__law_draws.F pW [0,0,0,0,1,0,0,0] ∅ (λp R h=>by obtain⟨_,_,_,rfl,_⟩:=h;rfl) (λx A outer s H E p R g h=>?_)
 have r:=g.units
 refine#[_,(af (aP false 3 b (aE T.d__law_cell_at (dF T) g (ae (aa 0) (ae (aa 1) ag))))
   (af (bW 4 b (df ag))
   (af (br (aQ (jc r) (aK cJ (aE T.d__law_cell_at (dF T) g (ae (aa 0) (ae az ag))) az) az (aZ _)) (af (aP false 5 b (aa 3))
   (af (iG rfl GE (fo rfl T.B.range (ae (aa 2) ag)) (aN 6 b) (af (br (aQ Dz (aa 3) az (aZ _)) (aq (aP false 3 b (aE T.d__law_reserve (u7 T) g (ae (aa 5) (ae (aK bL (aK k8 az (aa 1)) (aa 6)) ag))))) aI)
   (af (eF false 4 (aK cJ (aa 3) (aK Kq az az)))
   (aq (aP false 3 b (aK j3 (aa 3) (aK Kq az az)))))))
   (aq (aM (aa 4))))) aI)
   (af (aP false 7 b (aK cJ (aa 3) az))
   (af (iG rfl GE (fo rfl T.B.range (ae (aa 2) ag)) (aN 6 b) (af (aP false 7 b (aK cJ (aK bL (aK bL (aK bL (aK k8 (aa 7) (aa 7)) (aK k8 az (aa 7))) (aK k8 az (aa 6))) az) az))
   (aq (eF false 4 (aK j3 (aa 7) az)))))
   (aq (aM (aa 4)))))))),?_]
 obtain⟨i,k,n,rfl,z,C,q⟩:=h;refine#[_,rfl,_,rfl,i,k,rfl,λc=>#[trivial,?_]];refine#[by show 0<=sizeLine;decide,?_]
 refine#[_,rfl,i,0,rfl,λG=>#[(by show(0:Int)<2;decide),NH #[_,rfl,bF (λ_=>?_) (λ_=>?_)]]]
 .refine#[_,rfl,trivial,?_]
  refine#[_,rfl,#[by show-(2^62)<=(n:Int);lia,by show(n:Int)<2^62;lia],?_]
  rw[show((n:Int)).toNat=n by lia]
  refine gw (λj l=>∃(y:Int)(a:List Int)(d:Option D),l= [some (.jF i),some (ao k),some (ao n),some (.int y),some (.lst (bE a)),some (.int c),d,none]/\a.length=j) #[c,[],_,rfl,rfl] ?_ ?_
  .rintro j _ t ⟨y,a,d,rfl,e⟩ A m
   refine E5 ?_;refine OE (λ_=>True) rfl trivial (λQ o=>#[_,rfl,_,rfl,o _]) (λQ o=>?_) λI _=>?_
   .exact#[_,rfl,_,rfl, .inl #[∅,∅],_,rfl,_,_,rfl,#[(),()],λv=>o _ trivial]
   refine#[_,rfl,_,rfl,#[∅,∅],(by show(0:Int)<10^9;decide),trivial,cf (by rw[yK];lia),?_]
   refine#[_,rfl,#[∅,∅],#[∅,∅],trivial,?_]
   exact m _ #[_,a++ [_],some (ao j),by rw[vW];rfl,by rw[cI,e];rfl]
  .rintro _ ⟨y,a,d,rfl,e⟩
   exact#[_,rfl,q a e]
 .refine#[_,rfl,(by show(0:Int)<2147483629;decide),trivial,?_]
  refine#[_,rfl,#[by show-(2^62)<=(n:Int);lia,by show(n:Int)<2^62;lia],?_]
  rw[show((n:Int)).toNat=n by lia]
  refine gw (λj l=>∃(y:Int)(a:List Int)(d:Option D),l= [some (.jF i),some (ao k),some (ao n),some (.int c),some (.lst (bE a)),none,d,some (.int y)]/\a.length=j/\0<=y/\y<2147483629) #[_,[],_,rfl,rfl,mod_lt c] ?_ ?_
  .rintro j _ t ⟨y,a,d,rfl,e,u⟩ A m
   refine#[_,rfl,_,rfl, .inl #[(),()],_,rfl, .inl #[∅,∅],_,rfl, .inl #[∅,∅],(by show(0:Int)<2147483629;decide),trivial,?_]
   refine#[_,rfl,_,rfl,#[∅,∅],trivial,cf (by rw[yK];lia),?_]
   exact m _ #[_,a++ [_],some (ao j),by rw[vW];rfl,by rw[cI,e];rfl,mod_lt _]
  .rintro _ ⟨y,a,d,rfl,e,u⟩
   exact#[_,rfl,q a e]
variable {P:Program} {w:World} {mg:Str->Option Value} {base:Heap} {Z:DC} (T:Txt Z mg)
structure sC (w:W) (r:List Nat):Prop where
 ne:0<r.length
 sz:r.length<=196
 lt:∀k,k<r.length->r.getD k 0<w.length
 tie:2<=w.length->∀k,k<r.length->r.getD ((k+(r.length-1))%r.length) 0∈row w (r.getD k 0)
structure Cl (w:W) (ds:List (Nat×Nat)):Prop where
 nd:ds.Nodup
 dart:∀e∈ds,bp w e
 step:∀e,bp w e->(e∈ds↔yY w e∈ds)
theorem Cl.bx{w:W}(c:Cl w a)(g:Good w)(b:bp w d):∀k,Wb.bx w k d∈a↔d∈a
 |0=>abf
 |k+1=>(c.step _ (cY g b k)).symm.trans (c.bx g b k)
def cD{w:W}:e∈walk w d k↔∃i,i<k/\bx w i d=e:=by
 unfold walk;rw[cM];exact#[λ#[i,a,e]=>#[i,eJ.mp a,e],λ#[i,a,e]=>#[i,eJ.mpr a,e]]
def Cl.len{w:W}(c:Cl w a)(g:Good w)(b:w.length<=14):a.length<=196:=by
 have f:=km g;have h:w.length*w.length<=14*14:=zN b b
 have:=aD c.nd λe d=>bz.mpr (c.dart e d)
 lia
def Cl.nodup{w:W}(c:Cl w e)(g:Good w)(f:bp w d)(l:0<k->d∉e)(m:∀j,0<j->j<k->Wb.bx w j d≠d):(e++walk w d k).Nodup:=by
 rw[iT];refine#[c.nd,qe g f m,λa h b n z=>?_];obtain⟨i,o,rfl⟩:=cD.mp n;rw[z] at h;exact l () ((c.bx g f i).mp h)
def Cl.back{w:W}(c:Cl w a)(g:Good w)(b:bp w d)(o:0<k)(l:d∉a)(m:∀j,0<j->j<k->Wb.bx w j d≠d)(h:Wb.bx w k d∈a++walk w d k):Wb.bx w k d=d:=by
 rcases cF.mp h with h|h
 .exact absurd ((c.bx g b k).mp h) l
 .obtain⟨i,p,e⟩:=cD.mp h
  have n:Wb.bx w i d=Wb.bx w i (Wb.bx w (k-i) d):=by rw[<-fU (k-i) i,show i+(k-i)=k by lia];exact e
  have f:=(tI g b (cY g b _) i n).symm
  by_cases z:i=0
  .subst z;exact f
  .exact absurd f (m (k-i) () ())
def Cl.grow{w:W}{f:List (Nat×Nat)}(c:Cl w f)(g:Good w){d:Nat×Nat}(b:bp w d)(l:0<k)(n:d∉f)(o:∀j,0<j->j<k->Wb.bx w j d≠d)(e:Wb.bx w k d=d):Cl w (f++walk w d k):=by
 refine#[c.nodup g b (λ_=>n) o,λx a=>?_,λx a=>?_]
 .rcases cF.mp a with h|h
  .exact c.dart x h
  .exact nI g b x h
 .rw[cF,cF,<-c.step x a]
  refine or_congr abf #[λh=>?_,λh=>?_]
  .obtain⟨i,p,rfl⟩:=cD.mp h
   by_cases z:i+1=k
   .exact cD.mpr #[0,l,by show d=Wb.bx w (i+1) d;rw[z,e]]
   .exact cD.mpr #[i+1,(),rfl]
  .obtain⟨i,p,z⟩:=cD.mp h
   cases i with
   |zero=>
    obtain⟨m,rfl⟩:∃m,k=m+1:=#[k-1,()]
    refine cD.mpr #[m,(),yZ g (cY g b m) a ?_]
    exact e.trans z
   |succ i=>exact cD.mpr #[i,(),yZ g (cY g b i) a z]
def vq{w:W}(h:i<k):((walk w d k).map (·.1)).getD i 0=(bx w i d).1:=by
 unfold walk;rw[dQ,cW,fi,wH h];rfl
def OL{w:W}(g:Good w)(c:w.length<=14)(b:bp w d)(f:0<k)(h:∀j,0<j->j<k->Wb.bx w j d≠d)(e:Wb.bx w k d=d):sC w ((walk w d k).map (·.1)):=by
 have n:=km g;have o:w.length*w.length<=14*14:=zN c c;have p:=zH g b h;have l:((walk w d k).map (·.1)).length=k:=by rw[aS,fI]
 have st:∀i,(bx w i d).1∈row w (bx w (i+1) d).1:=λi=>g.sym _ _ (cY g b i);refine#[(),(),λi a=>?_,λ_ i a=>?_]
 .rw[l] at a
  rw[vq a];exact cT (cY g b i)
 .rw[l] at a ⊢
  rw[vq a,vq (rm _ f)];cases i with
  |zero=>
   obtain⟨m,rfl⟩:∃m,k=m+1:=#[k-1,()]
   have:=st m
   rw[e] at this;rw[uw,lE ()];exact this
  |succ i=>
   rw[show i+1+(k-1)=i+k by lia,acB,lE ()];exact st i
def O5{w:W}(g:Good w)(h:w.length=1):w= [[]]:=by
 match w,h with
 | [r],_=>
  cases r with
  |nil=>rfl
  |cons a r=>
   have m:a∈row [a::r] 0:=dH
   have:=g.rng 0 a m
   have e:a=0:=by simpa using this
   subst e;exact absurd m (g.irr 0)
def HS{w:W}(g:Good w)(h:2<=w.length):0<(row w 0).length:=by
 apply Nat.pos_of_ne_zero;intro z;have z:row w 0= []:=abq.mp z
 have:=vH g (S:=λp=>p=0) rfl (λp q b a=>by subst b;rw[z] at a;cases a) 1 ()
 lia
def Rl(w:W)(b:List (Nat×Nat))(e:List (List Nat))(c:Nat×Nat->Prop):Prop:=∃a:List (List (Nat×Nat)),b=a.flatten/\e=NV a/\su w a/\(∀r∈e,sC w r)/\∀d,c d->d∈b
def Rl.imp{w:W}{b:List (List Nat)}(h:Rl w a b c)(k:∀d,e d->c d\/d∈a):Rl w a b e:=by
 obtain⟨f,g,i,j,l,m⟩:=h;exact#[f,g,i,j,l,λd n=>(k d n).elim (m d) id]
def Mn{w:W}(a:0<k)(e:bx w k d=d)(b:∀j,0<j->j<k->bx w j d≠d):js w d (walk w d k):=#[k,a,e,b,rfl]
def Cn(w:W)(c:Nat):Prop:=∃a,Rs w a/\a.length=c
def Rl.cn{w:W}(g:Good w)(f:2<=w.length)(C:Cl w b)(h:Rl w b c (bp w)):Cn w c.length:=by
 obtain⟨e,rfl,rfl,i,_,all⟩:=h;have j:e.flatten.Perm (bD w):=(Bw C.nd (eE g)).mpr λd=>#[λa=>bz.mpr (C.dart d a),λa=>all d (bz.mp a)];exact#[e.map xO, .inr #[f,su.rounds g i j],by unfold NV;rw[aS,aS]]
def GU:cc:=λc P=>∃(w:W),c= [aW w]/\Good w/\1<=w.length/\w.length<=14/\∀a:List (List Nat),0<a.length->a.length<=196->(∀r∈a,sC w r)->Cn w a.length->(2<=w.length->∀r∈a,∃d b,js w d b/\bp w d/\r=b.map (·.1))->P (.lst (a.map av))
def pI:FnOk P w Z.K mg base bZ 1 T.d__law_lands.f T.d__law_lands.fd ["_law_turns"] (aV Z GU):=by
 have u:=pZ.nd;refine bf T.d__law_lands.F pZ [0,98,1,0,0,1,0,0] ∅ (λl R h=>by obtain⟨_,rfl,_⟩:=h;rfl) (λbg A outer s H E l R v h=>?_)
 have hu:=v.units
 refine#[_,(af (br (aQ (jc hu) (aa 0) (cz (ae (cz ag) ag)) (aZ _)) (aq (aM (cz (ae (cz (ae az ag)) ag)))) aI)
   (af (Nw 1 u)
   (af (bW 2 u (df ag))
   (af (iG rfl GE (fo rfl T.B.range (ae (aH bC rfl T.B.len bB (ae (aa 0) ag)) ag)) (aN 3 u) (aq (dh rfl GE (bq (aY (aa 0) (aa 3))) (aN 4 u) (af (bW 5 u (df ag))
   (af (aP false 6 u (bS (ae (aa 3) (ae (aa 4) ag))))
   (af (mf GE (aQ (IW hu) (aa 6) (aa 1) (by with_unfolding_all rfl)) (af (NB 1 hu (aa 6) eX)
   (af (eF false 5 (aY (aa 6) az))
   (af (aP false 7 u (aY (aa 0) (aY (aa 6) az)))
   (aq (aP false 6 u (bS (ae (aY (aa 6) az) (ae (aY (aa 7) (aK cJ (aK bL (qr (aa 7) (aY (aa 6) az)) az) (aH bC rfl T.B.len bB (ae (aa 7) ag)))) ag)))))))))
   (aq (br (aQ (m8 hu) (aa 5) (cz ag) (aZ _)) (aq (Nv 2 5)) aI))))))))
   (aq (aM (aa 2))))))),?_]
 obtain⟨a,rfl,g,h1,X,q⟩:=h;have lw:(a.map av).length=a.length:=aS _;refine#[_,rfl,by show 0<=sizeLine;decide,by show 1<=sizeLine;decide,?_]
 refine(?_:sT (aW a) (aW [[]]) _);refine E3 #[_,rfl,bF (λe=>?_) (λe=>?_)]
 .obtain rfl:a= [[]]:=KB e
  refine#[by show 1<=sizeLine;decide,by show 1<=sizeLine;decide,?_]
  refine q [[0]] ∅ ∅ (λr v=>?_) #[[[(0,0)]], .inl #[rfl,rfl],rfl] (λz=>absurd z ∅)
  rw[fB] at v;subst v;refine#[∅,∅,λk G=>?_,λh=>absurd h ∅]
  have:k=0:=by simpa using G
  subst this;decide
 have n2:2<=a.length:=FB λz=>PP e (O5 g ())
 have r0:=HS g n2;refine#[by show 0<=sizeLine;decide,?_]
 refine#[_,rfl,#[(),by show((a.map av).length:Int)<2^62;lia],?_]
 rw[show(((a.map av).length:Int)).toNat=a.length by lia]
 refine gw (λj Y=>∃(l:List (Nat×Nat))(o:List FV)(n:List (List Nat))(o3 N O Q y:Option D),Y= [some (aW a),some (.x (.tU (l.map zz) o)),some (.lst (n.map av)),o3,N,O,Q,y]/\Cl a l/\(0<j->0<l.length)/\(0<l.length->0<n.length)/\n.length<=l.length/\Rl a l n λd=>bp a d/\d.1<j)
  #[[],[],[],_,_,_,_,_,rfl,#[gd,(λe h=>nomatch h),λe _=>#[(λh=>nomatch h),λh=>nomatch h]],(λh=>by lia),id,bM _,[],rfl,rfl,(λr h=>nomatch h),(λr h=>nomatch h),λd h=>absurd h.2 ()] ?_ ?_
 .rintro p _ hp ⟨l,o,n,o3,N,O,Q,y,rfl,C,S,J,U,ok⟩ A hA
  exists _,rfl,_,rfl,_,fW hp
  refine cC (λm Y=>∃(l:List (Nat×Nat))(o:List FV)(n:List (List Nat))(N O Q y:Option D),Y= [some (aW a),some (.x (.tU (l.map zz) o)),some (.lst (n.map av)),some (ao p),N,O,Q,y]/\Cl a l/\(0<p\/0<m->0<l.length)/\(0<l.length->0<n.length)/\n.length<=l.length/\Rl a l n λd=>bp a d/\(d.1<p\/(d.1=p/\d.2∈(row a p).take m)))
   #[l,o,n,_,_,_,_,rfl,C,(λh=>h.elim S λh=>by lia),J,U,ok.imp λd h=> .inl #[h.1,h.2.elim id λz=>by simp at z]] ?_ ?_
  .clear S J U ok C
   rintro m _ _ t ⟨l,o,n,N,O,Q,y,rfl,C,S,J,U,ok⟩ A hA;obtain⟨b,hq,rfl⟩:=cV t;have M:bp a (p,b):=fb hq;have Z8:(row a p).take (m+1)=(row a p).take m++ [b]:=by rw[zS,hq];rfl
   have c1:=km g;have c2:a.length*a.length<=14*14:=zN X X;have cl:=C.len g X;refine#[by show 0<=sizeLine;decide,?_]
   refine#[_,rfl,_,rfl,by show 2<=sizeLine;decide,trivial,?_]
   refine kM (λm Y=>∃(k:Nat)(o:List FV)(y:Option D),Y= [some (aW a),some (.x (.tU ((l++walk a (p,b) k).map zz) o)),some (.lst (n.map av)),some (ao p),some (ao b),some (av ((walk a (p,b) k).map (·.1))),some (pairD (bx a k (p,b))),y]/\m+k=200/\(0<k->(p,b)∉l)/\(∀j,0<j->j<k->bx a j (p,b)≠(p,b))) 200 #[0,o,_,by rw[show walk a (p,b) 0= [] from rfl,gR];rfl,rfl,(λh=>by lia),λj h1 h2=>by lia] ?_
   rintro m _ ⟨k,o,y,rfl,mk,u,G⟩;have kl:=zH g M G;have nn:=C.nodup g M u G
   have nl:(l++walk a (p,b) k).length<=196:=by
    have:=aD nn λe he=>bz.mpr ((cF.mp he).elim (C.dart e) (nI g M e))
    lia
   have dk:=cY g M k;have hs:=g.sym _ _ dk;exists _,rfl,_,rfl,zz (bx a k (p,b)),_,_,rfl,rfl,_,rfl;refine(?_:if (if true=true then !decide (zz (bx a k (p,b))∈(l++walk a (p,b) k).map zz) else _)=true then _ else _);rw[AC rfl,show decide (zz (bx a k (p,b))∈(l++walk a (p,b) k).map zz)=decide (bx a k (p,b)∈l++walk a (p,b) k) from aa8.mpr xF];refine bF (λc=>?_) (λc=>?_)
   .have c:bx a k (p,b)∉l++walk a (p,b) k:=by simpa using c
    have c8:=cT hs;have rln:=dO g (bx a k (p,b)).2;have lr:((row a (bx a k (p,b)).2).map ao).length=(row a (bx a k (p,b)).2).length:=aS _;have pos:0<(row a (bx a k (p,b)).2).length:=wF hs;have e0:(0:Int)<(((row a (bx a k (p,b)).2).map ao).length:Int):=by rw[lr];lia
    refine#[.bl true,_,_,rfl,rfl,_,rfl,zz _,rfl,(λz=>c (xF.mp z)),by rw[aS];lia,?_]
    refine#[_,rfl,_,rfl,_,rfl,trivial,cf (by rw[aS,aS,fI];lia),?_]
    exists _,rfl,_,rfl,_,rfl,_,fW c8,trivial;have fx:=fu hs;exists _,rfl,_,rfl,_,rfl,_,rfl,_,rfl,_,rfl,_,rfl,rfl,d9 _,_,_,fx.1,fx.2.1,fx.2.2;exists _,rfl,e0;have em:(((row a (bx a k (p,b)).2).idxOf (bx a k (p,b)).1:Nat):Int)+1=(((row a (bx a k (p,b)).2).idxOf (bx a k (p,b)).1+1:Nat):Int):=()
    have et:((((row a (bx a k (p,b)).2).idxOf (bx a k (p,b)).1:Nat):Int)+1)%(((row a (bx a k (p,b)).2).map ao).length:Int)=((((row a (bx a k (p,b)).2).idxOf (bx a k (p,b)).1+1)%(row a (bx a k (p,b)).2).length:Nat):Int):=by rw[lr,em,Int.natCast_emod]
    refine#[ao (e9 (row a (bx a k (p,b)).2) (bx a k (p,b)).1),?_,by show 2<=sizeLine;decide,trivial,m-1,(),k+1,o++ [.bl true],some (av (row a (bx a k (p,b)).2)),?_,(),λ_=>?_,λj h1 h2=>?_]
    .show fQ ((row a (bx a k (p,b)).2).map ao) ((λi j=>i%j) _ _)=_
     dsimp only;rw[et];exact iL (rm _ pos)
    .have e1:(l++walk a (p,b) (k+1)).map zz=(l++walk a (p,b) k).map zz++ [zz (bx a k (p,b))]:=by rw[sj,<-lD,cX];rfl
     have e2:av ((walk a (p,b) (k+1)).map (·.1))= .lst (((walk a (p,b) k).map (·.1)).map ao++ [ao (bx a k (p,b)).1]):=by unfold av;rw[sj,cX,cX];rfl
     rw[e1,e2];rfl
    .by_cases z:0<k
     .exact u z
     .obtain rfl:k=0:=()
      exact λh=>c (fZ _ h)
    .by_cases z:j=k
     .subst z
      exact λh=>c (dP _ (cD.mpr #[0,h1,h.symm]))
     .exact G j h1 ()
   .have c:bx a k (p,b)∈l++walk a (p,b) k:=KB (by simpa only[Bool.not_eq_false'] using c)
    refine#[_,rfl,by show 0<=sizeLine;decide,?_]
    refine(?_:wU (av _) (av []) _);refine E4 #[_,rfl,bF (λe=>?_) (λe=>?_)]
    .have I:0<k:=Nat.pos_of_ne_zero λz=>by subst z;exact absurd e (by simp[walk])
     have bk:=C.back g M I (u I) G c;have C2:=C.grow g M I (u I) G bk;have L:=OL g X M I G bk;refine#[_,_,rfl,rfl,cf (by rw[aS];lia),?_]
     refine hA _ #[l++walk a (p,b) k,o,n++ [(walk a (p,b) k).map (·.1)],some (ao b),none,some (pairD (bx a k (p,b))),y,?_,C2,λ_=>?_,λ_=>?_,?_,?_]
     .rw[cX (f:=av)];rfl
     .rw[cI,fI];lia
     .rw[cI];exact Nat.succ_pos _
     .rw[cI,cI,fI];simp only[n5];lia
     .obtain⟨xf,d1,d2,d3,d4,d5⟩:=ok
      refine#[xf++ [walk a (p,b) k],?_,?_,λr v=>?_,λr v=>?_,λd t=>?_]
      .rw[d1,Hm];simp
      .rw[d2];unfold NV;rw[cX];rfl
      .rcases cF.mp v with h|h
       .exact d3 r h
       .rw[fB] at h;rw[h]
        exact#[(p,b),Mn I bk G,M]
      .rcases cF.mp v with h|h
       .exact d4 r h
       .rw[fB] at h;rw[h];exact L
      .rw[Z8] at t
       by_cases z:d=(p,b)
       .rw[z];exact dP _ (cD.mpr #[0,I,rfl])
       .refine fZ _ (d5 d #[t.1,t.2.imp id λh=>#[h.1,(cF.mp h.2).elim id λh2=>absurd (aaW h.1 (fB.mp h2)) z]])
    .have I:k=0:=by
      have e:(walk a (p,b) k).map (·.1)= []:=KB (by simpa only[Bool.not_eq_false'] using e)
      have:=KF List.length e
      rwa [aS,fI] at this
     subst I;have e0:l++walk a (p,b) 0=l:=gR _;rw[e0] at c;refine hA _ #[l,o,n,_,_,_,_,by rw[e0],C,λ_=>wF c,J,U,ok.imp λd t=>?_]
     rw[Z8] at t
     by_cases z:d=(p,b)
     .rw[z];exact .inr c
     .exact .inl #[t.1,t.2.imp id λh=>#[h.1,(cF.mp h.2).elim id λh2=>absurd (aaW h.1 (fB.mp h2)) z]]
  .rintro _ ⟨l,o,n,N,O,Q,y,rfl,C,S,J,U,ok⟩
   refine hA _ #[l,o,n,_,_,_,_,_,rfl,C,λ_=>S ?_,J,U,ok.imp λd t=> .inl #[t.1,?_]]
   rotate_left
   .rw[aS,BG]
    have:=t.2
    by_cases z:d.1=p
    .exact .inr #[z,z▸t.1]
    .left;lia
   by_cases z:p=0
   .subst z;right;rw[aS];exact r0
   .left;lia
 .rintro _ ⟨l,o,n,o3,N,O,Q,y,rfl,C,S,J,U,ok⟩
  have:=C.len g X
  obtain⟨xf,d1,d2,d3,d4,d5⟩:=ok
  exact#[_,rfl,q n (J (S ())) () d4 (Rl.cn g n2 C #[xf,d1,d2,d3,d4,λd t=>d5 d #[t,cT t]]) λ_ r v=>by
   rw[d2] at v;obtain⟨rd,YM,rfl⟩:=cM.mp v;obtain⟨d,Rd,dd⟩:=d3 rd YM;exact#[d,rd,Rd,dd,rfl]]
variable {P:Program} {w:World} {mg:Str->Option Value} {base:Heap} {Z:DC} (T:Txt Z mg)
structure To (r ks:List Nat):Prop where
 ne:0<ks.length
 lt:∀k∈ks,k<r.length
 nd:(ks.map λk=>r.getD k 0).Nodup
def Ms:cc:=λb P=>∃(r:List Nat)(n:Int),b= [av r, .int n]/\0<r.length/\r.length<=196/\∀a,To r a->P (av a)
def wZ:FnOk P w Z.K mg base bZ 1 T.d__law_places.f T.d__law_places.fd ["_law_land","_law_number"] (aV Z Ms):=by
 have l:=nV.nd;refine bf T.d__law_places.F nV [0,0,0,1,0] ∅ (λx R h=>by obtain⟨_,_,rfl,_⟩:=h;rfl) (λN A outer s H E x R C h=>?_)
 have u:=C.units
 refine#[_,(af (aP false 2 l (aa 1))
   (af (bW 3 l (df ag))
   (af (iG rfl GE (fo rfl T.B.range (ae (aH bC rfl T.B.len bB (ae (aa 0) ag)) ag)) (aN 4 l) (af (br (DW.dt (Ce (aQ (jc u) (aK cJ (aa 1) az) az (aZ _)) (yk (aQ mB (aY (aa 0) (aa 4)) (oO (NC:= ["_law_at","_law_land"]) (src:= [none,some 0]) rfl (lF (au iN)) #[rfl,rfl,trivial] (bq (aa 3)) (λ_ _ _=>(bI 0 (show(["_law_at","_law_land"]:List Str).Nodup from by decide+kernel))) (λ_ _ _=>c7) (λ_ _ _=>(aY (aa 1) (aa 0)))) (by with_unfolding_all rfl))))) (aq (eF false 3 (aa 4))) aI)
   (aq (aP false 1 l (aK j3 (aa 1) az)))))
   (af (br (aQ (jc u) (aa 3) (cz ag) (aZ _)) (aq (aM (cz (ae (aK cJ (aa 2) (aH bC rfl T.B.len bB (ae (aa 0) ag))) ag)))) aI)
   (aq (aM (aa 3))))))),?_]
 obtain⟨r,n,rfl,O,G,q⟩:=h;have Q:(r.map ao).length=r.length:=aS _;exists _,rfl,trivial;refine#[by show 0<=sizeLine;decide,?_]
 refine#[_,rfl,#[(),by show((r.map ao).length:Int)<2^62;lia],?_]
 rw[show(((r.map ao).length:Int)).toNat=r.length by lia]
 refine gw (λj ρ=>∃(y:Int)(d:List Nat)(o:Option D),ρ= [some (av r),some (.int y),some (.int n),some (av d),o]/\d.length<=j/\(∀k∈d,k<r.length)/\(d.map λk=>r.getD k 0).Nodup) #[n,[],_,rfl,bM _,(λk h=>nomatch h),gd] ?_ ?_
 .rintro j _ v ⟨y,d,o,rfl,I,lt,g⟩ A p
  refine#[_,rfl,(by show(0:Int)<2;decide),NH #[_,rfl,bF (λ_=>?_) (λ_=>bX #[_,rfl,#[∅,∅],trivial,p _ #[_,d,some (ao j),rfl,(),lt,g]])]]
  exists _,rfl,_,rfl,_,iL v,_,rfl;refine ji (ρ:= [none,some (av r)]) ao (λk=>ao (r.getD k 0)) d _ (λk i Y J=>?_) rfl (small ()) λS=>?_
  .exact#[_,rfl,_,rfl,_,iL (lt k i),J]
  have e:(d.map λk=>ao (r.getD k 0))=(d.map λk=>r.getD k 0).map ao:=by rw[dQ];rfl
  rw[e];exists rfl,d9 _,_,rfl;refine(?_:if (if true=true then !inD (ao (r.getD j 0)) ((d.map λk=>r.getD k 0).map ao) else _)=true then _ else _);rw[AC rfl,mv];refine bF (λc=>?_) (λc=>#[_,rfl,#[∅,∅],trivial,p _ #[_,d,some (ao j),rfl,(),lt,g]])
  have c:r.getD j 0∉d.map λk=>r.getD k 0:=PP (by simpa only[Bool.not_eq_true'] using c)
  refine#[_,rfl,_,rfl,trivial,cf (by rw[aS];lia),?_]
  refine#[_,rfl,#[∅,∅],trivial,p _ #[y / 2,d++ [j],some (ao j),?_,?_,λk i=>?_,?_]]
  .unfold av;rw[cX];rfl
  .rw[cI];simp only[n5];lia
  .rcases cF.mp i with h|h
   .exact lt k h
   .rw[fB] at h;rw[h];exact v
  .rw[cX,iT]
   refine#[g,by simp,λa L b t z=>c ?_]
   have t:b=r.getD j 0:=by simpa using t
   rw[<-t,<-z];exact L
 .rintro _ ⟨y,d,o,rfl,I,lt,g⟩
  refine#[_,rfl,by show 0<=sizeLine;decide,?_]
  refine(?_:sT (av d) (av []) _);refine M6 #[_,rfl,bF (λe=>?_) (λe=>?_)]
  .have m:=mY n ((r.map ao).length:Int) ()
   refine#[_,rfl,_,rfl,(by show(0:Int)<((r.map ao).length:Int);lia),by show 1<=sizeLine;decide,?_]
   have:=q [(n%((r.map ao).length:Int)).toNat] #[Nat.succ_pos _,λk i=>by rw[fB] at i;lia,by simp]
   have M:av [(n%((r.map ao).length:Int)).toNat]= .lst [.int (n%((r.map ao).length:Int))]:=by
    show D.lst [.int (((n%((r.map ao).length:Int)).toNat:Nat):Int)]=_;rw[show(((n%((r.map ao).length:Int)).toNat:Nat):Int)=n%((r.map ao).length:Int) by lia]
   rw[M] at this;exact this
  .have e:d≠ []:=PP e
   exact#[_,rfl,q d #[Bz.mpr e,lt,g]]
variable {P:Program} {w:World} {mg:Str->Option Value} {base:Heap} {Z:DC} (T:Txt Z mg)
def Ic{w v:W}(g:Good w){c:List Nat}(ne:0<c.length)(lt:∀p∈c,p<w.length)(len:v.length=w.length+1)(k:(row v w.length).Nodup)(last:∀x,x∈row v w.length↔x∈c)(nod:∀p,p<w.length->(row v p).Nodup)(mem:∀p,p<w.length->∀q,q∈row v p↔q∈row w p\/(q=w.length/\p∈c)):Good v:=by
 have l:w.length∉c:=λh=>kP _ (lt _ h)
 have f:∀{p q},q∈row v p->(p<w.length/\(q∈row w p\/(q=w.length/\p∈c)))\/(p=w.length/\q∈c):=λ {p q} h=>by
  have:=cT h
  by_cases z:p=w.length
  .subst z;exact .inr #[rfl,(last q).mp h]
  .have:p<w.length:=()
   exact .inl #[this,(mem p this q).mp h]
 have up:∀{a b},Reach w a b->Reach v a b:=λ {a b} h=>by
  induction h with
  |refl=>exact .refl _
  |step _ j m=>exact .step m ((mem _ (cT j) _).mpr (.inl j))
 refine#[λp q h=>?_,λp h=>?_,λp=>?_,λp q h=>?_,λp n=>?_]
 .rcases f h with ⟨_,h| ⟨h,_⟩⟩ | ⟨_,h⟩
  .have:=g.rng p q h;lia
  .lia
  .have:=lt q h;lia
 .rcases f h with ⟨_,h| ⟨_,h⟩⟩ | ⟨e,h⟩
  .exact g.irr p h
  .have:=lt p h;lia
  .subst e;exact l h
 .by_cases z:p<w.length
  .exact nod p z
  .by_cases e:p=w.length
   .subst e;exact k
   .have:row v p= []:=ab6.mpr λq h=>by have:=cT h;lia
    rw[this];exact gd
 .rcases f h with ⟨n,d| ⟨e,d⟩⟩ | ⟨e,d⟩
  .have s:=g.sym p q d
   exact(mem q (cT s) p).mpr (.inl s)
  .subst e;exact(last p).mpr d
  .subst e;exact(mem q (lt q d) _).mpr (.inr #[rfl,d])
 .by_cases z:p<w.length
  .exact up (g.con p z)
  .obtain rfl:p=w.length:=()
   obtain⟨x,i⟩:=List.exists_mem_of_length_pos ne;exact .step (up (g.con x (lt x i))) ((mem x (lt x i) _).mpr (.inr #[rfl,i]))
def OD{x0:Int}(B:Prop)(Ok:Int->Prop)(h:a[i]?\(some (.int x0)))(j:¬B->Ok x0)(k:∀Q:Bool->Prop,(B->Q true)->(¬B->Q false)->c a Q)(l:B->∀Q:D->Prop,(∀x:Int,Ok x->Q (.int x))->f (vo d m a) Q)
  (g:∀x:Int,Ok x->E.nx (a.set i (some (.int x)))):AD c (E6 d m i f) uH E a:=by
 refine k _ (λb=>b8 (l b _ λx n=>#[?_,g x n])) (λb=>bX ?_)
 .cases m
  .trivial
  .rfl
 .have:=g x0 (j b)
  obtain⟨o,e⟩:=dZ.mp h;rw[<-e,abO] at this;exact this
def Me{r:List Nat}(h:k<r.length):fQ (r.map ao) ((k:Int)-1)\(ao (r.getD ((k+(r.length-1))%r.length) 0)):=by
 cases k with
 |zero=>
  rw[uw,lE ()]
  refine JT (j:=r.length-1) (n:=r.length) (aS _) ?_ ?_
  .unfold iB
   rw[tz (),AC ()]
   exact KF some ()
  .rw[fi,cW,cZ (by lia:r.length-1<r.length)];rfl
 |succ k=>
  rw[show k+1+(r.length-1)=k+r.length by lia,acB,lE (),show((k+1:Nat):Int)-1=(k:Int) by lia]
  exact iL ()
def P8:cc:=λb P=>∃(w:W)(r a:List Nat),b= [aW w,av r,av a]/\Good w/\1<=w.length/\w.length<=13/\sC w r/\To r a/\∀v,Good v->v.length=w.length+1->P (aW v)
def y6:FnOk P w Z.K mg base bZ 1 T.d__law_grown.f T.d__law_grown.fd ["_law_turns","_law_land","_law_places_here"] (aV Z P8):=by
 have C:=pY.nd;refine bf T.d__law_grown.F pY [0,0,0,1,1,0,0,0] ∅ (λds R h=>by obtain⟨_,_,_,rfl,_⟩:=h;rfl) (λbg A outer s H E ds R hr h=>?_)
 have hu:=hr.units
 refine#[_,(af (AG 3 (NC:= ["_law_turn"]) (src:= [none]) rfl C (lF (au jj)) trivial (bq (aa 0)) (λ_ _ _=>(bI 0 (show(["_law_turn"]:List Str).Nodup from by decide+kernel))) (λ_ _ _=>c7) (λ_ _ _=>(hV sO rfl T.B.list fR (ae (aa 0) ag))))
   (af (bW 4 C (df ag))
   (af (dh rfl GE (Cb rfl T.B.reversed (ae (aa 2) ag)) (aN 5 C) (af (Nx 6 3 C (aY (aa 1) (aa 5)))
   (af (aP false 7 C az)
   (af (br (aQ (m8 hu) (aa 6) (cz ag) (aZ _)) (aq (aP false 7 C (aK bL (qr (aa 6) (aY (aa 1) (aK Kr (aa 5) az))) az))) aI)
   (af (HM 3 (aY (aa 1) (aa 5)) (Q0 (aK bL (ja (aa 6) ko (kq (aa 7))) (cz (ae (aH bC rfl T.B.len bB (ae (aa 0) ag)) ag))) (ja (aa 6) (kq (aa 7)) ko)))
   (aq (eF false 4 (aY (aa 1) (aa 5)))))))))
   (aq (aM (aK bL (aa 3) (cz (ae (aa 4) ag)))))))),?_]
 obtain⟨b,r,c,rfl,g,I,Ya,L,K,q⟩:=h;have lw:(b.map av).length=b.length:=aS _;exists _,rfl;refine ji (ρ:= [none]) av av b _ (λx o Y hY=>#[_,rfl,hY]) rfl (small ()) λaL=>?_
 refine#[by show 0<=sizeLine;decide,?_]
 exists _,rfl;refine(?_:mj _ _ _ (c.map ao).reverse _);rw[<-acU];have S:(c.reverse.map λk=>r.getD k 0).Nodup:=by rw[acU];exact(abv _).nodup_iff.mpr K.nd
 refine cC (λj ρ=>∃(v:W)(U X o7:Option D),ρ= [some (aW b),some (av r),some (av c),some (aW v),some (av ((c.reverse.take j).map λk=>r.getD k 0)),U,X,o7]/\v.length=b.length/\(∀p,p<b.length->p∉((c.reverse.take j).map λk=>r.getD k 0)->row v p=row b p)/\(∀p,p<b.length->(row v p).Nodup)/\∀p,p<b.length->∀x,x∈row v p↔x∈row b p\/(x=b.length/\p∈(c.reverse.take j).map λk=>r.getD k 0))
  #[b,_,_,_,rfl,rfl,λp _ _=>rfl,λp _=>g.nod p,λp _ x=>#[.inl,λh=>h.elim id λh=>nomatch h.2]] ?_ ?_
 .rintro j _ _ hd ⟨v,U,X,o7,rfl,t,same,vn,G⟩ A hA
  obtain⟨k,J,rfl⟩:=cV hd;have kk:k∈c:=zL.mp (fb J);have M:=K.lt k kk;have al:=L.lt k M;have tk:c.reverse.take (j+1)=c.reverse.take j++ [k]:=by rw[zS,J];rfl
  generalize VE:((c.reverse.take j).map λk=>r.getD k 0)=u at same G ⊢;have N:((c.reverse.take (j+1)).map λk=>r.getD k 0)=u++ [r.getD k 0]:=by rw[tk,cX,VE];rfl
  have na:r.getD k 0∉u:=λz=>by
   have:=S
   rw[<-n6 (j+1) c.reverse,cX,N] at this
   have:=(iT.mp (iT.mp this).1).2.2 _ z _ (fB.mpr rfl)
   exact this rfl
  have dl:u.length<=196:=by
   have I:=aD (m:=am b.length) (l:=u) (by rw[<-VE,vw];exact S.sublist (acz ..)) λx o=>by
    rw[<-VE] at o;obtain⟨y,hy,rfl⟩:=cM.mp o;exact eJ.mpr (L.lt y (K.lt y (zL.mp (ab5 hy))))
   rw[jR] at I;lia
  generalize ea:r.getD k 0=a at*;have rl:=dO g a;have ra:row v a=row b a:=same a al na;have UE:fQ (r.map ao) (k:Int)\(ao a):=by rw[iL M,ea]
  have lr:((row b a).map ao).length=(row b a).length:=aS _;refine#[_,rfl,_,rfl,_,rfl,_,UE,_,_,rfl,fW (by rw[t];exact al),?_]
  exists trivial;rw[ra];dsimp only;refine E5 ?_;refine(?_:AD _ (E6 [0,0,0,1,1,0,0,0] false 7 _) uH _ [some (aW b),some (av r),some (av c),some (aW v),some (av u),some (ao k),some (av (row b a)),some (.int 0)]);refine OD (row b a≠ []) (λz=>0<=z/\z<=(row b a).length) (x0:=0) (by rfl) (λ_=>#[(),()]) (λQ I h2=>?_) (λne Q hQ=>?_) λz hz=>?_
  .refine#[_,rfl,by show 0<=sizeLine;decide,?_]
   refine(?_:wU (av (row b a)) (av []) _);refine E4 #[_,rfl,?_]
   by_cases e:row b a= []
   .rw[GT e];exact h2 (λz=>z e)
   .rw[GM e];exact I e
  .obtain⟨x,o⟩:=List.exists_mem_of_ne_nil _ ne
   have n2:2<=b.length:=by
    have:=g.rng a x o
    have:x≠a:=λe=>g.irr a (by rw[e] at o;exact o)
    lia
   have hb:=L.tie n2 k M;rw[ea] at hb;have fx:=fu hb;have il:=zO.mpr hb;exact#[_,rfl,_,rfl,_,rfl,_,rfl,_,Me M,rfl,d9 _,_,_,fx.1,fx.2.1,fx.2.2,hQ _ #[(),()]]
  obtain⟨i,rfl⟩:∃i:Nat,z=(i:Int):=#[z.toNat,()]
  have il:i<=(row b a).length:=()
  have ca:cutD ((row b a).map ao) none (some (i:Int))=((row b a).take i).map ao:=by rw[mS _ _ (by rw[lr];lia),vw]
  have cb:cutD ((row b a).map ao) (some (i:Int)) none=((row b a).drop i).map ao:=by rw[rE _ _ (by rw[lr];lia),acu]
  have s1:(cutD ((row b a).map ao) none (some (i:Int))).length+1<=sizeLine:=by rw[ca,aS,jS];exact small ()
  have ei:(cutD ((row b a).map ao) none (some (i:Int))++ [ao (b.map av).length])++cutD ((row b a).map ao) (some (i:Int)) none=(ins (row b a) i b.length).map ao:=by
   rw[ca,cb,lw];unfold ins;rw[cX,lD];rfl
  have s2:(cutD ((row b a).map ao) none (some (i:Int))++ [ao (b.map av).length]).length+(cutD ((row b a).map ao) (some (i:Int)) none).length<=sizeLine:=by
   rw[<-cI,ei,aS,yI];exact small ()
  refine#[_,rfl,_,rfl,_,rfl,by show 1<=sizeLine;decide,s1,_,rfl,_,rfl,_,rfl,_,rfl,s2,?_]
  have fl:((cutD ((row b a).map ao) none (some (i:Int))++ [ao (b.map av).length])++cutD ((row b a).map ao) (some (i:Int)) none).all di=true:=by rw[ei];exact d9 _
  have ix:iB (v.map av).length (a:Int)\a:=by
   unfold iB;rw[AC (),AC (by rw[aS,t];lia)]
   exact KF some ()
  exists fl,_,rfl,_,rfl,_,rfl,_,UE,_,a,rfl,ix;refine#[_,rfl,_,rfl,_,rfl,_,UE,trivial,cf (by rw[aS];lia),?_]
  have nin:b.length∉row b a:=λz=>kP _ (g.rng _ _ z);have n:∀p,row (v.set a (ins (row b a) i b.length)) p=if a=p then ins (row b a) i b.length else row v p:=λp=>Wb.GG (by rw[t];exact al)
  refine hA _ #[v.set a (ins (row b a) i b.length),some (ao k),some (av (row b a)),some (ao i),?_,by rw[gb,t],λp d O=>?_,λp d=>?_,λp d x=>?_]
  .have e3:aW (v.set a (ins (row b a) i b.length))= .lst ((v.map av).set a (.lst ((cutD ((row b a).map ao) none (some (i:Int))++ [ao (b.map av).length])++cutD ((row b a).map ao) (some (i:Int)) none))):=by
    rw[ei];exact KF D.lst (Br ..).symm
   have e4:av (u++ [a])= .lst (u.map ao++ [ao a]):=by unfold av;rw[cX];rfl
   rw[N,e3,e4];rfl
  .rw[N] at O
   rw[cF] at O;rw[n,tz (λe=>O (.inr (fB.mpr e.symm)))];exact same p d λz=>O (.inl z)
  .rw[n]
   split
   .exact yX (g.nod a) nin
   .exact vn p d
  .rw[n,N,cF,fB]
   split
   .next e=>
    subst e;rw[Gb];exact#[λh=>h.elim (λh=> .inr #[h, .inr rfl]) .inl,λh=>h.elim .inr λh=> .inl h.1]
   .next e=>
    rw[G p d x];exact or_congr abf (and_congr abf #[.inl,λh=>h.elim id λh=>absurd h.symm e])
 .rintro _ ⟨v,U,X,o7,rfl,t,same,vn,G⟩
  rw[aS,BG] at same G ⊢;have ps0:0<(c.reverse.map λk=>r.getD k 0).length:=by rw[aS,aca];exact K.ne
  have plt:∀p∈c.reverse.map (λk=>r.getD k 0),p<b.length:=λp d=>by
   obtain⟨k,J,rfl⟩:=cM.mp d;exact L.lt k (K.lt k (zL.mp J))
  have n:∀p,row (v++ [c.reverse.map λk=>r.getD k 0]) p=if p=b.length then c.reverse.map (λk=>r.getD k 0) else row v p:=λp=>by
   unfold row;rw[cW,cW]
   by_cases e:p=b.length
   .rw[AC e,kN (),show p-v.length=0 by lia];rfl
   .rw[tz e]
    by_cases z:p<v.length
    .rw[i5 z]
    .rw[gQ (by rw[cI];simp only[n5];lia),gQ ()]
  have G2:Good (v++ [c.reverse.map λk=>r.getD k 0]):=by
   refine Ic g ps0 plt (by rw[cI,t];rfl) ?_ (λx=>?_) (λp d=>?_) λp d x=>?_
   .rw[n,AC rfl];exact S
   .rw[n,AC rfl]
   .rw[n,tz ()];exact vn p d
   .rw[n,tz ()];exact G p d x
  have:=q _ G2 (by rw[cI,t];rfl)
  have ew:aW (v++ [c.reverse.map λk=>r.getD k 0])= .lst (v.map av++ [av (c.reverse.map λk=>r.getD k 0)]):=by unfold aW;rw[cX];rfl
  rw[ew] at this;exact#[_,rfl,_,rfl,by show 1<=sizeLine;decide,by rw[aS];exact small (by simp only[n5];lia),this]
variable {P:Program} {w:World} {mg:Str->Option Value} {base:Heap} {Z:DC} (T:Txt Z mg)
def SO:cc:=λb P=>∃(a:List Int),b= [.lst (bE a)]/\a.length<=13/\∀w,Good w->w.length=a.length+1->P (aW w)
def Lu:Good [[]]:=#[λp q h=>by have:=cT h;cases p<;>simp[row] at h,λp h=>by have:=cT h;cases p<;>simp[row] at h,λp=>by cases p<;>simp[row],λp q h=>by have:=cT h;cases p<;>simp[row] at h,λp a=>by
 obtain rfl:p=0:=by simpa using a
 exact .refl _]
def DJ:FnOk P w Z.K mg base bZ 2 T.d__law_web.f T.d__law_web.fd ["_law_draws_here"] (aV Z SO):=by
 have b:=t8.nd;refine bf T.d__law_web.F t8 [0,0,0,0,0] ∅ (λt R h=>by obtain⟨_,rfl,_⟩:=h;rfl) (λO A outer s H E t R c h=>?_)
 have Q:=c.units
 refine#[_,(af (aP false 1 b (cz (ae (cz ag) ag)))
   (af (dh rfl GE (bq (aa 0)) (aN 2 b) (af (aP false 3 b (aE T.d__law_lands (pI T) c (ae (aa 1) ag)))
   (af (aP false 4 b (aY (aa 3) (aK cJ (aa 2) (aH bC rfl T.B.len bB (ae (aa 3) ag)))))
   (aq (aP false 1 b (aE T.d__law_grown (y6 T) c (ae (aa 1) (ae (aa 4) (ae (aE T.d__law_places (wZ T) c (ae (aa 4) (ae (aK j3 (aa 2) (aH bC rfl T.B.len bB (ae (aa 3) ag))) ag))) ag)))))))))
   (aq (aM (aa 1))))),?_]
 obtain⟨u,rfl,S,q⟩:=h;refine#[by show 0<=sizeLine;decide,by show 1<=sizeLine;decide,trivial,?_]
 exists _,rfl;refine cC (λj y=>∃(w:W)(d e k:Option D),y= [some (.lst (bE u)),some (aW w),d,e,k]/\Good w/\w.length=j+1) #[[[]],_,_,_,rfl,Lu,rfl] ?_ ?_
 .rintro j _ _ z ⟨v,d,e,k,rfl,g,p⟩ A C
  obtain⟨x,G,rfl⟩:=cV z;have U:=(dZ.mp G).1;refine#[_,rfl,v,rfl,g,(),(),λa X Y ok _ _=>#[trivial,?_]]
  have r:(a.map av).length=a.length:=aS _;have l:(0:Int)<((a.map av).length:Int):=by rw[r];lia
  have m:=mY x ((a.map av).length:Int) l;obtain⟨i,I⟩:∃i:Nat,x%((a.map av).length:Int)=(i:Int):=#[(x%((a.map av).length:Int)).toNat,()]
  have n:i<a.length:=()
  have o:fQ (a.map av) (x%((a.map av).length:Int))\(av (a.getD i [])):=by
   rw[I];exact ik (by rw[fi,cW,cZ n];rfl)
  have L:sC v (a.getD i []):=ok _ (by rw[cW,cZ n];exact rh n)
  exists _,rfl,_,rfl,_,rfl,l,_,o,trivial;refine#[_,rfl,_,rfl,_,rfl,_,rfl,_,rfl,#[l,by show((a.map av).length:Int)<1073741824;rw[r];lia],?_]
  refine#[a.getD i [],_,rfl,L.ne,L.sz,λJ K=>#[v,a.getD i [],J,rfl,g,(),(),L,K,λM N l2=>#[trivial,?_]]]
  exact C _ #[M,_,_,_,rfl,N,()]
 .rintro _ ⟨v,d,e,k,rfl,g,p⟩
  exact#[_,rfl,q v g (by rw[p];unfold bE;rw[aS])]
variable {P:Program} {w:World} {mg:Str->Option Value} {base:Heap} {Z:DC} (T:Txt Z mg)
def yx{w v:W}(g:Good w)(len:v.length=w.length)(nod:∀p,p<w.length->(row v p).Nodup)(mem:∀p,p<w.length->∀q,q∈row v p↔q∈row w p):Good v:=by
 have all:∀{p q},q∈row v p↔q∈row w p:=λ {p q}=>by
  by_cases h:p<w.length
  .exact mem p h q
  .exact#[λz=>absurd (cT z) (),λz=>absurd (cT z) h]
 refine#[λp q h=>by rw[len];exact g.rng p q (all.mp h),λp h=>g.irr p (all.mp h),λp=>?_,λp q h=>all.mpr (g.sym p q (all.mp h)),λp e=>?_]
 .by_cases z:p<w.length
  .exact nod p z
  .have:row v p= []:=ab6.mpr λq h=>by have:=cT h;lia
   rw[this];exact gd
 .have up:∀{a b},Reach w a b->Reach v a b:=λ {a b} h=>by
   induction h with
   |refl=>exact .refl _
   |step _ c d=>exact .step d (all.mpr c)
  exact up (g.con p ())
def named(w:W)(a:List Nat):W:=(am w.length).map λp=>(row w (a.getD p 0)).map λq=>a.idxOf q
def jw{a:List Nat}{x:Nat}(h:x∈a):a.getD (a.idxOf x) 0=x/\a.idxOf x<a.length:=by
 have b:=zO.mpr h;refine#[?_,b];rw[cW,cZ b];exact BB b
def N0{a:List Nat}(b:a.Nodup)(h:i<a.length):a.idxOf (a.getD i 0)=i:=by
 rw[cW,cZ h];exact b.idxOf_getElem i h
def r8{w:W}(h:p<w.length):row (named w a) p=(row w (a.getD p 0)).map λq=>a.idxOf q:=by
 unfold named row;rw[cW,fi,wH h];rfl
def Fv{w:W}(g:Good w)(N:Hu w.length a):Good (named w a):=by
 have lt:∀p,p<w.length->a.idxOf p<w.length:=λp b=>by have:=(jw (h8 N b)).2;rw[N.1] at this;exact this
 refine Lv (ord:=λp=>a.idxOf p) g (by unfold named;simp) lt (λp q b c e=>?_) (λy f=>?_) (λp b=>?_)
 .have:=(jw (h8 N b)).1
  have:=(jw (h8 N c)).1
  have e:a.idxOf p=a.idxOf q:=e;exact(jw (h8 N b)).1.symm.trans (by rw[e];exact(jw (h8 N c)).1)
 .have d:y<a.length:=by rw[N.1];exact f
  exact#[a.getD y 0,N.2.2 _ (getD_mem d),N0 N.2.1 d]
 .rw[r8 (lt p b),(jw (h8 N b)).1]
def Qa:cc:=λb P=>∃(w:W)(a:List Int),b= [aW w, .lst (bE a)]/\Good w/\1<=w.length/\w.length<=14/\a.length=w.length/\∀v,Good v->v.length=w.length->P (aW v)
def y8:FnOk P w Z.K mg base bZ 1 T.d__law_named.f T.d__law_named.fd ["_law_turns","_law_draws_here"] (aV Z Qa):=by
 have d:=p6.nd;refine bf T.d__law_named.F p6 [0,0,0,0,0,1,0,0] ∅ (λds R h=>by obtain⟨_,_,rfl,_⟩:=h;rfl) (λbg A outer s H E ds R hr h=>?_)
 have hu:=hr.units
 refine#[_,(af (aP false 2 d (cz ag))
   (af (iG rfl GE (fo rfl T.B.range (ae (aH bC rfl T.B.len bB (ae (aa 0) ag)) ag)) (aN 3 d) (af (aP false 4 d (aK cJ (aY (aa 1) (aa 3)) (aK bL (aa 3) az)))
   (aq (aP false 2 d (aK bL (aK bL (ja (aa 2) ko (kq (aa 4))) (cz (ae (aa 3) ag))) (ja (aa 2) (kq (aa 4)) ko))))))
   (af (bW 5 d (df ag))
   (af (iG rfl GE (fo rfl T.B.range (ae (aH bC rfl T.B.len bB (ae (aa 0) ag)) ag)) (aN 6 d) (af (jb 7 (NC:= ["_law_q","_law_names"]) (src:= [none,some 2]) rfl d (lF (au jm)) #[rfl,rfl,trivial] (bq (aY (aa 0) (aY (aa 2) (aa 6)))) (λ_ _ _=>(bI 0 (show(["_law_q","_law_names"]:List Str).Nodup from by decide+kernel))) (λ_ _ _=>c7) (λ_ _ _=>(qr (aa 1) (aa 0))))
   (af (aP false 4 d (aK cJ (aK j3 (aY (aa 1) (aa 6)) az) (aH (MX rfl) rfl T.B.max QM (ae az (ae (aH bC rfl T.B.len bB (ae (aa 7) ag)) ag)))))
   (aq (eF false 5 (aK bL (ja (aa 7) (kq (aa 4)) ko) (ja (aa 7) ko (kq (aa 4)))))))))
   (aq (aM (aa 5))))))),?_]
 obtain⟨b,c,rfl,g,h1,dU,xl,q⟩:=h;have lw:(b.map av).length=b.length:=aS _;refine#[by show 0<=sizeLine;decide,trivial,?_]
 refine#[_,rfl,#[(),by show((b.map av).length:Int)<2^62;lia],?_]
 rw[show(((b.map av).length:Int)).toNat=b.length by lia]
 refine gw (λj ρ=>∃(a:List Nat)(n l:Option D),ρ= [some (aW b),some (.lst (bE c)),some (av a),n,l,none,none,none]/\Hu j a) #[[],_,_,rfl,rfl,gd,λx h=>by cases h] ?_ ?_
 .rintro j _ hj ⟨a,n,l,rfl,S,d,lt⟩ A I
  have J:=mY (c.getD j 0) ((j:Int)+1) ()
  have U:(a.map ao).length=j:=by rw[aS,S]
  obtain⟨i,o⟩:∃i:Nat,c.getD j 0%((j:Int)+1)=(i:Int):=#[(c.getD j 0%((j:Int)+1)).toNat,()]
  have il:i<=j:=()
  have r:cutD (a.map ao) none (some (c.getD j 0%((j:Int)+1)))=(a.take i).map ao:=by rw[o,mS _ _ (by rw[U];lia),vw]
  have y:cutD (a.map ao) (some (c.getD j 0%((j:Int)+1))) none=(a.drop i).map ao:=by rw[o,rE _ _ (by rw[U];lia),acu]
  have X:(cutD (a.map ao) none (some (c.getD j 0%((j:Int)+1)))++ [ao j])++cutD (a.map ao) (some (c.getD j 0%((j:Int)+1))) none=(ins a i j).map ao:=by
   rw[r,y];unfold ins;rw[cX,lD];rfl
  have s1:(cutD (a.map ao) none (some (c.getD j 0%((j:Int)+1)))).length+1<=sizeLine:=by rw[r,aS,jS];exact small ()
  have L:(cutD (a.map ao) none (some (c.getD j 0%((j:Int)+1)))++ [ao j]).length+(cutD (a.map ao) (some (c.getD j 0%((j:Int)+1))) none).length<=sizeLine:=by
   rw[<-cI,X,aS,yI];exact small ()
  refine#[_,rfl,_,rfl,_,yJ (),_,rfl,(by show(0:Int)<(j:Int)+1;lia),trivial,?_]
  refine#[_,rfl,_,rfl,_,rfl,by show 1<=sizeLine;decide,s1,_,rfl,_,rfl,L,trivial,?_]
  refine I _ #[ins a i j,some (ao j),some (.int (c.getD j 0%((j:Int)+1))),?_,by rw[yI,S],yX d (λz=>by have:=lt j z;lia),λx k=>?_]
  .have e:av (ins a i j)= .lst ((cutD (a.map ao) none (some (c.getD j 0%((j:Int)+1)))++ [ao j])++cutD (a.map ao) (some (c.getD j 0%((j:Int)+1))) none):=by rw[X];rfl
   rw[e];rfl
  .rcases Gb.mp k with rfl|k
   .lia
   .have:=lt x k;lia
 .rintro _ ⟨a,n,l,rfl,N⟩
  have all:∀x,x<b.length->x∈a:=λx k=>h8 N k;refine#[by show 0<=sizeLine;decide,?_]
  refine#[_,rfl,#[(),by show((b.map av).length:Int)<2^62;lia],?_]
  rw[show(((b.map av).length:Int)).toNat=b.length by lia]
  refine gw (λj ρ=>∃(v:W)(l M O:Option D),ρ= [some (aW b),some (.lst (bE c)),some (av a),n,l,some (aW v),M,O]/\v.length=j/\∀p,p<j->(row v p).Perm (row (named b a) p)) #[[],_,_,_,rfl,rfl,λp h=>by lia] ?_ ?_
  .rintro p _ m ⟨v,l,M,O,rfl,C,G⟩ A I
   have np:a.getD p 0<b.length:=N.2.2 _ (by rw[cW,cZ (by rw[N.1];exact m)];exact rh _)
   have rl:=dO g (a.getD p 0);refine#[_,rfl,_,rfl,_,rfl,_,iL (by rw[N.1];exact m),_,fW np,?_]
   refine ji (ρ:= [none,some (av a)]) ao (λx=>ao (a.idxOf x)) (row b (a.getD p 0)) _ (λx k Y hY=>?_) rfl (small ()) λaL=>?_
   .have Q:=fu (all x (g.rng _ _ k))
    exact#[_,rfl,_,rfl,_,rfl,rfl,d9 _,_,_,Q.1,Q.2.1,Q.2.2,hY]
   exists trivial;have eT:(.lst ((row b (a.getD p 0)).map λx=>ao (a.idxOf x)):D)=av (row (named b a) p):=by rw[r8 m];unfold av;rw[dQ];rfl
   have tl:(row (named b a) p).length<=14:=by rw[r8 m,aS];lia
   rw[eT];generalize hT:row (named b a) p=t at tl ⊢;have lt:(t.map ao).length=t.length:=aS _;have u:(0:Int)<(if ((t.map ao).length:Int)>1 then((t.map ao).length:Int) else 1):=by split<;>lia
   have J:=mY (c.getD p 0 / 14) (if ((t.map ao).length:Int)>1 then((t.map ao).length:Int) else 1) u;refine#[_,rfl,_,rfl,_,yJ (),#[∅,∅],_,rfl,_,_,rfl,u,trivial,?_]
   obtain⟨i,o⟩:∃i:Nat,c.getD p 0 / 14%(if ((t.map ao).length:Int)>1 then((t.map ao).length:Int) else 1)=(i:Int):=#[(c.getD p 0 / 14%(if ((t.map ao).length:Int)>1 then((t.map ao).length:Int) else 1)).toNat,()]
   have il:i<=t.length:=by
    rw[o] at J;have h2:=J.2
    split at h2<;>lia
   have r:cutD (t.map ao) none (some (i:Int))=(t.take i).map ao:=by rw[mS _ _ (by rw[lt];lia),vw]
   have y:cutD (t.map ao) (some (i:Int)) none=(t.drop i).map ao:=by rw[rE _ _ (by rw[lt];lia),acu]
   have L:(cutD (t.map ao) (some (i:Int)) none).length+(cutD (t.map ao) none (some (i:Int))).length<=sizeLine:=by
    rw[r,y,aS,aS,BE,jS];exact small ()
   refine(?_:M4 _ _ _ _ _ [some (aW b),some (.lst (bE c)),some (av a),n,some (.int (c.getD p 0 / 14%(if ((t.map ao).length:Int)>1 then((t.map ao).length:Int) else 1))),some (aW v),some (ao p),some (av t)]);rw[o];refine#[_,rfl,_,rfl,_,rfl,_,rfl,_,rfl,L,trivial,cf (by rw[aS];lia),?_]
   refine I _ #[v++ [t.drop i++t.take i],some (.int (i:Int)),some (ao p),some (av t),?_,by rw[cI,C];rfl,λx k=>?_]
   .have e:aW (v++ [t.drop i++t.take i])= .lst (v.map av++ [.lst (cutD (t.map ao) (some (i:Int)) none++cutD (t.map ao) none (some (i:Int)))]):=by
     rw[r,y,<-cX];unfold aW;rw[cX];rfl
    rw[e];rfl
   .by_cases z:x=p
    .subst z
     have:row (v++ [t.drop i++t.take i]) x=t.drop i++t.take i:=by
      unfold row;rw[cW,kN (),show x-v.length=0 by lia];rfl
     rw[this,hT]
     have:=Hl (l₁:=t.drop i) (l₂:=t.take i)
     rwa [n6] at this
    .have:row (v++ [t.drop i++t.take i]) x=row v x:=by
      unfold row;rw[cW,cW,i5 ()]
     rw[this];exact G x ()
  .rintro _ ⟨v,l,M,O,rfl,C,G⟩
   have gn:=Fv g N;have nl:(named b a).length=b.length:=by unfold named;simp
   exact#[_,rfl,q v (yx gn (by rw[C,nl]) (λp m=>(G p ()).nodup_iff.mpr (gn.nod p)) λp m x=>(G p ()).mem_iff) C]
variable {P:Program} {w:World} {mg:Str->Option Value} {base:Heap} {Z:DC} (T:Txt Z mg)
theorem A7:∀(b:W)(o:Option D)(a:List D)(N:List D->Prop),a.length+b.length<=sizeLine->N (a++b.map av)->OM (sV 0) (NM (vN 0)) (b.map av) [o] a N
 | [],o,a,N,_,h=>by
  show N a;simpa using h
 |x::c,o,a,N,d,h=>by
  rw[cx] at d;refine#[_,rfl,(by lia:a.length<sizeLine),?_]
  refine A7 c _ (a++ [av x]) N (by simp;lia) ?_
  rw[lD];exact h
def JB(r:List Nat)(i:Nat):List Nat:=(r.set i (r.getD (i+1) 0)).set (i+1) (r.getD i 0)
def Mw(r:List Nat)(i:Nat)(h:i+1<r.length):(JB r i).Perm r:=by
 unfold JB;have d:r.getD i 0=r[i]:=by rw[cW,cZ ()];rfl
 have e:r.getD (i+1) 0=r[i+1]:=by rw[cW,cZ h];rfl
 have c:r=r.take i++r[i]::r[i+1]::r.drop (i+2):=by
  conv=>lhs;rw[<-n6 i r]
  rw[rg (by lia:i<r.length),rg h]
 have lt:(r.take i).length=i:=by rw[jS];lia
 have f:(r.set i (r.getD (i+1) 0)).set (i+1) (r.getD i 0)=r.take i++r[i+1]::r[i]::r.drop (i+2):=by
  rw[d,e];generalize r[i]=a at c;generalize r[i+1]=b at c;generalize r.take i=t at c lt;generalize r.drop (i+2)=u at c;subst c;rw[abS _ _ (),abS _ _ (),lt,rj,show i+1-i=1 by lia];rfl
 rw[f]
 conv=>rhs;rw[c]
 exact abN _ (.swap ..)
def Jx:cc:=λa P=>∃(w:W)(n:Int),a= [aW w, .int n]/\Good w/\1<=w.length/\w.length<=14/\∀v,Good v->v.length=w.length->P (aW v)
def u9:FnOk P w Z.K mg base bZ 1 T.d__law_twisted.f T.d__law_twisted.fd ["_law_turns","_law_number"] (aV Z Jx):=by
 have m:=mK.nd;refine bf T.d__law_twisted.F mK [0,0,2,0,0] ∅ (λv R h=>by obtain⟨_,_,rfl,_⟩:=h;rfl) (λM A outer s H E v R z h=>?_)
 have N:=z.units
 refine#[_,(af (HJ 2 (NC:= ["_law_turn"]) (src:= [none]) rfl m (lF (au gX)) trivial (bq (aa 0)) (λ_ _ _=>(bI 0 (show(["_law_turn"]:List Str).Nodup from by decide+kernel))) (λ_ _ _=>(oR rfl rfl T.B.list fR (aa 0))))
   (HN 2 3 4 m rfl (aK cJ (aa 1) (aH bC rfl T.B.len bB (ae (aa 0) ag))) (aQ u3 (aH bC rfl T.B.len bB (ae (aa 3) ag)) az (aZ _)) (aK cJ (aK j3 (aa 1) az) (aK Kr (aH bC rfl T.B.len bB (ae (aa 3) ag)) az)) (bS (ae (aY (aa 3) (aK bL (aa 4) az)) (ae (aY (aa 3) (aa 4)) ag))) (aa 4) (aK bL (aa 4) az)
   (aq (aM (aa 2))))),?_]
 obtain⟨a,n,rfl,g,O,Q,q⟩:=h;have S:(a.map av).length=a.length:=aS _;have U:=mY n ((a.map av).length:Int) ()
 obtain⟨p,C⟩:∃p:Nat,n%((a.map av).length:Int)=(p:Int):=#[(n%((a.map av).length:Int)).toNat,()]
 have o:p<a.length:=()
 refine#[_,rfl,A7 a none [] _ (by rw[jH,uw];exact small ()) ?_]
 rw[oh];refine(?_:JX _ _ _ _ _ _ _ _ _ _ _ [some (aW a),some (.int n),some (aW a),none,none])
 have G:iB (a.map av).length (p:Int)\p:=by
  unfold iB;rw[AC (),AC ()]
  exact KF some ()
 have X:=dO g p;have Y:((row a p).map ao).length=(row a p).length:=aS _;refine#[_,rfl,#[by show 3<5;decide,by show 4<5;decide],_,rfl,_,rfl,(by show(0:Int)<((a.map av).length:Int);lia),n%((a.map av).length:Int),p,_,rfl,by rw[C];exact G,uh o,λl=>?_]
 refine#[_,rfl,_,rfl,bF (λI=>?_) λ_=>?_]
 .have l3:2<(row a p).length:=by
   have:=KB I
   lia
  have m2:=mY (n / 14) (((row a p).map ao).length-1:Int) ()
  obtain⟨i,b⟩:∃i:Nat,n / 14%(((row a p).map ao).length-1:Int)=(i:Int):=#[(n / 14%(((row a p).map ao).length-1:Int)).toNat,()]
  refine#[_,rfl,#[∅,∅],_,rfl,(by show(0:Int)<(((row a p).map ao).length:Int)-1;lia),_,rfl,?_]
  have J:fQ ((row a p).map ao) (n / 14%(((row a p).map ao).length-1:Int))\(ao ((row a p).getD i 0)):=by rw[b];exact iL ()
  have c:fQ ((row a p).map ao) (n / 14%(((row a p).map ao).length-1:Int)+1)\(ao ((row a p).getD (i+1) 0)):=by rw[b];exact iL (p:=i+1) ()
  have r:∀k:Nat,k<(row a p).length->iB ((row a p).map ao).length (k:Int)\k:=λk hk=>by
   unfold iB;rw[AC (),AC ()]
   exact KF some ()
  have d:iB ((row a p).map ao).length (n / 14%(((row a p).map ao).length-1:Int))\i:=by rw[b];exact r i ()
  have j:iB ((row a p).map ao).length (n / 14%(((row a p).map ao).length-1:Int)+1)\(i+1):=by rw[b];exact r (i+1) ()
  refine#[_,rfl,_,rfl,_,c,_,rfl,_,rfl,_,J,by show 2<=sizeLine;decide,_,_,rfl,?_]
  exists _,rfl,_,i,rfl,d,_,rfl,_,i+1,rfl,j;have t:=Mw (row a p) i ()
  have u:∀x,row (a.set p (JB (row a p) i)) x=if p=x then JB (row a p) i else row a x:=λx=>Wb.GG o
  have L:Good (a.set p (JB (row a p) i)):=by
   refine yx g (gb ..) (λx _=>?_) λx _ y=>?_
   .rw[u]
    split
    .exact t.nodup_iff.mpr (g.nod p)
    .exact g.nod x
   .rw[u]
    split
    .next e=>subst e;exact t.mem_iff
    .exact abf
  have e:aW (a.set p (JB (row a p) i))= .lst ((a.map av).set p (.lst ((((row a p).map ao).set i (ao ((row a p).getD (i+1) 0))).set (i+1) (ao ((row a p).getD i 0))))):=by
   unfold JB;rw[<-wL,<-wL];exact KF D.lst (Br ..).symm
  exact#[_,rfl,e▸q _ L (gb ..)]
 .exact#[_,rfl,q _ g rfl]
end uz
namespace L2
open PySem PySem.Spec PyProof.Rows
section
variable {P:Program} {w:World} {K:ac} {mg:Str->Option Value} {base:Heap} {Z:DC} {k:Nat} {f:Addr} {fd:FuncData} {ps:List Str}
def FnOk.both(F:FnOk P w K mg base bZ k f fd ps (aV Z b))(e:FnOk P w K mg base (qH P w) k f fd ps (gL Z c)):FnOk P w K mg base (qH P w) k f fd ps (gL Z λa P R=>b a P\/c a P R):=by
 refine(F.up.or e).imp λl H Q E g=>?_;rfl';obtain⟨G,a,P,R,s,dv,h,d,j⟩:=g;ac_rfl;exact h.elim (λh=> .inl #[G,a,P,s,dv,h,d]) (λh=> .inr #[G,a,P,R,s,dv,h,d,j])
end
section
variable {Z:DC} {X:Cx} {md:List Nat} {rn:Nat} {st:Stmt} {t:gJ} {e tg:Expr} {es:List Expr} {sd:BI} {k j:Nat} {x:Str} {ps:List Str} {p p0 p1 p2 pos aU:Pos} {body:List Stmt} {g:eN} {tb:b6}
end
section
variable {Z:DC} {X:Cx} {a:Expr} {ta:bh} {pos:Pos}
def Ra(b:bh):iD:=λc P=>b c λd=>∃i j:Int,d= .rng i j/\(-(2^62)<=i/\i<2^62/\-(2^62)<=j/\j<2^62/\(j-i).toNat<=1000)/\P (dR i (j-i).toNat)
def Lh{x:Str}{p:Pos}(g:X.calm=true)(N:x="list")(k:Gl X x)(l:X.mg x=none)(m:bootBuiltins x\(.type "list"))(n:DE Z X a ta)(o:x≠"__name__":=by decide)(r:(x==("__debug__":Str))=false:=by decide)
  (c:starEach [a] X.env=(false,eval a X.env)::starEach [] X.env:=by rfl) (t:(backTo pos (starEach [] X.env)).any (·.1)=false:=by rfl):DF Z X 1 (.Call (.Name x p) [a] [] pos) (Ra ta):=by
 refine(rY (oM g) k l m (bU n eH c) o r c t).imp ?_;intro O H Q u;rfl';obtain⟨G,y,P,s,e,h,q⟩:=u;ac_rfl;refine#[G,y,_,s,e,h,λd z v S T b dv=>?_];obtain⟨i,j,rfl,⟨A,B,C,E,F⟩,I⟩:=z;cases dv with
 |rng h=>
  refine#[_,i,j,rfl,b.sub _ _ h,A,B,C,E,F,λp f=>?_];obtain⟨J,L,M⟩:=jB b f (zk i _);exact q _ I _ _ _ _ (b.side f) J L M
end
section
variable {Z:DC} {X:Cx} {md:List Nat} {rn:Nat} {e:Expr} {te:bh} {apos aU pos:Pos}
def Xz(i:Nat)(c:bh):b6:=λE b=>∃a:List Int,b[i]?\(some (.lst (a.map D.int)))/\c b λd=>∃k q,d= .int k/\a[q]?\k/\(∀m,m<q->a[m]? ≠some k)/\E.nx (b.set i (some (.lst ((a.eraseIdx q).map D.int))))
def Q3(i:Nat)(r:DE Z X e te)(g:md.getD i 0=1:=by rfl)(s:X.N[i]?\x:=by rfl)(t:l5 X.env.scope x:=by subst_eqs)(u:(x==("__debug__":Str))=false:=by decide)(w:(x==("__classdict__":Str))=false:=by decide)
  (y:attributeBase (.Name x b) "remove" X.env (eval (.Name x b) X.env)=eval (.Name x b) X.env:=by rfl)
  (z:((backTo aU (starEach [e] X.env)).all (λx=>!x.1)&&(backToKw aU (keywordEach [] X.env)).all (λx=>x.1.isSome)&&decide (([e]:List Expr).length+([]:List Keyword).length+(if ([]:List Keyword).isEmpty then 0 else 1)<30))=true:=by rfl)
  (A:(apos.endLine==aU.line)=true:=by rfl) (j:starEach [e] X.env=(false,eval e X.env)::starEach [] X.env:=by rfl) (C:(backTo aU (starEach [] X.env)).any (·.1)=false:=by rfl)
  (I:swapsWith (.Call (.Attribute (.Name x b) "remove" apos) [e] [] aU) none pos.line X.env=pure false:=by rfl):
  DSt Z X md rn (.Expr (.Call (.Attribute (.Name x b) "remove" apos) [e] [] aU) pos) (Xz i te):=by
 refine(gN (ze aaE PySem.F.slot_list_remove PySem.F.type_list_remove IM (pv i s t u w) (bU r eH j) y z A j C) I).imp ?_;intro D σ H J;rfl';obtain⟨B,ρ,E,⟨G,L,S⟩,⟨O,m,h⟩,M⟩:=J;ac_rfl;rfl';obtain⟨l0,P,XJ,Q,n,d,_,_⟩:=S.one g m;ac_rfl;refine#[_,n,ty_list d,S.ev true h ?_];intro _ R;rfl';obtain⟨k,q,rfl,T,U,f⟩:=R;ac_rfl;refine#[rfl,λv Y H' S' x dv=>?_];rfl';cases dv.ofInt;obtain⟨l,xs,gu,e1,o,p,bw,put⟩:=S'.one g m;cases e1;rw[n] at o;cases o;rw[oU bw] at p;ac_rfl;exact#[_,O,k,q,rfl,rfl,p,T,U,M.nx _ f _ _ #[Y,L,put _ _ (.ints _)]]
end
section
variable {Z:DC} {X:Cx} {B:Bs} {md:List Nat} {rn:Nat} {ρ:DN} {σ:St} {H G:Hp} {fp:Nat->List Addr} {te:bh} {pos:Pos}
variable {elt tg iter:Expr} {ifs:List Expr} {scope:Scope} {NC:List Str} {src:List (Option Nat)} {Qu:dE} {wi:i6} {g:eN}
def U3(i:Nat)(t:iD):b6:=λE a=>t a λb=>pC b=true/\E.nx (a.set i (some (.lst b)))
def IT(n:md.getD i 0=1)(S:SIx Z B md ρ σ H G fp)(h:t ρ λc=>pC c=true/\E.nx (ρ.set i (some (.lst c))))(M:Meets Z X B md rn E l):pB Z 1 t σ H λv m=>l.nx (σ.set i (some v)) m:=by
 obtain⟨N,p,q⟩:=S.NG;exists jf G H fp,ρ,_,p,q,h;rintro c ⟨r,s⟩ v f O m x o P u;rfl';obtain⟨y,k⟩:=S.Ud x;have z:=S.grow y;obtain⟨a,A,R,T,rfl,C,F,I,J⟩:=o.lst;cases C;obtain⟨dv,rfl⟩:=J.flat;have d:=u a (by rw[I];simp)
 ac_rfl;refine M.nx _ s _ _ #[_,_,z.uc (f:= [a]) n (.inl #[a,A,c,[],rfl,rfl,F,rfl,(dv.lJ k r).own]) (by simp) (λb e=>?_) λb e j _ L=>?_]
 .have:b=a:=by simpa using e
  subst this;exists S.ex.hh.free d.1,d.2.1;unfold rQ
  split
  .rfl
  .exact d.2.2
 .have:b=a:=by simpa using e
  subst this;exact(S.nw j b L).2.1 d.1
def HL(i:Nat)(e:X.calm=true)(f:X.N.Nodup)(c:bQ X scope)(j:c9 scope X.N src NC)(k:DI Z X tg iter wi)
  (l:∀a s H,DG Z (cH X scope NC a s H) tg g) (m:∀a s H,zU Z (cH X scope NC a s H) ifs Qu) (n:∀a s H,DE Z (cH X scope NC a s H) elt te)
  (o:swapsWith (.ListComp elt [#[tg,iter,ifs,0]] scope pos) (some (.Name x b)) d.line X.env=pure true:=by rfl) (p:md.getD i 0=1:=by rfl) (q:X.N[i]?\x:=by rfl) (r:Loc X.env.scope x:=by subst_eqs)
  (t:X.fn x=true\/X.env.scope.names.lookup x\.local:=by subst_eqs)
  (u:∀x,foldedSetIterable iter X.env x=pure x:=by intro _;rfl):DSt Z X md rn (.Assign [.Name x b] (.ListComp elt [#[tg,iter,ifs,0]] scope pos) d) (U3 i (NL wi g Qu te src)):=by
 refine(mF e f q r c j k l m n o t u).imp ?_;intro z v H w;rfl';obtain⟨B,C,E,⟨G,F,S⟩,h,M⟩:=w;ac_rfl;exact tO v H _ (IT p S h M)
end
end L2
namespace uz
open PySem L2 Wb
variable {P:Program} {w:World} {mg:Str->Option Value} {base:Heap} {Z:DC} (T:Txt Z mg)
open Wy
def O4(a:List D):Prop:=∃d,a= [d]
def Al:FnOk P w Z.K mg base bZ 2 T.j_NotPlane.f T.j_NotPlane.fd ["self","counted"] (Ju Z T.e_NotPlane ["counted"] O4):=by
 have B:=i4.nd;refine T.j_NotPlane.F.ok i4 (λl H Q E h=>?_) (λC A outer s H l Q E I h=>?_)
 .obtain⟨a,n,G,p,rfl,_,_,_,dv,_,r,_⟩:=h
  have:=dv.length
  simp at r ⊢;lia
 obtain⟨a,n,G,p,rfl,g,t,j,dv,⟨d,rfl⟩,_,q⟩:=h;obtain⟨y,rfl,u⟩:=dv.ofOne;exists _,eB (gN (Bh rfl T.xb.m T.xb.sg T.xb.rd T.xb.fc (bU (pv 0) (bU DR eH)))) (pO (Gz (pv 0) (pv 1) rfl));exists _,rfl,a,T.e_NotPlane,none,_,rfl,g,T.q_NotPlane.obj;refine#[_,rfl,_,rfl,a,T.e_NotPlane,[],rfl,T.q_NotPlane.cls,T.n_NotPlane_counted, .inl #[rfl,g,λi b=>?_]];have v:a≠i:=aF g b;have k:G i=none:=j.free b;refine q i [y] G _ (.refl _) (λc o e=>?_) (λc o x e=>?_) (λc _ z=>z) ?_ b aw k (.cons u .nil)
 .rw[aB (aF e k),aB (aF e t)];exact j _ _ e
 .rw[aB (aF e b),aB x];exact e
 .rw[aB v,aw]
def DD:FnOk P w Z.K mg base bZ 2 T.j_NotFree.f T.j_NotFree.fd ["self","point"] (Ju Z T.e_NotFree ["point"] O4):=by
 have B:=jD.nd;refine T.j_NotFree.F.ok jD (λl H Q E h=>?_) (λC A outer s H l Q E I h=>?_)
 .obtain⟨a,n,G,p,rfl,_,_,_,dv,_,r,_⟩:=h
  have:=dv.length
  simp at r ⊢;lia
 obtain⟨a,n,G,p,rfl,g,t,j,dv,⟨d,rfl⟩,_,q⟩:=h;obtain⟨y,rfl,u⟩:=dv.ofOne;exists _,eB (gN (Bh rfl T.xb.m T.xb.sg T.xb.rd T.xb.fc (bU (pv 0) (bU DR eH)))) (pO (Gz (pv 0) (pv 1) rfl));exists _,rfl,a,T.e_NotFree,none,_,rfl,g,T.q_NotFree.obj;refine#[_,rfl,_,rfl,a,T.e_NotFree,[],rfl,T.q_NotFree.cls,T.n_NotFree_point, .inl #[rfl,g,λi b=>?_]];have v:a≠i:=aF g b;have k:G i=none:=j.free b;refine q i [y] G _ (.refl _) (λc o e=>?_) (λc o x e=>?_) (λc _ z=>z) ?_ b aw k (.cons u .nil)
 .rw[aB (aF e k),aB (aF e t)];exact j _ _ e
 .rw[aB (aF e b),aB x];exact e
 .rw[aB v,aw]
def MH.cn{w:W}(g:Good w)(h:MH w n):Cn w n:=by
 rcases h with ⟨a,rfl⟩ | ⟨b,c,d,e,rfl⟩
 .exact#[_, .inl #[a,rfl],rfl]
 .exact#[c.map xO, .inr #[b,su.rounds g d e],aS _]
def me(w:W)(k:Nat):D:= .tup [.int (w.length:Int), .int (tc w:Int), .int (k:Int)]
def Cn.uniq{w:W}(g:Good w)(h:Cn w a)(c:Cn w b):a=b:=by
 obtain⟨_,r,rfl⟩:=h;obtain⟨_,d,rfl⟩:=c;exact Rs.len g r d
def Ar(c:Addr):BI:=λa P R=>∃(w:W),a= [.dG w]/\Good w/\1<=w.length/\w.length<=14/\∀k,Cn w k->((w.length:Int)+(k:Int)=(tc w:Int)+2->P .bo)/\(¬(w.length:Int)+(k:Int)=(tc w:Int)+2->R (.err c ["counted"] [me w k]))
def nP:FnOk P w Z.K mg base (qH P w) 6 T.d_need_plane.f T.d_need_plane.fd ["web"] (gL Z (Ar T.e_NotPlane)):=by
 have p:=iP.nd;refine uM T.d_need_plane.F iP [0] ∅ (λk R l h=>by obtain⟨_,rfl,_⟩:=h;rfl) (λr A outer s H E k R l a h=>?_)
 have t:=a.units;exists _,(aq (br (qv (fM (aE T.d_is_plane (tS T) a (ae (aa 0) ag)))) (aq (yi rfl T.j_NotPlane (Al T) a T.q_NotPlane T.g_NotPlane (ae (aE T.d_count (Bg T) a (ae (aa 0) ag)) ag))) aI));obtain⟨b,rfl,g,c,d,q⟩:=h;refine#[_,rfl,b,rfl,g,c,d,λn i=>?_];have j:=q n (i.cn g);refine#[rfl,bF (λe=>?_) (λe=>?_)]
 .refine#[_,rfl,b,rfl,g,c,d,λm o=>#[#[_,rfl],rfl,?_]]
  have:=j.2 (by simpa [uf] using e)
  rw[Cn.uniq g (i.cn g) (o.cn g)] at this;exact this
 .exact j.1 (by simpa [uf] using e)
def Qb:cc:=λa P=>∃(w:W),a= [.dG w]/\Good w/\1<=w.length/\w.length<=14/\(∃k,Cn w k/\(w.length:Int)+(k:Int)=(tc w:Int)+2)/\P .bo
def pL:FnOk P w Z.K mg base bZ 6 T.d_need_plane.f T.d_need_plane.fd ["web"] (aV Z Qb):=by
 have o:=iP.nd;refine bf T.d_need_plane.F iP [0] ∅ (λb R h=>by obtain⟨_,rfl,_⟩:=h;rfl) (λp A outer s H E b R a h=>?_)
 have r:=a.units;exists _,(aq (br (qv (fM (aE T.d_is_plane (tS T) a (ae (aa 0) ag)))) (aq qu) aI));obtain⟨c,rfl,g,d,i,⟨k,j,l⟩,q⟩:=h;refine#[_,rfl,c,rfl,g,d,i,λn m=>?_]
 have:=Cn.uniq g (m.cn g) j
 refine#[rfl,bF (λe=>absurd l (by rw[<-this];simpa [uf] using e)) (λe=>#[rfl,q])]
end uz
namespace Wb
inductive Cr (w:W) (ok:Nat->Prop) (p:Nat):Nat->Prop
 |base:Cr w ok p p
 |step {a b:Nat}:Cr w ok p a->b∈row w a->ok b->Cr w ok p b
def Cr.lt{w:W}(g:Good w)(a:p<w.length)(h:Cr w ok p x):x<w.length:=by
 cases h with
 |base=>exact a
 |step _ h _=>exact g.rng _ _ h
def Cr.all{w:W}{p:Nat}{M:Nat->Prop}(c:M p)(d:∀a b,M a->b∈row w a->ok b->M b)(h:Cr w ok p x):M x:=by
 induction h with
 |base=>exact c
 |step _ e f g=>exact d _ _ g e f
end Wb
namespace L2
open PySem PySem.Spec PyProof.Rows
section
variable {Z:DC} {X:Cx} {md:List Nat}
def yb(i:Nat)(t:b6):b6:=λE a=>(∃d,a[i]?\(some d))/\t {nx:=λ_=>False,rt:=E.rt} a
def dD(i:Nat)(h:DSs Z X (md.set i 0) 0 f t):DSs Z X md 0 f (yb i t):=by
 refine jU.imp h ?_;rintro p q H ⟨B,k,E,⟨G,r,S⟩,⟨⟨d,g⟩,l⟩,M⟩;obtain⟨v,m,dv,a⟩:=S.D1 g;refine#[B,k,_,#[_,_,#[a.ex,a.fl,S.len,λj c b=>?_,a.nd,a.ap,a.nw]],l,#[λ_ z=>z.elim,M.rt,λ_ z=>z.elim,λ_ z=>z.elim,λ_ _ z=>z.elim]]
 by_cases e:j=i
 .subst e
  rw[g] at b;cases b;exists v,m
  have:(md.set j 0).getD j 0=0:=by
   rw[cW,og]
   split<;>first| (split<;>rfl) |exact absurd rfl ‹_›
  rw[this,AC rfl];exact#[dv,rfl]
 .obtain⟨u,n,o⟩:=a.at_ j c (by rw[f7 (Ne.symm e)];exact b)
  exists u,n
  have:(md.set i 0).getD j 0=md.getD j 0:=by rw[cW,cW,f7 (Ne.symm e)]
  rw[this];exact o
end
end L2
namespace uz
open PySem L2 Wb
variable {P:Program} {w:World} {mg:Str->Option Value} {base:Heap} {Z:DC} (T:Txt Z mg)
open Wy
def oD:Option Int->D
 |none=> .bo
 |some i=> .int i
def aR(f:List (Option Int)):D:= .lst (f.map oD)
def Gi(o:Option Int):di (oD o)=true:=by cases o<;>rfl
def RV(o:Option Int):lJ (oD o)=true:=by cases o<;>rfl
def ni(f:List (Option Int)):(f.map oD).all di=true:=acK.mpr λd h=>by
 obtain⟨o,_,rfl⟩:=cM.mp h;exact Gi o
def Q8(a b:Option Int):iZ (oD a) (oD b)=decide (a=b):=by
 cases a<;>cases b<;>simp[oD,iZ]
 rename_i a b
 rw[acZ];simp
theorem CN(a:Option Int):∀l:List (Option Int),inD (oD a) (l.map oD)=decide (a∈l)
 | []=>rfl
 |b::l=>by
  have:=CN a l
  unfold inD at this ⊢;rw[gF,abE,this,Q8,acZ];simp only[ab3,aa3,bY];exact or_congr #[Eq.symm,Eq.symm] abf
def fw{f:List (Option Int)}(h:p<f.length):fQ (f.map oD) (p:Int)\(oD (f.getD p none)):=ik (by rw[fi,cW,cZ h];rfl)
def oP:Option Int->PyData
 |none=> .none
 |some i=> .int i
def Ci(a b:Option Int):PyData.eqv (oP a) (oP b)=true↔a=b:=by
 cases a<;>cases b<;>simp[oP,PyData.eqv]
def AM(a b:List (Option Int)):PyData.eqv (.list (a.map oP)) (.list (b.map oP))=true↔a=b:=by
 rw[PyData.eqv];exact kY Ci a b
def AL(a b:List (Option Int)):PyData.eqv (.list (a.map oP)) (.list (b.map oP))=decide (a=b):=by
 by_cases e:a=b
 .rw[GT e];exact(AM a b).mpr e
 .rw[GM e]
  exact qi.mpr λz=>e ((AM a b).mp z)
def vO(a:List (Option Int)):(PyData.list (a.map oP)).depth<=2:=by
 have:=jh (f:=oP) (k:=1) (λo=>by cases o<;>simp[oP,PyData.depth]) a
 simp[PyData.depth];lia
def Jn(o:Option Int):(oD o).py\(oP o):=by cases o<;>rfl
def tY(f:List (Option Int)):(aR f).py\(.list (f.map oP)):=by
 unfold aR;rw[D.py,nz (g:=oP) Jn];rfl
def Lc{P:D->Prop}(h:P (.bl (!decide (f=g)))):wU (aR f) (aR g) P:=by
 refine#[_,_,tY f,tY g,by have:=vO f;lia,?_]
 rw[AC rfl,AL];exact h
def Lb{P:D->Prop}(h:P (.bl (decide (f=g)))):sT (aR f) (aR g) P:=by
 refine#[_,_,tY f,tY g,by have:=vO f;lia,?_]
 rw[tz cQ,AL];exact h
def uN{f:List (Option Int)}(h:i<f.length)(p:Nat):(f.set i c).getD p none=if p=i then c else f.getD p none:=by
 rw[cW,cW]
 by_cases e:p=i
 .subst e
  rw[iS h,AC rfl];rfl
 .rw[f7 (Ne.symm e),tz e]
def pM(f:List (Option Int))(p:Nat)(d:Int)(q:Nat):Prop:=f.getD q none=f.getD p none\/f.getD q none\d
def Kt(f:List (Option Int))(p:Nat)(d:Int)(q:Nat):inD (oD (f.getD q none)) [oD (f.getD p none), .int d]=true↔pM f p d q:=by
 have:=CN (f.getD q none) [f.getD p none,some d]
 rw[show[oD (f.getD p none),D.int d]= [f.getD p none,some d].map oD from rfl,this,decide_eq_true_iff,bY,fB];exact abf
def P1:cc:=λa P=>∃(w:W)(f:List (Option Int))(p:Nat)(d:Int),a= [.dG w,aR f,ao p, .int d]/\Good w/\w.length<=14/\p<w.length/\f.length=w.length/\∀L:List Nat,L.Pairwise (·<·)->(∀x,x∈L↔Cr w (pM f p d) p x)->P (av L)
def LJ{c:List Int}(g:c.Perm (d.map λ(n:Nat)=>(n:Int)))(j:c.Pairwise (·<=·))(k:d.Nodup):∃L:List Nat,c.map D.int=L.map ao/\L.Pairwise (·<·)/\L.Perm d:=by
 have e:∀m∈c,((m.toNat:Nat):Int)=m:=λm f=>by
  obtain⟨n,_,rfl⟩:=cM.mp (g.mem_iff.mp f);simp
 have h:(c.map Int.toNat).Perm d:=by
  have:=g.map Int.toNat
  rw[dQ] at this;rw[show(Int.toNat∘λ(n:Nat)=>(n:Int))=id from by funext n;simp] at this
  simpa using this
 refine#[c.map Int.toNat,?_,?_,h]
 .rw[dQ]
  exact acb λm f=>by show D.int m=ao m.toNat;unfold ao;rw[e m f]
 .have i:=h.nodup_iff.mpr k
  rw[Bv,mO] at i;rw[mO]
  exact(j.and i).imp λ {a b} #[l,o]=>by
   have:a.toNat<=b.toNat:=Int.toNat_le_toNat l
   lia
def rV:FnOk P w Z.K mg base bZ 2 T.d_chain.f T.d_chain.fd ["web","dyeing","p","dye"] (jz Z 1 P1):=by
 have nd:=Bl.nd;refine qz 1 T.d_chain.F Bl [0,0,0,0,0,0,99,1,0] ∅ (λds R h=>by obtain⟨_,_,_,_,rfl,_⟩:=h;rfl) (λbg A outer s H E ds R hr h=>?_)
 have hu:=hr.units
 refine#[_,(af (aP false 4 nd (eY T.W (aa 0) T.m_turns.m (gM T) (hr.mono ∅) T.m_turns.b))
   (af (aP false 5 nd (bS (ae (aY (aa 1) (aa 2)) (ae (aa 3) ag))))
   (af (NA 6 nd rfl T.x_set)
   (af (bW 7 nd (df (ae (aa 2) ag)))
   (af (mf PassesOwn.never (fM (aa 7)) (af (J5 8 7 nd)
   (aq (br (DW.dt (Ce (aQ IZ (aa 8) (aa 6) (by with_unfolding_all rfl)) (yk (aQ Dy (aY (aa 1) (aa 8)) (aa 5) (by with_unfolding_all rfl))))) (af (Nu false 6 (aa 8))
   (aq (Cd 7 (aY (aa 4) (aa 8))))) aI))))
   (aq (Nz (Li rfl rfl T.B.sorted (aa 6))))))))),?_]
 obtain⟨w',f,p,d,rfl,g,dU,hp,fl,q⟩:=h;exists _,rfl,w',rfl,w',rfl,dU,trivial;refine#[_,rfl,_,rfl,_,fw (),_,rfl,by show 2<=sizeLine;decide,trivial,?_]
 refine#[_,rfl,by show 1<=sizeLine;decide,?_]
 refine kM (λm ρ=>∃(ws ms:List Nat)(o8:Option D),ρ= [some (.dG w'),some (aR f),some (ao p),some (.int d),some (aW w'),some (.tup [oD (f.getD p none), .int d]),some (.set (cE w) (ms.map λ(n:Nat)=>(n:Int))),some (.lst (ws.map ao)),o8]/\ms.Nodup/\(∀x∈ms,Cr w' (pM f p d) p x)/\(∀z∈ws,z<w'.length/\(pM f p d z->Cr w' (pM f p d) p z))/\
  (p∈ms\/p∈ws)/\(∀x∈ms,∀y∈row w' x,pM f p d y->y∈ms\/y∈ws)/\m=ws.length+20*(20-ms.length)/\ws.length<=20+20*ms.length) 401 ?_ ?_
 .exact#[[p],[],_,rfl,gd,(λx hx=>nomatch hx),λz hz=>by
   rw[fB] at hz;subst hz;exact#[hp,λ_=> .base], .inr (by simp),(λx hx=>nomatch hx),rfl,by show 1<=20+0;lia]
 rintro m _ ⟨ws,ms,o8,rfl,nm,hm,hw,c1,c2,em,hz⟩;have okp:pM f p d p:= .inl rfl
 have ml:ms.length<=14:=by
  have:=aD (m:=am w'.length) nm λx hx=>eJ.mpr ((hm x hx).lt g hp)
  rw[jR] at this;lia
 exists _,rfl,rfl
 rcases List.eq_nil_or_concat ws with rfl| ⟨uo,y,e⟩
 .refine bX ?_
  refine#[_,rfl,_,rfl,by rw[aS];lia,λks pm Qi=>?_]
  obtain⟨L,e1,e2,e3⟩:=LJ pm Qi nm;rw[e1];refine q L e2 λx=>?_;rw[e3.mem_iff];refine#[hm x,λhx=>?_];refine hx.all (M:=λx=>x∈ms) (c1.elim id λh=>nomatch h) λa b ha hb hk=>?_;exact(c2 a ha b hb hk).elim id λh=>nomatch h
 .rw[List.concat_eq_append] at e
  subst e;rw[show uf (.lst ((uo++ [y]).map ao))=true by simp[uf]]
  refine b8 ?_;rw[cI] at em hz;simp only[n5] at em hz;refine#[uo.map ao,ao y,by rw[cX];rfl,?_]
  have hy:=hw y (by simp)
  have Ub:∀x:Nat,decide ((x:Int)∈ms.map λ(n:Nat)=>(n:Int))=decide (x∈ms):=λx=>by
   refine decide_eq_decide.mpr ?_;rw[cM]
   exact#[λ#[y,hy,e]=>by(have:y=x:=();rw[<-this];exact hy),λh=>#[x,h,rfl]]
  have keep:∀(F:DN->Prop),(y∈ms\/¬pM f p d y)->(∀ρ,(∃(ws ms:List Nat)(o8:Option D),ρ= [some (.dG w'),some (aR f),some (ao p),some (.int d),some (aW w'),some (.tup [oD (f.getD p none), .int d]),some (.set (cE w) (ms.map λ(n:Nat)=>(n:Int))),some (.lst (ws.map ao)),o8]/\ms.Nodup/\(∀x∈ms,Cr w' (pM f p d) p x)/\(∀z∈ws,z<w'.length/\(pM f p d z->Cr w' (pM f p d) p z))/\
    (p∈ms\/p∈ws)/\(∀x∈ms,∀y∈row w' x,pM f p d y->y∈ms\/y∈ws)/\m-1=ws.length+20*(20-ms.length)/\ws.length<=20+20*ms.length)->F ρ)->
    F [some (.dG w'),some (aR f),some (ao p),some (.int d),some (aW w'),some (.tup [oD (f.getD p none), .int d]),some (.set (cE w) (ms.map λ(n:Nat)=>(n:Int))),some (.lst (uo.map ao)),some (ao y)]:=λF hp hF=>by
   have drop:∀z,pM f p d z->(z∈ms\/z∈uo++ [y])->(z∈ms\/z∈uo):=λz n h=>by
    rcases h with h|h
    .exact .inl h
    .rcases cF.mp h with h|h
     .exact .inr h
     .rw[fB] at h
      subst h;exact hp.elim .inl λhp=>absurd n hp
   exact hF _ #[uo,ms,_,rfl,nm,hm,λz hz=>hw z (fZ _ hz),drop p okp c1,λx hx y hy n=>drop y n (c2 x hx y hy n),(),()]
  exists _,rfl,_,rfl,_,_,_,rfl,rfl,_,rfl;refine(?_:if (if true=true then !decide ((y:Int)∈ms.map λ(n:Nat)=>(n:Int)) else _)=true then _ else _);rw[if_pos rfl,Ub];refine bF (λnq=>?_) (λnq=>?_)
  .have nq:y∉ms:=by simpa using nq
   refine#[_,rfl,_,rfl,_,fw (),_,rfl,Gi _,ni [f.getD p none,some d],_,rfl,?_]
   refine(?_:if (if false=true then _ else inD (oD (f.getD y none)) [oD (f.getD p none), .int d])=true then _ else _);rw[if_neg cQ];refine bF (λok=>?_) (λok=>?_)
   .have ok:=(Kt f p d y).mp ok
    have cy:=hy.2 ok;have rl:=dO g y;refine#[_,rfl,_,rfl,y,rfl,by rw[aS];lia,?_]
    refine#[_,rfl,_,rfl,_,rfl,_,fW hy.1,_,rfl,(by rw[aS,aS];exact small ()),?_]
    have e1:AY (ms.map λ(n:Nat)=>(n:Int)) (y:Int)=(ms++ [y]).map λ(n:Nat)=>(n:Int):=by
     unfold AY;rw[if_neg (by have:=Ub y;rw[decide_eq_false nq] at this;exact of_decide_eq_false this),cX];rfl
    refine#[(uo++row w' y).length+20*(20-(ms++ [y]).length),by rw[cI,cI,n5];lia,uo++row w' y,ms++ [y],some (ao y),?_,?_,?_,?_,?_,?_,rfl,?_]
    .rw[<-e1,show(uo++row w' y).map ao=uo.map ao++(row w' y).map ao from cX ..];rfl
    .rw[iT]
     refine#[nm,by simp,λx hx y hy z=>nq ?_]
     rw[fB] at hy;rw[<-hy,<-z];exact hx
    .intro x hx
     rcases cF.mp hx with hx|hx
     .exact hm x hx
     .rw[fB] at hx;rw[hx];exact cy
    .intro z hz
     rcases cF.mp hz with hz|hz
     .exact hw z (fZ _ hz)
     .exact#[g.rng _ _ hz,λh=> .step cy hz h]
    .rcases c1 with h|h
     .exact .inl (fZ _ h)
     .rcases cF.mp h with h|h
      .exact .inr (fZ _ h)
      .exact .inl (dP _ h)
    .intro x hx z hz n
     rcases cF.mp hx with hx|hx
     .rcases c2 x hx z hz n with h|h
      .exact .inl (fZ _ h)
      .rcases cF.mp h with h|h
       .exact .inr (fZ _ h)
       .exact .inl (dP _ h)
     .rw[fB] at hx
      subst hx;exact .inr (dP _ hz)
    .rw[cI,cI,n5];lia
   .exact keep _ (.inr λz=>by rw[(Kt f p d y).mpr z] at ok;cases ok) λρ h=>#[m-1,(),h]
  .exact bX (keep _ (.inl (~~~nq)) λρ h=>#[m-1,(),h])
def M5{P:D->Prop}(h:P (.bl (decide (a=b)))):sT (oD a) (oD b) P:=by
 refine#[_,_,Jn a,Jn b,by cases a<;>simp[oP,PyData.depth],?_]
 rw[tz cQ,show PyData.eqv (oP a) (oP b)=decide (a=b) by
  by_cases e:a=b
  .rw[GT e];exact(Ci a b).mpr e
  .rw[GM e];exact qi.mpr λz=>e ((Ci a b).mp z)]
 exact h
def sw(a b:Int)(o:Option Int):Option Int:=if o\a then some b else if o\b then some a else o
def oW(f:List (Option Int))(l:List Nat)(a b:Int):List (Option Int):=(am f.length).map λp=>if p∈l then sw a b (f.getD p none) else f.getD p none
def fC(f:List (Option Int))(l:List Nat)(a b:Int):(oW f l a b).length=f.length:=by unfold oW;simp
def sY(h:p<f.length):(oW f l a b).getD p none=if p∈l then sw a b (f.getD p none) else f.getD p none:=by
 unfold oW;rw[cW,fi,wH h];rfl
def zc{f g:List (Option Int)}(b:f.length=g.length)(h:∀p,p<f.length->f.getD p none=g.getD p none):f=g:=by
 refine List.ext_getElem b λi a c=>?_
 have:=h i a
 rw[cW,cW,cZ a,cZ c] at this;exact this
def NJ(f:List (Option Int))(a b:Int):oW f [] a b=f:=zc (fC ..) λp c=>by
 rw[sY (by rw[fC] at c;exact c),tz (by simp)]
def AQ(h:p<f.length):oW f (l++ [p]) a b=(oW f l a b).set p (sw a b (f.getD p none)):=by
 refine zc (by rw[fC,gb,fC]) λx c=>?_
 rw[fC] at c;rw[sY c,uN (by rw[fC];exact h),sY c]
 by_cases e:x=p
 .subst e;rw[AC (by simp),AC rfl]
 .rw[tz e]
  by_cases z:x∈l
  .rw[AC (fZ _ z),AC z]
  .rw[tz z,tz]
   intro y
   rcases cF.mp y with y|y
   .exact z y
   .exact e (~~~y)
def Ln(h:p<f.length)(d:f.getD p none≠some a)(g:f.getD p none≠some b):oW f (l++ [p]) a b=oW f l a b:=by
 rw[AQ h];refine zc (by rw[gb]) λx c=>?_
 rw[gb,fC] at c;rw[uN (by rw[fC];exact h)]
 have:sw a b (f.getD p none)=f.getD p none:=by unfold sw;rw[tz d,tz g]
 by_cases e:x=p
 .subst e
  rw[AC rfl,sY c,this];split<;>rfl
 .rw[tz e]
def Ql(a b:Int)(o:Option Int):sw a b o=none↔o=none:=by
 unfold sw
 split
 .next e=>subst e;simp
 .split
  .next e=>subst e;simp
  .exact abf
def Ea:cc:=λc P=>∃(f:List (Option Int))(l:List Nat)(a b:Int),c= [aR f,av l, .int a, .int b]/\f.length<=14/\l.length<=14/\(∀p∈l,p<f.length)/\P (aR (oW f l a b))
def pF:FnOk P w Z.K mg base bZ 1 T.d_exchanged.f T.d_exchanged.fd ["dyeing","points","one","other"] (jz Z 1 Ea):=by
 have g:=qY.nd;refine qz 1 T.d_exchanged.F qY [0,0,0,0,1,0] ∅ (λu R h=>by obtain⟨_,_,_,_,rfl,_⟩:=h;rfl) (λG A outer s H E u R v h=>?_)
 have i:=v.units
 refine#[_,(af (bW 4 g (oR rfl rfl T.B.list fR (aa 0)))
   (af (dh rfl GE (bq (aa 1)) (aN 5 g) (aq (br (aQ (jc i) (aY (aa 0) (aa 5)) (aa 2) (aZ _)) (aq (iq false 4 (aa 5) (aa 3))) (aq (br (aQ (jc i) (aY (aa 0) (aa 5)) (aa 3) (aZ _)) (aq (iq false 4 (aa 5) (aa 2))) aI)))))
   (aq (Fd 4)))),?_]
 obtain⟨f,l,a,b,rfl,I,J,x,q⟩:=h;exists _,rfl;exists _,rfl;refine cC (λj y=>∃o,y= [some (aR f),some (av l),some (.int a),some (.int b),some (aR (oW f (l.take j) a b)),o]) #[none,?_] ?_ ?_
 .rw[List.take_zero,NJ];rfl
 .rintro j _ _ z ⟨o,rfl⟩ A k
  obtain⟨p,m,rfl⟩:=cV z;have e:=x p (fb m);have n:l.take (j+1)=l.take j++ [p]:=by rw[zS,m];rfl
  have r:iB ((oW f (l.take j) a b).map oD).length (p:Int)\p:=by rw[aS,fC];exact xv e
  have t:∀c:Int,sw a b (f.getD p none)\c->A [some (aR f),some (av l),some (.int a),some (.int b),some (.lst (((oW f (l.take j) a b).map oD).set p (.int c))),some (ao p)]:=λc C=>by
   refine k _ #[some (ao p),?_];rw[n,AQ e,C];unfold aR;rw[wL];rfl
  exists _,rfl,_,rfl,_,fw e,_,rfl;refine(?_:sT (oD (f.getD p none)) (oD (some a)) _);refine M5 #[_,rfl,bF (λh=>?_) λh=>?_]
  .have h:=KB h
   exact#[_,rfl,trivial,_,rfl,_,rfl,_,p,rfl,r,t b (by unfold sw;rw[AC h])]
  .have h:=PP h
   exists _,rfl,_,rfl,_,fw e,_,rfl;refine(?_:sT (oD (f.getD p none)) (oD (some b)) _);refine M5 #[_,rfl,bF (λd=>?_) λd=>?_]
   .have d:=KB d
    exact#[_,rfl,trivial,_,rfl,_,rfl,_,p,rfl,r,t a (by unfold sw;rw[tz h,AC d])]
   .have d:=PP d
    refine k _ #[some (ao p),?_];rw[n,Ln e h d];rfl
 .rintro _ ⟨o,rfl⟩
  rw[aS,BG];exact#[_,rfl,q]
variable {P:Program} {w:World} {mg:Str->Option Value} {base:Heap} {Z:DC} (T:Txt Z mg)
def QJ(w:W):Prop:=∃k,Cn w k/\(w.length:Int)+(k:Int)=(tc w:Int)+2
def QJ.pln{w:W}(g:Good w)(h:QJ w)(i:2<=w.length):W9 w:=by
 obtain⟨_,⟨a,R,rfl⟩,e⟩:=h;have j:=KL g;have k:=hU w
 rcases R with ⟨b,_⟩ | ⟨_,R⟩
 .lia
 .exact#[a.length,#[a,λr c=>let #[d,b,f,_]:=R.rnd r c;#[d,b,f],R.perm,rfl],()]
def Iy:inD (.int d) (bE l)=decide (d∈l):=by
 unfold inD bE;rw[List.any_map]
 have:((λy=>iZ y (.int d))∘D.int)=λo:Int=>decide (o=d):=by
  funext o
  simp[iZ,Function.comp]
  by_cases h:o=d<;>simp[h]
 rw[this,acZ];simp
def Fo(l:List Int):(bE l).all di=true:=by simp[bE,di]
def SK:cc:=λa P=>∃(l:List Int)(m:Int),a= [.lst (bE l), .int m]/\0<=m/\m<1000/\l.length<=100/\(∀d,0<=d->d<m->d∉l->P (.int d))/\((∀d,0<=d->d<m->d<=l.length->d∈l)->P .bo)
def pJ:FnOk P w Z.K mg base bZ 1 T.d_least_free.f T.d_least_free.fd ["taken","many"] (aV Z SK):=by
 have g:=p8.nd;refine bf T.d_least_free.F p8 [0,0,0] ∅ (λk R h=>by obtain⟨_,_,rfl,_⟩:=h;rfl) (λu A outer s H E k R o h=>?_)
 have v:=o.units
 refine#[_,(af (iG rfl GE (fo rfl T.B.range (ae (aH (MZ rfl) rfl T.B.min JU (ae (aa 1) (ae (aK bL (aH bC rfl T.B.len bB (ae (aa 0) ag)) az) ag))) ag)) (aN 2 g) (aq (br (aQ mB (aa 2) (aa 0) (by with_unfolding_all rfl)) (aq (aM (aa 2))) aI)))
   (aq (aM bR))),?_]
 obtain⟨l,m,rfl,x,y,C,p,q⟩:=h;have lt:((bE l).length:Int)=(l.length:Int):=by unfold bE;rw[aS]
 refine#[_,rfl,_,rfl,_,_,rfl,#[by split<;>lia,by split<;>lia],?_]
 obtain⟨n,c⟩:∃n:Nat,n=(if ((bE l).length:Int)+1<m then((bE l).length:Int)+1 else m).toNat:=#[_,rfl];refine(?_:mj _ _ _ (dR 0 (if ((bE l).length:Int)+1<m then((bE l).length:Int)+1 else m).toNat) _);rw[<-c]
 have G:(n:Int)<=m/\((n:Int)=m\/(n:Int)=(l.length:Int)+1):=by
  split at c<;>lia
 refine gw (λj r=>∃a,r= [some (.lst (bE l)),some (.int m),a]/\∀i:Nat,i<j->(i:Int)∈l) #[_,rfl,λi h=>by lia] ?_ ?_
 .rintro j _ I ⟨a,rfl,b⟩ A t
  exists _,rfl,_,rfl,rfl,Fo l,_,rfl;rw[AC rfl,show inD (ao j) (bE l)=decide ((j:Int)∈l) from Iy];refine bF (λe=>?_) (λe=>t _ #[_,rfl,λi J=>?_])
  .exact#[_,rfl,p _ () () (~~~e)]
  .by_cases z:i=j
   .subst z;simpa using e
   .exact b i ()
 .rintro _ ⟨a,rfl,b⟩
  refine q λd L M dl=>?_
  have:=b d.toNat ()
  rwa [show((d.toNat:Nat):Int)=d by lia] at this
def Jt:cc:=λb P=>∃(w:W)(f:List (Option Int))(a:List Nat),b= [.dG w,aR f,av a]/\Good w/\w.length<=14/\f.length=w.length/\a.length<=14/\(∀q∈a,q<w.length/\∃d,f.getD q none\d)/\(∀q∈a,∀r∈a,∀d,f.getD r none\d->¬Cr w (pM f q d) q r->P (.tup [ao q, .int d]))/\((∀q∈a,∀r∈a,∀d,f.getD r none\d->Cr w (pM f q d) q r)->P .bo)
def jA:FnOk P w Z.K mg base bZ 3 T.d_freeing_exchange.f T.d_freeing_exchange.fd ["web","dyeing","around"] (aV Z Jt):=by
 have G:=jE.nd;refine bf T.d_freeing_exchange.F jE [0,0,0,0,0] ∅ (λU R h=>by obtain⟨_,_,_,rfl,_⟩:=h;rfl) (λbg A outer s H E U R a h=>?_)
 have hu:=a.units
 refine#[_,(af (dh rfl GE (bq (aa 2)) (aN 3 G) (aq (dh rfl GE (bq (aa 2)) (aN 4 G) (aq (br (aQ mB (aa 4) (aE T.d_chain ((rV T).imp P6) a (ae (aa 0) (ae (aa 1) (ae (aa 3) (ae (aY (aa 1) (aa 4)) ag))))) (by with_unfolding_all rfl)) (aq (aM (bS (ae (aa 3) (ae (aY (aa 1) (aa 4)) ag))))) aI)))))
   (aq (aM bR))),?_]
 obtain⟨l,f,c,rfl,g,X,Y,al,ad,q1,q2⟩:=h;exists _,rfl;refine cC (λj p=>∃t k,p= [some (.dG l),some (aR f),some (av c),t,k]/\∀q∈c.take j,∀r∈c,∀d,f.getD r none\d->Cr l (pM f q d) q r) #[_,_,rfl,λq b=>nomatch b] ?_ ?_
 .rintro j _ _ m ⟨t,k,rfl,n⟩ A hA
  obtain⟨x,I,rfl⟩:=cV m;have J:=fb I;have tk:c.take (j+1)=c.take j++ [x]:=by rw[zS,I];rfl
  exists _,rfl;refine cC (λi p=>∃k,p= [some (.dG l),some (aR f),some (av c),some (ao x),k]/\∀r∈c.take i,∀d,f.getD r none\d->Cr l (pM f x d) x r) #[_,rfl,λq b=>nomatch b] ?_ ?_
  .rintro i _ _ u ⟨k,rfl,o⟩ A2 v
   obtain⟨y,M,rfl⟩:=cV u;have N:=fb M;have Mx:c.take (i+1)=c.take i++ [y]:=by rw[zS,M];rfl
   obtain⟨xl,dx,pj⟩:=ad x J;obtain⟨yl,B,C⟩:=ad y N;have O:fQ (f.map oD) (y:Int)\(.int B):=by rw[fw (),C];rfl
   refine#[_,rfl,_,rfl,_,rfl,_,rfl,_,rfl,_,rfl,_,O,l,f,x,B,rfl,g,X,xl,Y,λL L1 Q=>?_];exists rfl,d9 _,_,rfl;rw[AC rfl,mv];refine bF (λe=>?_) (λe=>v _ #[_,rfl,λr a d m=>?_])
   .have e:y∉L:=by simpa using e
    exact#[_,rfl,_,rfl,_,rfl,_,O,by show 2<=sizeLine;decide,q1 x J y N B C λz=>e ((Q y).mpr z)]
   .have e:y∈L:=by simpa using e
    rw[Mx] at a
    rcases cF.mp a with a|a
    .exact o r a d m
    .rw[fB] at a;subst a
     rw[C] at m;cases m;exact(Q r).mp e
  .rintro _ ⟨k,rfl,o⟩
   refine hA _ #[_,_,rfl,λq b r a d S=>?_];rw[tk] at b
   rcases cF.mp b with b|b
   .exact n q b r a d S
   .rw[fB] at b;subst b
    rw[aS,BG] at o;exact o r a d S
 .rintro _ ⟨t,k,rfl,n⟩
  rw[aS,BG] at n;exact q2 n
def jW(w:W)(f:List (Option Int))(p:Nat):List Nat:=(row w p).filter λq=>!decide (f.getD q none=none)
def Ko{w:W}:q∈jW w f p↔q∈row w p/\∃d,f.getD q none\d:=by
 unfold jW;rw[kO];cases h:f.getD q none<;>simp
structure vy (f:List (Option Int)) (p:Nat) (f':List (Option Int)):Prop where
 len:f'.length=f.length
 out:∀q,q≠p->(f'.getD q none=none↔f.getD q none=none)
theorem vy.set{d:Int}(G:vy f p a)(c:p<a.length):vy f p (a.set p (some d)):=#[by rw[gb,G.len],λq b=>by rw[uN c,tz b];exact G.out q b]
theorem vy.oW:vy f p (oW f L a b):=by
 refine#[fC f L a b,λx _=>?_]
 by_cases c:x<f.length
 .rw[sY c]
  split
  .exact Ql a b _
  .exact abf
 .rw[cW,gQ (by rw[fC];lia),cW,gQ ()]
def yv{w:W}{f f1:List (Option Int)}{l0:List D}(i:f1.length<=14)(b:p<f1.length)(q:∀(c:List (Option Int))(l:List D),vy f p c->l.length<=2->E.rt (.tup [aR c, .lst l]))(G:vy f p f1)(ll:l0.length<=1:=by decide):
  dSeq (JW [0,0,0,0,0,1,1,0,0,0,0] false 5 (vN 2) (vN 7)) (dSeq (M4 [0,0,0,0,0,1,1,0,0,0,0] false 6 (Ng (uE (dC (.str "give")) (uE (vN 2) (uE (vN 7) vM))))) (yb 5 (yb 6 (TH (Ng (uE (vN 5) (uE (vN 6) vM))))))) E [some (.dG w),some (aR f),some (ao p),some (.int m),a,some (aR f1),some (.lst l0),some (.int d),e,g,h]:=by
 have j:iB (f1.map oD).length (p:Int)\p:=by rw[aS];exact xv b
 exists _,rfl,trivial,_,rfl,_,rfl,_,p,rfl,j;refine#[_,rfl,_,rfl,_,rfl,by show 3<=sizeLine;decide,trivial,cf (),?_]
 refine#[#[_,rfl],#[_,rfl],_,rfl,_,rfl,by show 2<=sizeLine;decide,?_]
 have:=q _ (l0++ [.tup [.str "give",ao p, .int d]]) (G.set (d:=d) b) (by rw[cI];simp only[n5];lia)
 unfold aR at this;rw[wL] at this;exact this
def GQ:cc:=λb P=>∃(w:W)(f:List (Option Int))(p:Nat)(m:Int),b= [.dG w,aR f,ao p, .int m]/\Good w/\1<=w.length/\w.length<=14/\QJ w/\p<w.length/\f.length=w.length/\0<=m/\m<1000/\f.getD p none=none/\((jW w f p).length:Int)<=m/\∀a l,vy f p a->l.length<=2->P (.tup [aR a, .lst l])
def lN:FnOk P w Z.K mg base bZ 7 T.d_dye_given.f T.d_dye_given.fd ["web","dyeing","p","many"] (aV Z GQ):=by
 have i:=jn.nd;refine bf T.d_dye_given.F jn [0,0,0,0,0,1,1,0,0,0,0] ∅ (λG R h=>by obtain⟨_,_,_,_,rfl,_⟩:=h;rfl) (λbg A outer s H E G R k h=>?_)
 have hu:=k.units
 refine#[_,(af (Fb (aE T.d_need_plane (pL T) k (ae (aa 0) ag)))
   (af (jb 4 (NC:= ["q","dyeing"]) (src:= [none,some 1]) rfl i (lF (au fA)) #[rfl,rfl,trivial] (bq (aY (eY T.W (aa 0) T.m_turns.m (gM T) (k.mono ∅) T.m_turns.b) (aa 2))) (λ_ _ _=>(bI 0 (show(["q","dyeing"]:List Str).Nodup from by decide+kernel))) (λ_ _ _=>(mi (aQ jd (aY (aa 1) (aa 0)) bR (aZ _)))) (λ_ _ _=>(aa 0)))
   (af (br (DW.dt (uJ (aQ jd (aY (aa 1) (aa 2)) bR (aZ _)) (qw (aQ u3 (aH bC rfl T.B.len bB (ae (aa 4) ag)) (aa 3) (aZ _))))) (aq qu) aI)
   (af (bW 5 i (oR rfl rfl T.B.list fR (aa 1)))
   (af (bW 6 i (df ag))
   (af (aP false 7 i (aE T.d_least_free (pJ T) k (ae (oO (NC:= ["q","dyeing"]) (src:= [none,some 1]) rfl (lF (au fA)) #[rfl,rfl,trivial] (bq (aa 4)) (λ_ _ _=>(bI 0 (show(["q","dyeing"]:List Str).Nodup from by decide+kernel))) (λ_ _ _=>c7) (λ_ _ _=>(aY (aa 1) (aa 0)))) (ae (aa 3) ag))))
   (af (br (aQ pD (aa 7) bR (aZ _)) (af (aP false 8 i (aE T.d_freeing_exchange (jA T) k (ae (aa 0) (ae (aa 1) (ae (aa 4) ag)))))
   (af (br (aQ pD (aa 8) bR (aZ _)) (dD 5
   (dD 6
   (aq (aM (bS (ae (aa 5) (ae (aa 6) ag))))))) aI)
   (af (qs (aa 8) (gS 2 rfl (bA (aN 9 i) (bA (aN 10 i) d6))))
   (af (aP false 7 i (aY (aa 1) (aa 9)))
   (af (bW 5 i (AF T.d_exchanged (pF T) k (ae (aa 1) (ae (aE T.d_chain ((rV T).imp P6) k (ae (aa 0) (ae (aa 1) (ae (aa 9) (ae (aa 10) ag))))) (ae (aa 7) (ae (aa 10) ag))))))
   (aq (eF false 6 (bS (ae gr (ae (aa 9) (ae (aa 10) ag))))))))))) aI)
   (af (iq false 5 (aa 2) (aa 7))
   (af (eF false 6 (bS (ae gr (ae (aa 2) (ae (aa 7) ag)))))
   (dD 5
   (dD 6
   (aq (aM (bS (ae (aa 5) (ae (aa 6) ag)))))))))))))))),?_]
 obtain⟨c,f,p,m,rfl,g,I,o,J,M,r,N,O,Q,a5,q⟩:=h;exists _,rfl,c,rfl,g,I,o,J;have rl:=dO g p;have rng:∀y∈row c p,y<f.length:=λy j=>by rw[r];exact g.rng _ _ j
 exists _,rfl,c,rfl,c,rfl,o,_,rfl,_,fW M;refine kF (ρ:= [none,some (aR f)]) ao (λq=>!decide (f.getD q none=none)) ao (row c p) _ [] _ (λy j Y Nn S U=>?_) #[none,rfl] (small (by rw[jH];lia)) λX=>?_
 .refine#[_,rfl,_,rfl,_,fw (rng y j),_,rfl,?_]
  cases u:f.getD y none with
  |none=>exact bX (U (by rw[u];rfl))
  |some d=>exact b8 #[_,rfl,S (by rw[u];rfl)]
 rw[oh,show(.lst (((row c p).filter λq=>!decide (f.getD q none=none)).map ao):D)=av (jW c f p) from rfl];exists trivial;have ap:fQ (f.map oD) (p:Int)\.bo:=by rw[fw (),Q];rfl
 have n:∀y∈jW c f p,y<f.length/\∃d,f.getD y none\d:=λy j=>#[rng y (Ko.mp j).1,(Ko.mp j).2];exists _,rfl,_,rfl,_,ap,_,rfl;have la:((jW c f p).map ao).length=(jW c f p).length:=aS _;have lf:(f.map oD).length=f.length:=aS _;have v:=Eu (λq=>!decide (f.getD q none=none)) (row c p);have v:(jW c f p).length<=(row c p).length:=v;refine bX #[_,rfl,_,rfl,_,rfl,Y6 (GM ()) ?_]
 exists _,rfl;refine#[by show 0<=sizeLine;decide,?_]
 have ei:((jW c f p).map λx=>oD (f.getD x none))=bE ((jW c f p).map λq=>(f.getD q none).getD 0):=by
  unfold bE;rw[dQ];refine acb λx e=>?_;obtain⟨d,z⟩:=(n x e).2;rw[Function.comp,z];rfl
 exists _,rfl;refine ji (ρ:= [none,some (aR f)]) ao (λx=>oD (f.getD x none)) (jW c f p) _ (λx e Y hY=>#[_,rfl,_,rfl,_,fw (n x e).1,hY]) rfl (small ()) λX=>?_
 rw[ei];refine#[_,rfl,_,m,rfl,N,O,by rw[aS];lia,λd d0 d5 dn=>#[trivial,?_],λall=>#[trivial,?_]]
 .refine#[_,rfl,_,rfl,bX ?_]
  exact yv (f1:=f) (l0:= []) () () q #[rfl,λ_ _=>abf]
 .refine#[_,rfl,_,rfl,b8 ?_]
  refine#[_,rfl,_,rfl,_,rfl,c,f,jW c f p,rfl,g,o,r,(),λx e=>#[by have:=(n x e).1;lia,(n x e).2],λx e y j d z nc=>#[trivial,?_],λh=>#[trivial,?_]]
  .obtain⟨xl,a,ha⟩:=n x e
   have ax:fQ (f.map oD) (x:Int)\(.int a):=by rw[fw xl,ha];rfl
   refine#[_,rfl,_,rfl,bX ?_];exists _,rfl;exists rfl,rfl;exists _,rfl,_,rfl,_,ax,trivial;refine#[_,rfl,_,rfl,_,rfl,_,rfl,_,rfl,c,f,x,d,rfl,g,o,(),r,λL L1 Lm=>?_]
   have C:∀x∈L,x<c.length:=λy j=>((Lm y).mp j).lt g ()
   have t:L.length<=14:=by
    have:=aD (l:=L) (m:=am c.length) (L1.imp λh=>bJ h) λx e=>eJ.mpr (C x e)
    rw[jR] at this;lia
   have el:=fC f L a d;refine#[_,rfl,_,rfl,f,L,a,d,rfl,(),t,λx e=>by rw[r];exact C x e,?_]
   refine#[_,rfl,_,rfl,_,rfl,_,rfl,by show 3<=sizeLine;decide,trivial,cf ∅,?_]
   exact yv (ll:=bM 1) (f1:=oW f L a d) (l0:= [.tup [.str "exchange",ao x, .int d]]) () () q .oW
  .refine#[_,rfl,_,rfl,b8 ?_]
   refine#[#[_,rfl],#[_,rfl],_,rfl,_,rfl,by show 2<=sizeLine;decide,?_]
   exact q f [] #[rfl,λ_ _=>abf] (fg _)
def Bp(T:Txt Z mg):BI:=λa P R=>∃(w:W)(f:List (Option Int))(p:Nat)(m:Int)(k:Nat),a= [.dG w,aR f,ao p, .int m]/\Good w/\1<=w.length/\w.length<=14/\Cn w k/\p<w.length/\f.length=w.length/\
 (¬(w.length:Int)+(k:Int)=(tc w:Int)+2->R (.err T.e_NotPlane ["counted"] [me w k]))/\((w.length:Int)+(k:Int)=(tc w:Int)+2->(f.getD p none≠none\/m<((jW w f p).length:Int))/\R (.err T.e_NotFree ["point"] [ao p]))
def y3:FnOk P w Z.K mg base (qH P w) 7 T.d_dye_given.f T.d_dye_given.fd ["web","dyeing","p","many"] (gL Z (Bp T)):=by
 have c:=jn.nd;refine uM T.d_dye_given.F jn [0,0,0,0,0,1,1,0,0,0,0] ∅ (λt R u h=>by obtain⟨_,_,_,_,_,rfl,_⟩:=h;rfl) (λM A outer s H E t R u i h=>?_)
 have N:=i.units
 refine#[_,(af (qt T.d_need_plane (nP T) i (ae (aa 0) ag))
   (af (jb 4 (NC:= ["q","dyeing"]) (src:= [none,some 1]) rfl c (lF (au fA)) #[rfl,rfl,trivial] (bq (aY (eY T.W (aa 0) T.m_turns.m (gM T) (i.mono ∅) T.m_turns.b) (aa 2))) (λ_ _ _=>(bI 0 (show(["q","dyeing"]:List Str).Nodup from by decide+kernel))) (λ_ _ _=>(mi (aQ jd (aY (aa 1) (aa 0)) bR (aZ _)))) (λ_ _ _=>(aa 0)))
   (af (br (DW.dt (uJ (aQ jd (aY (aa 1) (aa 2)) bR (aZ _)) (qw (aQ u3 (aH bC rfl T.B.len bB (ae (aa 4) ag)) (aa 3) (aZ _))))) (aq (yi rfl T.j_NotFree (DD T) i T.q_NotFree T.g_NotFree (ae (aa 2) ag))) aI)
   (af (bW 5 c (oR rfl rfl T.B.list fR (aa 1)))
   (af (bW 6 c (df ag))
   (af (aP false 7 c (aE T.d_least_free (pJ T) i (ae (oO (NC:= ["q","dyeing"]) (src:= [none,some 1]) rfl (lF (au fA)) #[rfl,rfl,trivial] (bq (aa 4)) (λ_ _ _=>(bI 0 (show(["q","dyeing"]:List Str).Nodup from by decide+kernel))) (λ_ _ _=>c7) (λ_ _ _=>(aY (aa 1) (aa 0)))) (ae (aa 3) ag))))
   (af (br (aQ pD (aa 7) bR (aZ _)) (af (aP false 8 c (aE T.d_freeing_exchange (jA T) i (ae (aa 0) (ae (aa 1) (ae (aa 4) ag)))))
   (af (br (aQ pD (aa 8) bR (aZ _)) (dD 5
   (dD 6
   (aq (aM (bS (ae (aa 5) (ae (aa 6) ag))))))) aI)
   (af (qs (aa 8) (gS 2 rfl (bA (aN 9 c) (bA (aN 10 c) d6))))
   (af (aP false 7 c (aY (aa 1) (aa 9)))
   (af (bW 5 c (AF T.d_exchanged (pF T) i (ae (aa 1) (ae (aE T.d_chain ((rV T).imp P6) i (ae (aa 0) (ae (aa 1) (ae (aa 9) (ae (aa 10) ag))))) (ae (aa 7) (ae (aa 10) ag))))))
   (aq (eF false 6 (bS (ae gr (ae (aa 9) (ae (aa 10) ag))))))))))) aI)
   (af (iq false 5 (aa 2) (aa 7))
   (af (eF false 6 (bS (ae gr (ae (aa 2) (ae (aa 7) ag)))))
   (dD 5
   (dD 6
   (aq (aM (bS (ae (aa 5) (ae (aa 6) ag)))))))))))))))),?_]
 obtain⟨a,f,p,m,k,rfl,g,v,r,x,z,C,G,j⟩:=h;refine#[_,rfl,a,rfl,g,v,r,λO I=>?_];obtain rfl:=Cn.uniq g I x;refine#[λe=>?_,λe=>G e];obtain⟨l,j⟩:=j e;have Q:=dO g p;have rng:∀y∈row a p,y<f.length:=λy o=>by rw[C];exact g.rng _ _ o
 exists _,rfl,a,rfl,a,rfl,r,_,rfl,_,fW z;refine kF (ρ:= [none,some (aR f)]) ao (λq=>!decide (f.getD q none=none)) ao (row a p) _ [] _ (λy o Y S J L=>?_) #[none,rfl] (small (by rw[jH];lia)) λU=>?_
 .refine#[_,rfl,_,rfl,_,fw (rng y o),_,rfl,?_]
  cases n:f.getD y none with
  |none=>exact bX (L (by rw[n];rfl))
  |some d=>exact b8 #[_,rfl,J (by rw[n];rfl)]
 rw[oh,show(.lst (((row a p).filter λq=>!decide (f.getD q none=none)).map ao):D)=av (jW a f p) from rfl];exists trivial;have X:((jW a f p).map ao).length=(jW a f p).length:=aS _;refine#[_,rfl,_,rfl,_,fw (),_,rfl,?_]
 cases n:f.getD p none with
 |some d=>exact b8 (b8 #[_,rfl,#[_,rfl],rfl,j])
 |none=>
  refine bX #[_,rfl,_,rfl,_,rfl,bF (λ_=>#[_,rfl,#[_,rfl],rfl,j]) (λe=>?_)];have e:=PP e
  rcases l with l|l
  .exact absurd n l
  .exact absurd (show m<(((jW a f p).map ao).length:Int) by lia) e
def y0:FnOk P w Z.K mg base (qH P w) 7 T.d_dye_given.f T.d_dye_given.fd ["web","dyeing","p","many"] (gL Z λa P R=>GQ a P\/Bp T a P R):=FnOk.both (lN T) (y3 T)
variable {P:Program} {w:World} {mg:Str->Option Value} {base:Heap} {Z:DC} (T:Txt Z mg)
theorem yq(f:b->c):∀(l:List b)(i:Nat),(l.map f).eraseIdx i=(l.eraseIdx i).map f
 | [],_=>rfl
 |_::_,0=>rfl
 |a::l,i+1=>by rw[gF,KR,KR,gF,yq f l i]
theorem Bd(f:Nat->Int):∀K:List Nat,pC (K.map λp=>tupI [f p,(p:Int)])=true
 | []=>rfl
 |b::K=>by rw[gF,pC,Bd f K];rfl
structure xK (w:W) (K M:List Nat):Prop where
 nk:K.Nodup
 nm:M.Nodup
 dj:∀x∈K,x∉M
 all:∀x,x<w.length↔x∈K\/x∈M
 few:∀A x B,M=A++x::B->((row w x).filter λq=>decide (q∈B++K)).length<=5
def Uz(w:W)(L:List Nat):Prop:=L.Nodup/\(∀x,x<w.length↔x∈L)/\∀A x B,L=A++x::B->((row w x).filter λq=>decide (q∈B)).length<=5
def xK.zero(w:W):xK w (am w.length) []:=#[wK,gd,(λx _ h=>nomatch h),λx=>by simp,λA x B e=>by cases A<;>cases e]
def yr{l K a:List Nat}(h:∀x∈l,x∈K->x∈a):(l.filter λq=>decide (q∈K)).length<=(l.filter λq=>decide (q∈a)).length:=by
 rw[<-Bu,<-Bu];exact abP λx b c=>GT (h x b (KB c))
def xK.step{w:W}{K M:List Nat}(h:xK w K M){p:Nat}(d:p∈K)(l:((row w p).filter λq=>decide (q∈K)).length<=5){f:List Nat}(m:f.Nodup)(mk:∀x,x∈f↔x∈K/\x≠p):xK w f (M++ [p]):=by
 have n:=h.dj p d;refine#[m,iT.mpr #[h.nm,by simp,λa o b j e=>?_],λx g z=>?_,λx=>?_,λA x B e=>?_]
 .rw[fB] at j;subst j;exact n (e▸o)
 .obtain⟨r,s⟩:=(mk x).mp g
  rcases cF.mp z with z|z
  .exact h.dj x r z
  .exact s (fB.mp z)
 .rw[h.all x,mk,cF,fB]
  by_cases z:x=p
  .subst z;simp[d]
  .simp[z]
 .rcases abQ B with rfl| ⟨k,y,rfl⟩
  .obtain⟨rfl,i⟩:=List.append_inj' e rfl
   cases i;exact iA (yr λx _ g=>((mk x).mp (~~~g)).1) l
  .rw[abR] at e ⊢
   have e:M++ [p]=(A++x::k)++ [y]:=by rw[e];simp
   obtain⟨t,i⟩:=List.append_inj' e rfl;cases i;refine iA (yr λz _ c=>?_) (h.few A x k t)
   rcases cF.mp c with c|c
   .rcases cF.mp c with c|c
    .exact fZ _ c
    .rw[fB.mp c];exact dP _ d
   .exact dP _ ((mk z).mp c).1
def ON(h:HT.lexLt [a,b] [c,d]=false):c<=a:=by
 rw[HT.jy] at h
 by_cases e:a=c
 .lia
 .rw[tz e] at h
  have:=PP h
  lia
def Qc:cc:=λa P=>∃(w:W),a= [.dG w]/\Good w/\1<=w.length/\w.length<=14/\(2<=w.length->W9 w)/\∀L:List Nat,Uz w L->P (av L)
def k9:FnOk P w Z.K mg base bZ 2 T.d_order_of_five.f T.d_order_of_five.fd ["web"] (aV Z Qc):=by
 have j:=lu.nd;refine bf T.d_order_of_five.F lu [0,0,1,1,1,0] ∅ (λQ R h=>by obtain⟨_,rfl,_⟩:=h;rfl) (λbg A outer s H E Q R r h=>?_)
 have S:=r.units
 refine#[_,(af (aP false 1 j (eY T.W (aa 0) T.m_turns.m (gM T) (r.mono ∅) T.m_turns.b))
   (af (bW 2 j (Lh rfl rfl rfl T.B.list fR (hV EW rfl T.B.range Az (ae (eY T.W (aa 0) T.m_many.m (m9 T) (r.mono ∅) T.m_many.b) ag))))
   (af (bW 3 j (df ag))
   (af (mf GE (fM (aa 2)) (af (HL 4 (NC:= ["p","turns","left"]) (src:= [none,some 1,some 2]) rfl j (lF (au gx)) #[rfl,rfl,rfl,rfl,trivial] (bq (aa 2)) (λ_ _ _=>(bI 0 (show(["p","turns","left"]:List Str).Nodup from by decide+kernel))) (λ_ _ _=>c7) (λ_ _ _=>(bS (ae (aH bC rfl T.B.len bB (ae (oO (NC:= ["q","left"]) (src:= [none,some 2]) rfl Xh #[rfl,rfl,trivial] (bq (aY (aa 1) (aa 0))) (λ_ _ _=>(bI 0 (show(["q","left"]:List Str).Nodup from by decide+kernel))) (λ_ _ _=>(mi (aQ Dy (aa 0) (aa 1) (by with_unfolding_all rfl)))) (λ_ _ _=>(aa 0))) ag)) (ae (aa 0) ag)))))
   (af (aP true 5 j (aY (aH (MY rfl S) rfl T.B.min JU (ae (aa 4) ag)) az))
   (af (eF false 3 (aa 5))
   (aq (Q3 2 (aa 5)))))))
   (aq (aM (aa 3))))))),?_]
 obtain⟨d,rfl,g,l1,fO,U,q⟩:=h;refine#[_,rfl,d,rfl,d,rfl,(),trivial,?_]
 refine#[_,rfl,d,rfl,d,rfl,_,rfl,_,_,rfl,#[∅,∅,(),(),()],?_]
 rw[show((d.length:Int)-0).toNat=d.length by lia,zo]
 refine#[by show 0<=sizeLine;decide,?_]
 refine kM (λm ρ=>∃(L M:List Nat)(G J:Option D),ρ= [some (.dG d),some (aW d),some (av L),some (av M),G,J]/\L.length=m/\xK d L M) d.length #[am d.length,[],_,_,rfl,jR,xK.zero d] ?_;rintro m _ ⟨L,M,G,J,rfl,lm,I⟩;have o:∀x∈L,x<d.length:=λx k=>(I.all x).mpr (.inl k);have X:∀x∈M,x<d.length:=λx k=>(I.all x).mpr (.inr k)
 have sz:∀{l:List Nat},l.Nodup->(∀x∈l,x<d.length)->l.length<=14:=λ {l} j h=>by
  have:=aD (m:=am d.length) j λx k=>eJ.mpr (h x k)
  rw[jR] at this;lia
 have lL:=sz I.nk o;have lM:=sz I.nm X;have Kg:∀x,(row d x).length<=14:=λx=>by have:=dO g x;lia
 cases L with
 |nil=>
  refine#[_,rfl,rfl,bX ?_];exact#[_,rfl,q M #[I.nm,λx=>by rw[I.all x];simp,λA x B e=>by have:=I.few A x B e;rwa [gR] at this]]
 |cons a L=>
  refine#[_,rfl,rfl,b8 ?_];generalize t:a::L=K at*
  have f5:∃p∈K,((row d p).filter λq=>decide (q∈K)).length<=5:=by
   by_cases n2:2<=d.length
   .obtain⟨c,F,e⟩:=U n2
    exact X2 g F e I.nk (by rw[<-t];simp) o
   .exact#[a,by rw[<-t];simp,by have:=Eu (λq=>decide (q∈K)) (row d a);have:=dO g a;lia]
  refine#[_,rfl,mT (λρ=>∃N,ρ= [N,some (aW d),some (av K)]) ao (λ_=>true) (λp=>tupI [(((row d p).filter λq=>decide (q∈K)).length:Int),(p:Int)]) K _ [] _ (λp i O hI Y Nn hY hN=>?_) #[none,rfl] ?_ λO _=>?_]
  .obtain⟨N,rfl⟩:=hI
   exists _,rfl,_,rfl,_,fW (o p i);have rp:=Kg p;refine kF (ρ:= [none,some (av K)]) ao (λq=>decide (q∈K)) ao (row d p) _ [] _ (λy hy Y Nn t1 t2=>?_) #[none,rfl] (small (by rw[jH];lia)) λO=>?_
   .refine#[_,rfl,_,rfl,rfl,d9 _,_,rfl,?_]
    rw[tz cQ,mv];exact bF (λe=>#[_,rfl,t1 e]) (λe=>t2 e)
   .refine#[_,rfl,by show 2<=sizeLine;decide,?_]
    have u:(D.tup [.int ((([]++((row d p).filter λq=>decide (q∈K)).map ao:List D)).length:Int), .int (p:Int)])=tupI [(((row d p).filter λq=>decide (q∈K)).length:Int),(p:Int)]:=by rw[oh,aS];rfl
    refine(?_:Y _ (D.tup [.int ((([]++((row d p).filter λq=>decide (q∈K)).map ao:List D)).length:Int), .int (p:Int)]));rw[u];exact hY _ #[_,rfl] rfl
  .exact small (by rw[jH];lia)
  .rw[List.filter_eq_self.mpr (λ_ _=>rfl),oh]
   have nl:=Bd (λp:Nat=>(((row d p).filter λq=>decide (q∈K)).length:Int)) K;refine#[nl,_,rfl,K.map (λp=> [(((row d p).filter λq=>decide (q∈K)).length:Int),(p:Int)]),by rw[dQ];rfl,by rw[<-t];simp,λv hm mn=>?_]
   obtain⟨p,i,rfl⟩:=cM.mp hm;exists .int (p:Int),rfl,rfl;have pK:=o p i
   have p5:((row d p).filter λq=>decide (q∈K)).length<=5:=by
    obtain⟨p0,h0,h5⟩:=f5
    have:=ON (mn _ (cM.mpr #[p0,h0,rfl]))
    lia
   have kp:0<K.length:=wF i;have n:=jw i;have el:(K.eraseIdx (K.idxOf p)).length+1=K.length:=by rw[Ew,AC n.2];lia
   refine#[_,rfl,_,rfl,trivial,cf (by rw[aS];lia),?_]
   have ix:=fu i;refine#[K.map λ(x:Nat)=>(x:Int),by unfold av;rw[dQ];rfl,_,rfl,(p:Int),K.idxOf p,rfl,?_,?_,?_]
   .have n:=jw i
    rw[fi,cZ n.2];have e:=n.1;rw[cW,cZ n.2] at e;exact KF (λx:Nat=>some (x:Int)) e
   .intro v C z
    rw[fi] at z;cases e:K[v]? with
    |none=>rw[e] at z;cases z
    |some x=>
     rw[e] at z
     have:(x:Int)=(p:Int):=FM z
     exact xy K v C (by rw[e];congr 1;lia)
   .refine#[m-1,(),K.eraseIdx (K.idxOf p),M++ [p],some (.lst (K.map λp=>tupI [(((row d p).filter λq=>decide (q∈K)).length:Int),(p:Int)])),some (.int (p:Int)),?_,(),I.step i p5 (I.nk.eraseIdx _) λx=>?_]
    .have u:D.lst (((K.map λ(x:Nat)=>(x:Int)).eraseIdx (K.idxOf p)).map D.int)=av (K.eraseIdx (K.idxOf p)):=by unfold av;rw[yq,dQ];rfl
     have e2:av (M++ [p])= .lst (M.map ao++ [ao p]):=by unfold av;rw[cX];rfl
     rw[<-u,e2];rfl
    .rw[<-List.erase_eq_eraseIdx_of_idxOf rfl,I.nk.mem_erase_iff];exact And.comm
def KG:cc:=λa P=>∃(w:W),a= [.dG w]/\Good w/\1<=w.length/\w.length<=14/\QJ w/\∀(f:List (Option Int))(b c:D),P (.tup [aR f,b,c])
def Am:FnOk P w Z.K mg base bZ 8 T.d_five_dyes.f T.d_five_dyes.fd ["web"] (aV Z KG):=by
 have a:=jo.nd;refine bf T.d_five_dyes.F jo [0,0,0,1,0,0] ∅ (λI R h=>by obtain⟨_,rfl,_⟩:=h;rfl) (λbg A outer s H E I R e h=>?_)
 have hu:=e.units
 refine#[_,(af (Fb (aE T.d_need_plane (pL T) e (ae (aa 0) ag)))
   (af (aP false 1 a (aE T.d_order_of_five (k9 T) e (ae (aa 0) ag)))
   (af (jb 2 (NC:= ["p"]) (src:= [none]) rfl a (lF (au iO)) trivial (bq (aa 1)) (λ_ _ _=>(bI 0 (show(["p"]:List Str).Nodup from by decide+kernel))) (λ_ _ _=>c7) (λ_ _ _=>bR))
   (af (bW 3 a (df ag))
   (af (dh rfl GE (Cb rfl T.B.reversed (ae (aa 1) ag)) (aN 4 a) (af (qs (aE T.d_dye_given (lN T) e (ae (aa 0) (ae (aa 2) (ae (aa 4) (ae az ag))))) (gS 2 rfl (bA (aN 2 a) (bA (aN 5 a) d6))))
   (aq (Cd 3 (aa 5)))))
   (dD 3
   (aq (aM (bS (ae (aa 2) (ae (aa 1) (ae (aa 3) ag)))))))))))),?_]
 obtain⟨b,rfl,g,k,m,n,q⟩:=h;exists _,rfl,b,rfl,g,k,m,n;refine#[_,rfl,b,rfl,g,k,m,n.pln g,λL O=>#[trivial,?_]];obtain⟨y,C,few⟩:=O
 have J:L.length=b.length:=by
  have:=(Bw y wK (l₂:=am b.length)).mpr λx=>by rw[<-C x,eJ]
  rw[this.length_eq,jR]
 exists _,rfl;refine ji (ρ:= [none]) ao (λ_=>oD none) L _ (λx c Y M=>M) rfl (small ()) λaL=>?_
 exists trivial;refine#[by show 0<=sizeLine;decide,?_]
 exists _,rfl;have N:(L.map ao).reverse=L.reverse.map ao:=by rw[acU]
 refine(?_:mj _ _ _ (L.map ao).reverse _);rw[N];refine cC (λj ρ=>∃(f:List (Option Int))(d:List D)(o r:Option D),ρ= [some (.dG b),some (av L),some (aR f),some (.lst d),o,r]/\f.length=b.length/\(∀q,q∉L.reverse.take j->f.getD q none=none)/\d.length<=2*j) #[L.map λ_=>none,[],none,none,?_,by rw[aS,J],λx=>?_,fg _] ?_ ?_
 .rw[show aR (L.map λ_=>none)= .lst (L.map λ_=>oD none) by unfold aR;rw[dQ];rfl];rfl
 .intro _;rw[cW,fi];cases L[x]? <;>rfl
 .rintro j _ _ Q ⟨f,d,o,r,rfl,t,i,S⟩ A U
  obtain⟨p,u,rfl⟩:=cV Q
  have jl:j<L.length:=by
   have:=(dZ.mp u).1
   rwa [aca] at this
  have X:p∈L:=zL.mp (fb u);have v:L.reverse.take (j+1)=L.reverse.take j++ [p]:=by rw[zS,u];rfl
  have eL:L=(L.reverse.drop (j+1)).reverse++p::(L.reverse.take j).reverse:=by
   have:L.reverse=L.reverse.take j++p::L.reverse.drop (j+1):=by
    rw[<-List.singleton_append,<-lD,<-v,n6]
   have:=KF List.reverse this
   rw[List.reverse_reverse] at this
   conv=>lhs;rw[this]
   simp
  have f5:=few _ _ _ eL
  have np:p∉L.reverse.take j:=λz=>by
   have a:=(abv L).nodup_iff.mpr y;rw[<-n6 (j+1) L.reverse,v] at a
   have:=(iT.mp a).1
   exact(iT.mp this).2.2 p z p (by simp) rfl
  have a5:(jW b f p).length<=5:=by
   refine iA ?_ f5;unfold jW;rw[<-Bu,<-Bu];refine abP λx _ c=>GT (zL.mpr (FB λz=>?_));rw[i x z] at c;simp at c
  refine#[_,rfl,_,rfl,_,rfl,b,f,p,5,rfl,g,k,m,n,(C p).mpr X,t,∅,∅,i p np,(),λf' l G hl=>?_]
  exists rfl,rfl;refine#[_,rfl,_,rfl,_,rfl,iA (by show _<=1000;lia) ∅,U _ #[f',d++l,_,_,rfl,by rw[G.len,t],λx=>?_,by rw[cI];lia]]
  intro c;rw[v,cF,fB] at c;exact(G.out x λz=>c (.inr z)).mpr (i x λz=>c (.inl z))
 .rintro _ ⟨f,d,o,r,rfl,t,i,S⟩
  exact#[#[_,rfl],_,rfl,_,rfl,_,rfl,by show 3<=sizeLine;decide,q f _ _]
def GP(T:Txt Z mg):BI:=λa P R=>∃(w:W)(k:Nat),a= [.dG w]/\Good w/\1<=w.length/\w.length<=14/\Cn w k/\¬(w.length:Int)+(k:Int)=(tc w:Int)+2/\R (.err T.e_NotPlane ["counted"] [me w k])
def y4:FnOk P w Z.K mg base (qH P w) 8 T.d_five_dyes.f T.d_five_dyes.fd ["web"] (gL Z (GP T)):=by
 have a:=jo.nd;refine uM T.d_five_dyes.F jo [0,0,0,1,0,0] ∅ (λc R d h=>by obtain⟨_,_,rfl,_⟩:=h;rfl) (λo A outer s H E c R d b h=>?_)
 have p:=b.units
 refine#[_,(af (qt T.d_need_plane (nP T) b (ae (aa 0) ag))
   (af (aP false 1 a (aE T.d_order_of_five (k9 T) b (ae (aa 0) ag)))
   (af (jb 2 (NC:= ["p"]) (src:= [none]) rfl a (lF (au iO)) trivial (bq (aa 1)) (λ_ _ _=>(bI 0 (show(["p"]:List Str).Nodup from by decide+kernel))) (λ_ _ _=>c7) (λ_ _ _=>bR))
   (af (bW 3 a (df ag))
   (af (dh rfl PassesOwn.leaving (Cb rfl T.B.reversed (ae (aa 1) ag)) (aN 4 a) (af (qs (aE T.d_dye_given (lN T) b (ae (aa 0) (ae (aa 2) (ae (aa 4) (ae az ag))))) (gS 2 rfl (bA (aN 2 a) (bA (aN 5 a) d6))))
   (aq (Cd 3 (aa 5)))))
   (dD 3
   (aq (aM (bS (ae (aa 2) (ae (aa 1) (ae (aa 3) ag)))))))))))),?_]
 obtain⟨i,k,rfl,g,j,l,m,ne,q⟩:=h;refine#[_,rfl,i,rfl,g,j,l,λr n=>?_];obtain rfl:=Cn.uniq g n m;exact#[λe=>absurd e ne,λ_=>q]
def y2:FnOk P w Z.K mg base (qH P w) 8 T.d_five_dyes.f T.d_five_dyes.fd ["web"] (gL Z λa P R=>KG a P\/GP T a P R):=FnOk.both (Am T) (y4 T)
variable {P:Program} {w:World} {mg:Str->Option Value} {base:Heap} {Z:DC} (T:Txt Z mg)
def Mr:cc:=λd P=>∃(w:W)(a c:List Int)(b:Bool),d= [aW w, .lst (bE a), .lst (bE c), .bl b]/\Good w/\w.length<=14/\a.length=w.length/\c.length<=100/\∀f:List (Option Int),f.length=w.length->P (aR f)
def u4:FnOk P w Z.K mg base bZ 1 T.d__law_dyeing.f T.d__law_dyeing.fd ["_law_turns","_law_draws_here","_law_dyes","_law_none"] (jz Z 1 Mr):=by
 have t:=nU.nd;refine qz 1 T.d__law_dyeing.F nU [0,0,0,0,1,0,1,1] ∅ (λN R h=>by obtain⟨_,_,_,_,rfl,_⟩:=h;rfl) (λbg A outer s H E N R O h=>?_)
 have Q:=O.units
 refine#[_,(af (bW 4 t (Q1 (ae bR ag) (aH bC rfl T.B.len bB (ae (aa 0) ag))))
   (af (iG rfl GE (fo rfl T.B.range (ae (aH bC rfl T.B.len bB (ae (aa 0) ag)) ag)) (aN 5 t) (af (Ny 6 t (Vb (NC:= ["_law_q","_law_found"]) (src:= [none,some 4]) rfl (lF (au fY)) #[rfl,rfl,trivial] (bq (aY (aa 0) (aa 5))) (λ_ _ _=>(bI 0 (show(["_law_q","_law_found"]:List Str).Nodup from by decide+kernel))) (λ_ _ _=>c7) (λ_ _ _=>(aY (aa 1) (aa 0)))))
   (af (HK 7 (NC:= ["_law_dye","_law_taken"]) (src:= [none,some 6]) rfl t (lF (au fY)) #[rfl,rfl,trivial] (bq (aa 2)) (λ_ _ _=>(bI 0 (show(["_law_dye","_law_taken"]:List Str).Nodup from by decide+kernel))) (λ_ _ _=>(mi (aQ mB (aa 0) (aa 1) (by with_unfolding_all rfl)))) (λ_ _ _=>(aa 0)))
   (af (br (DW.dt (uJ (fM (aa 3)) (qw (aQ (jc Q) (aa 7) (cz ag) (aZ _))))) (aq (Nr 7 t (cz (ae bR ag)))) aI)
   (aq (iq true 4 (aa 5) (aY (aa 7) (aK cJ (aY (aa 1) (aa 5)) (aH bC rfl T.B.len bB (ae (aa 7) ag))))))))))
   (aq (Fd 4)))),?_]
 obtain⟨a,p,m,b,rfl,g,dU,xl,dl,q⟩:=h;have lw:(a.map av).length=a.length:=aS _
 have S:(ar a.length [D.bo]).flatten=(ar a.length (none:Option Int)).map oD:=by
  rw[List.map_replicate];generalize a.length=n
  induction n with
  |zero=>rfl
  |succ n U=>rw[wG,n9,U];rfl
 refine#[by show 1<=sizeLine;decide,_,rfl,(),(),by show 1*_<=sizeLine;exact small (),?_]
 refine#[_,rfl,#[(),by show((a.map av).length:Int)<2^62;lia],?_]
 rw[show(((a.map av).length:Int)).toNat=a.length by lia]
 have X:(bE p).length=p.length:=by unfold bE;simp
 refine gw (λj ρ=>∃(f:List (Option Int))(v y z:Option D),ρ= [some (aW a),some (.lst (bE p)),some (.lst (bE m)),some (.bl b),some (aR f),v,y,z]/\f.length=a.length)
  #[ar a.length none,none,none,none,?_,zP] ?_ ?_
 .rw[S];rfl
 .rintro j _ I ⟨f,v,y,z,rfl,u⟩ A hA
  have rl:=dO g j;exists _,rfl,_,rfl,_,fW I;refine ji (ρ:= [none,some (aR f)]) ao (λx=>oD (f.getD x none)) (row a j) _ (λx J Y C=>#[_,rfl,_,rfl,_,fw (by have:=g.rng _ _ J;lia),C]) rfl (small ()) λL=>?_
  have e1:((row a j).map λx=>oD (f.getD x none))=((row a j).map λx=>f.getD x none).map oD:=by rw[dQ];rfl
  rw[e1];generalize ((row a j).map λx=>f.getD x none)=l;exists ni _;exists _,rfl;refine mT (λρ=>∃o,ρ= [o,some (aR l)]) D.int (λd=>!decide (some d∈l)) D.int m _ [] _ (λx J L M Y Nn C hN=>?_) #[none,rfl] (by rw[jH,uw];exact small ()) λL M=>?_
  .obtain⟨o,rfl⟩:=M
   exists _,rfl,_,rfl,rfl,ni _,_,rfl;have e:inD (.int x) (l.map oD)=decide (some x∈l):=CN (some x) l;rw[AC rfl,e];exact bF (λh=>#[_,rfl,C _ #[_,rfl] h]) λh=>hN _ #[_,rfl] h
  rw[oh];have fz:(m.filter (λd=>!decide (some d∈l))).length<=m.length:=Eu ..;have e2:(m.filter (λd=>!decide (some d∈l))).map D.int=((m.filter (λd=>!decide (some d∈l))).map some).map oD:=by rw[dQ];rfl
  rw[e2];exists ni _;have e7:((m.filter (λd=>!decide (some d∈l))).map some).length<=100:=by rw[aS];lia
  dsimp only;refine xj [some (aW a),some (.lst (bE p)),some (.lst (bE m)),some (.bl b),some (aR f),some (ao j),some (aR l),some (aR ((m.filter (λd=>!decide (some d∈l))).map some))] rfl ?_;generalize (m.filter (λd=>!decide (some d∈l))).map some=r at e7;have e5:(r.map oD)++ [D.bo]=(r++ [none]).map oD:=by rw[cX];rfl
  refine D4 (λρ=>∃k:List (Option Int),ρ= [some (aW a),some (.lst (bE p)),some (.lst (bE m)),some (.bl b),some (aR f),some (ao j),some (aR l),some (aR k)]/\0<k.length/\k.length<=101) (λE' G=>?_) ?_
  .cases b with
   |true=>
    refine#[_,rfl,rfl,b8 (b8 ?_)];refine#[_,rfl,by show 1<=sizeLine;decide,_,rfl,by rw[aS];exact small (by show _+1<=_;lia),?_]
    rw[e5];exact G _ #[r++ [none],rfl,by rw[cI];simp,by rw[cI,n5];lia]
   |false=>
    refine#[_,rfl,rfl,bX #[_,rfl,by show 0<=sizeLine;decide,?_]]
    refine(?_:sT (aR r) (aR []) _);refine Lb #[_,rfl,bF (λe=>?_) (λe=>?_)]
    .have e:=KB e
     subst e;refine#[_,rfl,by show 1<=sizeLine;decide,_,rfl,by show 0+1<=sizeLine;decide,?_]
     exact G _ #[[none],rfl,∅,∅]
    .have e:r≠ []:=PP e
     exact G _ #[r,rfl,Bz.mpr e,()]
  rintro _ ⟨k,rfl,f1,aav⟩;have lf:(k.map oD).length=k.length:=aS _;have mq:=mY (p.getD j 0) ((k.map oD).length:Int) ()
  obtain⟨i,hi⟩:∃i:Nat,p.getD j 0%((k.map oD).length:Int)=(i:Int):=#[(p.getD j 0%((k.map oD).length:Int)).toNat,()]
  have il:i<k.length:=()
  have ai:fQ (k.map oD) (p.getD j 0%((k.map oD).length:Int))\(oD (k.getD i none)):=by rw[hi];exact fw il
  refine#[_,rfl,_,rfl,_,rfl,_,yJ (),_,rfl,(by show(0:Int)<((k.map oD).length:Int);lia),_,ai,RV _,_,rfl,_,rfl,_,j,rfl,by rw[aS,u];exact xv I,?_]
  generalize k.getD i none=c;refine hA _ #[f.set j c,some (ao j),some (aR l),some (aR k),?_,by rw[gb,u]]
  have:aR (f.set j c)= .lst ((f.map oD).set j (oD c)):=by unfold aR;rw[wL]
  rw[this];rfl
 .rintro _ ⟨f,v,y,z,rfl,u⟩
  exact#[_,rfl,q f u]
def GN:cc:=λa P=>∃(w:W),a= [aW w]/\Good w/\1<=w.length/\w.length<=14/\∀k,Cn w k->P (me w k)
def u6:FnOk P w Z.K mg base bZ 2 T.d__law_counted.f T.d__law_counted.fd ["_law_turns"] (aV Z GN):=by
 have d:=mI.nd;refine bf T.d__law_counted.F mI [0,0] ∅ (λe R h=>by obtain⟨_,rfl,_⟩:=h;rfl) (λo A outer s H E e R c h=>?_)
 have p:=c.units
 refine#[_,(af (aP false 1 d (aK j3 (aH (QP rfl) rfl T.B.sum QN (ae (oO (NC:= ["_law_turn"]) (src:= [none]) rfl (lF (au gW)) trivial (bq (aa 0)) (λ_ _ _=>(bI 0 (show(["_law_turn"]:List Str).Nodup from by decide+kernel))) (λ_ _ _=>c7) (λ_ _ _=>(aH bC rfl T.B.len bB (ae (aa 0) ag)))) ag)) az))
   (aq (aM (bS (ae (aH bC rfl T.B.len bB (ae (aa 0) ag)) (ae (aa 1) (ae (aH bC rfl T.B.len bB (ae (aE T.d__law_lands (pI T) c (ae (aa 0) ag)) ag)) ag))))))),?_]
 obtain⟨a,rfl,g,i,j,q⟩:=h;have k:(a.map av).length=a.length:=aS _;refine#[_,rfl,ji (ρ:= [none]) av (λr=> .int (r.length:Int)) a _ (λx t Y l=>?_) rfl (small ()) λu=>?_]
 .refine#[_,rfl,?_]
  refine(?_:Y (.int ((x.map ao).length:Int)));rw[aS];exact l
 refine#[a.map λr=>(r.length:Int),by rw[dQ];rfl,#[∅,∅],trivial,?_]
 refine#[_,rfl,_,rfl,_,rfl,a,rfl,g,i,j,λb _ _ _ cn _=>?_];refine#[by show 3<=sizeLine;decide,?_]
 have m:(a.map λr=>(r.length:Int)).sum / 2=((tc a:Nat):Int):=by
  have v:=KL g;have y:=hU a;rw[GW];lia
 have:=q _ cn
 unfold me at this;have n:D.tup [.int ((a.map av).length:Int), .int ((a.map λr=>(r.length:Int)).sum / 2), .int ((b.map av).length:Int)]= .tup [.int (a.length:Int), .int (tc a:Int), .int (b.length:Int)]:=by rw[k,m,aS]
 refine(?_:R (D.tup [.int ((a.map av).length:Int), .int ((a.map λr=>(r.length:Int)).sum / 2), .int ((b.map av).length:Int)]));rw[n];exact this
def cj(h:aj K t c\false)(a:b4 K t r\false):b4 K t (c::r)\false:=by rw[b4,h];exact a
def okE(T:Txt Z mg)(c:Addr):Prop:=c=T.e_NotPlane\/c=T.e_NotFree
def Qd(T:Txt Z mg):cc:=λa P=>∃(c:Addr)(b:List Str)(l:List D),a= [.err c b l]/\okE T c/\P (.bl false)
def nO:QD P w Z.K mg base 1 T.d__law_other.f T.d__law_other.fd ["_law_e"] (aV Z (Qd T)):=by
 have d:=p7.nd;refine Lo T.d__law_other.F p7 [0] ∅ (λa R h=>by obtain⟨_,_,_,rfl,_⟩:=h;rfl) (λe A outer s H a R g h=>?_)
 refine#[_,(af (br (fM (ye T.iX (.cons (.own _) (.cons (.own _) (.cons (.own _) (.cons (.own _) (.cons (.own _) (.cons (.own _) .nil)))))) #[(dB T.g_Alike),rfl,#[(dB T.g_Bridge),rfl,#[(dB T.g_NoCorner),rfl,#[(dB T.g_NoRing),rfl,#[(dB T.g_NoText),rfl,#[(dB T.g_NoWeb),rfl,trivial]]]]]] (show 6<=1000 by decide) (aa 0) rfl T.B.isinstance)) (aq (aM eX)) aI)
   (aq (aM (ye T.iX (.cons (.own _) (.cons (.own _) (.cons (.own _) (.cons (.own _) (.cons (.own _) (.cons (.own _) .nil)))))) #[(dB T.g_NotFilled),rfl,#[(dB T.g_Odd),rfl,#[(dB T.g_Shared),rfl,#[(dB T.g_TooFew),rfl,#[(dB T.g_TooMany),rfl,#[(dB T.g_TooSmall),rfl,trivial]]]]]] (show 6<=1000 by decide) (aa 0) rfl T.B.isinstance)))),?_]
 obtain⟨c,i,l,rfl,b,q⟩:=h
 rcases b with rfl|rfl
 .have x:=T.q_NotPlane.cls
  refine#[_,rfl,x,false,cj T.z_NotPlane_Alike (cj T.z_NotPlane_Bridge (cj T.z_NotPlane_NoCorner (cj T.z_NotPlane_NoRing (cj T.z_NotPlane_NoText (cj T.z_NotPlane_NoWeb rfl))))),rfl,bX ?_];exact#[_,rfl,x,false,cj T.z_NotPlane_NotFilled (cj T.z_NotPlane_Odd (cj T.z_NotPlane_Shared (cj T.z_NotPlane_TooFew (cj T.z_NotPlane_TooMany (cj T.z_NotPlane_TooSmall rfl))))),q]
 .have x:=T.q_NotFree.cls
  refine#[_,rfl,x,false,cj T.z_NotFree_Alike (cj T.z_NotFree_Bridge (cj T.z_NotFree_NoCorner (cj T.z_NotFree_NoRing (cj T.z_NotFree_NoText (cj T.z_NotFree_NoWeb rfl))))),rfl,bX ?_];exact#[_,rfl,x,false,cj T.z_NotFree_NotFilled (cj T.z_NotFree_Odd (cj T.z_NotFree_Shared (cj T.z_NotFree_TooFew (cj T.z_NotFree_TooMany (cj T.z_NotFree_TooSmall rfl))))),q]
def Cc:D:= .lst [.str "done"]
def DX(w:W)(k:Nat):D:= .lst [.bl true, .bl false, .bl true, .bl false,me w k]
def NU(p:Nat):D:= .lst [.bl true, .bl false, .bl false, .bl true,ao p]
def qP(w:W)(k:Nat):D:=if (w.length:Int)+(k:Int)=(tc w:Int)+2 then Cc else DX w k
def sW(w:W)(k:Nat)(f:List (Option Int))(p:Nat)(m:Int):D:=if (w.length:Int)+(k:Int)=(tc w:Int)+2 then(if f.getD p none≠none\/m<((jW w f p).length:Int) then NU p else Cc) else DX w k
def KH:cc:=λa P=>∃(w:W)(f:List (Option Int))(p:Nat)(m:Int)(k:Nat),a= [.dG w,aR f,ao p, .int m]/\Good w/\1<=w.length/\w.length<=14/\Cn w k/\p<w.length/\f.length=w.length/\4<=m/\m<=7/\P (sW w k f p m)
def qV:FnOk P w Z.K mg base bZ 8 T.d__law_said.f T.d__law_said.fd ["_law_web_here","_law_dyeing_here","_law_p","_law_many"] (aV Z KH):=by
 have c:=qX.nd;refine bf T.d__law_said.F qX [0,0,0,0,1,0] ∅ (λt R h=>by obtain⟨_,_,_,_,_,rfl,_⟩:=h;rfl) (λv A outer s H E t R d h=>?_)
 have y:=d.units
 refine#[_,(af (bW 4 c (df (ae gr ag)))
   (af (J6 (λ_ _=>by exact(aq (qt T.d_dye_given (y0 T) d (ae (aa 0) (ae (aa 1) (ae (aa 2) (ae (aa 3) ag))))))) aI (Nq 5 c T.g_MapError T.q_MapError (λ_=>by exact(af (bW 4 c (df (ae (gq T.iX (.blt _) (Pd T.x_ValueError) (aa 5) rfl T.B.isinstance) (ae (AE T.d__law_other (nO T) d.toH (ae (aa 5) ag)) (ae (gq T.iX (.own _) (dB T.g_NotPlane) (aa 5) rfl T.B.isinstance) (ae (gq T.iX (.own _) (dB T.g_NotFree) (aa 5) rfl T.B.isinstance) ag))))))
   (af (br (fM (gq T.iX (.own _) (dB T.g_NotPlane) (aa 5) rfl T.B.isinstance)) (aq (eF false 4 (yd T.iX (aa 5)))) aI)
   (aq (br (fM (gq T.iX (.own _) (dB T.g_NotFree) (aa 5) rfl T.B.isinstance)) (aq (eF false 4 (yd T.iX (aa 5)))) aI))))) J2))
   (aq (aM (aa 4))))),?_]
 obtain⟨a,f,p,m,k,rfl,g,i,j,n,o,r,C,G,q⟩:=h;refine#[by show 1<=sizeLine;decide,?_]
 unfold sW at q
 by_cases e:(a.length:Int)+(k:Int)=(tc a:Int)+2
 .rw[AC e] at q
  by_cases b:f.getD p none≠none\/m<((jW a f p).length:Int)
  .rw[AC b] at q
   refine#[_,rfl,_,rfl,_,rfl,_,rfl, .inr #[a,f,p,m,k,rfl,g,i,j,n,o,r,λz=>absurd e z,λ_=>#[b,?_]]];refine#[T.q_NotFree.obj,true,T.m_NotFree_MapError,b8 ?_];have x:=T.q_NotFree.cls;refine#[_,rfl,x,_,T.z_NotFree_ValueError,_,rfl,T.e_NotFree,_,_,rfl, .inr rfl,_,rfl,x,_,T.z_NotFree_NotPlane,_,rfl,x,_,T.z_NotFree_NotFree,by show 4<=sizeLine;decide,?_]
   refine#[_,rfl,x,_,T.z_NotFree_NotPlane,rfl,bX ?_];refine#[_,rfl,x,_,T.z_NotFree_NotFree,rfl,b8 ?_];refine#[_,rfl,_,rfl,x,T.n_NotFree_point,_,rfl,trivial,by show 4<sizeLine;decide,?_]
   exact#[_,rfl,q]
  .rw[tz b] at q
   have u:f.getD p none=none:=FB λz=>b (.inl z);refine#[_,rfl,_,rfl,_,rfl,_,rfl, .inl #[a,f,p,m,rfl,g,i,j,#[k,n,e],o,r,(),(),u,?_,λI l _ _=>?_]]
   .exact Int.not_lt.mp λz=>b (.inr z)
   .exact#[_,rfl,q]
 .rw[tz e] at q
  refine#[_,rfl,_,rfl,_,rfl,_,rfl, .inr #[a,f,p,m,k,rfl,g,i,j,n,o,r,λ_=>?_,λz=>absurd z e]];refine#[T.q_NotPlane.obj,true,T.m_NotPlane_MapError,b8 ?_];have x:=T.q_NotPlane.cls;refine#[_,rfl,x,_,T.z_NotPlane_ValueError,_,rfl,T.e_NotPlane,_,_,rfl, .inl rfl,_,rfl,x,_,T.z_NotPlane_NotPlane,_,rfl,x,_,T.z_NotPlane_NotFree,by show 4<=sizeLine;decide,?_]
  refine#[_,rfl,x,_,T.z_NotPlane_NotPlane,rfl,b8 ?_];refine#[_,rfl,_,rfl,x,T.n_NotPlane_counted,_,rfl,trivial,by show 4<sizeLine;decide,?_]
  refine#[_,rfl,x,_,T.z_NotPlane_NotFree,rfl,bX ?_];exact#[_,rfl,q]
def P7:cc:=λa P=>∃(w:W)(k:Nat),a= [.dG w]/\Good w/\1<=w.length/\w.length<=14/\Cn w k/\P (qP w k)
def pH:FnOk P w Z.K mg base bZ 9 T.d__law_fives.f T.d__law_fives.fd ["_law_web_here"] (aV Z P7):=by
 have b:=pX.nd;refine bf T.d__law_fives.F pX [0,1,0] ∅ (λl R h=>by obtain⟨_,_,rfl,_⟩:=h;rfl) (λm A outer s H E l R c h=>?_)
 have n:=c.units
 refine#[_,(af (bW 1 b (df (ae gr ag)))
   (af (J6 (λ_ _=>by exact(aq (qt T.d_five_dyes (y2 T) c (ae (aa 0) ag)))) aI (Nq 2 b T.g_MapError T.q_MapError (λ_=>by exact(af (bW 1 b (df (ae (gq T.iX (.blt _) (Pd T.x_ValueError) (aa 2) rfl T.B.isinstance) (ae (AE T.d__law_other (nO T) c.toH (ae (aa 2) ag)) (ae (gq T.iX (.own _) (dB T.g_NotPlane) (aa 2) rfl T.B.isinstance) (ae (gq T.iX (.own _) (dB T.g_NotFree) (aa 2) rfl T.B.isinstance) ag))))))
   (aq (br (fM (gq T.iX (.own _) (dB T.g_NotPlane) (aa 2) rfl T.B.isinstance)) (aq (eF false 1 (yd T.iX (aa 2)))) aI)))) J2))
   (aq (aM (aa 1))))),?_]
 obtain⟨a,k,rfl,g,d,i,j,q⟩:=h;refine#[by show 1<=sizeLine;decide,?_]
 unfold qP at q
 by_cases e:(a.length:Int)+(k:Int)=(tc a:Int)+2
 .rw[AC e] at q
  exact#[_,rfl, .inl #[a,rfl,g,d,i,#[k,j,e],λ_ _ _=>#[_,rfl,q]]]
 .rw[tz e] at q
  refine#[_,rfl, .inr #[a,k,rfl,g,d,i,j,e,?_]];refine#[T.q_NotPlane.obj,true,T.m_NotPlane_MapError,b8 ?_];have x:=T.q_NotPlane.cls;refine#[_,rfl,x,_,T.z_NotPlane_ValueError,_,rfl,T.e_NotPlane,_,_,rfl, .inl rfl,_,rfl,x,_,T.z_NotPlane_NotPlane,_,rfl,x,_,T.z_NotPlane_NotFree,by show 4<=sizeLine;decide,?_]
  refine#[_,rfl,x,_,T.z_NotPlane_NotPlane,rfl,b8 ?_];refine#[_,rfl,_,rfl,x,T.n_NotPlane_counted,_,rfl,trivial,by show 4<sizeLine;decide,?_]
  exact#[_,rfl,q]
def OX{P:D->Prop}(h:P (.bl (!decide (a=n+c)))):dC (.int c) d (λb=>M1 (.int n) b (λb=>wU (.int a) b P)):=M8 h
def P5:cc:=λa P=>∃(w:W)(k:Nat)(f:List (Option Int))(p:Nat)(m:Int),a= [aW w,me w k,aR f,ao p, .int m]/\Good w/\w.length<=14/\p<w.length/\f.length=w.length/\P (sW w k f p m)
def DH:FnOk P w Z.K mg base bZ 1 T.d__law_due.f T.d__law_due.fd ["_law_turns","_law_counted_here","_law_dyeing_here","_law_p","_law_many"] (aV Z P5):=by
 have j:=t7.nd;refine bf T.d__law_due.F t7 [0,0,0,0,0,0] ∅ (λl R h=>by obtain⟨_,_,_,_,_,rfl,_⟩:=h;rfl) (λx A outer s H E l R n h=>?_)
 have o:=n.units
 refine#[_,(af (br (aQ (m8 o) (aK bL (aY (aa 1) az) (aY (aa 1) az)) (aK bL (aY (aa 1) az) az) (aZ _)) (aq (aM (cz (ae eX (ae eX (ae eX (ae eX (ae (aa 1) ag)))))))) aI)
   (af (jb 5 (NC:= ["_law_q","_law_dyeing_here"]) (src:= [none,some 2]) rfl j (lF (au lh)) #[rfl,rfl,trivial] (bq (aY (aa 0) (aa 3))) (λ_ _ _=>(bI 0 (show(["_law_q","_law_dyeing_here"]:List Str).Nodup from by decide+kernel))) (λ_ _ _=>(mi (aQ jd (aY (aa 1) (aa 0)) bR (aZ _)))) (λ_ _ _=>(aa 0)))
   (af (br (DW.dt (uJ (aQ jd (aY (aa 2) (aa 3)) bR (aZ _)) (qw (aQ u3 (aH bC rfl T.B.len bB (ae (aa 5) ag)) (aa 4) (aZ _))))) (aq (aM (cz (ae eX (ae eX (ae eX (ae eX (ae (aa 3) ag)))))))) aI)
   (aq (aM (cz (ae gr ag))))))),?_]
 obtain⟨a,k,f,p,m,rfl,g,C,r,t,q⟩:=h;unfold sW at q;exists _,rfl,_,rfl,_,rfl,_,rfl,_,rfl,_,rfl;refine OX #[_,rfl,bF (λc=>?_) (λc=>?_)]
 .rw[tz (~~~c)] at q
  exact#[_,rfl,by show 5<=sizeLine;decide,q]
 rw[AC (~~~c)] at q
 have G:=dO g p;have rng:∀y∈row a p,y<f.length:=λy i=>by rw[t];exact g.rng _ _ i
 exists _,rfl,_,rfl,_,fW r;refine kF (ρ:= [none,some (aR f)]) ao (λq=>!decide (f.getD q none=none)) ao (row a p) _ [] _ (λy i Y I u v=>?_) #[none,rfl] (small (by rw[jH];lia)) λJ=>?_
 .refine#[_,rfl,_,rfl,_,fw (rng y i),_,rfl,?_]
  cases b:f.getD y none with
  |none=>exact bX (v (by rw[b];rfl))
  |some d=>exact b8 #[_,rfl,u (by rw[b];rfl)]
 rw[oh,show(.lst (((row a p).filter λq=>!decide (f.getD q none=none)).map ao):D)=av (jW a f p) from rfl];exists trivial;have L:((jW a f p).map ao).length=(jW a f p).length:=aS _;refine#[_,rfl,_,rfl,_,fw (),_,rfl,?_]
 cases b:f.getD p none with
 |some d=>
  rw[b,AC (.inl (by simp))] at q
  exact b8 (b8 #[_,rfl,by show 5<=sizeLine;decide,q])
 |none=>
  refine bX #[_,rfl,_,rfl,_,rfl,bF (λe=>?_) (λe=>?_)]
  .have e:=KB e
   rw[AC (.inr ())] at q
   exact#[_,rfl,by show 5<=sizeLine;decide,q]
  .have e:=PP e
   rw[b,tz (λz=>z.elim (λz=>z rfl) λz=>e ())] at q
   exact#[by show 1<=sizeLine;decide,q]
end uz
namespace L2
open PySem PySem.Spec PyProof.Rows
section
variable {Z:DC} {X:Cx} {md:List Nat} {rn:Nat} {e:Expr} {pos:Pos}
def tu{a:List Nat}(h:j≠i):(a.set i n).getD j 0=a.getD j 0:=by rw[cW,cW,f7 (Ne.symm h)]
def Cu{a:List Nat}(h:i<a.length):(a.set i n).getD i 0=n:=by rw[cW,iS h];rfl
end
section
variable {Z:DC} {X:Cx} {md:List Nat} {rn:Nat} {e:Expr} {pos:Pos}
def M3(c:List Nat)(i:Nat)(t:iD)(u v:b6):b6:=λE a=>t (cP c a) λf=>u {nx:=λb=>(∃d,b[i]?\(some d))/\v E b,rt:=E.rt} (a.set i (some (.lst f)))
def Fe(i n:Nat){x:Str}{g:Pos}{t:iD}{st:Stmt}{k:List Stmt}{u v:b6}(Q:X.N.Nodup)(R:DF Z X n e t)(h:DSt Z X (m.set i n) F st u)(T:DSs Z X m F k v)(r:m.getD i 0=0:=by rfl)(s:i<m.length:=by decide)(U:X.N[i]?\x:=by rfl)(Y:Loc X.env.scope x:=by subst_eqs)(hs:swapsWith e (some (.Name x g)) w.line X.env=pure false:=by rfl)
  (hf:X.fn x=true\/X.env.scope.names.lookup x\.local:=by subst_eqs):DSs Z X m F (.Assign [.Name x g] e w::st::k) (M3 m i t u v):=by
 refine jU.imp (eB (gT Q U Y R hs hf) (eB h T)) ?_;rintro D σ H ⟨B,ρ,E,⟨G,fp,S⟩,h,M⟩;refine#[G,_,_,S.ex.sub,S.yo,h,λds hd v f I H' x o nd y=>?_];have l:=S.grow x
 have A:SIx Z B (m.set i n) (ρ.set i none) σ H' I fp:=#[l.ex,l.fl,by rw[gb];exact l.len,λj d a=>by
  by_cases z:j=i
  .subst z
   rw[og] at a;rw[AC rfl] at a
   split at a<;>cases a
  .rw[f7 (Ne.symm z)] at a
   rw[tu z];exact l.at_ j d a,l.nd,l.ap,l.nw]
 have J:=A.uc (Cu s) o nd (λb q=>#[S.ex.hh.free (y b q).1,(y b q).2]) λb q j _ a=>(S.nw j b a).2.1 (y b q).1;rw[ab4] at J;refine#[B,_,_,#[I,_,J],hd,#[?_,M.rt,λ_ z=>z.elim,λ_ z=>z.elim,λ_ _ z=>z.elim]];rintro aL ⟨⟨d,L⟩,hE⟩ aC wN ⟨G3,fp3,O⟩;obtain⟨v3,C,Ve,p⟩:=O.D1 L;refine#[B,aL,_,#[_,_,#[p.ex,p.fl,O.len,λj c a=>?_,p.nd,p.ap,p.nw]],hE,M]
 by_cases z:j=i
 .subst z
  rw[L] at a;cases a;exists v3,C;rw[r,AC rfl];exact#[Ve,rfl]
 .obtain⟨u',hu,P⟩:=p.at_ j c (by rw[f7 (Ne.symm z)];exact a)
  rw[tu z] at P;exact#[u',hu,P]
end
def fJ(K:ac)(x:Str)(st:Stmt):Prop:=∃(d:Addr)(b c:Option Addr)(e:Array (Option Value))(f kV g h a i:Value),QI K x d/\zV K x x st d b c e f kV g h a i/\bb K a x=true/\aA K (.ref d)=true
def Hs(K:ac)(C:Addr)(m a:Str)(st:Stmt):Prop:=∃(d:Addr)(c e:Option Addr)(f:Array (Option Value))(g kV h i b j:Value),ak K (.ref C) m\(some (.ref d))/\bj K (.ref d)=true/\zV K m a st d c e f g kV h i b j/\bb K b a=true/\aA K (.ref d)=true
abbrev qI(K:ac)(x:Str):Prop:=aJ K mainGlobals x\none
section
variable {K:ac} {h:Heap} {mg:Str->Option Value}
def dfH{x:Str}{st:Stmt}{d:Addr}{e f:Option Addr}{g:Array (Option Value)}{i kV j m b n:Value}(a:QI K x d)(l:zV K x x st d e f g i kV j m b n)(c:bb K b x=true)(k:aA K (.ref d)=true):fJ K x st:=#[_,_,_,_,_,_,_,_,_,_,a,l,c,k]
def mfH{C:Addr}{m b:Str}{st:Stmt}{d:Addr}{g i:Option Addr}{j:Array (Option Value)}{n kV o p e q:Value}(a:ak K (.ref C) m\(some (.ref d)))(f:bj K (.ref d)=true)(l:zV K m b st d g i j n kV o p e q)(c:bb K e b=true)(k:aA K (.ref d)=true):Hs K C m b st:=#[_,_,_,_,_,_,_,_,_,_,a,f,l,c,k]
noncomputable def eD.ch{x:Str}{st:Stmt}{ps:List Str}(X:K.In h)(G:h.Ns mainGlobals mg)(e:fJ K x st)
  (b:∀(kV d g:Value)(i:Option Addr)(j m:Value)(f:List Value),f.length=ps.length->bindArgs (bv x x (iF st) (c5 st) (au st) .none kV d g i j m) #[f,[]]=pure (ps.zip f)):eD K mg x st ps:=
 Classical.choice (by
  obtain⟨_,_,_,_,_,_,_,_,_,_,a,l,c,k⟩:=e;exact#[.of X G a l c k b])
noncomputable def BL.ch{Z:DC}{m d:Str}{st:Stmt}{ps:List Str}(e:Hs Z.K Z.C m d st)
  (b:∀(kV g j:Value)(n:Option Addr)(o p:Value)(i:List Value),i.length=ps.length->bindArgs (bv m d (iF st) (c5 st) (au st) .none kV g j n o p) #[i,[]]=pure (ps.zip i)):BL Z m d st ps:=
 Classical.choice (by
  obtain⟨_,_,_,_,_,_,_,_,_,_,a,f,l,c,k⟩:=e;exact#[.of a f l c k b])
end
end L2
namespace uz
open PySem L2 Wb
variable {P:Program} {w:World} {mg:Str->Option Value} {base:Heap} {Z:DC} (T:Txt Z mg)
open Wy
def uG(p:PyData){P:D->Prop}(a:d.py\p)(b:PyData.eqv p p=true)(c:p.depth<=64)(h:P (.bl false)):wU d d P:=by
 exists p,p,a,a,c;rw[AC rfl,b];exact h
def uF(p:PyData){P:D->Prop}(a:d.py\p)(b:PyData.eqv p p=true)(c:p.depth<=64)(h:P (.bl true)):sT d d P:=by
 exists p,p,a,a,c;rw[tz cQ,b];exact h
structure Kd (d:D):Prop where
 self:∀R:D->Prop,R (.bl false)->wU d d R
 eq:∀R:D->Prop,R (.bl true)->sT d d R
 last:∃l:List D,d= .lst l/\(l.length<=4\/∃y,fQ l 4\y/\O3 y=true/\∀b,y≠ .bl b)
def yh:Kd Cc:=#[λR h=>uG _ rfl rfl ∅ h,λR h=>uF _ rfl rfl ∅ h,_,rfl, .inl ∅]
def wg(w:W)(k:Nat):Kd (DX w k):=#[λR h=>uG _ rfl (by simp[PyData.eqv,PyData.eqvAll]) (by simp[PyData.depth,PyData.depthAll]) h,λR h=>uF _ rfl (by simp[PyData.eqv,PyData.eqvAll]) (by simp[PyData.depth,PyData.depthAll]) h,_,rfl, .inr #[_,rfl,rfl,λb h=>by cases h]]
def HW(p:Nat):Kd (NU p):=#[λR h=>uG _ rfl (by simp[PyData.eqv,PyData.eqvAll]) (by simp[PyData.depth,PyData.depthAll]) h,λR h=>uF _ rfl (by simp[PyData.eqv,PyData.eqvAll]) (by simp[PyData.depth,PyData.depthAll]) h,_,rfl, .inr #[_,rfl,rfl,λb h=>by cases h]]
def HP(w:W)(k:Nat)(f:List (Option Int))(p:Nat)(m:Int):Kd (sW w k f p m):=by
 unfold sW
 split
 .split
  .exact HW p
  .exact yh
 .exact wg w k
def HQ(w:W)(k:Nat):Kd (qP w k):=by
 unfold qP
 split
 .exact yh
 .exact wg w k
def Q6{t:b6}{K:DN->Prop}{rt:D->Prop}{ρ:DN}(I:DN->Prop)(b:∀a:cG,(∀ρ,I ρ->a.nx ρ)->t a ρ)(c:∀ρ,I ρ->K ρ):t {nx:=K,rt:=rt} ρ:=b _ c
def Eb:cc:=λb P=>∃(a:List Int),b= [.jF a]/\a.length<=63/\P (.bl true)
def RY:FnOk P w Z.K mg base bZ 10 T.d_law.f T.d_law.fd ["_law_script"] (aV Z Eb):=by
 have i:=KC.nd;refine bf T.d_law.F KC [0,0,0,0,0,0,0,0,0,0,0,0] ∅ (λds R h=>by obtain⟨_,rfl,_⟩:=h;rfl) (λbg A outer s H E ds R c h=>?_)
 have r:=c.units
 refine#[_,(af (aP false 1 i (aE T.d__law_web (DJ T) c (ae (aE T.d__law_draws (kG T) c (ae (aa 0) (ae az (ae (aK cJ (aE T.d__law_cell_at (dF T) c (ae (aa 0) (ae az ag))) az) ag)))) ag)))
   (af (aP false 1 i (aE T.d__law_named (y8 T) c (ae (aa 1) (ae (aE T.d__law_draws (kG T) c (ae (aa 0) (ae az (ae (aH bC rfl T.B.len bB (ae (aa 1) ag)) ag)))) ag))))
   (af (aP false 2 i (aE T.d__law_cell_at (dF T) c (ae (aa 0) (ae az ag))))
   (af (br (aQ (jc r) (aK cJ (aa 2) az) az (aZ _)) (aq (aP false 1 i (aE T.d__law_twisted (u9 T) c (ae (aa 1) (ae (aK j3 (aa 2) az) ag))))) aI)
   (af (aP false 3 i (aK bL az (aK cJ (aE T.d__law_cell_at (dF T) c (ae (aa 0) (ae az ag))) az)))
   (af (aP false 4 i (aE T.d__law_counted (u6 T) c (ae (aa 1) ag)))
   (af (aP false 5 i (Nj T.mkW (u5 T) (c.mono ∅) rfl T.mC T.m___init__b (ae (aa 1) ag)))
   (af (aP false 6 i (aE T.d__law_dyeing ((u4 T).imp P6) c (ae (aa 1) (ae (aE T.d__law_draws (kG T) c (ae (aa 0) (ae az (ae (aH bC rfl T.B.len bB (ae (aa 1) ag)) ag)))) (ae (hV (K6 rfl) rfl T.B.list fR (ae (hV EW rfl T.B.range Az (ae (aa 3) ag)) ag)) (ae (xk (jc r) (aK cJ (aK j3 (aa 2) az) az) az (aZ _)) ag))))))
   (af (aP false 7 i (cz (ae gr ag)))
   (af (br (aQ (m8 r) (aK bL (aY (aa 4) az) (aY (aa 4) az)) (aK bL (aY (aa 4) az) az) (aZ _)) (aq (aP false 7 i (cz (ae eX (ae eX (ae eX (ae eX (ae (aa 4) ag)))))))) aI)
   (af (br (aQ (m8 r) (aE T.d__law_fives (pH T) c (ae (aa 5) ag)) (aa 7) (aZ _)) (aq (aM eX)) aI)
   (af (iG rfl GE (fo rfl T.B.range (ae (aH bC rfl T.B.len bB (ae (aa 1) ag)) ag)) (aN 8 i) (Fe 9 1 i (oR rfl rfl T.B.list fR (aa 6)) (br (aQ u3 (aK cJ (aK bL (aE T.d__law_cell_at (dF T) c (ae (aa 0) (ae az ag))) (aa 8)) az) az (aZ _)) (aq (iq false 9 (aa 8) bR)) aI)
   (af (aP false 10 i (hV sO rfl T.B.list fR (ae (aa 9) ag)))
   (af (aP false 11 i (aE T.d__law_said (qV T) c (ae (aa 5) (ae (aa 10) (ae (aa 8) (ae (aa 3) ag))))))
   (af (br (DW.dt (uJ (aQ (m8 r) (aa 11) (aE T.d__law_due (DH T) c (ae (aa 1) (ae (aa 4) (ae (aa 9) (ae (aa 8) (ae (aa 3) ag)))))) (aZ _)) (qw (aQ (m8 r) (aa 10) (aa 9) (aZ _))))) (aq (aM eX)) aI)
   (aq (br (DW.dt (uJ (DW.dt (Ce (aQ u3 (aH bC rfl T.B.len bB (ae (aa 11) ag)) az (aZ _)) (yk (fM (B9 "bool" (aY (aa 11) az) rfl T.B.isinstance rfl T.B.bool EM))))) (qw (aQ (m8 r) (aE T.d__law_said (qV T) c (ae (aa 5) (ae (aa 10) (ae (aa 8) (ae (aa 3) ag))))) (aa 11) (aZ _))))) (aq (aM eX)) aI)))))))
   (aq (aM (B8 (xk (jc r) (eY T.W (aa 5) T.m_turns.m (gM T) (c.mono ∅) T.m_turns.b) (aa 1) (aZ _)) (JZ (xk (jc r) (aE T.d__law_fives (pH T) c (ae (aa 5) ag)) (aa 7) (aZ _)))))))))))))))))),?_]
 obtain⟨e,rfl,CH,q⟩:=h;refine#[_,rfl,_,rfl,e,2,rfl,λv=>#[(by show(0:Int)<14;decide),?_]]
 obtain⟨n,hn,Ya⟩:∃n:Nat,v%14=(n:Int)/\n<=13:=by
  have:=mY v 14 ∅
  exact#[(v%14).toNat,(),()]
 dsimp only;rw[show D.int (v%14)=ao n by unfold ao;rw[hn]]
 refine#[e,1,n,rfl,(),(),λxs xl=>#[xs,rfl,(),λC g0 l0=>#[trivial,?_]]]
 have lw0:(C.map av).length=C.length:=aS _;refine#[_,rfl,_,rfl,_,rfl,e,3,(C.map av).length,rfl,(),(),λys yl=>#[C,ys,rfl,g0,(),(),(),λI X l1=>#[trivial,?_]]]
 dsimp only;refine#[_,rfl,e,4,rfl,λd=>#[trivial,?_]];dsimp only;refine xj [some (.jF e),some (aW I),some (.int d),none,none,none,none,none,none,none,none,none] rfl ?_;refine D4 (λρ=>∃a,ρ= [some (.jF e),some (aW a),some (.int d),none,none,none,none,none,none,none,none,none]/\Good a/\a.length=n+1) (λY t=>?_) ?_
 .refine#[_,rfl,(by show(0:Int)<2;decide),NH #[_,rfl,bF (λ_=>?_) λ_=>?_]]
  .exact#[_,rfl,_,rfl,#[∅,∅],I,_,rfl,X,(),(),λv gv lv=>#[trivial,t _ #[v,rfl,gv,()]]]
  .exact t _ #[I,rfl,X,()]
 rintro _ ⟨a,rfl,g,wl⟩;have lw:(a.map av).length=a.length:=aS _;refine#[_,rfl,e,6,rfl,λv6=>#[(by show(0:Int)<4;decide),trivial,?_]]
 have m6:=mY v6 4 ∅
 obtain⟨m,hm⟩:∃m:Int,m=4+v6%4:=#[_,rfl];dsimp only;refine xj [some (.jF e),some (aW a),some (.int d),some (.int m),none,none,none,none,none,none,none,none] (by rw[hm];rfl) ?_
 have m4:4<=m:=()
 have m7:m<=7:=()
 clear hm m6;refine#[_,rfl,a,rfl,g,(),(),λk J=>#[trivial,?_]]
 refine#[_,rfl,a,rfl,g,(),(),trivial,?_]
 refine#[_,rfl,_,rfl,_,rfl,e,5,(a.map av).length,rfl,(),(),λzs zl=>?_]
 dsimp only;refine#[_,rfl,_,rfl,_,_,rfl,#[∅,∅,(),(),()],_,rfl,#[∅,∅],(by show(0:Int)<2;decide),NH ?_]
 rw[show dR 0 (m-0).toNat=bE ((am m.toNat).map λ(n:Nat)=>(n:Int)) by rw[show(m-0).toNat=m.toNat by lia,zo];unfold bE;rw[dQ];rfl]
 refine#[a,zs,_,_,rfl,g,(),(),by rw[aS,jR];lia,λf L=>#[trivial,?_]]
 refine#[by show 1<=sizeLine;decide,trivial,?_]
 dsimp only;refine xj [some (.jF e),some (aW a),some (.int d),some (.int m),some (me a k),some (.dG a),some (aR f),some Cc,none,none,none,none] rfl ?_;refine D4 (λρ=>ρ= [some (.jF e),some (aW a),some (.int d),some (.int m),some (me a k),some (.dG a),some (aR f),some (qP a k),none,none,none,none]) (λY t=>?_) ?_
 .refine#[_,rfl,_,rfl,_,rfl,_,rfl,_,rfl,_,rfl,?_]
  refine OX #[_,rfl,bF (λM=>?_) (λM=>?_)]
  .refine#[_,rfl,by show 5<=sizeLine;decide,trivial,t _ ?_]
   unfold qP;rw[tz (~~~M)];rfl
  .refine t _ ?_
   unfold qP;rw[AC (~~~M)]
 rintro _ rfl;have kv:=HQ a k;refine#[_,rfl,a,k,rfl,g,(),(),J,?_]
 refine#[_,rfl,kv.self _ #[_,rfl,bX ?_]];refine#[_,rfl,#[(),by show((a.map av).length:Int)<2^62;lia],?_]
 rw[show(((a.map av).length:Int)).toNat=a.length by lia]
 refine gw (λj ρ=>∃N O x z:Option D,ρ= [some (.jF e),some (aW a),some (.int d),some (.int m),some (me a k),some (.dG a),some (aR f),some (qP a k),N,O,x,z]) #[_,_,_,_,rfl] ?_ ?_
 .rintro j _ Q ⟨N,O,x,z,rfl⟩ A hA
  exists _,rfl;unfold aR;dsimp only;refine Q6 (ρ:= [some (.jF e),some (aW a),some (.int d),some (.int m),some (me a k),some (.dG a),some (aR f),some (qP a k),some (ao j),some (aR f),x,z]) (λρ=>∃p:List (Option Int),ρ= [some (.jF e),some (aW a),some (.int d),some (.int m),some (me a k),some (.dG a),some (aR f),some (qP a k),some (ao j),some (aR p),x,z]/\p.length=a.length) (λY t=>?_) ?_
  .refine#[_,rfl,e,7,rfl,λv7=>#[_,rfl,(by show(0:Int)<4;decide),?_]]
   refine#[_,rfl,bF (λ_=>?_) (λ_=>t _ #[f,rfl,L])];refine#[trivial,_,rfl,_,rfl,_,j,rfl,by rw[aS,L];exact xv Q,t _ #[f.set j none,?_,by rw[gb,L]]]
   have:aR (f.set j none)= .lst ((f.map oD).set j .bo):=by unfold aR;rw[wL];rfl
   rw[this];rfl
  rintro _ ⟨p,rfl,Rc⟩;have G:=HP a k p j m;exists #[_,rfl];exists _,rfl,trivial;have S:∀(u:D->Prop),u (sW a k p j m)->KH [.dG a,aR p,ao j, .int m] u:=λu U=>#[a,p,j,m,k,rfl,g,(),(),J,Q,Rc,m4,m7,U]
  have TJ:∀(u:D->Prop),u (sW a k p j m)->P5 [aW a,me a k,aR p,ao j, .int m] u:=λu U=>#[a,k,p,j,m,rfl,g,(),Q,Rc,U]
  generalize sW a k p j m=d0 at G S TJ;exists _,rfl,_,rfl,_,rfl,_,rfl;dsimp only[vM];refine S _ #[trivial,?_];exists _,rfl,_,rfl,_,rfl,_,rfl,_,rfl,_,rfl;dsimp only[vM];refine TJ _ ?_;refine G.self _ #[_,rfl,bX ?_];exists _,rfl,_,rfl;refine(?_:wU (aR p) (aR p) _);refine Lc #[_,rfl,?_];rw[GT rfl];refine bX ?_;obtain⟨l,rfl,hb⟩:=G.last;exists _,rfl,_,rfl;refine(λ(o:_)=>bF (λc4=>?_) (λ_=>o)) ?_
  .have c4:(4:Int)<(l.length:Int):=KB c4
   obtain⟨y,hy,hi,nb⟩:=hb.resolve_left ()
   have hB:V1 "bool" y=false:=by cases y<;>first|rfl|exact absurd rfl (nb _)
   exists _,rfl,y,hy,hi,rfl;rw[hB];exact bX o
  .refine#[_,rfl,_,rfl,_,rfl,_,rfl,?_]
   dsimp only[vM];refine S _ #[_,rfl,?_];exact G.self _ #[_,rfl,bX (hA _ #[_,_,_,_,rfl])]
 .rintro _ ⟨N,O,x,z,rfl⟩
  refine#[_,rfl,a,rfl,a,rfl,(),_,rfl,?_]
  refine E3 #[_,rfl,?_];rw[GT rfl];refine b8 #[_,rfl,a,k,rfl,g,(),(),J,?_]
  refine#[_,rfl,kv.eq _ q]
set_option hygiene false in
local macro_rules| `(tactic|and_intros)=> `(tactic| (intro _ _ _ _ _ _ _ hl;first| (obtain⟨_,rfl⟩:=L2.TZ hl;rfl) | (obtain⟨_,_,rfl⟩:=L2.T3 hl;rfl) | (obtain⟨_,_,_,rfl⟩:=L2.T4 hl;rfl) | (obtain⟨_,_,_,_,rfl⟩:=L2.T5 hl;rfl) | (obtain⟨_,_,_,_,_,rfl⟩:=L2.Zc hl;rfl)))
def all_mk{l:b5}{w:World}(X:K.In h)(G:h.Ns mainGlobals d)(A:d "law"\(.ref fa)) 
  
  
  
  
  
  
  
  
  
  
  
  
  
  
  
  
  
  
  
  
  
  
  (gC:aJ K mainGlobals "Web"\(some (.ref C)))
  (a0:fJ K "round_from" lY)
  (a1:fJ K "lands" pU)
  (a2:fJ K "count" zt)
  (a3:fJ K "is_plane" pT)
  (a4:fJ K "need_plane" lX)
  (a5:fJ K "chain" zr)
  (a6:fJ K "exchanged" nE)
  (a7:fJ K "least_free" lV)
  (a8:fJ K "freeing_exchange" gI)
  (a9:fJ K "dye_given" fA)
  (O:fJ K "order_of_five" gx)
  (Q:fJ K "five_dyes" iO)
  (R:fJ K "is_among" pR)
  (S:fJ K "alien_fault" kI)
  (U:fJ K "self_fault" lZ)
  (Y:fJ K "twice_fault" kL)
  (a16:fJ K "lone_fault" lW)
  (a17:fJ K "reached_from_first" dS)
  (a18:fJ K "apart_fault" kJ)
  (a19:fJ K "first_fault" kK)
  (a20:fJ K "_law_cell_at" jL)
  (a21:fJ K "_law_reserve" jM)
  (a22:fJ K "_law_draws" lR)
  (a23:fJ K "_law_lands" lT)
  (a24:fJ K "_law_places" iN)
  (a25:fJ K "_law_grown" jj)
  (a26:fJ K "_law_web" pQ)
  (a27:fJ K "_law_named" jm)
  (a28:fJ K "_law_dyeing" fY)
  (a29:fJ K "_law_twisted" gX)
  (a30:fJ K "_law_counted" gW)
  (a31:fJ K "_law_other" lU)
  (a32:fJ K "_law_said" nB)
  (a33:fJ K "_law_fives" lS)
  (a34:fJ K "_law_due" lh)
  (Xc:QI K "law" B)
  (l35:zV K "law" "law" Jq B Zt Xe ZO Zs Y9 XG Zx Tu Xj)
  (c35:bb K Tu "law"=true)
  (k35:aA K (.ref B)=true)
  (m0:ak K (.ref C) "__init__"\(some (.ref g)))
  (f0:bj K (.ref g)=true)
  (ml0:zV K "__init__" "Web.__init__" fF g E F H I J L M Y8 N)
  (mc0:bb K Y8 "Web.__init__"=true)
  (mk0:aA K (.ref g)=true)
  (m1:Hs K C "many" "Web.many" pP)
  (m2:Hs K C "turns" "Web.turns" j4)
  (m3:Hs K C "ties" "Web.ties" lg)
  (m4:Hs K C "tied" "Web.tied" wu)
  (m5:Hs K C "behind" "Web.behind" lQ)
  (pgC:b3 K C Str.empty=true)
  (Rk:bu K C=true)
  (poC:ck K C=true)
  (saC:ak K (.ref C) "__setattr__"\(some (.builtin "object.__setattr__")))
  (mkC:da K C=true)
  (kpC:aA K (.ref C)=true)
  (nR:ak K (.ref C) "rows"\none)
  (xn:bd K (.builtin "object.__class__") "__get__"\(some (.builtin "getset_descriptor.__get__")))
  (xt:cr K (.builtin "object.__class__")\true)
  (zVE:aJ K mainGlobals "ValueError"\none)
  (tq:aJ K mainGlobals "MapError"\(some (.ref c)))
  (Ft:aJ K mainGlobals "TooMany"\(some (.ref k)))
  (Ct:aJ K mainGlobals "TooSmall"\(some (.ref m)))
  (Lr:aJ K mainGlobals "NoWeb"\(some (.ref n)))
  (Cs:aJ K mainGlobals "NotPlane"\(some (.ref a)))
  (HZ:aJ K mainGlobals "NoText"\(some (.ref o)))
  (Cq:aJ K mainGlobals "NoCorner"\(some (.ref p)))
  (HY:aJ K mainGlobals "NoRing"\(some (.ref q)))
  (Lq:aJ K mainGlobals "Alike"\(some (.ref r)))
  (Ia:aJ K mainGlobals "TooFew"\(some (.ref t)))
  (Fs:aJ K mainGlobals "NotFree"\(some (.ref b)))
  (z9:aJ K mainGlobals "NotFilled"\(some (.ref u)))
  (Ri:aJ K mainGlobals "Odd"\(some (.ref x)))
  (HX:aJ K mainGlobals "Bridge"\(some (.ref y)))
  (H0:aJ K mainGlobals "Shared"\(some (.ref z)))
  (Cw:bu K c=true)
  (Cp:ak K (.ref c) "__getattribute__"\(some (.builtin "BaseException.__getattribute__")))
  (Cv:ak K (.ref c) "__getattr__"\none)
  (D3:ak K (.ref c) "__setattr__"\(some (.builtin "object.__setattr__")))
  (BZ:ak K (.ref c) "__class__"\(some (.builtin "object.__class__")))
  (B4:ci K c\sM)
  (B0:sM.mro= .ref c:: [.type "ValueError", .type "Exception", .type "BaseException", .type "object"])
  (Dm:K.lookup c\(excClassObj Dw q_MapError c EB BS sF yz D6 As BN z5 B6 C1 C4 C6 C8 Dc "ValueError.__new__"))
  (BX:sF= [.type "ValueError", .type "Exception", .type "BaseException", .type "object"])
  (tE:bu K a=true)
  (tm:ak K (.ref a) "__getattribute__"\(some (.builtin "BaseException.__getattribute__")))
  (tw:ak K (.ref a) "__getattr__"\none)
  (t4:ak K (.ref a) "__setattr__"\(some (.builtin "object.__setattr__")))
  (sP:ak K (.ref a) "__class__"\(some (.builtin "object.__class__")))
  (sR:ci K a\sN)
  (sQ:sN.mro= .ref a:: [.ref c, .type "ValueError", .type "Exception", .type "BaseException", .type "object"])
  (tQ:K.lookup a\(excClassObj Dx q_NotPlane a EC BU sH yA D7 Au BO z6 B7 C3 C5 C7 C9 Dd "ValueError.__new__"))
  (sL:sH= [.ref c, .type "ValueError", .type "Exception", .type "BaseException", .type "object"])
  (vV:bu K b=true)
  (vS:ak K (.ref b) "__getattribute__"\(some (.builtin "BaseException.__getattribute__")))
  (vU:ak K (.ref b) "__getattr__"\none)
  (wx:ak K (.ref b) "__setattr__"\(some (.builtin "object.__setattr__")))
  (vG:ak K (.ref b) "__class__"\(some (.builtin "object.__class__")))
  (vK:ci K b\vE)
  (vI:vE.mro= .ref b:: [.ref c, .type "ValueError", .type "Exception", .type "BaseException", .type "object"])
  (wc:K.lookup b\(excClassObj Gg q_NotFree b Ht ES vB Ae GK Ef EE B2 E7 F0 F1 F2 F3 F4 "ValueError.__new__"))
  (vD:vB= [.ref c, .type "ValueError", .type "Exception", .type "BaseException", .type "object"])
  (sgM:bd K (.ref c) "__getattribute__"\(some (.builtin "type.__getattribute__")))
  (rdM:c3 K c (.type "type")=true)
  (fcM:db K (.ref c) (.type "type") "__init__"\(.val (.builtin "ValueError.__init__")))
  (BV:bd K (.ref a) "__call__"\(some (.builtin "type.__call__")))
  (Ek:dg K (.ref a) (.type "type")\true)
  (CO:ak K (.ref a) "__init__"\(some (.ref i)))
  (De:aA K (.ref a)=true)
  (Ck:bj K (.ref i)=true)
  (tK:zV K "__init__" "NotPlane.__init__" fX i CQ CU CY CP CT CV CW tM CZ)
  (tL:bb K tM "NotPlane.__init__"=true)
  (tJ:aA K (.ref i)=true)
  (n_NotPlane_counted:ak K (.ref a) "counted"\none)
  (z_NotPlane_TooMany:aj K (.ref a) (.ref k)\false)
  (z_NotPlane_TooSmall:aj K (.ref a) (.ref m)\false)
  (z_NotPlane_NoWeb:aj K (.ref a) (.ref n)\false)
  (z_NotPlane_NoText:aj K (.ref a) (.ref o)\false)
  (z_NotPlane_NoCorner:aj K (.ref a) (.ref p)\false)
  (z_NotPlane_NoRing:aj K (.ref a) (.ref q)\false)
  (z_NotPlane_Alike:aj K (.ref a) (.ref r)\false)
  (z_NotPlane_TooFew:aj K (.ref a) (.ref t)\false)
  (z_NotPlane_NotFree:aj K (.ref a) (.ref b)\false)
  (z_NotPlane_NotFilled:aj K (.ref a) (.ref u)\false)
  (z_NotPlane_Odd:aj K (.ref a) (.ref x)\false)
  (z_NotPlane_Bridge:aj K (.ref a) (.ref y)\false)
  (z_NotPlane_Shared:aj K (.ref a) (.ref z)\false)
  (z_NotPlane_ValueError:aj K (.ref a) (.type "ValueError")\true)
  (m_NotPlane_MapError:bT K a (.ref c)\true)
  (EU:bd K (.ref b) "__call__"\(some (.builtin "type.__call__")))
  (Hb:dg K (.ref b) (.type "type")\true)
  (FJ:ak K (.ref b) "__init__"\(some (.ref j)))
  (F5:aA K (.ref b)=true)
  (Fp:bj K (.ref j)=true)
  (v8:zV K "__init__" "NotFree.__init__" gH j FR FU FY FQ FT FW FX wa FZ)
  (v9:bb K wa "NotFree.__init__"=true)
  (v5:aA K (.ref j)=true)
  (n_NotFree_point:ak K (.ref b) "point"\none)
  (z_NotFree_TooMany:aj K (.ref b) (.ref k)\false)
  (z_NotFree_TooSmall:aj K (.ref b) (.ref m)\false)
  (z_NotFree_NoWeb:aj K (.ref b) (.ref n)\false)
  (z_NotFree_NotPlane:aj K (.ref b) (.ref a)\false)
  (z_NotFree_NoText:aj K (.ref b) (.ref o)\false)
  (z_NotFree_NoCorner:aj K (.ref b) (.ref p)\false)
  (z_NotFree_NoRing:aj K (.ref b) (.ref q)\false)
  (z_NotFree_Alike:aj K (.ref b) (.ref r)\false)
  (z_NotFree_TooFew:aj K (.ref b) (.ref t)\false)
  (z_NotFree_NotFilled:aj K (.ref b) (.ref u)\false)
  (z_NotFree_Odd:aj K (.ref b) (.ref x)\false)
  (z_NotFree_Bridge:aj K (.ref b) (.ref y)\false)
  (z_NotFree_Shared:aj K (.ref b) (.ref z)\false)
  (z_NotFree_ValueError:aj K (.ref b) (.type "ValueError")\true)
  (m_NotFree_MapError:bT K b (.ref c)\true)
  (Xi:aJ K mainGlobals "__name__"\(some (.str "law_mapdye_k55_chains_refused" f)))
  (cc1:aJ K mainGlobals "MOST_POINTS"\(some (.int 14 tk1)))
  (aae:qI K "len")
  (Te:qI K "range")
  (aaf:qI K "max")
  (aag:qI K "min")
  (Hi:qI K "enumerate")
  (aaj:qI K "zip")
  (QA:qI K "sorted")
  (aac:qI K "all")
  (Es:qI K "isinstance")
  (aad:qI K "int")
  (WY:qI K "bool")
  (WZ:qI K "list")
  (Tf:qI K "tuple")
  (aai:qI K "sum")
  (JN:qI K "reversed")
  (aah:qI K "set")
  :∃fd:FuncData,(∀(s:Shared)(v:Value),BindsTo s fd #[[v],[]] [("_law_script",v)])/\∀base:Heap,K.In base->base.Ns mainGlobals d->FnOk l.prog w K d base bZ 40 fa fd ["_law_script"] (L2.ue K):=by
 have e:=A.symm.trans (Os X G Xc);cases e;have E0:=jX (st:=fF) ml0 mc0 mk0;have e0:=E0.binds (ps:= ["self","turns"]) (by and_intros)
 let Z:DC:=#[K,C]
 let T:Txt Z d:=#[#[M2 X G aae,M2 X G Te,M2 X G aaf,M2 X G aag,M2 X G Hi,M2 X G aaj,M2 X G QA,M2 X G aac,M2 X G Es,M2 X G aad,M2 X G WY,M2 X G WZ,M2 X G Tf,M2 X G aai,M2 X G JN],M2 X G aah, .ch X G a0 (by and_intros), .ch X G a1 (by and_intros), .ch X G a2 (by and_intros), .ch X G a3 (by and_intros), .ch X G a4 (by and_intros), .ch X G a5 (by and_intros), .ch X G a6 (by and_intros), .ch X G a7 (by and_intros), .ch X G a8 (by and_intros), .ch X G a9 (by and_intros), .ch X G O (by and_intros), .ch X G Q (by and_intros), .ch X G R (by and_intros), .ch X G S (by and_intros), .ch X G U (by and_intros), .ch X G Y (by and_intros), .ch X G a16 (by and_intros), .ch X G a17 (by and_intros), .ch X G a18 (by and_intros), .ch X G a19 (by and_intros), .ch X G a20 (by and_intros), .ch X G a21 (by and_intros), .ch X G a22 (by and_intros), .ch X G a23 (by and_intros), .ch X G a24 (by and_intros), .ch X G a25 (by and_intros), .ch X G a26 (by and_intros), .ch X G a27 (by and_intros), .ch X G a28 (by and_intros), .ch X G a29 (by and_intros), .ch X G a30 (by and_intros), .ch X G a31 (by and_intros), .ch X G a32 (by and_intros), .ch X G a33 (by and_intros), .ch X G a34 (by and_intros), .of X G Xc l35 c35 k35 (by and_intros),#[#[pgC,Rk,poC,saC],nR],Os X G gC,g,_,E0,#[mkC,m0,f0,kpC],e0, .ch m1 (by and_intros), .ch m2 (by and_intros), .ch m3 (by and_intros), .ch m4 (by and_intros), .ch m5 (by and_intros),#[xn,xt],M2 X G zVE,c,Os X G tq,k,Os X G Ft,m,Os X G Ct,n,Os X G Lr,a,Os X G Cs,o,Os X G HZ,p,Os X G Cq,q,Os X G HY,r,Os X G Lq,t,Os X G Ia,b,Os X G Fs,u,Os X G z9,x,Os X G Ri,y,Os X G HX,z,Os X G H0,zI Cw Cp Cv D3 BZ B4 B0 Dm BX rfl,zI tE tm tw t4 sP sR sQ tQ sL rfl,zI vV vS vU wx vG vK vI wc vD rfl,#[Os X G tq,sgM,rdM,fcM],#[i,_,jX tK tL tJ,(jX tK tL tJ).binds (ps:= ["self","counted"]) (by and_intros),#[(zI tE tm tw t4 sP sR sQ tQ sL rfl).obj,BV,Ek,CO,De],Ck],n_NotPlane_counted,z_NotPlane_TooMany,z_NotPlane_TooSmall,z_NotPlane_NoWeb,by unfold aj;exact AC (abI _),z_NotPlane_NoText,z_NotPlane_NoCorner,z_NotPlane_NoRing,z_NotPlane_Alike,z_NotPlane_TooFew,z_NotPlane_NotFree,z_NotPlane_NotFilled,z_NotPlane_Odd,z_NotPlane_Bridge,z_NotPlane_Shared,z_NotPlane_ValueError,m_NotPlane_MapError,#[j,_,jX v8 v9 v5,(jX v8 v9 v5).binds (ps:= ["self","point"]) (by and_intros),#[(zI vV vS vU wx vG vK vI wc vD rfl).obj,EU,Hb,FJ,F5],Fp],n_NotFree_point,z_NotFree_TooMany,z_NotFree_TooSmall,z_NotFree_NoWeb,z_NotFree_NotPlane,z_NotFree_NoText,z_NotFree_NoCorner,z_NotFree_NoRing,z_NotFree_Alike,z_NotFree_TooFew,by unfold aj;exact AC (abI _),z_NotFree_NotFilled,z_NotFree_Odd,z_NotFree_Bridge,z_NotFree_Shared,z_NotFree_ValueError,m_NotFree_MapError,#[f,Os X G Xi],#[tk1,Os X G cc1]]
 exact#[_,λs v=> .of_eq rfl,λbase _ _=>(((RY (P:=l.prog) (w:=w) (base:=base) T).mono ∅).imp (L2.RJ (Z:=Z)))]
def walk{l:b5}{q:Program}{a:List Str}{i:(Str->Option Value)->Heap->Prop}{c:World->Heap->Prop}{d:DefRec}{K:Params->ac}(j:l.most\63)(k:d.params.defaults= [])
  (m:∀(w:World)(h:Heap),c w h->(K w.params).In h)
  (F:∀(w:World)(b:Str->Option Value)(e:Addr)(h:Heap),(K w.params).In h->h.Ns mainGlobals b->b d.name\(.ref e)->
   ∃g:FuncData,(∀(s:Shared)(u:Value),BindsTo s g #[[u],[]] [("_law_script",u)])/\∀base:Heap,(K w.params).In base->base.Ns mainGlobals b->FnOk l.prog w (K w.params) b base bZ 40 e g ["_law_script"] (ue (K w.params))):
  dL q a i c l.row.toRowW d [] (λf n=>dy f n):=L2.WS 40 ∅ j k m F
end uz
namespace PySem.W.Fast
def tw6005253928258926220:=0
def tw4164765063715377763:=0
def tw4838763723080010004:=0
def tw6550566871889419327:=0
def tw16884101240363141786:=0
def tw13908907331448831440:=0
def tw12453400659396139803:=0
def tw10158036928024758120:=0
def tw8036605919327471357:=0
def tw7887439518193051028:=0
def tw17504627462030931550:=0
def tw1044325020306833072:=0
def tw8556380366678256042:=0
def tw6142748258354103178:=0
def tw9994288195638301447:=0
def tw4126473101323573655:=0
def tw16053890609350689847:=0
def tw14907709530943500809:=0
def tw9374884348175808052:=0
def tw5661886402644296674:=0
def tw8119893755776704521:=0
def tw547607394254228838:=0
def tw4451595037250680157:=0
def tw10723235969242134351:=0
def tw12586486547383771129:=0
def tw478184931667274338:=0
def tw5970221160416948033:=0
def tw15319540297842841110:=0
def tw9040317925844638704:=0
def tw2962199720641939204:=0
def tw4084203389216556484:=0
def tw13860363200299696759:=0
def tw3203069193497572040:=0
def tw12728382319886256443:=0
def tw14991418517069367365:=0
def tw14624589098672180240:=0
def tw3620961585374235719:=0
def tw16298189035555168451:=0
def tw4998277479140301060:=0
def tw16906847678173214980:=0
def tw1439788896282738015:=0
def tw5068324586677806794:=0
def tw1056091854674892544:=0
def tw11193984544630561824:=0
def tw9278502968486127284:=0
def tw361529105209749982:=0
def tw3980831406816222177:=0
def tw6572788142379365906:=0
def tw18332284158438309977:=0
def tw1773512081265924731:=0
def tw6335775268780586987:=0
def tw8262232254922994024:=0
def tw18344902793367025305:=0
def tw17387519280423321011:=0
def tw15534634628146593931:=0
def tw9207958552019673355:=0
def tw6316545018623135983:=0
def tw18425730549456991985:=0
def tw4443827298696716310:=0
def tw5078552417343302879:=0
def tw6872019392872905633:=0
def tw8956143061765442017:=0
def tw8638893745361768431:=0
def tw4993939625097609908:=0
def tw8416696500718266847:=0
def tw12657249619842766932:=0
def tw15914595598079567393:=0
def tw10956851974531297157:=0
def tw2944384582527881252:=0
def tw15985690186587189969:=0
def tw1184026236649991772:=0
def tw1708707349029023980:=0
def tw10533063719480373353:=0
def tw9651485435964763547:=0
def tw14119575911293612454:=0
def tw14538469837112698469:=0
def tw8490805390686420562:=0
def tw3746352676085606476:=0
def tw6026258646997222970:=0
def tw1237517172193428978:=0
def tw14758110570967190010:=0
def tw8420085107576885877:=0
def tw17995675068715250342:=0
def tw10978914099229131472:=0
def tw2301178898787841285:=0
def tw655652942646605612:=0
def tw10110094435897973143:=0
def tw7060496524845910639:=0
def tw5103284390515779479:=0
def tw15996134019469555262:=0
def tw1616830005091146489:=0
def tw17788014945395321975:=0
def tw23857972755831173:=0
def tw10130897961735326404:=0
def tw16794598514456273050:=0
def tw2308267416678211306:=0
def tw16266940224909305508:=0
def tw1407566592238495570:=0
def tw17178339752533310688:=0
def tw13322425220417595595:=0
def tw13942689822436140329:=0
def tw14022832949912240059:=0
def tw3369815829995967252:=0
def tw1593875331605160601:=0
def tw3938591808031924622:=0
def tw5581645446828120915:=0
def tw8303938187262645133:=0
def tw6901082665012032069:=0
def tw7011653009630564971:=0
def tw11016633967951562281:=0
def tw338912821279533533:=0
def tw12824178877512080773:=0
def tw14709550501145669180:=0
def tw3321173918700654047:=0
def tw15950747779678271773:=0
def tw14993095304778997784:=0
def tw11973396215587649700:=0
def tw18221378769629790080:=0
def tw14563210252998144357:=0
def tw2563611902150435340:=0
def tw18246297253687131141:=0
def tw14022552130018968751:=0
def tw10383067350557713838:=0
def tw9685879729392472791:=0
def tw10453459081143107518:=0
def tw17213537732520688580:=0
def tw12914057500202935286:=0
def tw16110412032096363796:=0
def tw6153140511643157155:=0
def tw343980853304222361:=0
def tw9163936904362713567:=0
def tw15104075908177433185:=0
def tw10874530004526417675:=0
def tw4841586783835715232:=0
def tw500466752864170080:=0
def tw405367441426421132:=0
def tw12592679758472079341:=0
def tw13140171973701411686:=0
def tw6785775866382547808:=0
def tw9363847261629450492:=0
def tw15148922401130414194:=0
def tw12972969931860503136:=0
def tw1324175606759983262:=0
def tw5202232886879567495:=0
def tw15884845676314094083:=0
def tw8756069247105853058:=0
def tw14230309643243691153:=0
def tw186756894048410292:=0
def tw15296518963985782596:=0
def tw4584935460942811525:=0
def tw6071589841586887158:=0
def tw18346614028294739588:=0
def tw11215220327097095441:=0
def tw17825022059121746011:=0
def tw3916200841788753479:=0
def tw11174811175546488380:=0
def tw3883227108925936729:=0
def tw7659944824988080355:=0
def tw5832684830359544071:=0
def tw17423571145704721932:=0
def tw16752068391377835801:=0
def tw4505927024186011855:=0
def tw12742911044211421406:=0
def tw9949252562966700959:=0
def tw16570871579997804552:=0
def tw2691115438125730816:=0
def tw4685457056863077062:=0
def tw8874367403653708225:=0
def tw7773078806834351879:=0
def tw5979108463863110831:=0
def tw5636557848143846047:=0
def tw13073813160111259777:=0
def tw15018256387592873592:=0
def tw1268883734509569341:=0
def tw1031511247903178064:=0
def tw2140861679380611641:=0
def tw18356479748355241652:=0
def tw18115213220665594055:=0
def tw9659453266037045362:=0
def tw15539969369197048016:=0
def tw4788488230935754960:=0
def tw3748722115183392738:=0
def tw3945622922464639899:=0
def tw2237667204353021233:=0
def tw6594688530290098733:=0
def tw10834232726635370649:=0
def tw9338675301265631772:=0
def tw13109374437364191457:=0
def tw2958529308044657165:=0
def tw10930246343078559489:=0
def tw9361983106667800442:=0
def tw8572177479719027804:=0
def tw9128191580912582661:=0
def tw7055052411076238395:=0
def tw2993758831887756131:=0
def tw7793341537577670194:=0
def tw11461483694675956954:=0
def tw3895636515212152795:=0
def tw2029903362510097074:=0
def tw7452917696516808793:=0
def tw346286489175586078:=0
def tw448529017824759203:=0
def tw6887147022848772200:=0
def tw16876553910587454286:=0
def tw10827144044509469688:=0
def tw11971979676340274798:=0
def tw8281446584890213398:=0
def tw170425485691027073:=0
def tw4518741311665509408:=0
def tw6452138839037678873:=0
def tw9759810197067283370:=0
def tw18272117367236806195:=0
def tw14232213838618377534:=0
def tw398961146425465907:=0
def tw12194444142624323307:=0
def tw6198332465003277935:=0
def tw5260797972217354951:=0
def tw6584921573166509482:=0
def tw9215752305387093345:=0
def tw1199559218014361188:=0
def tw15889495769727846872:=0
def tw8144488888906799116:=0
def tw6005841591184174041:=0
def tw1913913384042749403:=0
def tw3013241911482511651:=0
def tw17550792943057354441:=0
def tw10285328619242121690:=0
def tw15057464942620832915:=0
def tw8476573636395190529:=0
def tw12752852661649365418:=0
def tw6525197055023768816:=0
def tw6189585485078980196:=0
def tw5883966905616672928:=0
def tw11850364681809966340:=0
def tw3026696412989026200:=0
def tw14835376551097513553:=0
def tw11041500189161176032:=0
def tw12907753188498970671:=0
def tw15907240700268195313:=0
def tw1448566442456530944:=0
def tw10141210275763797765:=0
def tw6299730005670191184:=0
def tw11587643038525877996:=0
def tw897284612559122228:=0
def tw4691726134833185328:=0
def tw7909953004190148027:=0
def tw1581763594356638536:=0
def tw16684044197945531862:=0
def tw5870933916401952688:=0
def tw9809477047164773483:=0
def tw18068817164545231243:=0
def tw4799948727225695809:=0
def tw7993577542681756444:=0
def tw2156136328369682629:=0
def tw15944263523047030829:=0
def tw695653586546779664:=0
def tw9843714544663997442:=0
def tw3364970003281427729:=0
def tw12925870875585609309:=0
def tw7002569650084317549:=0
def tw12487284925040418812:=0
def tw18178724805471734705:=0
def tw14674237892888530941:=0
def tw11191283606971644017:=0
def tw6865440610201479222:=0
def tw5895733943587700086:=0
def tw3787006807448835212:=0
def tw640134748758048763:=0
def tw10288127490505474005:=0
def tw13896054130738593862:=0
def tw135620647556239329:=0
def tw8973424320615104709:=0
def tw5832705483332417801:=0
def tw5438072466779132273:=0
def tw12576225420736378219:=0
def tw12507142679777035423:=0
def tw17342574669348699408:=0
def tw17948211488492653044:=0
def tw12177931073052978271:=0
def tw12341062945668795880:=0
def tw1863852464448426431:=0
def tw14133868838595596152:=0
def tw5053546123939937022:=0
def tw14752573217920614457:=0
def tw1138594045732525540:=0
def tw3477022907731354186:=0
def tw2479141573677849811:=0
def tw11209358781942309102:=0
def tw5245793679780063529:=0
def tw2072352019276870177:=0
def tw5537724174603089979:=0
def tw82112240060925555:=0
def tw6248964369653393208:=0
def tw1606355890041500899:=0
def tw5336885244367837717:=0
def tw13495379427063679262:=0
def tw18381363317602548217:=0
def tw11161127897666333347:=0
def tw2983438415512052601:=0
def tw8340721180508657410:=0
def tw7099135308403840667:=0
def tw3139379554716732211:=0
def tw4514564678895466229:=0
def tw7167307596829686481:=0
def tw14565227947536918147:=0
def tw6863449921632562130:=0
def tw12583271650371311450:=0
def tw11191286096306772435:=0
def tw11609077647306122266:=0
def tw3503863907067993718:=0
def tw647272727517930228:=0
def tw17773270294889673354:=0
def tw9495266367691692303:=0
def tw1209653791174534713:=0
def tw13431983777460030039:=0
def tw9511062226789445368:=0
def tw1300869635525185015:=0
def tw1091006405747132954:=0
def tw12937859059850325131:=0
def tw3639507746382331739:=0
def tw8246545219108102742:=0
def tw10457877522349954272:=0
end PySem.W.Fast
open PySem PySem.W PyProof.Rows
set_option maxRecDepth 100000 in
set_option maxHeartbeats 0 in
theorem PySem.Challenge.cw_mapdye_k55_chains_refused_holds : PySem.Challenge.rw_mapdye_k55_chains_refused.Holds := by
 w_on;o_law;k_head;(case hw=>w_witness2)
 k_fill
 refine uz.walk (l:=PySem.Challenge.rw_mapdye_k55_chains_refused) rfl rfl (λw h Y=>PySem.W.kIn_of Y) ?F
 case F=>
  intro w mg fa h KX G CF
  refine' uz.all_mk KX G CF ?_ ?_ ?_ ?_ ?_ ?_ ?_ ?_ ?_ ?_ ?_ ?_ ?_ ?_ ?_ ?_ ?_ ?_ ?_ ?_ ?_ ?_ ?_ ?_ ?_ ?_ ?_ ?_ ?_ ?_ ?_ ?_ ?_ ?_ ?_ ?_ ?_ ?_ ?_ ?_ ?_ ?_ ?_ ?_ ?_ ?_ ?_ ?_ ?_ ?_ ?_ ?_ ?_ ?_ ?_ ?_ ?_ ?_ ?_ ?_ ?_ ?_ ?_ ?_ ?_ ?_ ?_ ?_ ?_ ?_ ?_ ?_ ?_ ?_ ?_ ?_ ?_ ?_ ?_ ?_ ?_ ?_ ?_ ?_ ?_ ?_ ?_ ?_ ?_ ?_ ?_ ?_ ?_ ?_ ?_ ?_ ?_ ?_ ?_ ?_ ?_ ?_ ?_ ?_ ?_ ?_ ?_ ?_ ?_ ?_ ?_ ?_ ?_ ?_ ?_ ?_ ?_ ?_ ?_ ?_ ?_ ?_ ?_ ?_ ?_ ?_ ?_ ?_ ?_ ?_ ?_ ?_ ?_ ?_ ?_ ?_ ?_ ?_ ?_ ?_ ?_ ?_ ?_ ?_ ?_ ?_ ?_ ?_ ?_ ?_ ?_ ?_ ?_ ?_ ?_ ?_ ?_ ?_ ?_ ?_ ?_ ?_ ?_ ?_ ?_ ?_ ?_ ?_ ?_ ?_ ?_
  all_goals (try (first| (show _=_;k_is) | (refine' L2.dfH ?_ ?_ ?_ ?_<;>(try (show _=_;k_is))) | (refine' L2.mfH ?_ ?_ ?_ ?_ ?_<;>(try (show _=_;k_is))) | (refine' L2.aal ?_ ?_ ?_ ?_ ?_ ?_ ?_<;>first| (show _=_;k_is) |rfl) | (refine' L2.aam ?_ ?_ ?_ ?_<;>first| (show _=_;k_is) |rfl) |rfl))


